import PyProof.Rows.All
import Wide.All
import OpenK.AllK
import Wide.FinOn
import Lean
import PyProof.EqAt
import PyProof.EqKinds
import PyProof.TupleCall
import PySem.Challenge.RW_turnsigns_k63_steps_up
set_option Elab.async false
set_option linter.all false
set_option maxRecDepth 100000
set_option maxHeartbeats 0
abbrev Qq:=@PySem.wpAny_bind
abbrev Qz:=PySem.W.Frag
abbrev Qj:=@Option.bind_some
abbrev Qx:=@PySem.Heap.get?_push_of_some
abbrev Qk:=@PySem.wpAny_pure
abbrev Qv:=@List.length_map
abbrev Qw:=@Bool.and_eq_true
abbrev Qy:=@Nat.le_refl
abbrev Qu:=@List.map_cons
abbrev Qp:=@PySem.Heap.lt_size
abbrev Qb:=@List.all_eq_true
abbrev Qg:=@PySem.Heap.get?_push_size
abbrev Qh:=@List.getElem?_eq_some_iff
abbrev Qm:=@List.size_toArray
abbrev Qn:=@if_pos
abbrev Qc:=@List.getElem?_set_ne
abbrev Ql:=@if_neg
abbrev Qd:=@Nat.lt_of_lt_of_le
abbrev Qr:=@List.mem_cons
abbrev Qs:=@List.length_append
abbrev Qi:=@Nat.ne_of_lt
abbrev Qt:=@PySem.wpAny_mono
abbrev Qa:=@List.getElem?_map
abbrev Qe:=@List.map_map
abbrev Qo:=@List.mem_append_right
abbrev Zq:=@Bool.false_eq_true
abbrev Zz:=@decide_eq_true_eq
abbrev Zj:=@List.mem_map
abbrev Zx:=@List.mem_cons_of_mem
abbrev Zk:=@PySem.mem_of_lookup
abbrev Zv:=@List.getElem?_eq_getElem
abbrev Zw:=@List.map_congr_left
abbrev Zy:=@if_true
abbrev Zu:=@PyProof.Rows.slot_tuple_getitem
abbrev Zp:=@Nat.le_trans
abbrev Zb:=@decide_eq_false
abbrev Zg:=@List.mem_cons_self
abbrev Zf:=@PySem.W.mg_none_of
abbrev Zh:=@List.length_set
abbrev Zm:=@PySem.W.kia_one
abbrev Zn:=@Ne.symm
abbrev Zc:=@congrArg
abbrev Zl:=@List.mem_range
abbrev Zd:=@PySem.wpAny_newObj_type
abbrev Zr:=@PySem.Heap.size_push
abbrev Zs:=@List.replicate_succ
abbrev Zi:=@List.not_mem_nil
abbrev Zt:=@Option.some.injEq
abbrev Za:=@List.getElem?_set_self
abbrev Ze:=@PySem.wpAny_field
abbrev Zo:=@List.map_append
abbrev Yq:=@Option.isSome_iff_exists
abbrev Yz:=@List.length_replicate
abbrev Yj:=@if_false
abbrev Yx:=@Bool.false_ne_true
abbrev Yk:=@List.length_take
abbrev Yv:=@Option.some.inj
abbrev Yw:=@PySem.wpAny_callSpecial?_slot
abbrev Yy:=@List.length_cons
abbrev Yu:=@Bool.true_and
abbrev Yp:=@PySem.wpAny_truthy_bool
abbrev Yb:=@List.append_assoc
abbrev Yg:=@List.length_zipWith
abbrev Yh:=@List.append_nil
abbrev Ym:=@PySem.W.kia_tup
abbrev Yn:=@PySem.wpAny_holding
abbrev Yc:=@PySem.W.Fast.te14364793385576792824
abbrev Yl:=@List.mem_of_getElem?
abbrev Yd:=@Int.toNat_natCast
abbrev Yr:=@beq_eq_false_iff_ne
abbrev Ys:=@List.getElem?_range
abbrev Yi:=@PySem.SeqAt.canLay_of_shaped
abbrev Yt:=@Nat.lt_irrefl
abbrev Ye:=@beq_iff_eq
abbrev Yo:=@PySem.F.slot_tuple_iterator_next
abbrev Jq:=@List.getElem_mem
abbrev Jz:=@List.getElem?_zipWith
abbrev Jj:=@PySem.wpAny_seqItems
abbrev Jx:=@List.getElem?_append_left
abbrev Jk:=@List.nodup_cons
abbrev Jv:=@PySem.wpAny_loadPart'
abbrev Jw:=@List.flatten_cons
abbrev Jy:=@List.flatMap_cons
abbrev Ju:=@List.getElem?_replicate
abbrev Jp:=@List.filter_cons_of_neg
abbrev Jb:=@List.filter_cons_of_pos
abbrev Jg:=@List.filterMap_cons
abbrev Jf:=@PySem.wpAny_call_entry
abbrev Jh:=@List.take_of_length_le
abbrev Jm:=@PySem.W.hideAll_get
abbrev Jn:=@PyProof.Rows.callWith_type1
abbrev Jc:=@PySem.wpAny_Call_Name_kw
abbrev Jl:=@PySem.wpAny_setField_rec
abbrev Jd:=@congrFun
abbrev Jr:=@PySem.wpAny_standAt
abbrev Js:=@or_false
abbrev Ji:=@PySem.wpAny_pyIter_list
abbrev Jt:=@Nat.le_of_succ_le
abbrev Ja:=@List.drop_eq_getElem_cons
abbrev Je:=@Classical.byContradiction
abbrev Jo:=@Bool.false_and
abbrev Uq:=@Prod.ext
abbrev Uz:=@Nat.le_of_lt
abbrev Uj:=@List.length_drop
abbrev Ux:=@List.all_cons
abbrev Uk:=@List.mem_filter
abbrev Uv:=@List.of_mem_zip
abbrev Uw:=@List.cons.injEq
abbrev Uy:=@PySem.wpAny_ite_false
abbrev Uu:=@Int.emod_nonneg
abbrev Up:=@List.range_succ
abbrev Ub:=@Nat.zero_le
abbrev Ug:=@PySem.W.cellsFrom_some
abbrev Uf:=@PySem.wpAny_typeOf
abbrev Uh:=@PySem.F.slot_zip_next
abbrev Um:=@List.set_append_right
abbrev Uc:=@List.length_filter_le
abbrev Ul:=@PySem.wpAny_rule
abbrev Ud:=@Array.length_toList
abbrev Ur:=@List.mem_append
abbrev Us:=@PySem.wpAny_execs_nil
abbrev Ui:=@PySem.wpAny_passesOwn
abbrev Ut:=@PySem.pushCells_keeps
abbrev Ua:=@List.nil_append
abbrev Ue:=@Nat.ne_of_gt
abbrev Uo:=@List.map_nil
abbrev Vq:=@Nat.lt_of_le_of_lt
abbrev Vz:=@Nat.lt_trans
abbrev Vj:=@PySem.wpAny_pyIter_tuple
abbrev Vx:=@PySem.wpAny_comprehension_free
abbrev Vk:=@List.contains_cons
abbrev Vv:=@PySem.F.args_tuple_add_2
abbrev Vw:=@Int.emod_lt_of_pos
abbrev Vy:=@List.getElem_range
abbrev Vu:=@PySem.call_meets
abbrev Vp:=@PySem.F.plainAttrs_list
abbrev Vb:=@PySem.F.entry_tuple_add
abbrev Vg:=@PySem.W.kitx_list
abbrev Vf:=@PySem.W.kitx_dict
abbrev Vh:=@Nat.lt_succ_of_lt
abbrev Vm:=@PySem.F.args_tuple_iterator_next_1
abbrev Vn:=@PySem.F.slot_tuple_add
abbrev Vc:=@PySem.F.entry_tuple_iterator_next
abbrev Vl:=@List.range_succ_eq_map
abbrev Vd:=@List.map_id
abbrev Vr:=@PySem.wpAny_onRaise
abbrev Vs:=@List.sum_cons
abbrev Vi:=@List.drop_length
abbrev Vt:=@PySem.F.slot_tuple_mul
abbrev Va:=@Nat.le_add_right
abbrev Ve:=@List.ext_getElem
abbrev Vo:=@List.getElem_map
abbrev Xq:=@PySem.codeAny_mono
abbrev Xz:=@List.find?_cons
abbrev Xj:=@PySem.wpAny_updateSeq_pair
abbrev Xx:=@decide_eq_true
abbrev Xk:=@Array.append_assoc
abbrev Xv:=@PySem.wpAny_Constant_int
abbrev Xw:=@List.mem_filterMap
abbrev Xy:=@PySem.W.kitx_tuple
abbrev Xu:=@List.zip_cons_cons
abbrev Xp:=@List.any_cons
abbrev Xb:=@Bool.false_or
abbrev Xg:=@PySem.wpAny_attempt
abbrev Xf:=@PySem.W.mg_of
abbrev Xh:=@List.reverse_cons
abbrev Xm:=@Bool.not_eq_true'
abbrev Xn:=@List.length_range
abbrev Xc:=@Nat.le_of_eq
abbrev Xl:=@Nat.lt_succ_self
abbrev Xd:=@Nat.min_le_right
abbrev Xr:=@Nat.sub_self
abbrev Xs:=@beq_self_eq_true
abbrev Xi:=@List.length_nil
abbrev Xa:=@Option.map_some
abbrev Xe:=@Bool.or_eq_true
abbrev Xo:=@Nat.min_eq_left
abbrev Tq:=@List.all_append
abbrev OO:=Nat->Nat->Int
abbrev OI:=List (List Int)
abbrev OU:=PySem.Str->Option PySem.Value
abbrev OE:=PySem.Value->PySem.Shared->Prop
abbrev OA:=PySem.Addr->Prop
abbrev OX:=List (PySem.Addr×PySem.Obj)
namespace HG
open PySem PySem.W PySem.Calls PyProof.Rows
noncomputable def hnth {α:Type}(l:List α) (i:Nat) (d:α):α:=@List.rec α (fun _=>Nat->α) (fun _=>d) (fun a _ ih i=>@Nat.rec (fun _=>α) a (fun j _=>ih j) i) l i
def hsN(s:Stmt):Str:=match s with
 |.FunctionDef n ..=>n
 |.ClassDef n ..=>n
 |_=>Str.empty
def hsA(s:Stmt):Arguments:=match s with
 |.FunctionDef _ a ..=>a
 |_=>default
def hsB(s:Stmt):List Stmt:=match s with
 |.FunctionDef _ _ b ..=>b
 |.ClassDef _ _ _ b ..=>b
 |_=>[]
def hsS(s:Stmt):Scope:=match s with
 |.FunctionDef _ _ _ _ _ _ c ..=>c
 |_=>default
def hsP(s:Stmt):Pos:=match s with
 |.FunctionDef _ _ _ _ _ _ _ _ _ p=>p
 |_=>⟨0,0,0,0⟩
def hdep{α:Sort u}(_:α):Bool:=true
def hE(P:Params)(x:Str)(t:Tok)(v:Value):DictEntry:=⟨PyData.keyHash P x,.str x t,v⟩
def hZ:Obj:=⟨.type "tuple",none,.seq ⟨[]⟩ 0,⟨[]⟩⟩
def hU(l:List Value):Obj:=⟨.type "tuple",none,.seq ⟨l⟩ 0,⟨[]⟩⟩
def hN:Obj:=⟨.none,none,.fields ⟨[]⟩,⟨[]⟩⟩
def hC(n:Str)(t t2:Nat)(ln na fl:Int)(a:Addr)(g:Bool)(b:Addr)(v1 v2 v3 v4:Value):Obj:=
 ⟨.type "code",none,.fields ⟨[.str n t,.str n (Nat.add t 1),.str "/claim/cut.py" (Nat.add t 2),.int ln 0,.int na 0,.int 0 0,.int 0 0,.int fl 0,.ref a,.bool g,.int 181 0,.ref b,v1,v2,v3,v4,.int (Int.ofNat t2) 0,.int ln 0,.str "/claim/cut.py" (Nat.add t2 1)]⟩,⟨[]⟩⟩
def hX(s:Stmt)(q:Str)(g:Addr)(cl:List (Str×Addr))(d k dc m:Value)(an:Option Addr)(c ct:Value)(b:Addr):FuncData:=
 ⟨hsN s,q,hsA s,.stmts (hsB s),hsS s,g,cl,d,k,dc,m,an,c,ct,b⟩
def hR(s:Stmt):Obj:=⟨.none,none,.func (hX s (hsN s) 0 [] .none .none .none .none none .none .none 0),⟨[]⟩⟩
def hF(s:Stmt)(m c:Value):Obj:=⟨.type "function",none,.func (hX s (hsN s) 3 [] .none .none .none m none c .none 0),⟨[]⟩⟩
def hD5(s:Stmt)(a t:Nat)(ln na:Int)(m:Value):List Obj:=[hZ,hN,hR s,hC (hsN s) t (Nat.add t 3) ln na 3 a true (Nat.add a 1) .none .none .none (.ref (Nat.add a 2)),hF s m (.ref (Nat.add a 3))]
noncomputable def hvs (l:List Str) (t:Nat):List Value:=@List.rec Str (fun _=>Nat->List Value) (fun _=>[]) (fun x _ ih t=>.str x t::ih (Nat.succ t)) l t
noncomputable def hD7 (s:Stmt) (a t:Nat) (ln na:Int) (m:Value) (l:List Str):List Obj:=[hZ,hN,hU (hvs l (Nat.add t 3)),hZ,hR s,hC (hsN s) t (Nat.add (Nat.add t 3) l.length) ln na 3 a true (Nat.add a 1) .none (.ref (Nat.add a 2)) (.ref (Nat.add a 3)) (.ref (Nat.add a 4)),hF s m (.ref (Nat.add a 5))]
def hCl(P:Params)(s:Stmt)(a t:Nat)(ln:Int)(m:Value):List Obj:=
 [⟨.type "builtin_function_or_method",none,.fields ⟨[.builtin "type.__prepare__",.type "type"]⟩,⟨[]⟩⟩,
  ⟨.type "dict",none,.dict ⟨[hE P "__module__" (Nat.add t 7) m,hE P "__qualname__" (Nat.add t 9) (.str (hsN s) (Nat.add t 8)),hE P "__firstlineno__" (Nat.add t 11) (.int ln (Nat.add t 10)),hE P "__static_attributes__" (Nat.add t 12) (.ref (Nat.add a 6))]⟩ 4,⟨[]⟩⟩,
  hZ,hN,hC (hsN s) (Nat.add t 2) (Nat.add t 5) ln 0 0 (Nat.add a 2) false (Nat.add a 3) .none .none .none .none,
  ⟨.type "frame",none,.plain,⟨[some (.ref (Nat.add a 4)),some (.ref 3),some (.ref (Nat.add a 1)),none,some m,none,some (.ref 0)]⟩⟩,hZ,
  ⟨.type "dict",none,.dict ⟨[hE P "__module__" (Nat.add t 7) m,hE P "__firstlineno__" (Nat.add t 11) (.int ln (Nat.add t 10)),hE P "__static_attributes__" (Nat.add t 12) (.ref (Nat.add a 6)),hE P "__doc__" (Nat.add t 13) .none]⟩ 2,⟨[]⟩⟩,
  ⟨.type "type",none,.cls ⟨hsN s,[.ref 24],[.ref (Nat.add a 8),.ref 24,.type "ValueError",.type "Exception",.type "BaseException",.type "object"],Nat.add a 7,hsN s,true,[],[],false,none,false⟩,⟨[some (.ref (Nat.sub a 1)),none,some (.str (hsN s) t),some (.str (hsN s) (Nat.add t 8)),some (.builtin "ValueError.__new__"),some (.bool true)]⟩⟩,
  ⟨.type "super",none,.fields ⟨[.ref (Nat.add a 8),.ref (Nat.add a 8),.ref (Nat.add a 8)]⟩,⟨[]⟩⟩,
  ⟨.type "builtin_function_or_method",none,.fields ⟨[.builtin "object.__init_subclass__",.ref (Nat.add a 8)]⟩,⟨[]⟩⟩]
noncomputable def hfd (l:List (Nat×List Obj)) (b:Nat):Obj:=@List.rec (Nat×List Obj) (fun _=>Nat->Obj) (fun _=>hZ) (fun x _ ih b=>@Bool.rec (fun _=>Obj) (ih (Nat.sub b x.1)) (hnth x.2 b hZ) (Nat.blt b x.1)) l b
def hL3(l:List (Int×Addr)):List Value:=l.flatMap fun x=>[.int x.1 0,.int 0 0,.ref x.2]
noncomputable def hmk (f:Nat->Obj) (n:Nat) (fuel:Nat):Nat->Nat->BT:=
 @Nat.rec (fun _=>Nat->Nat->BT) (fun _ _=>.nil) (fun _ ih a b=>@Bool.rec (fun _=>BT) .nil (.node (f b) (ih (Nat.mul 2 a) (Nat.add a b)) (ih (Nat.mul 2 a) (Nat.add (Nat.mul 2 a) b))) (Nat.blt b n)) fuel
def hEnv(p:Program)(c:Value)(f:Addr):Env:={scope:=p.main.scope,locals:=mainNs,globals:=mainNs,cells:=[],code:=c,frame:=some f}
def hVw(p:Program)(l:List Nat):Program:={p with main:={p.main with body:=l.map fun i=>p.main.body.getD i (.Pass ⟨0,0,0,0⟩)}}
abbrev hSt(tr:Nat->Params->BT)(k n t:Nat)(w:World)(os:OsState):SharedT:=⟨tr k w.params,n,{},⟨[]⟩,{},t,os⟩
abbrev hCd(p:Program)(ev:Env):Code:=.body (behindTheImports p) ev
def hPre(m0:Nat)(ann:Option Value)(n n0 t0:Nat)(q q0:Pos)(tg:(String->Option Builtin)->Program->World->Nat->Option Value->Nat->Shared->Thread->Option (Shared×Thread))(dn:(String->Option Builtin)->Code->Sem Fin)(tb:String->Option Builtin)(p:Program)(tr:Nat->Params->BT)(ev:Env):Prop:=
 ∀w:World,(fun os=>tg tb p w m0 ann n ⟨boot_heap w.params,⟨[]⟩,boot_drawn,boot_toks,os⟩ (topStub p))=fun os=>some ((hSt tr 0 n0 t0 w os).abs,Thread.mk (dn tb (hCd p ev)) (hCd p ev) q0 [topFrame q])
def hBlk(m0:Nat)(ann:Option Value)(n n0 t0:Nat)(q q0 q1:Pos)(sr:(String->Option Builtin)->Program->World->Nat->Option Value->Nat->Nat->Shared->Thread->Option (Flow×Shared×Code×Pos))(tb:String->Option Builtin)(p:Program)(tr:Nat->Params->BT)(ev:Env):Prop:=
 ∀w:World,(fun os=>sr tb p w m0 ann 1 n (hSt tr 0 n0 t0 w os).abs (blockOf (behindTheImports p) ev (hCd p ev) q0 [topFrame q]))=fun os=>some (.next,(hSt tr 0 n0 t0 w os).abs,hCd p ev,q1)
def hPc(m0:Nat)(ann:Option Value)(n i j k n0 t0 n1 t1:Nat)(q q0 q1:Pos)(sr:(String->Option Builtin)->Program->World->Nat->Option Value->Nat->Nat->SharedT->Thread->Option (Flow×SharedT×Code×Pos))(tb:String->Option Builtin)(p:Program)(tr:Nat->Params->BT)(ev:Env):Prop:=
 ∀w:World,(fun os=>sr tb p w m0 ann 1 n (hSt tr k n0 t0 w os) (piecesOf (((behindTheImports p).drop i).take j) ev (hCd p ev) q0 [topFrame q]))=fun os=>some (.next,hSt tr (Nat.succ k) n1 t1 w os,hCd p ev,q1)
def hFin(m0:Nat)(ann:Option Value)(n k n0 t0:Nat)(q q0:Pos)(sr:(String->Option Builtin)->Program->World->Nat->Option Value->Nat->Shared->Thread->Option Shared)(tb:String->Option Builtin)(p:Program)(tr:Nat->Params->BT)(ev:Env):Prop:=
 ∀w:World,(fun os=>sr tb p w m0 ann n (hSt tr k n0 t0 w os).abs (Thread.mk (doneF .next) (hCd p ev) q0 [topFrame q]))=fun os=>some (hSt tr k n0 t0 w os).abs
variable{m0:Nat}{ann:Option Value}{q q0 q1:Pos}{tb:String->Option Builtin}{p:Program}{tr:Nat->Params->BT}{ev:Env}{n N i j k n0 t0 n1 t1:Nat}{r:Shared}
theorem hgo(h:hPre m0 ann n n0 t0 q q0 topGo denote tb p tr ev)(w:World)(os:OsState)(g:topRun tb p w m0 ann N (hSt tr 0 n0 t0 w os).abs (Thread.mk (denote tb (hCd p ev)) (hCd p ev) q0 [topFrame q])=some r):
  topRun tb p w m0 ann (Nat.add n N) ⟨boot_heap w.params,⟨[]⟩,boot_drawn,boot_toks,os⟩ (topStub p)=some r:=go_top (Jd (h w) os) g
theorem hblkk(h:hBlk m0 ann n n0 t0 q q0 q1 segRun tb p tr ev)(w:World)(os:OsState)(g:topRun tb p w m0 ann N (hSt tr 0 n0 t0 w os).abs (restOf ((behindTheImports p).drop 0) ev (hCd p ev) q1 [topFrame q])=some r):
  topRun tb p w m0 ann (Nat.add n N) (hSt tr 0 n0 t0 w os).abs (Thread.mk (denote tb (hCd p ev)) (hCd p ev) q0 [topFrame q])=some r:=piece_block (Jd (h w) os) g
theorem hpcs(h:hPc m0 ann n i j k n0 t0 n1 t1 q q0 q1 segRunT tb p tr ev)(w:World)(os:OsState)(g:topRun tb p w m0 ann N (hSt tr (Nat.succ k) n1 t1 w os).abs (restOf ((behindTheImports p).drop (Nat.add i j)) ev (hCd p ev) q1 [topFrame q])=some r):
  topRun tb p w m0 ann (Nat.add n N) (hSt tr k n0 t0 w os).abs (restOf ((behindTheImports p).drop i) ev (hCd p ev) q0 [topFrame q])=some r:=by
 have a:=piece_app (segRun_of (Jd (h w) os)) g
 have e:((behindTheImports p).drop i).take j++(behindTheImports p).drop (Nat.add i j)=(behindTheImports p).drop i:=by
  have:=List.take_append_drop j ((behindTheImports p).drop i);rw[List.drop_drop]at this;exact this
 rw[e]at a;exact a
theorem hfin'(e:(behindTheImports p).drop i=[])(h:hFin m0 ann n k n0 t0 q q0 topRun tb p tr ev)(w:World)(os:OsState):
  topRun tb p w m0 ann n (hSt tr k n0 t0 w os).abs (restOf ((behindTheImports p).drop i) ev (hCd p ev) q0 [topFrame q])=some (hSt tr k n0 t0 w os).abs:=by
 rw[e];exact Jd (h w) os
abbrev hSh(H:Params->Heap)(t:Nat)(w:World)(os:OsState):Shared:=⟨H w.params,⟨[]⟩,{},t,os⟩
structure hLk(p v:Program)(H:Params->Heap)(K:Params->Frag)(as ts:List Addr)(t:Nat):Prop where
 l1:∀w:World,(fun os=>staticsOk (PySem.W.Fast.tw5923862056798008813 p.main.body) (boot_heap w.params) (H w.params)&&namesBound p (H w.params)&&gensDone (hSh H t w os)&&laidKept (boot_heap w.params) (H w.params))=fun _=>true
 l2:∀w:World,(fun os=>PySem.W.Fast.tw5160383126252970620 (PySem.W.R.mapR (fun x=>x.name) (PySem.W.Fast.tw3399658132070893891 v)) (PySem.W.Fast.tw5991557255702980513 v) [] (hSh H t w os))=fun _=>expectedOf v
 l3:∀w:World,(H w.params).bltView=bltViewBooted
 l4:∀w:World,(fun os=>PySem.W.Fast.tw10880121769531294198 (H w.params) (PySem.W.Fast.tw821141287760084731 v []) (PySem.W.R.mapR (fun x=>x.name) (PySem.W.Fast.tw3399658132070893891 v)) (PySem.W.R.mapR (fun x=>x.1) (PySem.W.Fast.tw7409074990110511671 v)) (PySem.W.R.mapR (fun x=>x.name) (PySem.W.Fast.tw13664370479719496447 v (PySem.W.Fast.tw821141287760084731 v [])))&&PySem.W.Fast.tw14722251495701143533 (H w.params) (PySem.W.Fast.tw5923862056798008813 p.main.body)&&(H w.params).isNs mainGlobals&&(H w.params).isNs builtinsNs&&PySem.W.Fast.tw10994771534591457954 v (H w.params)&&(xlAt v [] (hSh H t w os)&&recOk [] (hSh H t w os))&&(if true then(hSh H t w os).gens.size==0 else !leftWithCleanup (hSh H t w os).gens))=fun _=>true
 l5:∀w:World,(fun os=>PySem.W.Fast.tw479339242167458305 v (hSh H t w os))=fun _=>true
 l6:∀w:World,(fun os=>PySem.W.Fast.tw16090120013241838585 v (PySem.W.Fast.tw3247288618530077131 v) (hSh H t w os))=fun _=>pinGoodD (PySem.W.Fast.tw3247288618530077131 v)
 l7:∀w:World,(fun os=>PySem.W.Fast.tw2386780881361962483 v (PySem.W.Fast.tw821141287760084731 v []) (hSh H t w os))=fun _=>plainGoodE v (PySem.W.Fast.tw821141287760084731 v [])
 l8:∀w:World,(fun os=>PySem.W.Fast.tw11698064438423848299 v [] (hSh H t w os))=fun _=>plainGoodD v []
 l9:∀w:World,(fun os=>PySem.W.Fast.tw7317090234206586261 v (hSh H t w os))=fun _=>wideGood v
 l10:∀w:World,(fun os=>PySem.W.Fast.tw7369524293546568484 v [] (hSh H t w os))=fun _=>clsGoodW v []
 l11:∀w:World,PySem.W.R.mapR (H w.params).get? as=PySem.W.R.mapR (fun p=>some p.2) (K w.params)
 l12:∀w:World,PySem.W.R.mapR (H w.params).get? ts=PySem.W.R.mapR (fun _=>some (tabObj #[])) ts
theorem hsize(w:World):((boot_heap w.params).isNs mainGlobals&&(Array.mk []:Array GenState).size==0,(boot_heap w.params).objs.size,(boot_heap w.params).nsMap mainGlobals "__annotations__")=(true,11,some (.ref 6)):=by
 rw[PySem.W.Fast.te8920871248978507458,show("__annotations__":Str)=⟨⟨[95,95,97,110,110,111,116,97,116,105,111,110,115,95,95]⟩⟩from PySem.W.Fast.ofString_ofList ['_','_','a','n','n','o','t','a','t','i','o','n','s','_','_']]
 kernel_rfl
theorem hleft{v:Program}{H:Params->Heap}{K:Params->Frag}{as ts:List Addr}{t M:Nat}(e:∀P,as=(K P).map (·.1))(eo:opening p=plainProg p.main.scope.names)(hf:∀s,fenceModules? p s=some s)(hN:Nat.ble 600 N=true)(le:Nat.ble M N=true)
  (run:∀(w:World) (os:OsState),topRun treeTable p w 11 (some (.ref 6)) M ⟨boot_heap w.params,⟨[]⟩,boot_drawn,boot_toks,os⟩ (topStub p)=some (hSh H t w os))(L:hLk p v H K as ts t):
  LeftO p v [] (fun s=>xlAt v [] s&&recOk [] s) (Hook.obs (kmHook K as e ts)) (Hook.val (kmHook K as e ts)) N:=by
 refine LeftO.of_pieces (boot_open eo hN hf) hsize run le fun w=>?_
 have q1:=L.l1 w;have q2:=L.l2 w;have q3:=L.l3 w;have q4:=L.l4 w;have q5:=L.l5 w;have q6:=L.l6 w;have q7:=L.l7 w;have q8:=L.l8 w;have q9:=L.l9 w;have q10:=L.l10 w;have q11:=L.l11 w;have q12:=L.l12 w
 simp only[←PySem.W.Fast.te5923862056798008813,←PySem.W.Fast.te5160383126252970620,←PySem.W.R.mapR_eq,←PySem.W.Fast.te3399658132070893891,←PySem.W.Fast.te5991557255702980513,←PySem.W.Fast.te10880121769531294198,←PySem.W.Fast.te821141287760084731,←PySem.W.Fast.te7409074990110511671,←PySem.W.Fast.te13664370479719496447,←PySem.W.Fast.te14722251495701143533,←PySem.W.Fast.te10994771534591457954,←PySem.W.Fast.te479339242167458305,←PySem.W.Fast.te16090120013241838585,←PySem.W.Fast.te3247288618530077131,←PySem.W.Fast.te2386780881361962483,←PySem.W.Fast.te11698064438423848299,←PySem.W.Fast.te7317090234206586261,←PySem.W.Fast.te7369524293546568484]at q1 q2 q4 q5 q6 q7 q8 q9 q10 q11 q12
 funext os
 unfold openSeen openGood;refine Uq (Jd q1 os) (Uq (Uq (Jd q2 os) (Uq q3 (Uq (Jd q4 os) (Uq (Jd q5 os) (Uq (Jd q6 os) (Uq (Jd q7 os) (Uq (Jd q8 os) (Uq (Jd q9 os) (Jd q10 os))))))))) (Uq q11 q12))
end HG
namespace K63
noncomputable section
open PySem PySem.W PySem.Calls PyProof.Rows HG
def hS(i:Nat):Stmt:=PySem.Challenge.pw_turnsigns_k63_steps_up.main.body.getD i (.Pass ⟨0,0,0,0⟩)
def hm0:Value:=(.str "turnsigns.errors" 187)
def hm1:Value:=(.str "turnsigns.grids" 415)
def hm2:Value:=(.str "turnsigns.tables" 492)
def hm3:Value:=(.str "turnsigns.orders" 532)
def hm4:Value:=(.str "law_turnsigns_k63_steps_up" 592)
def hc0(P:Params):List (Nat×List Obj):=[(15,[boot_o_0 P,boot_o_1 P,boot_o_2 P,hZ,boot_o_4 P,boot_o_5 P,boot_o_6 P,boot_o_7 P,boot_o_8 P,boot_o_9 P,boot_o_10 P,hZ,hZ,hC "<module>" 182 185 1 0 0 11 false 12 .none .none .none .none,⟨(.type "frame"),none,.plain,⟨[(some (.ref 13)),(some (.ref 3)),(some (.ref 3)),none,(some (.str "__main__" 164)),none,(some (.ref 0))]⟩⟩]),(13,[hU [(.type "ValueError")],⟨(.type "builtin_function_or_method"),none,.fields ⟨[(.builtin "type.__prepare__"),(.type "type")]⟩,⟨[]⟩⟩,⟨(.type "dict"),none,.dict ⟨[hE P "__module__" 196 (.str "turnsigns.errors" 187),hE P "__qualname__" 198 (.str "SignError" 197),hE P "__firstlineno__" 200 (.int 2 199),hE P "__static_attributes__" 201 (.ref 22)]⟩ 4,⟨[]⟩⟩,hZ,hN,hC "SignError" 191 194 2 0 0 18 false 19 .none .none .none .none,⟨(.type "frame"),none,.plain,⟨[(some (.ref 20)),(some (.ref 3)),(some (.ref 17)),none,(some (.str "turnsigns.errors" 187)),none,(some (.ref 0))]⟩⟩,hZ,⟨(.type "dict"),none,.dict ⟨[hE P "__module__" 196 (.str "turnsigns.errors" 187),hE P "__firstlineno__" 200 (.int 2 199),hE P "__static_attributes__" 201 (.ref 22),hE P "__weakref__" 203 (.ref 25),hE P "__doc__" 204 .none]⟩ 3,⟨[]⟩⟩,hZ,⟨(.type "getset_descriptor"),none,.fields ⟨[(.str "__weakref__" 202),(.ref 24),(.builtin "ExceptionGroup.__weakref__"),.none]⟩,⟨[]⟩⟩,⟨(.type "super"),none,.fields ⟨[(.ref 24),(.ref 24),(.ref 24)]⟩,⟨[]⟩⟩,⟨(.type "builtin_function_or_method"),none,.fields ⟨[(.builtin "object.__init_subclass__"),(.ref 24)]⟩,⟨[]⟩⟩]),(1,[hU [.ref 24]]),(11,hCl P (hS 2) 29 207 4 hm0),(1,[hU [.ref 24]]),(11,hCl P (hS 3) 41 223 6 hm0),(1,[hU [.ref 24]]),(11,hCl P (hS 4) 53 239 8 hm0),(1,[hU [.ref 24]]),(11,hCl P (hS 5) 65 255 10 hm0)]
def hc1(P:Params):List (Nat×List Obj):=[(1,[hU [.ref 24]]),(11,hCl P (hS 6) 77 271 12 hm0),(1,[hU [.ref 24]]),(11,hCl P (hS 7) 89 287 14 hm0),(1,[hU [.ref 24]]),(11,hCl P (hS 8) 101 303 16 hm0),(1,[hU [.ref 24]]),(11,hCl P (hS 9) 113 319 18 hm0),(1,[hU [.ref 24]]),(11,hCl P (hS 10) 125 335 20 hm0)]
def hc2(P:Params):List (Nat×List Obj):=[(1,[hU [.ref 24]]),(11,hCl P (hS 11) 137 351 22 hm0),(1,[hU [.ref 24]]),(11,hCl P (hS 12) 149 367 24 hm0),(1,[hU [.ref 24]]),(11,hCl P (hS 13) 161 383 26 hm0),(1,[hU [.ref 24]]),(11,hCl P (hS 14) 173 399 28 hm0),(7,hD7 (hS 16) 184 417 31 1 hm1 ["thing"]),(5,hD5 (hS 17) 191 424 33 2 hm1)]
def hc3(P:Params):List (Nat×List Obj):=[(5,hD5 (hS 18) 196 430 37 3 hm1),(7,hD7 (hS 19) 201 436 41 3 hm1 ["thing","least","greatest"]),(5,hD5 (hS 20) 208 445 45 1 hm1),(7,hD7 (hS 21) 213 451 47 1 hm1 ["row","sums","number"]),(5,hD5 (hS 22) 220 460 52 1 hm1),(5,hD5 (hS 23) 225 466 54 1 hm1),(7,hD7 (hS 24) 230 472 56 1 hm1 ["grid"]),(5,hD5 (hS 25) 237 479 58 1 hm1),(7,hD7 (hS 26) 242 485 60 1 hm1 ["grid"]),(7,hD7 (hS 29) 249 496 64 1 hm2 ["line","total","number"])]
def hc4(P:Params):List (Nat×List Obj):=[(5,hD5 (hS 30) 256 505 71 1 hm2),(7,hD7 (hS 31) 261 511 75 1 hm2 ["thing"]),(7,hD7 (hS 32) 268 518 78 1 hm2 ["table"]),(7,hD7 (hS 33) 275 525 80 1 hm2 ["heights"]),(7,hD7 (hS 35) 282 534 83 3 hm3 ["heights","row","column","height","ahead","behind"]),(5,hD5 (hS 36) 289 546 88 1 hm3),(7,hD7 (hS 37) 294 552 91 2 hm3 ["heights","place","row","column","line","lower"]),(7,hD7 (hS 38) 301 564 96 1 hm3 ["table"]),(7,hD7 (hS 39) 308 571 99 2 hm3 ["table","place","heights"]),(5,hD5 (hS 40) 315 580 105 1 hm3)]
def hc5(P:Params):List (Nat×List Obj):=[(5,hD5 (hS 41) 320 586 108 1 hm3),(7,hD7 (hS 43) 325 594 112 2 hm4 ["_law_script","_law_k"]),(7,hD7 (hS 44) 332 602 116 2 hm4 ["_law_script","_law_k","_law_cell"]),(7,hD7 (hS 45) 339 611 121 2 hm4 ["_law_state_here","_law_many","_law_found","_law_mixed"]),(5,hD5 (hS 46) 346 621 130 1 hm4),(5,hD5 (hS 47) 351 627 142 2 hm4),(5,hD5 (hS 48) 356 633 144 2 hm4),(7,hD7 (hS 49) 361 639 157 1 hm4 ["_law_thing"]),(5,hD5 (hS 50) 368 646 159 1 hm4),(5,hD5 (hS 51) 373 652 162 1 hm4)]
def hc6(P:Params):List (Nat×List Obj):=[(7,hD7 (hS 52) 378 658 171 1 hm4 ["_law_state_here","_law_some"]),(7,hD7 (hS 53) 385 666 174 2 hm4 ["_law_state_here","_law_table_here","_law_at","_law_k","_law_row","_law_odd_here","_law_rows_here","_law_one","_law_other","_law_some"]),(5,hD5 (hS 54) 392 682 185 1 hm4),(5,hD5 (hS 55) 397 688 191 1 hm4),(5,hD5 (hS 56) 402 694 199 2 hm4),(5,hD5 (hS 57) 407 700 205 1 hm4),(5,hD5 (hS 58) 412 706 222 2 hm4),(5,hD5 (hS 59) 417 712 227 1 hm4),(5,hD5 (hS 60) 422 718 245 1 hm4)]
def hB(P:Params):Nat->Obj:=hfd (hc0 P++hc1 P++hc2 P++hc3 P++hc4 P++hc5 P++hc6 P)
def b5F(P:Params)(v:Value):List DictEntry:=[hE P "__name__" 165 v,hE P "__doc__" 166 .none,hE P "__package__" 167 .none,hE P "__loader__" 168 (.builtin "__main__.__loader__#opaque"),hE P "__spec__" 169 .none,hE P "__annotations__" 170 (.ref 6),hE P "__builtins__" 171 (.ref 4),hE P "__file__" 173 (.str "/claim/cut.py" 172),hE P "__cached__" 174 .none,hE P "SignError" 206 (.ref 24),hE P "NoTable" 222 (.ref 37),hE P "NoHeights" 238 (.ref 49),hE P "NoNet" 254 (.ref 61),hE P "NoPlace" 270 (.ref 73),hE P "NoTriangle" 286 (.ref 85),hE P "NoRow" 302 (.ref 97)]
def b5G(P:Params)(v:Value):List DictEntry:=[hE P "NoNumber" 318 (.ref 109),hE P "NoTurn" 334 (.ref 121),hE P "NotAlike" 350 (.ref 133),hE P "NoStep" 366 (.ref 145),hE P "NoRows" 382 (.ref 157),hE P "TooMany" 398 (.ref 169),hE P "BadNote" 414 (.ref 181),hE P "is_whole" 423 (.ref 190),hE P "is_row" 429 (.ref 195),hE P "is_grid" 435 (.ref 200),hE P "is_square" 444 (.ref 207),hE P "flipped" 450 (.ref 212),hE P "running_sums" 459 (.ref 219),hE P "rises" 465 (.ref 224),hE P "sums_across" 471 (.ref 229),hE P "sums_down" 478 (.ref 236)]
def b5H(P:Params)(v:Value):List DictEntry:=[hE P "rises_across" 484 (.ref 241),hE P "rises_down" 491 (.ref 248),hE P "GREATEST_SIDE" 495 (.int 6 494),hE P "takes_turns" 504 (.ref 255),hE P "is_table" 510 (.ref 260),hE P "must_be_table" 517 (.ref 267),hE P "summed" 524 (.ref 274),hE P "unsummed" 531 (.ref 281),hE P "can_fall" 545 (.ref 288),hE P "steps_in" 551 (.ref 293),hE P "fallen" 563 (.ref 300),hE P "steps_of" 570 (.ref 307),hE P "stepped" 579 (.ref 314),hE P "lowest_total" 585 (.ref 319),hE P "steps_from_lowest" 591 (.ref 324),hE P "_law_cell_at" 601 (.ref 331)]
def b5I(P:Params)(v:Value):List DictEntry:=[hE P "_law_state" 610 (.ref 338),hE P "_law_take" 620 (.ref 345),hE P "_law_rows" 626 (.ref 350),hE P "_law_held" 632 (.ref 355),hE P "_law_table" 638 (.ref 360),hE P "_law_whole" 645 (.ref 367),hE P "_law_turns" 651 (.ref 372),hE P "_law_is_table" 657 (.ref 377),hE P "_law_odd" 665 (.ref 384),hE P "_law_bent" 681 (.ref 391),hE P "_law_heights" 687 (.ref 396),hE P "_law_from" 693 (.ref 401),hE P "_law_same" 699 (.ref 406),hE P "_law_refused" 705 (.ref 411),hE P "_law_behind" 711 (.ref 416),hE P "_law_right" 717 (.ref 421)]
def b5J(P:Params)(v:Value):List DictEntry:=[hE P "law" 723 (.ref 426)]
def he3(P:Params)(v:Value):List DictEntry:=b5F P v++b5G P v++b5H P v++b5I P v++b5J P v
def ht3(k:Nat):Nat×Nat×Value:=hnth [(9,9,(.str "__main__" 164)),(10,10,(.str "turnsigns.errors" 187)),(11,11,(.str "turnsigns.errors" 187)),(12,12,(.str "turnsigns.errors" 187)),(13,13,(.str "turnsigns.errors" 187)),(14,14,(.str "turnsigns.errors" 187)),(15,15,(.str "turnsigns.errors" 187)),(16,16,(.str "turnsigns.errors" 187)),(17,17,(.str "turnsigns.errors" 187)),(18,18,(.str "turnsigns.errors" 187)),(19,19,(.str "turnsigns.errors" 187)),(20,20,(.str "turnsigns.errors" 187)),(21,21,(.str "turnsigns.errors" 187)),(22,22,(.str "turnsigns.errors" 187)),(29,29,(.str "turnsigns.grids" 415)),(42,42,(.str "turnsigns.orders" 532)),(55,55,(.str "law_turnsigns_k63_steps_up" 592)),(65,65,(.str "law_turnsigns_k63_steps_up" 592))] k (0,0,.none)
def hx3(P:Params)(k:Nat):Obj:=⟨(.type "dict"),none,.dict ⟨(he3 P (ht3 k).2.2).take (ht3 k).1⟩ (ht3 k).2.1,⟨[]⟩⟩
def b5K:List Value:=hL3 [(2,20),(4,33),(6,45),(8,57),(10,69),(12,81),(14,93),(16,105),(18,117),(20,129),(22,141),(24,153),(26,165),(28,177),(31,189),(33,194),(37,199),(41,206),(45,211),(47,218),(52,223),(54,228),(56,235),(58,240),(60,247),(64,254),(71,259),(75,266),(78,273),(80,280),(83,287),(88,292),(91,299),(96,306),(99,313),(105,318),(108,323),(112,330),(116,337),(121,344),(130,349),(142,354),(144,359),(157,366),(159,371),(162,376),(171,383),(174,390),(185,395),(191,400),(199,405),(205,410),(222,415),(227,420),(245,425)]
def b5L(_:Params)(k:Nat):Obj:=⟨.none,none,.fields ⟨b5K.take (hnth [0,3,6,9,12,15,18,21,24,27,30,33,36,39,60,96,135,165] k 0)⟩,⟨[]⟩⟩
def b5M:List Value:=[(.ref 37),(.ref 49),(.ref 61),(.ref 73),(.ref 85),(.ref 97),(.ref 109),(.ref 121),(.ref 133),(.ref 145),(.ref 157),(.ref 169),(.ref 181)]
def b5N(_:Params)(k:Nat):Obj:=⟨(.type "type"),none,.cls ⟨"SignError",[(.type "ValueError")],[(.ref 24),(.type "ValueError"),(.type "Exception"),(.type "BaseException"),(.type "object")],23,"SignError",true,[],b5M.take (hnth [0,0,1,2,3,4,5,6,7,8,9,10,11,12,13,13,13,13] k 0),false,none,false⟩,⟨[(some (.ref 15)),none,(some (.str "SignError" 189)),(some (.str "SignError" 197)),(some (.builtin "ValueError.__new__")),(some (.bool true))]⟩⟩
def hO(P:Params)(k b:Nat):Obj:=match Nat.beq b 3 with|true=>hx3 P k|false=>match Nat.beq b 12 with|true=>b5L P k|false=>match Nat.beq b 24 with|true=>b5N P k|false=>hB P b
def hn(k:Nat):Nat:=hnth [15,28,40,52,64,76,88,100,112,124,136,148,160,172,220,294,373,427] k 0
noncomputable def hT (k:Nat) (P:Params):BT:=hmk (hO P k) (hn k) 12 1 0
def hV:Env:=hEnv PySem.Challenge.pw_turnsigns_k63_steps_up (.ref 13) 14
def hQ:Program:=hVw PySem.Challenge.pw_turnsigns_k63_steps_up [1,2,3,4,5,6,7,8,9,10,11,12,13,14,16,17,18,19,20,21,22,23,24,25,26,28,29,30,31,32,33,35,36,37,38,39,40,41,43,44,45,46,47,48,49,50,51,52,53,54,55,56,57,58,59,60]
def hA:List Nat:=[2,3,15,22,23,24,25,28,35,36,37,40,47,48,49,52,59,60,61,64,71,72,73,76,83,84,85,88,95,96,97,100,107,108,109,112,119,120,121,124,131,132,133,136,143,144,145,148,155,156,157,160,167,168,169,172,179,180,181,184,186,187,189,190,191,194,195,196,199,200,201,203,204,206,207,208,211,212,213,215,216,218,219,220,223,224,225,228,229,230,232,233,235,236,237,240,241,242,244,245,247,248,249,251,252,254,255,256,259,260,261,263,264,266,267,268,270,271,273,274,275,277,278,280,281,282,284,285,287,288,289,292,293,294,296,297,299,300,301,303,304,306,307,308,310,311,313,314,315,318,319,320,323,324,325,327,328,330,331,332,334,335,337,338,339,341,342,344,345,346,349,350,351,354,355,356,359,360,361,363,364,366,367,368,371,372,373,376,377,378,380,381,383,384,385,387,388,390,391,392,395,396,397,400,401,402,405,406,407,410,411,412,415,416,417,420,421,422,425,426]
def hK(P:Params):Frag:=hA.map fun a=>(a,hO P 17 a)
def hH(P:Params):Heap:=absHeap (hT 17 P) 427 {}
theorem htw:(hdep hT&&hdep hH&&hdep hV&&hdep hQ&&hdep hK&&hdep PySem.Challenge.pw_turnsigns_k63_steps_up)=true:=by k_qdec
abbrev hpw:=PySem.Challenge.pw_turnsigns_k63_steps_up
noncomputable abbrev fb:=PySem.W.Fast.tw14364793385576792824
noncomputable abbrev fp:=PySem.W.Fast.tw4188818139603017406
noncomputable abbrev ft:=PySem.W.Fast.tw15449324725661428252
noncomputable abbrev fv:=PySem.W.Fast.tw15222736923740895996
theorem b5O:hPre 11 (some (.ref 6)) 12 15 187 ⟨0,0,0,0⟩ ⟨0,0,0,0⟩ PySem.W.Fast.tw15667345088766844465 PySem.W.Fast.tw11892475500146522536 fb fp ft fv:=fun w=>by kernel_rfl
theorem hpre:hPre 11 (some (.ref 6)) 12 15 187 ⟨0,0,0,0⟩ ⟨0,0,0,0⟩ topGo denote treeTable PySem.Challenge.pw_turnsigns_k63_steps_up hT hV:=by rw[PySem.W.Fast.te15667345088766844465,PySem.W.Fast.te11892475500146522536,Yc,PySem.W.Fast.te4188818139603017406,PySem.W.Fast.te15449324725661428252,PySem.W.Fast.te15222736923740895996];exact b5O
theorem b5P:hBlk 11 (some (.ref 6)) 1 15 187 ⟨0,0,0,0⟩ ⟨0,0,0,0⟩ ⟨0,0,0,0⟩ PySem.W.Fast.tw14374325043358763698 fb fp ft fv:=fun w=>by kernel_rfl
theorem hblk:hBlk 11 (some (.ref 6)) 1 15 187 ⟨0,0,0,0⟩ ⟨0,0,0,0⟩ ⟨0,0,0,0⟩ segRun treeTable PySem.Challenge.pw_turnsigns_k63_steps_up hT hV:=by rw[PySem.W.Fast.te14374325043358763698,Yc,PySem.W.Fast.te4188818139603017406,PySem.W.Fast.te15449324725661428252,PySem.W.Fast.te15222736923740895996];exact b5P
theorem hsl{m0:Nat}{ann:Option Value}{n i j k n0 t0 n1 t1:Nat}{q q0 q1:Pos}(h:hPc m0 ann n i j k n0 t0 n1 t1 q q0 q1 PySem.W.Fast.tw10110043849684766642 fb fp ft fv):hPc m0 ann n i j k n0 t0 n1 t1 q q0 q1 segRunT treeTable PySem.Challenge.pw_turnsigns_k63_steps_up hT hV:=by rw[PySem.W.Fast.te10110043849684766642,Yc,PySem.W.Fast.te4188818139603017406,PySem.W.Fast.te15449324725661428252,PySem.W.Fast.te15222736923740895996];exact h
theorem hp0:hPc 11 (some (.ref 6)) 196 0 2 0 15 187 28 207 ⟨0,0,0,0⟩ ⟨0,0,0,0⟩ ⟨2,0,3,8⟩ segRunT treeTable hpw hT hV:=hsl fun w=>by kernel_rfl
theorem hp1:hPc 11 (some (.ref 6)) 214 2 1 1 28 207 40 223 ⟨0,0,0,0⟩ ⟨2,0,3,8⟩ ⟨4,0,5,8⟩ segRunT treeTable hpw hT hV:=hsl fun w=>by kernel_rfl
theorem hp2:hPc 11 (some (.ref 6)) 214 3 1 2 40 223 52 239 ⟨0,0,0,0⟩ ⟨4,0,5,8⟩ ⟨6,0,7,8⟩ segRunT treeTable hpw hT hV:=hsl fun w=>by kernel_rfl
theorem hp3:hPc 11 (some (.ref 6)) 214 4 1 3 52 239 64 255 ⟨0,0,0,0⟩ ⟨6,0,7,8⟩ ⟨8,0,9,8⟩ segRunT treeTable hpw hT hV:=hsl fun w=>by kernel_rfl
theorem hp4:hPc 11 (some (.ref 6)) 214 5 1 4 64 255 76 271 ⟨0,0,0,0⟩ ⟨8,0,9,8⟩ ⟨10,0,11,8⟩ segRunT treeTable hpw hT hV:=hsl fun w=>by kernel_rfl
theorem hp5:hPc 11 (some (.ref 6)) 214 6 1 5 76 271 88 287 ⟨0,0,0,0⟩ ⟨10,0,11,8⟩ ⟨12,0,13,8⟩ segRunT treeTable hpw hT hV:=hsl fun w=>by kernel_rfl
theorem hp6:hPc 11 (some (.ref 6)) 214 7 1 6 88 287 100 303 ⟨0,0,0,0⟩ ⟨12,0,13,8⟩ ⟨14,0,15,8⟩ segRunT treeTable hpw hT hV:=hsl fun w=>by kernel_rfl
theorem hp7:hPc 11 (some (.ref 6)) 214 8 1 7 100 303 112 319 ⟨0,0,0,0⟩ ⟨14,0,15,8⟩ ⟨16,0,17,8⟩ segRunT treeTable hpw hT hV:=hsl fun w=>by kernel_rfl
theorem hp8:hPc 11 (some (.ref 6)) 214 9 1 8 112 319 124 335 ⟨0,0,0,0⟩ ⟨16,0,17,8⟩ ⟨18,0,19,8⟩ segRunT treeTable hpw hT hV:=hsl fun w=>by kernel_rfl
theorem hp9:hPc 11 (some (.ref 6)) 214 10 1 9 124 335 136 351 ⟨0,0,0,0⟩ ⟨18,0,19,8⟩ ⟨20,0,21,8⟩ segRunT treeTable hpw hT hV:=hsl fun w=>by kernel_rfl
theorem b5Q:hPc 11 (some (.ref 6)) 214 11 1 10 136 351 148 367 ⟨0,0,0,0⟩ ⟨20,0,21,8⟩ ⟨22,0,23,8⟩ segRunT treeTable hpw hT hV:=hsl fun w=>by kernel_rfl
theorem b5R:hPc 11 (some (.ref 6)) 214 12 1 11 148 367 160 383 ⟨0,0,0,0⟩ ⟨22,0,23,8⟩ ⟨24,0,25,8⟩ segRunT treeTable hpw hT hV:=hsl fun w=>by kernel_rfl
theorem b5S:hPc 11 (some (.ref 6)) 214 13 1 12 160 383 172 399 ⟨0,0,0,0⟩ ⟨24,0,25,8⟩ ⟨26,0,27,8⟩ segRunT treeTable hpw hT hV:=hsl fun w=>by kernel_rfl
theorem b5T:hPc 11 (some (.ref 6)) 392 14 8 13 172 399 220 460 ⟨0,0,0,0⟩ ⟨26,0,27,8⟩ ⟨47,0,51,22⟩ segRunT treeTable hpw hT hV:=hsl fun w=>by kernel_rfl
theorem b5U:hPc 11 (some (.ref 6)) 368 22 15 14 220 460 294 552 ⟨0,0,0,0⟩ ⟨47,0,51,22⟩ ⟨88,0,90,97⟩ segRunT treeTable hpw hT hV:=hsl fun w=>by kernel_rfl
theorem b5V:hPc 11 (some (.ref 6)) 382 37 14 15 294 552 373 652 ⟨0,0,0,0⟩ ⟨88,0,90,97⟩ ⟨159,0,161,112⟩ segRunT treeTable hpw hT hV:=hsl fun w=>by kernel_rfl
theorem b5W:hPc 11 (some (.ref 6)) 277 51 10 16 373 652 427 724 ⟨0,0,0,0⟩ ⟨159,0,161,112⟩ ⟨245,0,270,15⟩ segRunT treeTable hpw hT hV:=hsl fun w=>by kernel_rfl
theorem b5X:hFin 11 (some (.ref 6)) 2 17 427 724 ⟨0,0,0,0⟩ ⟨245,0,270,15⟩ PySem.W.Fast.tw14082659384304107361 fb fp ft fv:=fun w=>by kernel_rfl
theorem hfin:hFin 11 (some (.ref 6)) 2 17 427 724 ⟨0,0,0,0⟩ ⟨245,0,270,15⟩ topRun treeTable PySem.Challenge.pw_turnsigns_k63_steps_up hT hV:=by rw[PySem.W.Fast.te14082659384304107361,Yc,PySem.W.Fast.te4188818139603017406,PySem.W.Fast.te15449324725661428252,PySem.W.Fast.te15222736923740895996];exact b5X
theorem hrun(w:World)(os:OsState):topRun treeTable PySem.Challenge.pw_turnsigns_k63_steps_up w 11 (some (.ref 6)) (Nat.add 12 (Nat.add 1 (Nat.add 196 (Nat.add 214 (Nat.add 214 (Nat.add 214 (Nat.add 214 (Nat.add 214 (Nat.add 214 (Nat.add 214 (Nat.add 214 (Nat.add 214 (Nat.add 214 (Nat.add 214 (Nat.add 214 (Nat.add 392 (Nat.add 368 (Nat.add 382 (Nat.add 277 (2)))))))))))))))))))) ⟨boot_heap w.params,⟨[]⟩,boot_drawn,boot_toks,os⟩ (topStub PySem.Challenge.pw_turnsigns_k63_steps_up)=some (SharedT.abs ⟨hT 17 w.params,427,{},⟨[]⟩,{},724,os⟩):=hgo hpre w os (hblkk hblk w os (hpcs hp0 w os (hpcs hp1 w os (hpcs hp2 w os (hpcs hp3 w os (hpcs hp4 w os (hpcs hp5 w os (hpcs hp6 w os (hpcs hp7 w os (hpcs hp8 w os (hpcs hp9 w os (hpcs b5Q w os (hpcs b5R w os (hpcs b5S w os (hpcs b5T w os (hpcs b5U w os (hpcs b5V w os (hpcs b5W w os (hfin' (by kernel_rfl) hfin w os)))))))))))))))))))
theorem b5Y:hLk PySem.W.Fast.tw4188818139603017406 PySem.W.Fast.tw8016394098298905504 PySem.W.Fast.tw7062610589474182569 PySem.W.Fast.tw3545681105298692339 hA [418,423] 724:=⟨fun _=>by kernel_rfl,fun _=>by kernel_rfl,fun _=>by kernel_rfl,fun _=>by kernel_rfl,fun _=>by kernel_rfl,fun _=>by kernel_rfl,fun _=>by kernel_rfl,fun _=>by kernel_rfl,fun _=>by kernel_rfl,fun _=>by kernel_rfl,fun _=>by kernel_rfl,fun _=>by kernel_rfl⟩
theorem hlk:hLk PySem.Challenge.pw_turnsigns_k63_steps_up hQ hH hK hA [418,423] 724:=by rw[PySem.W.Fast.te4188818139603017406,PySem.W.Fast.te8016394098298905504,PySem.W.Fast.te7062610589474182569,PySem.W.Fast.te3545681105298692339];exact b5Y
abbrev hHk:Hook:=kmHook hK hA (fun _=>by kernel_rfl) [418,423]
theorem hlf:LeftO PySem.Challenge.pw_turnsigns_k63_steps_up hQ [] (fun s=>xlAt hQ [] s&&recOk [] s) (Hook.obs hHk) (Hook.val hHk) 8458:=hleft (fun _=>by kernel_rfl) (by kernel_rfl) (fun _=>by kernel_rfl) (by decide) (by decide) hrun hlk
abbrev hDr:DefRec:=⟨"law",hsA (hS 60),hsB (hS 60),hsS (hS 60),hsP (hS 60)⟩
end
end K63
namespace L2
open PySem PySem.Spec PyProof.Rows
variable{A:Around}{C a b dx it:Addr}{E Q:OE}{K:Qz}{M:Model}{N ps:List Str}{P:Program}{base h h':Heap}{body:List Stmt}{c e tg:Expr}{ch fp:List Addr}{d':Drawn}{es:List Expr}{fd:FuncData}{g':Array GenState}{i j k n t':Nat}{mA mg:OU}{op op':CmpOp}{outer:List Env}{p pos pos':Pos}{pins:OX}{qual x:Str}{s s':Shared}{scope:Scope}{u:Value}{us:List Value}{w:World}{α:Type}
abbrev Key:=Sum Int Str
def a3c:Key->Value->Bool
 |.inl k,v=>Value.isInt k v
 |.inr x,v=>Value.isStrOf x v
def b5Z(w:World):Key->Int
 |.inl k=>hashInt k
 |.inr x=>hashStr w x
theorem a2c:∀{k:Key}{v:Value},a3c k v=true->(∃i t,k=Sum.inl i/\v=Value.int i t)∨(∃x t,k=Sum.inr x/\v=Value.str x t)
 |.inl i,v,h=>by
  obtain⟨t,e⟩:=Value.isInt_shape (k:=i) (v:=v) h;exact .inl ⟨i,t,rfl,e⟩
 |.inr x,v,h=>by
  obtain⟨t,e⟩:=Value.isStrOf_shape (x:=x) (v:=v) h;exact .inr ⟨x,t,rfl,e⟩
theorem b6a(i:Int)(t:Tok):a3c (.inl i) (.int i t)=true:=by simp[a3c,Value.isInt]
theorem b6b(x:Str)(t:Tok):a3c (.inr x) (.str x t)=true:=by simp[a3c,Value.isStrOf]
theorem b6c(a b:Int):decide ((Sum.inl a:Key)=Sum.inl b)=(a==b):=by
 by_cases e:a=b
 ·subst e;simp
 ·have h:¬ (Sum.inl a:Key)=Sum.inl b:=fun q=>e (Sum.inl.inj q)
  rw[Zb h];exact(Yr.mpr e).symm
theorem b6d(a b:Str):decide ((Sum.inr a:Key)=Sum.inr b)=decide (a=b):=by
 by_cases e:a=b
 ·subst e;simp
 ·have h:¬ (Sum.inr a:Key)=Sum.inr b:=fun q=>e (Sum.inr.inj q)
  rw[Zb h,Zb e]
theorem b6e(a:Int)(b:Str):decide ((Sum.inl a:Key)=Sum.inr b)=false:=Zb (fun q=>nomatch q)
theorem b6f(a:Str)(b:Int):decide ((Sum.inr a:Key)=Sum.inl b)=false:=Zb (fun q=>nomatch q)
def a1k(prog:Program)(w:World):PySem.KeyKind prog w Key where
 is:=a3c
 hash:=b5Z w
 inj:=fun v a b ha hb=>by
  rcases a2c ha with⟨i,t,rfl,rfl⟩|⟨x,t,rfl,rfl⟩
  ·rcases a2c hb with⟨j,u,rfl,e⟩|⟨y,u,rfl,e⟩
   ·injection e with e1 _;rw[e1]
   ·exact nomatch e
  ·rcases a2c hb with⟨j,u,rfl,e⟩|⟨y,u,rfl,e⟩
   ·exact nomatch e
   ·injection e with e1 _;rw[e1]
 byValue:=fun k v h=>by
  rcases a2c h with⟨i,t,rfl,rfl⟩|⟨x,t,rfl,rfl⟩<;>rfl
 pyHash:=fun hv h=>by
  rcases a2c hv with⟨i,t,rfl,rfl⟩|⟨x,t,rfl,rfl⟩
  ·exact wpAny_pyHash_int h
  ·exact wpAny_pyHash_str h
 eqBool:=fun hu hv h=>by
  rcases a2c hu with⟨i,t,rfl,rfl⟩|⟨x,t,rfl,rfl⟩
  ·rcases a2c hv with⟨j,u,rfl,rfl⟩|⟨y,u,rfl,rfl⟩
   ·rw[b6c]at h;exact wpAny_eqBool_int h
   ·rw[b6e]at h;exact SeqAt.EqAt.int_str i t y u _ _ _ _ h
  ·rcases a2c hv with⟨j,u,rfl,rfl⟩|⟨y,u,rfl,rfl⟩
   ·rw[b6f]at h;exact SeqAt.EqAt.str_int x t j u _ _ _ _ h
   ·rw[b6d]at h;exact wpAny_eqBool_str h
 «strs»:=fun k x t v h=>by
  rcases a2c h with⟨i,u,rfl,e⟩|⟨y,u,rfl,e⟩
  ·exact nomatch e
  ·injection e with e1 _
   subst e1;cases v<;>rfl
theorem b6g(prog:Program)(w:World)(i:Int)(t:Tok):(a1k prog w).is (.inl i) (.int i t)=true:=b6a i t
theorem b6h(prog:Program)(w:World)(x:Str)(t:Tok):(a1k prog w).is (.inr x) (.str x t)=true:=b6b x t
inductive V where
 |non|bl (b:Bool)|int (i:Int)|str (x:Str)|byt (b:Array UInt8)|flt (b:UInt64)|ref (a:Addr)|ty (n:String)
 deriving DecidableEq
variable{v y:V}{vs:List V}
def y1_:V->Value->Prop
 |.non,u=>u=Value.none
 |.bl b,u=>u=Value.bool b
 |.int i,u=>∃t,u=Value.int i t
 |.str x,u=>∃t,u=Value.str x t
 |.byt b,u=>∃t,u=Value.bytes b t
 |.flt b,u=>∃t,u=Value.float b t
 |.ref a,u=>u=Value.ref a
 |.ty n,u=>u=Value.type n
abbrev v4_:List V->List Value->Prop:=Paired y1_
theorem v4_.length{xs:List V}(r:v4_ xs us):xs.length=us.length:=Paired.length r
theorem v4_.get:∀{xs:List V}{us:List Value}{i:Nat}{x:V},v4_ xs us->xs[i]? =some x->∃u,us[i]? =some u/\y1_ x u
 |_,_,_,_,.nil,e=>by simp at e
 |_,_,0,_,.cons r _,e=>by simp at e;subst e;exact⟨_,rfl,r⟩
 |_,_,i+1,x,.cons _ t,e=>by
  obtain⟨u,h1,h2⟩:=v4_.get (i:=i) (x:=x) t (by simpa using e)
  exact⟨u,by simpa using h1,h2⟩
theorem v4_.set{x:V}{u:Value}(r:y1_ x u):∀{xs:List V}{us:List Value}(i:Nat),v4_ xs us->v4_ (xs.set i x) (us.set i u)
 |_,_,_,.nil=>.nil
 |_,_,0,.cons _ t=>.cons r t
 |_,_,i+1,.cons q t=>.cons q (v4_.set r i t)
theorem v4_.append:∀{xs ys:List V}{us ws:List Value},v4_ xs us->v4_ ys ws->v4_ (xs++ys) (us++ws)
 |_,_,_,_,.nil,s=>s
 |_,_,_,_,.cons r t,s=>.cons r (v4_.append t s)
theorem v4_.take:∀{xs:List V}{us:List Value}(n:Nat),v4_ xs us->v4_ (xs.take n) (us.take n)
 |_,_,0,_=>.nil
 |_,_,_+1,.nil=>.nil
 |_,_,n+1,.cons r t=>.cons r (v4_.take n t)
theorem v4_.drop:∀{xs:List V}{us:List Value}(n:Nat),v4_ xs us->v4_ (xs.drop n) (us.drop n)
 |_,_,0,r=>r
 |_,_,_+1,.nil=>.nil
 |_,_,n+1,.cons _ t=>v4_.drop n t
def a2d:Option V->Option Value->Prop
 |some v,some u=>y1_ v u
 |none,none=>True
 |_,_=>False
def KV{κ:Type}:List (κ×V)->List (κ×Value)->Prop:=Paired fun(p:κ×V) (q:κ×Value)=>p.1=q.1/\y1_ p.2 q.2
def kV:Key->V
 |.inl i=>.int i
 |.inr x=>.str x
inductive HO where
 |lst (xs:List V)
 |tup (xs:List V)
 |dK (kvs:List (Key×V))|dT (C:Addr->List Key->Prop) (kvs:List (List Key×V))
 |set (S:Int->Bool) (n:Nat)
 |ins (C dx:Addr) (fs:List (Str×V))
 |own (x:Addr)
 |xd (fs:List (Str×V))
 |met (f x:Addr)
 |rng (lo hi:Int)
 |frz (o:Obj) (u:HO)
 |tbl (ps:Array Value)
 |ext (φ:Heap->Prop)
variable{o:HO}
abbrev Hp:=Addr->Option HO
variable{H H':Hp}{R:V->V->Hp->Prop}
def upd(H:Hp)(a:Addr)(o:HO):Hp:=fun b=>if b=a then some o else H b
theorem y8_:upd H a o a=some o:=by unfold upd;rw[Qn rfl]
theorem q7_(h:b≠a):upd H a o b=H b:=by unfold upd;rw[Ql h]
theorem a4C{u:HO}:upd (upd H a o) a u=upd H a u:=by
 funext b;unfold upd;split<;>rfl
theorem b6i{u:HO}(h:H a=some o)(h':H b=some u)(d:o≠u):a≠b:=by
 intro e;subst e;rw[h]at h';exact d (Yv h')
theorem a0l(h:H a=some o)(h':H b=none):a≠b:=by
 intro e;subst e;rw[h]at h';cases h'
def a0Y(h:Heap)(a:Addr)(items:Array Value):Prop:=∃o,h.get? a=some o/\o.cls=.type "tuple"/\o.dict=none/\∃n,o.data=.seq items n
theorem a0Y.tup{items:Array Value}:a0Y h a items->IsTup h a items:=fun⟨o,e,c,_,d⟩=>⟨o,e,c,d⟩
theorem a0Y.lt{items:Array Value}(p:a0Y h a items):a<h.objs.size:=p.tup.lt
theorem a0Y.new(h:Heap)(items:Array Value):a0Y (h.push {cls:=.type "tuple",data:=.seq items}) h.objs.size items:=⟨_,Qg _ rfl,rfl,rfl,_,rfl⟩
section
variable(P:Program)(w:World)
def w6_(H:Hp)(h:Heap)(a:Addr):HO->Prop
 |.lst xs=>xs.length≤sizeLine/\∃(its:List Value) (n:Nat),v4_ xs its/\h.get? a=some {cls:=.type "list",data:=.seq its.toArray n}
 |.tup xs=>xs.length≤sizeLine/\∃its:List Value,v4_ xs its/\a0Y h a its.toArray
 |.dK kvs=>kvs.length≤sizeLine/\(a==sysModules)=false/\∃vs,KV kvs vs/\h.DictOf (a1k P w) a vs
 |.dT C kvs=>kvs.length≤sizeLine/\(a==sysModules)=false/\∃xs:List (List Key×Addr×Value),
   Paired (fun(p:List Key×V) (q:List Key×Addr×Value)=>p.1=q.1/\(H q.2.1=some (.tup (p.1.map kV))∨C q.2.1 p.1)/\y1_ p.2 q.2.2) kvs xs/\
   ∃o es ep,h.get? a=some o/\o.ExactDict/\o.data=.dict es ep/\es.toList=xs.map (entryOfKey (tupleKind (a1k P w)))/\(xs.map (·.1)).Nodup
 |.set S n=>h.SetOf (intKind P w) a S n
 |.ins C dx fs=>H dx=some (.own a)/\fs.length≤1000/\dx≠a/\h.get? a=some (PySem.W.instObj C dx)/\
   ∃mA,h.Ns1 dx mA/\(∀f,a2d (fs.lookup f) (mA f))/\PySem.Within mA (fs.map (·.1))
 |.own _=>∃o,h.get? a=some o
 |.xd fs=>∃mA,h.Ns1 a mA/\∀f,a2d (fs.lookup f) (mA f)
 |.rng lo hi=>∃t u v,h.get? a=some {cls:=.type "range",data:=.fields #[.int lo t,.int hi u,.int 1 v]}
 |.frz o u=>h.get? a=some o/\w6_ H h a u
 |.tbl ps=>h.get? a=some {cls:=.none,data:=.fields ps}
 |.met f x=>h.get? a=some (PySem.W.methodObj (.ref f) (.ref x))
 |.ext φ=>φ h/\(∃o,h.get? a=some o)/\∀h1 h2:Heap,φ h1->(∀o,h1.get? a=some o->h2.get? a=some o)->φ h2
def HOk(H:Hp)(h:Heap):Prop:=∀a o,H a=some o->w6_ P w H h a o
end
theorem w6_.lt(x:w6_ P w H h a o):a<h.objs.size:=by
 cases o with
 |lst xs=>obtain⟨_,_,_,_,e⟩:=x;exact Qp e
 |tup xs=>obtain⟨_,_,_,p⟩:=x;exact p.lt
 |dK kvs=>obtain⟨_,_,_,_,o,_,_,e,_⟩:=x;exact Qp e
 |dT C kvs=>obtain⟨_,_,_,_,o,_,_,e,_⟩:=x;exact Qp e
 |set S n=>obtain⟨o,_,_,_,e,_⟩:=x;exact Qp e
 |ins C dx fs=>obtain⟨_,_,_,e,_⟩:=x;exact Qp e
 |own y=>obtain⟨_,e⟩:=x;exact Qp e
 |xd fs=>obtain⟨_,⟨_,_,_,e,_⟩,_⟩:=x;exact Qp e
 |rng lo hi=>obtain⟨_,_,_,e⟩:=x;exact Qp e
 |frz ob u=>obtain⟨e,_⟩:=x;exact Qp e
 |tbl ps=>exact Qp (show h.get? a=some _ from x)
 |met f y=>exact Qp (show h.get? a=some _ from x)
 |ext φ=>obtain⟨_,⟨_,e⟩,_⟩:=x;exact Qp e
theorem Paired.mapP{α β:Type}{F G:α->β->Prop}:∀{l₁:List α}{l₂:List β},Paired F l₁ l₂->(∀a b,F a b->G a b)->Paired G l₁ l₂
 |_,_,.nil,_=>.nil
 |_,_,.cons r t,f=>.cons (f _ _ r) (Paired.mapP t f)
theorem w6_.stay(x:w6_ P w H h a o)(k:∀b u,(b=a∨H b=some (.own a))->h.get? b=some u->h'.get? b=some u)
  (ho:∀b,H b=some (.own a)->H' b=some (.own a))(ht:∀b xs,H b=some (.tup xs)->H' b=some (.tup xs)):w6_ P w H' h' a o:=by
 induction o with
 |lst xs=>obtain⟨z,its,n,r,e⟩:=x;exact⟨z,its,n,r,k _ _ (.inl rfl) e⟩
 |tup xs=>obtain⟨z,its,r,ob,e,c⟩:=x;exact⟨z,its,r,ob,k _ _ (.inl rfl) e,c⟩
 |dK kvs=>obtain⟨z,y,vs,r,ob,es,ep,e,c⟩:=x;exact⟨z,y,vs,r,ob,es,ep,k _ _ (.inl rfl) e,c⟩
 |dT C kvs=>
  obtain⟨z,y,xs,r,ob,es,ep,e,c⟩:=x;exact⟨z,y,xs,Paired.mapP r fun p q z=>⟨z.1,z.2.1.imp (ht _ _) id,z.2.2⟩,ob,es,ep,k _ _ (.inl rfl) e,c⟩
 |set S n=>obtain⟨ob,es,ep,t,e,c⟩:=x;exact⟨ob,es,ep,t,k _ _ (.inl rfl) e,c⟩
 |ins C dx fs=>
  obtain⟨d,z,ne,e,mA,⟨od,es,ep,e2,c⟩,r⟩:=x;exact⟨ho _ d,z,ne,k _ _ (.inl rfl) e,mA,⟨od,es,ep,k _ _ (.inr d) e2,c⟩,r⟩
 |own y=>obtain⟨ob,e⟩:=x;exact⟨ob,k _ _ (.inl rfl) e⟩
 |xd fs=>obtain⟨mA,⟨od,es,ep,e,c⟩,r⟩:=x;exact⟨mA,⟨od,es,ep,k _ _ (.inl rfl) e,c⟩,r⟩
 |rng lo hi=>obtain⟨t,u,v,e⟩:=x;exact⟨t,u,v,k _ _ (.inl rfl) e⟩
 |frz ob u ih=>obtain⟨e,q⟩:=x;exact⟨k _ _ (.inl rfl) e,ih q⟩
 |tbl ps=>
  have e:h.get? a=some {cls:=.none,data:=.fields ps}:=x
  show h'.get? a=some {cls:=.none,data:=.fields ps};exact k a _ (.inl rfl) e
 |met f y=>
  have e:h.get? a=some (PySem.W.methodObj (.ref f) (.ref y)):=x
  show h'.get? a=some (PySem.W.methodObj (.ref f) (.ref y));exact k a _ (.inl rfl) e
 |ext φ=>obtain⟨p,⟨o,e⟩,st⟩:=x;exact⟨st _ _ p fun o q=>k _ _ (.inl rfl) q,⟨o,k _ _ (.inl rfl) e⟩,st⟩
theorem HOk.lt(x:HOk P w H h)(e:H a=some o):a<h.objs.size:=(x a o e).lt
theorem HOk.fresh(x:HOk P w H h)(e:h.objs.size≤a):H a=none:=by
 cases q:H a with
 |none=>rfl
 |some u=>exact absurd (Qd (x.lt q) e) (Yt _)
theorem HOk.kept(x:HOk P w H h)(k:∀b u,h.get? b=some u->h'.get? b=some u):HOk P w H h':=fun a o e=>
 (x a o e).stay (fun b u _ q=>k b u q) (fun _ q=>q) fun _ _ q=>q
theorem HOk.laid(x:HOk P w H h)(k:∀b u,h.get? b=some u->h'.get? b=some u)(hp:h.objs.size≤a)(new:w6_ P w (upd H a o) h' a o):HOk P w (upd H a o) h':=fun b u e=>by
 have hn:=x.fresh hp
 by_cases hb:b=a
 ·subst hb;rw[y8_]at e;cases e;exact new
 ·rw[q7_ hb]at e
  exact(x b u e).stay (fun c v _ q=>k c v q) (fun c q=>by rw[q7_ (a0l q hn)];exact q) fun c xs q=>by rw[q7_ (a0l q hn)];exact q
def Rd(H:Hp)(a:Addr)(u:HO):Prop:=H a=some u∨ ∃o,H a=some (.frz o u)
theorem Rd.of{u:HO}(h:H a=some u):Rd H a u:=.inl h
theorem Rd.ok{u:HO}(r:Rd H a u)(x:HOk P w H h):w6_ P w H h a u:=by
 rcases r with r|⟨o,r⟩
 ·exact x a u r
 ·obtain⟨_,q⟩:=x a _ r
  exact q
def Mut:Option HO->Prop
 |some (.lst _)=>True
 |some (.dK _)=>True
 |some (.dT _ _)=>True
 |some (.set _ _)=>True
 |some (.ins _ _ _)=>True
 |some (.ext _)=>True
 |_=>False
section
variable{x e:Addr}{o':HO}
theorem HOk.write(ok:HOk P w H h)(mu:Mut (H x))(he:e=x∨H e=some (.own x))(k:∀b u,b≠e->h.get? b=some u->h'.get? b=some u)(heo:∃u,h'.get? e=some u)
  (new:w6_ P w (upd H x o') h' x o'):HOk P w (upd H x o') h':=fun b u q=>by
 have nown:∀c y,H c=some (.own y)->c≠x:=fun c y r z=>by subst z;rw[r]at mu;exact mu
 have ntup:∀c xs,H c=some (.tup xs)->c≠x:=fun c xs r z=>by subst z;rw[r]at mu;exact mu
 by_cases hb:b=x
 ·subst hb;rw[y8_]at q;cases q;exact new
 ·rw[q7_ hb]at q
  by_cases hbe:b=e
  ·have q':H b=some (.own x):=by
    rcases he with z|z
    ·exact absurd (hbe.trans z) hb
    ·rw[hbe];exact z
   rw[q]at q';cases q';obtain⟨v,hv⟩:=heo;exact⟨v,by rw[hbe];exact hv⟩
  ·refine(ok b u q).stay (fun c v hc r=>k c v ?_ r) (fun c r=>by rw[q7_ (nown c b r)];exact r) fun c xs r=>by rw[q7_ (ntup c xs r)];exact r
   rcases hc with rfl|hc
   ·exact hbe
   ·rintro rfl
    rcases he with z|z
    ·exact nown c b hc z
    ·rw[hc]at z;cases z;exact hb rfl
end
structure Un(fs ex:List Addr)(H H':Hp)(h h':Heap):Prop where
 keep:∀b o,h.get? b=some o->H b=none->b∉fs->b∉ex->h'.get? b=some o
 slot:∀b o,h.get? b=some o->H b=none->b∈fs->b∉ex->∃sl,h'.get? b=some {o with slots:=sl}
 free:∀b o,h.get? b=some o->H b=none->b∉ex->H' b=none
 there:∀b o,h.get? b=some o->b∉ex->∃o',h'.get? b=some o'
 tups:∀b xs,H b=some (.tup xs)->H' b=some (.tup xs)
 frzs:∀b o u,H b=some (.frz o u)->H' b=some (.frz o u)
 tbls:∀b ps,H b=some (.tbl ps)->∃more,H' b=some (.tbl (ps++more))
section
variable{fs fs' ex ex':List Addr}{H1 H2:Hp}{h1 h2:Heap}{x e:Addr}
theorem Un.any(u:Un fs ex H H1 h h1){ob:Obj}(q:h.get? b=some ob)(n:H b=none)(hx:b∉ex):∃sl,h1.get? b=some {ob with slots:=sl}:=by
 by_cases hb:b∈fs
 ·exact u.slot b ob q n hb hx
 ·exact⟨ob.slots,u.keep b ob q n hb hx⟩
theorem Un.trans(a:Un fs ex H H1 h h1)(b:Un fs ex H1 H2 h1 h2):Un fs ex H H2 h h2 where
 keep:=fun c ob q n hc hx=>b.keep c ob (a.keep c ob q n hc hx) (a.free c ob q n hx) hc hx
 slot:=fun c ob q n hc hx=>by
  obtain⟨sl,e1⟩:=a.slot c ob q n hc hx;obtain⟨sl',e2⟩:=b.slot c _ e1 (a.free c ob q n hx) hc hx;exact⟨sl',e2⟩
 free:=fun c ob q n hx=>by
  obtain⟨o',e1⟩:=a.there c ob q hx;exact b.free c o' e1 (a.free c ob q n hx) hx
 there:=fun c ob q hx=>by
  obtain⟨o',e1⟩:=a.there c ob q hx;exact b.there c o' e1 hx
 tups:=fun c xs q=>b.tups c xs (a.tups c xs q)
 frzs:=fun c ob xs q=>b.frzs c ob xs (a.frzs c ob xs q)
 tbls:=fun c ps q=>by
  obtain⟨m1,e1⟩:=a.tbls c ps q;obtain⟨m2,e2⟩:=b.tbls c _ e1;exact⟨m1++m2,by rw[e2,Xk]⟩
theorem Un.kept(k:∀b u,h.get? b=some u->h'.get? b=some u):Un fs ex H H h h':=
 ⟨fun b ob q _ _ _=>k b ob q,fun b ob q _ _ _=>⟨ob.slots,k b ob q⟩,fun _ _ _ n _=>n,fun b ob q _=>⟨ob,k b ob q⟩,fun _ _ q=>q,fun _ _ _ q=>q,fun _ ps q=>⟨#[],by rw[q];simp⟩⟩
theorem Un.refl:Un fs ex H H h h:=Un.kept fun _ _ q=>q
theorem Un.laid(k:∀b u,h.get? b=some u->h'.get? b=some u)(hp:h.objs.size≤a)(hn:H a=none):Un fs ex H (upd H a o) h h' where
 keep:=fun b u q _ _ _=>k b u q
 slot:=fun b u q _ _ _=>⟨u.slots,k b u q⟩
 free:=fun b u q n _=>by rw[q7_ (Qi (Qd (Qp q) hp))];exact n
 there:=fun b u q _=>⟨u,k b u q⟩
 tups:=fun b xs q=>by rw[q7_ (a0l q hn)];exact q
 frzs:=fun b u xs q=>by rw[q7_ (a0l q hn)];exact q
 tbls:=fun b ps q=>⟨#[],by rw[q7_ (a0l q hn),q];simp⟩
theorem Un.write(mu:Mut (H x))(he:e=x∨H e=some (.own x))(k:∀b u,b≠e->h.get? b=some u->h'.get? b=some u)(heo:∃u,h'.get? e=some u):Un fs ex H (upd H x o) h h':=by
 have hx:∀b,H b=none->b≠x:=fun b n z=>by subst z;rw[n]at mu;exact mu
 have hb:∀b,H b=none->b≠e:=fun b n z=>by
  subst z
  rcases he with r|r
  ·exact hx b n r
  ·rw[n]at r;cases r
 have hm:∀b u,H b=some u-> ¬ Mut (some u)->b≠x:=fun b u q nm z=>by subst z;rw[q]at mu;exact nm mu
 refine⟨fun b u q n _ _=>k b u (hb b n) q,fun b u q n _ _=>⟨u.slots,k b u (hb b n) q⟩,fun b u q n _=>by rw[q7_ (hx b n)];exact n,fun b u q _=>?_,
  fun b xs q=>by rw[q7_ (hm b _ q fun z=>z)];exact q,fun b u xs q=>by rw[q7_ (hm b _ q fun z=>z)];exact q,fun b ps q=>⟨#[],by rw[q7_ (hm b _ q fun z=>z),q];simp⟩⟩
 by_cases hbe:b=e
 ·subst hbe;exact heo
 ·exact⟨u,k b u hbe q⟩
theorem Un.mono(u:Un fs ex H H1 h h1)(hs:∀b∈fs,b∈fs')(hx:∀b∈ex,b∈ex'):Un fs' ex' H H1 h h1:=
 ⟨fun b ob q n hb he=>u.keep b ob q n (fun z=>hb (hs b z)) fun z=>he (hx b z),fun _ _ q n _ he=>u.any q n fun z=>he (hx _ z),fun b ob q n he=>u.free b ob q n fun z=>he (hx b z),fun b ob q he=>u.there b ob q fun z=>he (hx b z),u.tups,u.frzs,u.tbls⟩
end
def trk(h:Heap)(H:Hp):List Addr:=(List.range h.objs.size).filter fun a=>(H a).isSome
def a1N(h:Heap)(H:Hp):Heap:=PySem.W.hideAll h (trk h H)
theorem b6j(h:Heap)(H:Hp):(a1N h H).objs.size=h.objs.size:=PySem.W.hideAll_size _ _
theorem b6k{o:Obj}(e:h.get? b=some o)(n:H b=none):(a1N h H).get? b=some o:=
 Jm _ e fun hm=>by
  have q:(H b).isSome=true:=(Uk.mp hm).2
  rw[n]at q;simp at q
theorem b6l{o:Obj}(e:(a1N h H).get? b=some o):h.get? b=some o/\H b=none:=by
 have e':h.get? b=some o:=PySem.W.of_hideAll (trk h H) e
 refine⟨e',?_⟩;cases q:H b with
 |none=>rfl
 |some x=>
  have hm:b∈trk h H:=Uk.mpr ⟨Zl.mpr (Qp e'),by simp[q]⟩
  have z:(a1N h H).get? b=none:=PySem.W.hideAll_none (trk h H) hm
  rw[z]at e;cases e
def b6m(g h:Heap)(L:Addr):OX:=(List.range h.objs.size).filterMap fun a=>if a=L∨(g.get? a).isSome=true then none else(h.get? a).map fun o=>(a,o)
def rest(g h:Heap)(L d:Addr):OX:=(b6m g h L).filter fun p=>decide (p.1≠d)
structure Mod(K:Qz)(mg:OU)(base:Heap):Prop where
 kin:K.In base
 glob:base.Ns mainGlobals mg
 blt:∃mb,base.Ns builtinsNs mb/\∀x:Str,x≠"__name__"->mb x=bootBuiltins x
 nolimit:base.NoLimit
structure Cx where
 prog:Program
 w:World
 K:Qz
 mg:OU
 base:Heap
 A:Around
 N:List Str
 s₀:Shared
 H₀:Hp
 env:Env
 outer:List Env
 stack:List Env
 ex:List Addr
 fn:Str->Bool
 calm:Bool
 pn:OX
 xe:OE
variable{X:Cx}
def frs(l:List Env):List Addr:=l.filterMap (·.frame)
abbrev Cx.fs(X:Cx):List Addr:=frs X.outer
def Vis(sc:Scope)(x:Str):Prop:=sc.names.lookup x=some .local∨sc.names.lookup x=some .cell∨sc.names.lookup x=some .free
def Loc(sc:Scope)(x:Str):Prop:=sc.names.lookup x=some .local∨sc.names.lookup x=some .cell
def b0L(env:Env)(h:Heap)(m:OU)(x:Str)(u:Value):Prop:=
 (env.kindOf x=some .local/\m x=some u)∨((env.kindOf x=some .cell∨env.kindOf x=some .free)/\∃c,env.cells.lookup x=some c/\h.IsCell c (some u))
structure Cx.Ok(X:Cx):Prop where
 mod:Mod X.K X.mg X.base
 kind:X.env.scope.kind=.function
 glob:X.env.globals=mainGlobals
 blt:X.env.builtins=builtinsNs
 above:X.s₀.heap.objs.size≤X.env.locals
 inj:∀x y c,X.env.cells.lookup x=some c->X.env.cells.lookup y=some c->x=y
 has:∀x,(X.env.kindOf x=some .cell∨X.env.kindOf x=some .free)->∃c,X.env.cells.lookup x=some c
 cab:∀x c,X.fn x=true->X.env.cells.lookup x=some c->X.s₀.heap.objs.size≤c
 hd:X.calm=true->X.A.handled=none
 frames:X.A.frames=some X.stack
 stk:X.stack=X.outer∨(X.stack=X.env::X.outer/\X.env.frame=some X.env.locals)
 exf:∀b∈X.ex,b≠X.env.locals/\∀x c,X.env.cells.lookup x=some c->c≠b
 bs:∀b o,X.base.get? b=some o->X.s₀.heap.get? b=some o/\X.H₀ b=none
 bsz:X.base.objs.size≤X.s₀.heap.objs.size
 noex:∀b o,X.base.get? b=some o->b∉X.ex
 exfs:∀b∈X.ex,b∉X.fs
 funs:X.s₀.heap.FunFrames X.base X.outer
 frf:∀b∈X.fs,X.H₀ b=none
structure Inv(X:Cx)(pins:OX)(σ:List (Option V))(H:Hp)(s:Shared):Prop where
 ok:X.Ok
 os:s.os=X.s₀.os
 bare:AllBare s.gens
 base:Un X.fs X.ex X.H₀ H X.s₀.heap s.heap
 loc:∃m,s.heap.Ns X.env.locals m/\∀(i:Nat) (x:Str) (v:V),X.N[i]? =some x->σ[i]? =some (some v)->Vis X.env.scope x->∃u,y1_ v u/\b0L X.env s.heap m x u
 cell:∀x c,X.env.cells.lookup x=some c->∃v,s.heap.IsCell c v
 free:H X.env.locals=none
 freeC:∀x c,X.env.cells.lookup x=some c->H c=none
 pin:∀p∈X.pn++pins,s.heap.get? p.1=some p.2/\H p.1=none/\p.1≠X.env.locals/\p.1∉X.fs/\∀v,p.2.data≠.cell v
 hok:HOk X.prog X.w H s.heap
 len:σ.length=X.N.length
section
variable{σ:List (Option V)}
theorem Cx.Ok.nofr(ok:X.Ok){o:Obj}(e:X.base.get? b=some o):b∉X.fs:=fun hb=>by
 have:=(ok.funs.mem hb).1;rw[e]at this;cases this
theorem Inv.bs(I:Inv X pins σ H s):∀b o,X.base.get? b=some o->s.heap.get? b=some o/\H b=none:=fun b o e=>
 ⟨I.base.keep b o (I.ok.bs b o e).1 (I.ok.bs b o e).2 (I.ok.nofr e) (I.ok.noex b o e),I.base.free b o (I.ok.bs b o e).1 (I.ok.bs b o e).2 (I.ok.noex b o e)⟩
theorem Inv.bk(I:Inv X pins σ H s):∀b o,X.base.get? b=some o->s.heap.get? b=some o:=fun b o e=>(I.bs b o e).1
theorem Inv.mod(I:Inv X pins σ H s):Mod X.K X.mg X.base:=I.ok.mod
theorem Inv.kIn(I:Inv X pins σ H s):X.K.In s.heap:=I.ok.mod.kin.keeps I.bk
theorem Inv.nolimit(I:Inv X pins σ H s):s.heap.NoLimit:=I.ok.mod.nolimit.keeps I.bk
theorem Inv.fr(I:Inv X pins σ H s):∃m,Fr X.base X.env.locals s.heap m:=
 let ⟨m,hn,_⟩:=I.loc
 ⟨m,hn,I.bk,Zp I.ok.bsz I.ok.above⟩
theorem Inv.lt(I:Inv X pins σ H s):X.env.locals<s.heap.objs.size:=let ⟨_,hn,_⟩:=I.loc;hn.lt
theorem Inv.sz(I:Inv X pins σ H s):X.s₀.heap.objs.size≤s.heap.objs.size:=Zp I.ok.above (Uz I.lt)
theorem Inv.nofs(I:Inv X pins σ H s)(h:s.heap.objs.size≤a):a∉X.fs:=fun hb=>by
 obtain⟨_,o,ho,_⟩:=I.ok.funs.mem hb;exact absurd (Qd (Qp ho) (Zp I.sz h)) (Yt _)
theorem Inv.cne(I:Inv X pins σ H s):∀x c,X.env.cells.lookup x=some c->c≠X.env.locals:=fun x c e z=>by
 obtain⟨v,o,ho,hd⟩:=I.cell x c e;obtain⟨m,⟨o',es,ep,ho',hd',_⟩,_⟩:=I.loc;rw[z,ho']at ho;cases ho;rw[hd']at hd;cases hd
theorem Inv.funs(I:Inv X pins σ H s):s.heap.FunFrames X.base X.outer:=by
 have all:∀(l:List Env),(∀b∈frs l,b∈X.fs)->X.s₀.heap.FunFrames X.base l->s.heap.FunFrames X.base l:=by
  intro l
  induction l with
  |nil=>intro _ _;trivial
  |cons env r ih=>
   intro hs hl;obtain⟨hk,⟨L,o,hf,hn,ho,hd⟩,hr⟩:=hl;have hL:L∈X.fs:=hs L (by unfold frs;rw[Jg,hf];exact Zg)
   obtain⟨sl,e⟩:=I.base.slot L o ho (I.ok.frf L hL) hL fun z=>I.ok.exfs L z hL
   exact⟨hk,⟨L,_,hf,hn,e,hd⟩,ih (fun b hb=>hs b (by unfold frs;rw[Jg,hf];exact Zx _ hb)) hr⟩
 exact all X.outer (fun _ hb=>hb) I.ok.funs
theorem Inv.stack(I:Inv X pins σ H s):s.heap.FunFrames X.base X.stack:=by
 rcases I.ok.stk with e|⟨e,hf⟩
 ·rw[e];exact I.funs
 ·rw[e]
  obtain⟨m,hn,_⟩:=I.loc;refine .cons (by rw[I.ok.kind];decide) hf hn ?_ I.funs
  exact Heap.get?_none_of_le (Zp I.ok.bsz I.ok.above)
theorem Inv.stkSub(I:Inv X pins σ H s):∀b∈frs X.stack,b∈X.env.locals::X.fs:=fun b hb=>by
 rcases I.ok.stk with e|⟨e,hf⟩
 ·rw[e]at hb;exact Zx _ hb
 ·rw[e]at hb
  unfold frs at hb;rw[Jg,hf]at hb;exact hb
theorem Inv.stkFree(I:Inv X pins σ H s):∀b∈frs X.stack,H b=none:=fun b hb=>by
 rcases Qr.mp (I.stkSub b hb)with e|hb
 ·rw[e];exact I.free
 ·obtain⟨_,o,ho,_⟩:=I.ok.funs.mem hb
  exact I.base.free b o ho (I.ok.frf b hb) fun z=>I.ok.exfs b z hb
theorem Inv.step(I:Inv X pins σ H s)
  (hch:∀b∈ch,(b∈X.ex∨X.s₀.heap.objs.size≤b)/\b≠X.env.locals/\(∀x c,X.env.cells.lookup x=some c->c≠b)/\∀p∈X.pn++pins,p.1≠b)
  (keep:∀b o,b≠X.env.locals->b∉X.fs->b∉ch->s.heap.get? b=some o->H b=none->h'.get? b=some o)
  (slot:∀b o,b≠X.env.locals->b∈X.fs->b∉ch->s.heap.get? b=some o->H b=none->∃sl,h'.get? b=some {o with slots:=sl})(free:∀b o,b∉ch->s.heap.get? b=some o->H b=none->H' b=none)
  (there:∀b o,b∉ch->s.heap.get? b=some o->∃o',h'.get? b=some o')
  (tups:∀b xs,H b=some (.tup xs)->H' b=some (.tup xs))(frzs:∀b o u,H b=some (.frz o u)->H' b=some (.frz o u))(tbls:∀b ps,H b=some (.tbl ps)->∃more,H' b=some (.tbl (ps++more)))
  (ns:∀m,s.heap.Ns X.env.locals m->h'.Ns X.env.locals m)(hok:HOk X.prog X.w H' h')(hg:AllBare g'):
  Inv X pins σ H' {s with heap:=h',gens:=g',drawn:=d',toks:=t'}:=by
 have neL:∀b o,X.s₀.heap.get? b=some o->b≠X.env.locals:=fun b o e=>Qi (Qd (Qp e) I.ok.above)
 have neC:∀b o,X.s₀.heap.get? b=some o->b∉X.ex->b∉ch:=fun b o e hx hb=>by
  rcases(hch b hb).1 with z|z
  ·exact hx z
  ·exact absurd (Qd (Qp e) z) (Yt _)
 have cellK:∀x c,X.env.cells.lookup x=some c->∀v,s.heap.IsCell c v->h'.IsCell c v:=fun x c e v ⟨o,ho,hd⟩=>by
  have nch:c∉ch:=fun z=>(hch c z).2.2.1 x c e rfl
  by_cases hc:c∈X.fs
  ·obtain⟨sl,q⟩:=slot c o (I.cne x c e) hc nch ho (I.freeC x c e)
   exact⟨_,q,hd⟩
  ·exact⟨o,keep c o (I.cne x c e) hc nch ho (I.freeC x c e),hd⟩
 refine⟨I.ok,I.os,hg,⟨fun b o e n hb hx=>?_,fun b o e n hb hx=>?_,fun b o e n hx=>?_,fun b o e hx=>?_,fun b xs e=>tups b xs (I.base.tups b xs e),fun b o xs e=>frzs b o xs (I.base.frzs b o xs e),fun b ps e=>?_⟩,?_,fun x c e=>?_,?_,fun x c e=>?_,fun p hp=>?_,hok,I.len⟩
 ·exact keep b o (neL b o e) hb (neC b o e hx) (I.base.keep b o e n hb hx) (I.base.free b o e n hx)
 ·obtain⟨sl,e1⟩:=I.base.slot b o e n hb hx
  obtain⟨sl',e2⟩:=slot b _ (neL b o e) hb (neC b o e hx) e1 (I.base.free b o e n hx);exact⟨sl',e2⟩
 ·obtain⟨o',e1⟩:=I.base.there b o e hx
  exact free b o' (neC b o e hx) e1 (I.base.free b o e n hx)
 ·obtain⟨o',e1⟩:=I.base.there b o e hx
  exact there b o' (neC b o e hx) e1
 ·obtain⟨m1,e1⟩:=I.base.tbls b ps e
  obtain⟨m2,e2⟩:=tbls b _ e1;exact⟨m1++m2,by rw[e2,Xk]⟩
 ·obtain⟨m,hn,hl⟩:=I.loc
  refine⟨m,ns m hn,fun i x v e1 e2 e3=>?_⟩
  obtain⟨u,r,l⟩:=hl i x v e1 e2 e3;refine⟨u,r,?_⟩
  rcases l with l|⟨k,c,e,z⟩
  ·exact .inl l
  ·exact .inr ⟨k,c,e,cellK x c e _ z⟩
 ·obtain⟨v,z⟩:=I.cell x c e
  exact⟨v,cellK x c e v z⟩
 ·obtain⟨m,⟨o,_,_,ho,_⟩,_⟩:=I.loc
  exact free _ o (fun z=>(hch _ z).2.1 rfl) ho I.free
 ·obtain⟨v,o,ho,hd⟩:=I.cell x c e
  exact free c o (fun z=>(hch c z).2.2.1 x c e rfl) ho (I.freeC x c e)
 ·obtain⟨e,n,ne,nf,d⟩:=I.pin p hp
  have nch:p.1∉ch:=fun z=>(hch p.1 z).2.2.2 p hp rfl
  exact⟨keep p.1 p.2 ne nf nch e n,free p.1 p.2 nch e n,ne,nf,d⟩
theorem Inv.un(I:Inv X pins σ H s)(u:Un X.fs [] H H' s.heap h')(hok:HOk X.prog X.w H' h'):Inv X pins σ H' {s with heap:=h',toks:=t'}:=by
 obtain⟨m,⟨o,es,ep,ho,r⟩,_⟩:=id I.loc;obtain⟨sl,hL⟩:=u.any ho I.free (by simp)
 exact I.step (g':=s.gens) (d':=s.drawn) (ch:=[]) (fun _ z=>nomatch z) (fun b o _ hb _ e n=>u.keep b o e n hb (by simp)) (fun b o _ hb _ e n=>u.slot b o e n hb (by simp)) (fun b o _ e n=>u.free b o e n (by simp)) (fun b o _ e=>u.there b o e (by simp)) u.tups u.frzs u.tbls (fun m' hm=>by
  obtain⟨o',es',ep',ho',r'⟩:=hm;rw[ho]at ho';cases ho';exact⟨_,es',ep',hL,r'⟩) hok I.bare
theorem Inv.call(I:Inv X pins σ H s)(u:Un (frs X.stack) ch H H' s.heap h')(hok:HOk X.prog X.w H' h')(hg:AllBare g')
  (hch:∀b∈ch,(b∈X.ex∨X.s₀.heap.objs.size≤b)/\b≠X.env.locals/\(∀x c,X.env.cells.lookup x=some c->c≠b)/\∀p∈X.pn++pins,p.1≠b):
  Inv X pins σ H' {s with heap:=h',gens:=g',drawn:=d',toks:=t'}:=by
 obtain⟨m,⟨o,es,ep,ho,r⟩,_⟩:=id I.loc;obtain⟨sl,hL⟩:=u.any ho I.free fun z=>(hch _ z).2.1 rfl
 exact I.step (ch:=ch) hch (fun b o hL hb hc e n=>u.keep b o e n (fun z=>(Qr.mp (I.stkSub b z)).elim hL hb) hc) (fun b o _ _ hc e n=>u.any e n hc) (fun b o hc e n=>u.free b o e n hc) (fun b o hc e=>u.there b o e hc) u.tups u.frzs u.tbls (fun m' hm=>by
  obtain⟨o',es',ep',ho',r'⟩:=hm;rw[ho]at ho';cases ho';exact⟨_,es',ep',hL,r'⟩) hok hg
theorem Inv.turned(I:Inv X pins σ H s)(k:∀b o,b≠it->s.heap.get? b=some o->h'.get? b=some o)(hn:H it=none)(hL:it≠X.env.locals)
  (h1:it∈X.ex∨X.s₀.heap.objs.size≤it)(h2:∀x c,X.env.cells.lookup x=some c->c≠it)(h3:∀p∈X.pn++pins,p.1≠it):Inv X pins σ H {s with heap:=h',toks:=t'}:=by
 have nit:∀b u,H b=some u->b≠it:=fun b u e z=>by rw[z,hn]at e;cases e
 refine I.step (g':=s.gens) (d':=s.drawn) (ch:=[it]) (fun b hb=>?_) (fun b o _ _ hc e _=>k b o (fun z=>hc (by simp[z])) e) (fun b o _ _ hc e _=>⟨o.slots,k b o (fun z=>hc (by simp[z])) e⟩) (fun _ _ _ _ n=>n)
  (fun b o hc e=>⟨o,k b o (fun z=>hc (by simp[z])) e⟩) (fun _ _ e=>e) (fun _ _ _ e=>e) (fun b ps e=>⟨#[],by rw[e];simp⟩) (fun m hm=>?_) (fun b u e=>?_) I.bare
 ·have e:b=it:=by simpa using hb
  subst e;exact⟨h1,hL,h2,h3⟩
 ·obtain⟨o,es,ep,ho,r⟩:=hm
  exact⟨o,es,ep,k _ o (Zn hL) ho,r⟩
 ·refine(I.hok b u e).stay (fun c v hc q=>k c v ?_ q) (fun _ q=>q) fun _ _ q=>q
  rcases hc with z|z
  ·rw[z];exact nit b u e
  ·exact nit c _ z
theorem Inv.tok(I:Inv X pins σ H s)(t:Nat):Inv X pins σ H {s with toks:=t}:=I.un (h':=s.heap) (t':=t) Un.refl I.hok
theorem Inv.kept(I:Inv X pins σ H s)(k:∀b u,s.heap.get? b=some u->h'.get? b=some u):Inv X pins σ H {s with heap:=h',toks:=t'}:=I.un (Un.kept k) (I.hok.kept k)
theorem Inv.laid(I:Inv X pins σ H s)(k:∀b u,s.heap.get? b=some u->h'.get? b=some u)(hp:s.heap.objs.size≤a)(new:w6_ X.prog X.w (upd H a o) h' a o):
  Inv X pins σ (upd H a o) {s with heap:=h',toks:=t'}:=I.un (Un.laid k hp (I.hok.fresh hp)) (I.hok.laid k hp new)
theorem Inv.write{x e:Addr}(I:Inv X pins σ H s)(mu:Mut (H x))(he:e=x∨H e=some (.own x))(k:∀b u,b≠e->s.heap.get? b=some u->h'.get? b=some u)(heo:∃u,h'.get? e=some u)
  (new:w6_ X.prog X.w (upd H x o) h' x o):Inv X pins σ (upd H x o) {s with heap:=h',toks:=t'}:=I.un (Un.write mu he k heo) (I.hok.write mu he k heo new)
theorem Inv.pins_of{pins':OX}(I:Inv X pins σ H s)(h:∀p∈pins',s.heap.get? p.1=some p.2/\H p.1=none/\p.1≠X.env.locals/\p.1∉X.fs/\∀v,p.2.data≠.cell v):Inv X pins' σ H s:=
 ⟨I.ok,I.os,I.bare,I.base,I.loc,I.cell,I.free,I.freeC,fun p hp=>(Ur.mp hp).elim (fun z=>I.pin p (List.mem_append_left _ z)) (h p),I.hok,I.len⟩
theorem a7k(hN:N.Nodup)(a:N[i]? =some x)(b:N[j]? =some x):i=j:=by
 obtain⟨h1,e1⟩:=Qh.mp a;obtain⟨h2,e2⟩:=Qh.mp b;exact(List.getElem_inj hN).mp (e1.trans e2.symm)
theorem b0M{Q:Unit->Shared->Prop}(I:Inv X pins σ H s)(hN:X.N.Nodup)(hi:X.N[i]? =some x)(hx:Loc X.env.scope x)(r:y1_ v u)
  (h:∀s',Inv X pins (σ.set i (some v)) H s'->(∃a,Heap.SameBut a s.heap s'.heap/\(a=X.env.locals∨X.env.cells.lookup x=some a))->Q () s')(hf:X.fn x=true∨X.env.scope.names.lookup x=some .local:=by first|exact .inl rfl|exact .inr rfl|assumption):wpAny M A (storeName X.env x u) Q E s:=by
 obtain⟨m,hn,hl⟩:=id I.loc;have hcls:(X.env.scope.kind==.class||(X.env.scope.kind==.module&&X.env.locals !=X.env.globals))=false:=by rw[I.ok.kind];rfl
 have hiσ:i<σ.length:=by rw[I.len];exact(Qh.mp hi).1
 have cne:=I.cne
 have tracked:∀{a:Addr}{h':Heap},(∃o,s.heap.get? a=some o/\H a=none)->Heap.SameBut a s.heap h'->HOk X.prog X.w H h':=fun{a h'} ha hs b ob e=>by
  obtain⟨_,_,hfree⟩:=ha;refine(I.hok b ob e).stay (fun c w' hc q=>(hs.2 c ?_).trans q) (fun _ q=>q) fun _ _ q=>q
  rintro rfl
  rcases hc with rfl|hc
  ·rw[hfree]at e;cases e
  ·rw[hfree]at hc;cases hc
 rcases hx with hk|hk
 ·refine wpAny_storeName_local hk hn (fun h' hn' hs=>?_) hcls
  obtain⟨oL,_,_,hoL,_⟩:=id hn;refine h _ ⟨I.ok,I.os,I.bare,⟨fun b o e n hb hx=>?_,fun b o e n hb hx=>?_,I.base.free,fun b o e hx=>?_,I.base.tups,I.base.frzs,I.base.tbls⟩,⟨_,hn',fun j y v' e1 e2 e3=>?_⟩,fun y c e=>?_,I.free,I.freeC,fun p hp=>?_,tracked ⟨oL,hoL,I.free⟩ hs,by simpa using I.len⟩ ⟨_,hs,.inl rfl⟩
  ·exact(hs.2 b (Qi (Qd (Qp e) I.ok.above))).trans (I.base.keep b o e n hb hx)
  ·obtain⟨sl,e1⟩:=I.base.slot b o e n hb hx
   exact⟨sl,(hs.2 b (Qi (Qd (Qp e) I.ok.above))).trans e1⟩
  ·obtain⟨o',e1⟩:=I.base.there b o e hx
   exact⟨o',(hs.2 b (Qi (Qd (Qp e) I.ok.above))).trans e1⟩
  ·by_cases hj:j=i
   ·subst hj
    rw[hi]at e1;cases e1;rw[Za hiσ]at e2;cases e2;exact⟨u,r,.inl ⟨hk,by simp⟩⟩
   ·rw[Qc (Zn hj)]at e2
    obtain⟨u',r',q⟩:=hl j y v' e1 e2 e3;refine⟨u',r',?_⟩
    rcases q with⟨k,e⟩|⟨k,c,e,z⟩
    ·refine .inl ⟨k,?_⟩
     have:y≠x:=fun e=>hj (a7k hN e1 (e ▸ hi))
     simp[this,e]
    ·exact .inr ⟨k,c,e,z.sameBut hs (cne y c e)⟩
  ·obtain⟨w',z⟩:=I.cell y c e
   exact⟨w',z.sameBut hs (cne y c e)⟩
  ·obtain⟨e,n,ne,nf,d⟩:=I.pin p hp
   exact⟨(hs.2 p.1 ne).trans e,n,ne,nf,d⟩
 ·have hfn:X.fn x=true:=by
   rcases hf with z|z
   ·exact z
   ·rw[z]at hk;cases hk
  obtain⟨c,hc⟩:=I.ok.has x (.inl hk);obtain⟨w',z⟩:=I.cell x c hc;refine wpAny_storeName_cell I.ok.kind hk hc z (fun h' hc' hs=>?_)
  obtain⟨oc,hoc,hocd⟩:=id z;refine h {s with heap:=h'} ⟨I.ok,I.os,I.bare,⟨fun b o e n hb hx=>?_,fun b o e n hb hx=>?_,I.base.free,fun b o e hx=>?_,I.base.tups,I.base.frzs,I.base.tbls⟩,⟨m,hn.sameBut hs (Zn (cne x c hc)),fun j y v' e1 e2 e3=>?_⟩,fun y c' e=>?_,I.free,I.freeC,fun p hp=>?_,tracked ⟨oc,hoc,I.freeC x c hc⟩ hs,by simpa using I.len⟩ ⟨c,hs,.inr hc⟩
  ·exact(hs.2 b (Qi (Qd (Qp e) (I.ok.cab x c hfn hc)))).trans (I.base.keep b o e n hb hx)
  ·obtain⟨sl,e1⟩:=I.base.slot b o e n hb hx
   exact⟨sl,(hs.2 b (Qi (Qd (Qp e) (I.ok.cab x c hfn hc)))).trans e1⟩
  ·obtain⟨o',e1⟩:=I.base.there b o e hx
   exact⟨o',(hs.2 b (Qi (Qd (Qp e) (I.ok.cab x c hfn hc)))).trans e1⟩
  ·by_cases hj:j=i
   ·subst hj
    rw[hi]at e1;cases e1;rw[Za hiσ]at e2;cases e2;exact⟨u,r,.inr ⟨.inl hk,c,hc,hc'⟩⟩
   ·rw[Qc (Zn hj)]at e2
    obtain⟨u',r',q⟩:=hl j y v' e1 e2 e3;refine⟨u',r',?_⟩
    rcases q with q|⟨k,c',e,z'⟩
    ·exact .inl q
    ·refine .inr ⟨k,c',e,z'.sameBut hs ?_⟩
     rintro rfl;exact hj (a7k hN e1 (I.ok.inj _ _ _ e hc ▸ hi))
  ·by_cases hcc:c'=c
   ·subst hcc;exact⟨_,hc'⟩
   ·obtain⟨w2,z2⟩:=I.cell y c' e
    exact⟨w2,z2.sameBut hs hcc⟩
  ·obtain⟨e,n,ne,nf,d⟩:=I.pin p hp
   refine⟨(hs.2 p.1 ?_).trans e,n,ne,nf,d⟩;intro q;rw[q,hoc]at e;have q':oc=p.2:=Yv e;exact d w' (by rw[←q'];exact hocd)
theorem a3d{Q:Unit->Shared->Prop}(I:Inv X pins σ H s)(hN:X.N.Nodup)(hi:X.N[i]? =some x)(hx:Loc X.env.scope x)(r:y1_ v u)
  (h:∀s',Inv X pins (σ.set i (some v)) H s'->Q () s')(hf:X.fn x=true∨X.env.scope.names.lookup x=some .local:=by first|exact .inl rfl|exact .inr rfl|assumption):wpAny M A (storeName X.env x u) Q E s:=
 b0M I hN hi hx r (fun s' I' _=>h s' I') hf
theorem Inv.call'(I:Inv X pins σ H s)(ho:s'.os=s.os)(u:Un (frs X.stack) ch H H' s.heap s'.heap)(hok:HOk X.prog X.w H' s'.heap)(hg:AllBare s'.gens)
  (hch:∀b∈ch,(b∈X.ex∨X.s₀.heap.objs.size≤b)/\b≠X.env.locals/\(∀x c,X.env.cells.lookup x=some c->c≠b)/\∀p∈X.pn++pins,p.1≠b):Inv X pins σ H' s':=by
 obtain⟨h',g',d',t',o'⟩:=s';have e:o'=s.os:=ho;subst e;exact I.call (g':=g') (t':=t') (d':=d') u hok hg hch
end
abbrev XK:=Value->Option Addr->Hp->Prop
abbrev St:=List (Option V)
variable{σ:St}
abbrev VK:=V->Hp->Prop
abbrev TE:=St->Hp->VK->Prop
variable{ta tb te:TE}
abbrev TT:=St->Hp->(Bool->Hp->Prop)->Prop
abbrev TA:=St->Hp->(List V->Hp->Prop)->Prop
structure Ends where
 nx:St->Hp->Prop
 rt:VK
 bk:St->Hp->Prop:=fun _ _=>False
 ct:St->Hp->Prop:=fun _ _=>False
abbrev TS:=Ends->St->Hp->Prop
def EP(X:Cx)(pins:OX)(σ:St)(Q:VK)(u:Value)(s':Shared):Prop:=∃v H',Inv X pins σ H' s'/\y1_ v u/\Q v H'
def TP(X:Cx)(pins:OX)(σ:St)(Q:Bool->Hp->Prop)(b:Bool)(s':Shared):Prop:=∃H',Inv X pins σ H' s'/\Q b H'
def AP(X:Cx)(pins:OX)(σ:St)(Q:List V->Hp->Prop)(us:List Value)(s':Shared):Prop:=∃vs H',Inv X pins σ H' s'/\v4_ vs us/\Q vs H'
def SP(X:Cx)(pins:OX)(D:Ends)(f:Flow)(s':Shared):Prop:=
 match f with
 |.next=>∃σ' H',Inv X pins σ' H' s'/\D.nx σ' H'
 |.brk=>∃σ' H',Inv X pins σ' H' s'/\D.bk σ' H'
 |.cont=>∃σ' H',Inv X pins σ' H' s'/\D.ct σ' H'
 |.ret u=>∃v σ' H',Inv X pins σ' H' s'/\y1_ v u/\D.rt v H'
def PE(X:Cx)(e:Expr)(t:TE):Prop:=
 ∀(pins:OX) (s:Shared) (σ:St) (H:Hp) (Q:VK),Inv X pins σ H s->t σ H Q->wpAny (model X.prog X.w) X.A (eval e X.env) (EP X pins σ Q) X.xe s
def PT(X:Cx)(e:Expr)(t:TT):Prop:=
 ∀(pins:OX) (s:Shared) (σ:St) (H:Hp) (Q:Bool->Hp->Prop),Inv X pins σ H s->t σ H Q->wpAny (model X.prog X.w) X.A (isTrue e X.env (eval e X.env)) (TP X pins σ Q) X.xe s
def PW(X:Cx)(e:Expr)(t:TT):Prop:=
 ∀(whole:Sem Value) (pins:OX) (s:Shared) (σ:St) (H:Hp) (Q:Bool->Hp->Prop),Inv X pins σ H s->t σ H Q->wpAny (model X.prog X.w) X.A (isTrue e X.env whole) (TP X pins σ Q) X.xe s
theorem PW.pt{t:TT}(h:PW X e t):PT X e t:=h _
def PA(X:Cx)(es:List Expr)(t:TA):Prop:=
 ∀(pos:Pos) (pins:OX) (s:Shared) (σ:St) (H:Hp) (Q:List V->Hp->Prop),Inv X pins σ H s->t σ H Q->wpAny (model X.prog X.w) X.A (spliced (backTo pos (starEach es X.env))) (AP X pins σ Q) X.xe s
def PS(X:Cx)(st:Stmt)(t:TS):Prop:=
 ∀(pins:OX) (s:Shared) (σ:St) (H:Hp) (D:Ends),Inv X pins σ H s->t D σ H->wpAny (model X.prog X.w) X.A (exec st X.env) (SP X pins D) X.xe s
def PSs(X:Cx)(st:List Stmt)(t:TS):Prop:=
 ∀(pins:OX) (s:Shared) (σ:St) (H:Hp) (D:Ends),Inv X pins σ H s->t D σ H->wpAny (model X.prog X.w) X.A (execs st X.env) (SP X pins D) X.xe s
theorem thn{t:Sem α}{Q Q':α->Shared->Prop}(h:wpAny M A t Q E s)(hQ:∀a s,Q a s->Q' a s):wpAny M A t Q' E s:=Qt h hQ fun _ _ x=>x
section
theorem bin{a b:Expr}(ha:PE X a ta)(hb:PE X b tb)(I:Inv X pins σ H s)(h:ta σ H fun x H1=>tb σ H1 fun y H2=>R x y H2)
  {Q:α->Shared->Prop}{f:Value->Value->Sem α}
  (hf:∀v u s2 x y H2,Inv X pins σ H2 s2->y1_ x v->y1_ y u->R x y H2->wpAny (model X.prog X.w) X.A (f v u) Q X.xe s2):
  wpAny (model X.prog X.w) X.A (eval a X.env) (fun v s₁=>wpAny (model X.prog X.w) X.A (eval b X.env) (fun u s₂=>wpAny (model X.prog X.w) X.A (f v u) Q X.xe s₂) X.xe s₁) X.xe s:=by
 refine thn (ha pins s σ H _ I h) fun v s1 ⟨x,H1,I1,r1,q1⟩=>?_
 refine thn (hb pins s1 σ H1 _ I1 q1) fun u s2 ⟨y,H2,I2,r2,q2⟩=>?_
 exact hf v u s2 x y H2 I2 r1 r2 q2
def a0L(i:Nat):TE:=fun σ H Q=>∃v,σ[i]? =some (some v)/\Q v H
def tC(v:V):TE:=fun _ H Q=>Q v H
theorem a7l(hN:X.N[i]? =some x)(hv:Vis X.env.scope x)(hd:(x==("__debug__":Str))=false:=by decide)(hcd:(x==("__classdict__":Str))=false:=by decide):PE X (.Name x pos) (a0L i):=by
 intro pins s σ H Q I h;obtain⟨v,e,h⟩:=h;obtain⟨m,hn,hl⟩:=I.loc;obtain⟨u,r,l⟩:=hl i x v hN e hv;have fin:EP X pins σ Q u s:=⟨v,H,I,r,h⟩
 rcases l with⟨hk,hm⟩|⟨hk,c,hc,hcell⟩
 ·exact wpAny_Name (wpAny_loadName_local I.ok.kind hk hn hm fin) hd
 ·rcases hk with hk|hk
  ·exact wpAny_Name (wpAny_loadName_cell I.ok.kind hk hc hcell fin) hd
  ·exact wpAny_Name (wpAny_loadName_free I.ok.kind hk hc hcell fin hcd) hd
theorem b0N{i j pos}:PE X (.Constant (.int i) j pos) (tC (.int i)):=fun _ _ _ H _ I h=>Xv ⟨.int i,H,I.tok _,⟨_,rfl⟩,h⟩
theorem b6n{b j pos}:PE X (.Constant (.bool b) j pos) (tC (.bl b)):=fun _ _ _ H _ I h=>Constant_bool ⟨.bl b,H,I,rfl,h⟩
theorem b0O{j pos}:PE X (.Constant .none j pos) (tC .non):=fun _ _ _ H _ I h=>Constant_none ⟨.non,H,I,rfl,h⟩
theorem b6o{x j pos}:PE X (.Constant (.str x) j pos) (tC (.str x)):=fun _ _ _ H _ I h=>Calls.Constant_str ⟨.str x,H,I.tok _,⟨_,rfl⟩,h⟩
def Gl(X:Cx)(x:Str):Prop:=X.env.kindOf x=some .globalImplicit
theorem a3K(I:Inv X pins σ H s)(hg:Gl X x)(hm:X.mg x=some u)(h:Q u s)
  (hd:(x==("__debug__":Str))=false:=by decide):wpAny (model X.prog X.w) X.A (eval (.Name x pos) X.env) Q E s:=
 Calls.Name_function_global I.ok.kind hg (Calls.loadGlobal_global (by rw[I.ok.glob];exact I.mod.glob.keeps I.bk) hm h) hd
theorem a3L(I:Inv X pins σ H s)(hg:Gl X x)(hm:X.mg x=none)(hv:bootBuiltins x=some u)(h:Q u s)
  (hn:x≠"__name__":=by decide)(hd:(x==("__debug__":Str))=false:=by decide):wpAny (model X.prog X.w) X.A (eval (.Name x pos) X.env) Q E s:=by
 obtain⟨mb,h1,h2⟩:=I.mod.blt;exact Calls.Name_function_global I.ok.kind hg (Calls.loadGlobal_builtin (by rw[I.ok.glob];exact I.mod.glob.keeps I.bk) hm (by rw[I.ok.blt];exact h1.keeps I.bk) ((h2 x hn).trans hv) h) hd
theorem b0P(hg:Gl X x)(hm:X.mg x=some u)(r:y1_ v u)(hd:(x==("__debug__":Str))=false:=by decide):PE X (.Name x pos) (tC v):=
 fun _ _ _ H _ I h=>a3K I hg hm ⟨v,H,I,r,h⟩ hd
theorem a5L(hg:Gl X x)(hm:X.mg x=none)(hv:bootBuiltins x=some u)(r:y1_ v u)(hn:x≠"__name__":=by decide)(hd:(x==("__debug__":Str))=false:=by decide):PE X (.Name x pos) (tC v):=
 fun _ _ _ H _ I h=>a3L I hg hm hv ⟨v,H,I,r,h⟩ hn hd
variable{a b:Expr}
def PC(X:Cx)(op:CmpOp)(a b:Expr)(t:TE):Prop:=
 ∀(pins:OX) (s:Shared) (σ:St) (H:Hp) (Q:VK),Inv X pins σ H s->t σ H Q->
  wpAny (model X.prog X.w) X.A (eval a X.env) (fun v s₁=>wpAny (model X.prog X.w) X.A (eval b X.env) (fun u s₂=>wpAny (model X.prog X.w) X.A (compareOp op v u) (EP X pins σ Q) X.xe s₂) X.xe s₁) X.xe s
theorem nobehind(b:Expr)(h:op≠.In)(h2:op≠.NotIn):behindInMarks op b=false:=by
 have e1:(op==CmpOp.In)=false:=by cases op<;>first|rfl|exact absurd rfl h
 have e2:(op==CmpOp.NotIn)=false:=by cases op<;>first|rfl|exact absurd rfl h2
 cases b<;>simp[behindInMarks,e1,e2]
def tB(t:TE):TT:=fun σ H Q=>t σ H fun x H1=>∃c,x=.bl c/\Q c H1
theorem c5L{t:TE}(h:PC X op a b t)(h1:behindInMarks op b=false:=by first|exact nobehind _ (by decide) (by decide)|rfl):PT X (.Compare a [op] [b] pos) (tB t):=by
 intro pins s σ H Q I hw;refine wpAny_isTrue_Compare1 (thn (h pins s σ H _ I hw) fun v s1 h1=>thn h1 fun u s2 h2=>thn h2 fun c s3 ⟨x,H1,I1,r1,q1⟩=>?_) h1
 obtain⟨d,rfl,q⟩:=q1;cases r1;exact Yp ⟨H1,I1,q⟩
theorem b6p{t:TE}(h:PE X e t)(he:∀whole,isTrue e X.env whole=(do let v←whole;standAt e.pos;holding [v] (truthy v)):=by intro _;rfl):PT X e (tB t):=by
 intro pins s σ H Q I hw;refine isTrue_plain (thn (h pins s σ H _ I hw) fun v s1 ⟨x,H1,I1,r1,q1⟩=>?_) (he _)
 obtain⟨d,rfl,q⟩:=q1;cases r1;exact Yp ⟨H1,I1,q⟩
variable{tA tB':TT}{rest:List Expr}
def b0Q(t u:TT):TT:=fun σ H Q=>t σ H fun c H1=>if c=true then u σ H1 Q else Q false H1
def tOr(t u:TT):TT:=fun σ H Q=>t σ H fun c H1=>if c=true then Q true H1 else u σ H1 Q
def b6q(t:TT):TT:=fun σ H Q=>t σ H fun c H1=>Q (!c) H1
theorem b6r(ha:PT X a tA):PW X (.BoolOp .And [a] pos) tA:=by
 intro wh pins s σ H Q I h;refine isTrue_and (thn (ha pins s σ H Q I h) fun c s1 e=>?_)
 cases c with
 |true=>exact isTrue_and_nil e
 |false=>exact e
theorem b6s(ha:PT X a tA):PW X (.BoolOp .Or [a] pos) tA:=by
 intro wh pins s σ H Q I h;refine isTrue_or (thn (ha pins s σ H Q I h) fun c s1 e=>?_)
 cases c with
 |false=>exact isTrue_or_nil e
 |true=>exact e
theorem b6t(ha:PT X a tA)(hb:PW X (.BoolOp .And (b::rest) pos) tB'):PW X (.BoolOp .And (a::b::rest) pos) (b0Q tA tB'):=by
 intro wh pins s σ H Q I h;refine isTrue_and (thn (ha pins s σ H _ I h) fun c s1 ⟨H1,I1,q1⟩=>?_)
 cases c with
 |true=>exact hb wh pins s1 σ H1 Q I1 q1
 |false=>exact⟨H1,I1,q1⟩
theorem b6u(ha:PT X a tA)(hb:PW X (.BoolOp .Or (b::rest) pos) tB'):PW X (.BoolOp .Or (a::b::rest) pos) (tOr tA tB'):=by
 intro wh pins s σ H Q I h;refine isTrue_or (thn (ha pins s σ H _ I h) fun c s1 ⟨H1,I1,q1⟩=>?_)
 cases c with
 |true=>exact⟨H1,I1,q1⟩
 |false=>exact hb wh pins s1 σ H1 Q I1 q1
theorem b6v(ha:PT X a tA):PT X (.UnaryOp .Not a pos) (b6q tA):=by
 intro pins s σ H Q I h;exact isTrue_not (ha pins s σ H (fun c H1=>Q (!c) H1) I h)
def b6w(ta tb:TE):TE:=fun σ H Q=>ta σ H fun x H1=>∃c,x=.bl c/\if c=true then tb σ H1 Q else Q (.bl false) H1
def b6x(ta:TE):TE:=fun σ H Q=>ta σ H fun x H1=>∃c,x=.bl c/\Q (.bl (!c)) H1
theorem b6y{op}{t:TE}(h:PE X a t):PE X (.BoolOp op [a] pos) t:=fun pins s σ H Q I hw=>BoolOp_one (h pins s σ H Q I hw)
theorem b6z(ha:PE X a ta)(hb:PE X (.BoolOp .And (b::rest) pos) tb):PE X (.BoolOp .And (a::b::rest) pos) (b6w ta tb):=by
 intro pins s σ H Q I h;refine BoolOp_and (thn (ha pins s σ H _ I h) fun v s1 ⟨x,H1,I1,r1,q1⟩=>?_)
 obtain⟨c,rfl,q1⟩:=q1;cases r1;refine Yp ?_
 cases c with
 |true=>exact hb pins s1 σ H1 Q I1 q1
 |false=>exact⟨.bl false,H1,I1,rfl,q1⟩
theorem b6A(ha:PE X a ta):PE X (.UnaryOp .Not a pos) (b6x ta):=by
 intro pins s σ H Q I h;refine UnaryOp_ (thn (ha pins s σ H _ I h) fun v s1 ⟨x,H1,I1,r1,q1⟩=>?_)
 obtain⟨c,rfl,q1⟩:=q1;cases r1;exact not_of (Yp ⟨.bl (!c),H1,I1,rfl,q1⟩)
def tIf(t:TT)(ta tb:TE):TE:=fun σ H Q=>t σ H fun c H1=>if c=true then ta σ H1 Q else tb σ H1 Q
theorem b6B(hc:PT X c tA)(ha:PE X a ta)(hb:PE X b tb):PE X (.IfExp c a b pos) (tIf tA ta tb):=by
 intro pins s σ H Q I h;refine wpAny_IfExp (thn (hc pins s σ H _ I h) fun d s1 ⟨H1,I1,q1⟩=>?_)
 cases d with
 |true=>exact ha pins s1 σ H1 Q I1 q1
 |false=>exact hb pins s1 σ H1 Q I1 q1
end
def SqL(K:Qz)(H:Hp)(a:Addr)(xs:List V):Prop:=
 Rd H a (.lst xs)∨
  ∃(o:Obj) (its:Array Value) (n:Nat),K.lookup a=some o/\o.cls=.type "list"/\o.dict=none/\o.data=.seq its n/\its.size≤sizeLine/\v4_ xs its.toList
def SqT(K:Qz)(H:Hp)(a:Addr)(xs:List V):Prop:=
 Rd H a (.tup xs)∨
  ∃(o:Obj) (its:Array Value) (n:Nat),K.lookup a=some o/\o.cls=.type "tuple"/\o.dict=none/\o.data=.seq its n/\its.size≤sizeLine/\v4_ xs its.toList
def b6C:Value->Option V
 |.none=>some .non
 |.bool b=>some (.bl b)
 |.int i _=>some (.int i)
 |.str x _=>some (.str x)
 |.bytes b _=>some (.byt b)
 |.float b _=>some (.flt b)
 |.ref a=>some (.ref a)
 |.type n=>some (.ty n)
 |_=>none
theorem y1_.abs{x:V}(r:y1_ x u):b6C u=some x:=by
 cases x with
 |non=>cases r;rfl
 |bl _=>cases r;rfl
 |int _=>obtain⟨t,rfl⟩:=r;rfl
 |str _=>obtain⟨t,rfl⟩:=r;rfl
 |byt _=>obtain⟨t,rfl⟩:=r;rfl
 |flt _=>obtain⟨t,rfl⟩:=r;rfl
 |ref _=>cases r;rfl
 |ty _=>cases r;rfl
theorem y1_.inj{x:V}(r:y1_ x u)(q:y1_ y u):x=y:=Yv (r.abs.symm.trans q.abs)
theorem v4_.inj:∀{xs ys:List V}{us:List Value},v4_ xs us->v4_ ys us->xs=ys
 |_,_,_,.nil,.nil=>rfl
 |_,_,_,.cons r t,.cons r' t'=>by rw[r.inj r',v4_.inj t t']
section
variable{xs ys:List V}
theorem SqL.of(h:H a=some (.lst xs)):SqL K H a xs:=.inl (.inl h)
theorem SqT.of(h:H a=some (.tup xs)):SqT K H a xs:=.inl (.inl h)
theorem Inv.list(I:Inv X pins σ H s)(h:SqL X.K H a xs):∃its:List Value,v4_ xs its/\PlainL s.heap a its.toArray/\xs.length≤sizeLine:=by
 rcases h with h|⟨o,its,n,hk,hc,hd,hs,hz,r⟩
 ·obtain⟨z,its,n,r,e⟩:=h.ok I.hok
  exact⟨its,r,⟨_,n,e,rfl,rfl,rfl⟩,z⟩
 ·refine⟨its.toList,r,⟨o,n,I.kIn a o hk,hc,hd,by simpa using hs⟩,?_⟩
  have e:=r.length
  simp only[Ud]at e
  omega
theorem Inv.tupleD(I:Inv X pins σ H s)(h:SqT X.K H a xs):∃its:List Value,v4_ xs its/\a0Y s.heap a its.toArray/\xs.length≤sizeLine:=by
 rcases h with h|⟨o,its,n,hk,hc,hd,hs,hz,r⟩
 ·obtain⟨z,its,r,p⟩:=h.ok I.hok
  exact⟨its,r,p,z⟩
 ·refine⟨its.toList,r,⟨o,I.kIn a o hk,hc,hd,n,by simpa using hs⟩,?_⟩
  have e:=r.length
  simp only[Ud]at e
  omega
theorem Inv.tuple(I:Inv X pins σ H s)(h:SqT X.K H a xs):∃its:List Value,v4_ xs its/\IsTup s.heap a its.toArray/\xs.length≤sizeLine:=
 let ⟨its,r,p,z⟩:=I.tupleD h
 ⟨its,r,p.tup,z⟩
theorem Inv.list_inj(I:Inv X pins σ H s)(h:SqL X.K H a xs)(h':SqL X.K H a ys):xs=ys:=by
 obtain⟨its,r,⟨o,n,e,_,_,d⟩,_⟩:=I.list h;obtain⟨its',r',⟨o',n',e',_,_,d'⟩,_⟩:=I.list h';rw[e]at e';cases e';rw[d]at d';injection d' with d1 _
 have:its=its':=by simpa using Zc Array.toList d1
 subst this;exact r.inj r'
theorem Inv.tuple_inj(I:Inv X pins σ H s)(h:SqT X.K H a xs)(h':SqT X.K H a ys):xs=ys:=by
 obtain⟨its,r,⟨o,e,_,n,d⟩,_⟩:=I.tuple h;obtain⟨its',r',⟨o',e',_,n',d'⟩,_⟩:=I.tuple h';rw[e]at e';cases e';rw[d]at d';injection d' with d1 _
 have:its=its':=by simpa using Zc Array.toList d1
 subst this;exact r.inj r'
end
abbrev Cx.wish(X:Cx)(E:OE):Cx:={X with xe:=E}
abbrev Cx.nox(X:Cx):Cx:=X.wish fun _ _=>False
theorem Cx.Ok.wish(ok:X.Ok)(E:OE):(X.wish E).Ok:=
 ⟨ok.mod,ok.kind,ok.glob,ok.blt,ok.above,ok.inj,ok.has,ok.cab,ok.hd,ok.frames,ok.stk,ok.exf,ok.bs,ok.bsz,ok.noex,ok.exfs,ok.funs,ok.frf⟩
theorem Cx.Ok.unwish(ok:(X.wish E).Ok):X.Ok:=
 ⟨ok.mod,ok.kind,ok.glob,ok.blt,ok.above,ok.inj,ok.has,ok.cab,ok.hd,ok.frames,ok.stk,ok.exf,ok.bs,ok.bsz,ok.noex,ok.exfs,ok.funs,ok.frf⟩
theorem Inv.wish(I:Inv X pins σ H s)(E:OE):Inv (X.wish E) pins σ H s:=⟨I.ok.wish E,I.os,I.bare,I.base,I.loc,I.cell,I.free,I.freeC,I.pin,I.hok,I.len⟩
theorem Inv.unwish(I:Inv (X.wish E) pins σ H s):Inv X pins σ H s:=⟨I.ok.unwish,I.os,I.bare,I.base,I.loc,I.cell,I.free,I.freeC,I.pin,I.hok,I.len⟩
theorem SP.unwish{D:Ends}{f:Flow}(h:SP (X.wish E) pins D f s'):SP X pins D f s':=by
 cases f with
 |next=>obtain⟨σ',H',I,q⟩:=h;exact⟨σ',H',I.unwish,q⟩
 |brk=>obtain⟨σ',H',I,q⟩:=h;exact⟨σ',H',I.unwish,q⟩
 |cont=>obtain⟨σ',H',I,q⟩:=h;exact⟨σ',H',I.unwish,q⟩
 |ret u=>obtain⟨v,σ',H',I,r,q⟩:=h;exact⟨v,σ',H',I.unwish,r,q⟩
theorem PE.nox{t:TE}(h:PE X.nox e t):PE X e t:=fun pins s σ H Q I hw=>
 Qt (h pins s σ H Q (I.wish _) hw) (fun _ _ ⟨v,H',I',r,q⟩=>⟨v,H',I'.unwish,r,q⟩) fun _ _ z=>False.elim z
theorem PT.nox{t:TT}(h:PT X.nox e t):PT X e t:=fun pins s σ H Q I hw=>
 Qt (h pins s σ H Q (I.wish _) hw) (fun _ _ ⟨H',I',q⟩=>⟨H',I'.unwish,q⟩) fun _ _ z=>False.elim z
theorem PSs.nox{st:List Stmt}{t:TS}(h:PSs X.nox st t):PSs X st t:=fun pins s σ H D I hw=>
 Qt (h pins s σ H D (I.wish _) hw) (fun _ _ q=>q.unwish) fun _ _ z=>False.elim z
section
variable{st:Stmt}{rest:List Stmt}{t u:TS}
def b6D:TS:=fun D σ H=>D.nx σ H
def b6E(t u:TS):TS:=fun D σ H=>t {D with nx:=u D} σ H
theorem b6F:PSs X [] b6D:=fun _ _ σ H _ I h=>Us ⟨σ,H,I,h⟩
theorem a3e(h1:PS X st t)(h2:PSs X rest u):PSs X (st::rest) (b6E t u):=by
 intro pins s σ H D I h;refine wpAny_execs_cons (thn (h1 pins s σ H {D with nx:=u D} I h) fun f s1 q=>?_)
 cases f with
 |next=>
  obtain⟨σ',H',I',q⟩:=q;exact h2 pins s1 σ' H' D I' q
 |ret v=>exact q
 |brk=>exact q
 |cont=>exact q
theorem a7m(h1:PS X st t):PSs X [st] t:=by
 intro pins s σ H D I h;refine wpAny_execs_cons (thn (h1 pins s σ H D I h) fun f s1 q=>?_)
 cases f with
 |next=>exact Us q
 |ret v=>exact q
 |brk=>exact q
 |cont=>exact q
theorem Inv.quiet(I:Inv X pins σ H s):interactive X.env=false:=by simp[interactive,I.ok.kind]
def b6G(te:TE):TS:=fun D σ H=>te σ H fun _ H1=>D.nx σ H1
theorem a5M(he:PE X e te)(hs:swapsWith e none pos.line X.env=pure false:=by rfl):PS X (.Expr e pos) (b6G te):=by
 intro pins s σ H D I h;exact wpAny_Expr_any (thn (he pins s σ H _ I h) fun v s1 ⟨x,H1,I1,r1,q1⟩=>⟨σ,H1,I1,q1⟩) I.quiet hs
def b6H(te:TE):TS:=fun D σ H=>te σ H D.rt
theorem a7n(he:PE X e te):PS X (.Return (some e) pos) (b6H te):=by
 intro pins s σ H D I h;exact wpAny_Return_some (thn (he pins s σ H _ I h) fun v s1 ⟨x,H1,I1,r1,q1⟩=>⟨x,σ,H1,I1,r1,q1⟩)
def b6I(c:TT)(t u:TS):TS:=fun D σ H=>c σ H fun b H1=>if b=true then t D σ H1 else u D σ H1
theorem b0R{a b:List Stmt}{tc:TT}(hc:PT X c tc)(ha:PSs X a t)(hb:PSs X b u):PS X (.If c a b pos) (b6I tc t u):=by
 intro pins s σ H D I h;refine wpAny_If (thn (hc pins s σ H _ I h) fun d s1 ⟨H1,I1,q1⟩=>?_)
 cases d with
 |true=>exact ha pins s1 σ H1 D I1 q1
 |false=>exact hb pins s1 σ H1 D I1 q1
def b0S:TS:=fun _ _ _=>False
theorem b6J:PS X st b0S:=fun _ _ _ _ _ _ h=>h.elim
theorem b0T{sts:List Stmt}:PSs X sts b0S:=fun _ _ _ _ _ _ h=>h.elim
end
abbrev TG:=V->St->Hp->(St->Hp->Prop)->Prop
abbrev TGs:=List V->St->Hp->(St->Hp->Prop)->Prop
def PG(X:Cx)(target:Expr)(t:TG):Prop:=
 ∀(pins:OX) (s:Shared) (σ:St) (H:Hp) (v:V) (u:Value) (Q:St->Hp->Prop),Inv X pins σ H s->y1_ v u->t v σ H Q->
  wpAny (model X.prog X.w) X.A (assign target X.env u) (fun _ s'=>∃σ' H',Inv X pins σ' H' s'/\Q σ' H') X.xe s
def PGs(X:Cx)(ts:List Expr)(t:TGs):Prop:=
 ∀(pins:OX) (s:Shared) (σ:St) (H:Hp) (vs:List V) (us:List Value) (Q:St->Hp->Prop),Inv X pins σ H s->v4_ vs us->t vs σ H Q->
  wpAny (model X.prog X.w) X.A (assignInOrder ((assignEach ts X.env).map (·.2)) us) (fun _ s'=>∃σ' H',Inv X pins σ' H' s'/\Q σ' H') X.xe s
abbrev a7o:=V->V->V->Hp->(Hp->Prop)->Prop
def b0U(X:Cx)(t:a7o):Prop:=
 ∀(pins:OX) (s:Shared) (σ:St) (H:Hp) (o i v:V) (ov iv u:Value) (Q:Hp->Prop),Inv X pins σ H s->y1_ o ov->y1_ i iv->y1_ v u->t o i v H Q->
  wpAny (model X.prog X.w) X.A (setItem ov iv u) (fun _ s'=>∃H',Inv X pins σ H' s'/\Q H') X.xe s
abbrev TIp:=V->V->Hp->VK->Prop
def PIp(X:Cx)(op:Operator)(t:TIp):Prop:=
 ∀(pins:OX) (s:Shared) (σ:St) (H:Hp) (x y:V) (v u:Value) (Q:VK),Inv X pins σ H s->y1_ x v->y1_ y u->t x y H Q->
  wpAny (model X.prog X.w) X.A (inplaceOp op v u) (EP X pins σ Q) X.xe s
def a7p(i:Nat):TG:=fun v σ H Q=>Q (σ.set i (some v)) H
theorem b6K(hN:X.N.Nodup)(hi:X.N[i]? =some x)(hx:Loc X.env.scope x)(hf:X.fn x=true∨X.env.scope.names.lookup x=some .local:=by first|exact .inl rfl|exact .inr rfl|assumption):PG X (.Name x pos) (a7p i):=by
 intro pins s σ H v u Q I r h;exact wpAny_assign_Name (a3d I hN hi hx r (fun s' I'=>⟨_,H,I',h⟩) hf)
def b6L:TGs:=fun vs σ H Q=>vs=[]/\Q σ H
def b6M(t:TG)(u:TGs):TGs:=fun vs σ H Q=>∃v r,vs=v::r/\t v σ H fun σ' H'=>u r σ' H' Q
theorem b6N:PGs X [] b6L:=by
 intro pins s σ H vs us Q I r h;obtain⟨e,h⟩:=h;subst e;cases r;exact assignInOrder_nil ⟨σ,H,I,h⟩
theorem b6O{t:TG}{u:TGs}(h1:PG X e t)(h2:PGs X es u)
  (hs:(assignEach (e::es) X.env).map (·.2)=assign e X.env::(assignEach es X.env).map (·.2):=by rfl):PGs X (e::es) (b6M t u):=by
 intro pins s σ H vs us Q I r h;obtain⟨v,vr,e1,h⟩:=h;subst e1;cases r with
 |cons r rr=>
  rw[hs];refine assignInOrder_cons (thn (h1 pins s σ H _ _ _ I r h) fun _ s1 ⟨σ1,H1,I1,q1⟩=>?_)
  exact h2 pins s1 σ1 H1 _ _ Q I1 rr q1
def b6P(K:Qz)(n:Nat)(t:TGs):TG:=fun v σ H Q=>∃a xs,v=.ref a/\SqT K H a xs/\xs.length=n/\t xs σ H Q
theorem b6Q{t:TGs}(hc:X.calm=true)(h:PGs X es t)
  (hn:(assignEach es X.env).length=n:=by rfl)(hst:(assignEach es X.env).findIdx? (·.1)=none:=by rfl):PG X (.Tuple es k pos) (b6P X.K n t):=by
 intro pins s σ H v u Q I r hw;obtain⟨a,xs,e1,hq,hl,hw⟩:=hw;subst e1;cases r;obtain⟨its,rv,ht,hz⟩:=I.tuple hq;refine assign_Tuple_tuple (I.ok.hd hc) ht (by simp[hn,←hl,rv.length]) hst fun h' hx=>?_
 have I1:Inv X pins σ H {s with heap:=h'}:=I.kept (t':=s.toks) fun b o e=>hx b o (Qi (Qp e)) e
 exact h pins _ σ H xs _ Q I1 (by simpa using rv) hw
def b6R(to ti:TE)(t:a7o):TG:=fun v σ H Q=>to σ H fun o H1=>ti σ H1 fun i H2=>t o i v H2 fun H3=>Q σ H3
theorem b0V{o i:Expr}{to ti:TE}{t:a7o}(ho:PE X o to)(hi:PE X i ti)(hs:b0U X t)
  (ha:∀v,assign (.Subscript o i pos) X.env v=(do
   let ov←holding [v] (eval o X.env)
   let iv←holding [v,ov] (eval i X.env)
   standAt pos
   holding [v,ov,iv] (setItem ov iv v)
   release [v,ov,iv] []):=by intro _;rfl):PG X (.Subscript o i pos) (b6R to ti t):=by
 intro pins s σ H v u Q I r h;rw[ha];refine Qq (Yn (thn (ho pins s σ H _ I h) fun ov s1 ⟨x,H1,I1,r1,q1⟩=>?_))
 refine Qq (Yn (thn (hi pins s1 σ H1 _ I1 q1) fun iv s2 ⟨y,H2,I2,r2,q2⟩=>?_))
 refine Qq (Jr (Qq (Yn (thn (hs pins s2 σ H2 x y v ov iv u _ I2 r1 r2 r q2) fun _ s3 ⟨H3,I3,q3⟩=>?_))))
 exact wpAny_release ⟨σ,H3,I3,q3⟩
def a7q(te:TE)(g:TG):TS:=fun D σ H=>te σ H fun x H1=>g x σ H1 D.nx
theorem b0W{g:TG}(he:PE X e te)(hg:PG X tg g)(hs:swapsWithSole [tg] e pos.line X.env=pure false:=by rfl)(hw:swappedStores [tg] e X.env=pure none:=by rfl)
  (h1:(assignEach [tg] X.env).map (·.2)=[assign tg X.env]:=by rfl):PS X (.Assign [tg] e pos) (a7q te g):=by
 intro pins s σ H D I h;refine wpAny_Assign_stores (thn (he pins s σ H _ I h) fun v s1 ⟨x,H1,I1,r1,q1⟩=>?_) hs hw
 rw[h1];exact thn (hg pins s1 σ H1 x v _ I1 r1 q1) fun _ s2 q=>q
theorem a4D(hN:X.N.Nodup)(hi:X.N[i]? =some x)(hx:Loc X.env.scope x)(he:PE X e te)(hs:swapsWith e (some (.Name x pos')) pos.line X.env=pure false:=by rfl)(hf:X.fn x=true∨X.env.scope.names.lookup x=some .local:=by first|exact .inl rfl|exact .inr rfl|assumption):
  PS X (.Assign [.Name x pos'] e pos) (a7q te (a7p i)):=by
 intro pins s σ H D I h;refine wpAny_Assign_Name (thn (he pins s σ H _ I h) fun v s1 ⟨y,H1,I1,r1,q1⟩=>?_) hs
 exact a3d I1 hN hi hx r1 (fun s2 I2=>⟨_,H1,I2,q1⟩) hf
def b6S(i j:Nat)(ta:TA):TS:=fun D σ H=>ta σ H fun vs H1=>∃v w,vs=[v,w]/\D.nx ((σ.set i (some v)).set j (some w)) H1
theorem b6T{y:Str}{a b:Expr}{ta:TA}{px py pt:Pos}{kt k2 pt2}(hc:X.calm=true)(hN:X.N.Nodup)(hi:X.N[i]? =some x)(hj:X.N[j]? =some y)(hij:i≠j)
  (hx:X.env.scope.names.lookup x=some .local)(hy:X.env.scope.names.lookup y=some .local)(ha:PA X [a,b] ta)
  (hw:swappedStores [.Tuple [.Name x px,.Name y py] kt pt] (.Tuple [a,b] k2 pt2) X.env=pure (some [x,y]))
  (hs:swapsWithSole [.Tuple [.Name x px,.Name y py] kt pt] (.Tuple [a,b] k2 pt2) pos.line X.env=pure false:=by rfl):
  PS X (.Assign [.Tuple [.Name x px,.Name y py] kt pt] (.Tuple [a,b] k2 pt2) pos) (b6S i j ta):=by
 intro pins s σ H D I h;rw[exec_Assign_arm];refine Qq (Jr ?_);rw[hs];refine Qq (Qk ?_);rw[Ql (by decide)]
 refine Qq (Tuple_ (thn (ha _ pins s σ H _ I h) fun us s1 ⟨vs,H1,I1,r1,q1⟩=>?_))
 obtain⟨v,w,e1,q1⟩:=q1;subst e1;obtain⟨u1,u2,rfl,rv,rw'⟩:∃u1 u2,us=[u1,u2]/\y1_ v u1/\y1_ w u2:=by
  cases r1 with
  |cons p q=>
   cases q with
   |cons p' q'=>
    cases q';exact⟨_,_,rfl,p,p'⟩
 refine Zd ?_ (by show 2≤sizeLine;decide)
 have I2:Inv X pins σ H1 {s1 with heap:=s1.heap.push {cls:=.type "tuple",data:=.seq [u1,u2].toArray}}:=I1.kept (t':=s1.toks) fun b o e=>Qx _ e
 rw[hw];refine Qq (Qk ?_);show wpAny (model X.prog X.w) X.A (do rule "assign.swapped-stores";let items←unpackItems (.ref s1.heap.objs.size) 2 none;assignInOrder [fun v=>bindName X.env y v,fun v=>bindName X.env x v] items.reverse;pure Flow.next) _ _ _
 refine Qq (Ul (Qq (unpackItems_tuple (items:=#[u1,u2]) (I.ok.hd hc) (IsTup.new s1.heap _) fun h' hx'=>?_)))
 have I3:=I2.kept (h':=h') (t':=s1.toks) fun b o e=>hx' b o (Qi (Qp e)) e
 show wpAny _ _ (assignInOrder [fun v=>bindName X.env y v,fun v=>bindName X.env x v] [u2,u1]>>=fun _=>pure Flow.next) _ _ _
 refine Qq (assignInOrder_cons (wpAny_bindName (a3d I3 hN hj (.inl hy) rw' (fun s2 I4=>?_) (.inr hy))))
 refine assignInOrder_cons (wpAny_bindName (a3d I4 hN hi (.inl hx) rv (fun s3 I5=>assignInOrder_nil (Qk ?_)) (.inr hx)))
 rw[List.set_comm _ _ (Zn hij)]at I5;exact⟨_,H1,I5,q1⟩
def b6U(i:Nat)(te:TE)(ti:TIp):TS:=fun D σ H=>∃x,σ[i]? =some (some x)/\te σ H fun y H1=>ti x y H1 fun z H2=>D.nx (σ.set i (some z)) H2
theorem b6V{op:Operator}{ti:TIp}(hN:X.N.Nodup)(hi:X.N[i]? =some x)(hx:Loc X.env.scope x)(he:PE X e te)(ho:PIp X op ti)(hf:X.fn x=true∨X.env.scope.names.lookup x=some .local:=by first|exact .inl rfl|exact .inr rfl|assumption):
  PS X (.AugAssign (.Name x pos') op e pos) (b6U i te ti):=by
 intro pins s σ H D I h;obtain⟨v,e1,h⟩:=h;obtain⟨m,hn,hl⟩:=I.loc;have vis:Vis X.env.scope x:=by rcases hx with k|k;exact .inl k;exact .inr (.inl k)
 obtain⟨u,r,l⟩:=hl i x v hi e1 vis;refine wpAny_AugAssign_Name ?_
 have go:wpAny (model X.prog X.w) X.A (eval e X.env) (fun w s₂=>wpAny (model X.prog X.w) X.A (inplaceOp op u w) (fun r s₃=>wpAny (model X.prog X.w) X.A (storeName X.env x r) (fun _=>SP X pins D .next) X.xe s₃) X.xe s₂) X.xe s:=by
  refine thn (he pins s σ H _ I h) fun w s1 ⟨y,H1,I1,r1,q1⟩=>?_
  refine thn (ho pins s1 σ H1 v y u w _ I1 r r1 q1) fun z s2 ⟨zv,H2,I2,r2,q2⟩=>?_
  exact a3d I2 hN hi hx r2 (fun s3 I3=>⟨_,H2,I3,q2⟩) hf
 rcases l with⟨hk,hm⟩|⟨hk,c,hc,hcell⟩
 ·exact wpAny_loadName_local I.ok.kind hk hn hm go
 ·rcases hk with hk|hk
  ·exact wpAny_loadName_cell I.ok.kind hk hc hcell go
  ·rcases hx with k|k
   ·have:X.env.scope.names.lookup x=some .free:=hk
    rw[k]at this;cases this
   ·have:X.env.scope.names.lookup x=some .free:=hk
    rw[k]at this;cases this
structure It where
 go:Nat->Hp->Prop
 yld:Nat->Hp->V->Hp->Prop
 stop:Nat->Hp->Prop
def u9_(X:Cx)(pins:OX)(H:Hp)(b:Addr):Prop:=
 H b=none/\b≠X.env.locals/\b∉X.fs/\(b∈X.ex∨X.s₀.heap.objs.size≤b)/\(∀x c,X.env.cells.lookup x=some c->c≠b)/\∀p∈X.pn++pins,p.1≠b
theorem Inv.fpOk(I:Inv X pins σ H s)(hb:s.heap.objs.size≤b)(hn:H' b=none):u9_ X pins H' b:=by
 refine⟨hn,Ue (Qd I.lt hb),I.nofs hb,.inr (Zp I.sz hb),fun x c e z=>?_,fun p hp z=>?_⟩
 ·obtain⟨v,q⟩:=I.cell x c e
  exact absurd (Qd q.lt (by rw[z];exact hb)) (Yt _)
 ·exact absurd (Qd (Qp (I.pin p hp).1) (by rw[z];exact hb)) (Yt _)
structure Turn(P:Program)(w:World)(K:Qz)(tg:Expr)(J:It)(fp:List Addr)(it:Addr)(tn:Nat->Heap->Prop):Prop where
 mem:it∈fp
 obj:∀i h,tn i h->∀b∈fp,∃o,h.get? b=some o/\∀v,o.data≠.cell v
 keep:∀i h h',tn i h->(∀b∈fp,∀o,h.get? b=some o->h'.get? b=some o)->tn i h'
 item:∀(X:Cx),X.prog=P->X.w=w->X.K=K->X.calm=true->∀(i:Nat) (pins:OX) (s:Shared) (σ:St) (H:Hp) (E:OE),Inv X pins σ H s->(∀b∈fp,u9_ X pins H b)->tn i s.heap->J.go i H->
  wpAny (model P w) X.A (pyNext (.ref it)) (fun r s1=>∃u,r=some u/\
   wpAny (model P w) X.A (letOwnedTupleGo tg (.ref it) u) (fun _ s2=>∃x H',Inv X pins σ H' s2/\y1_ x u/\J.yld i H x H'/\tn (i+1) s2.heap/\∀b∈fp,H' b=none) E s1) E s
 done:∀(X:Cx),X.prog=P->X.w=w->X.K=K->X.calm=true->∀(i:Nat) (pins:OX) (s:Shared) (σ:St) (H:Hp) (E:OE),Inv X pins σ H s->(∀b∈fp,u9_ X pins H b)->tn i s.heap->J.stop i H->
  wpAny (model P w) X.A (pyNext (.ref it)) (fun r s1=>r=none/\Inv X pins σ H s1) E s
 self:∀(A:Around) (i:Nat) (s:Shared) (Q:OE) (E:OE),tn i s.heap->Q (.ref it) s->wpAny (model P w) A (pyIter (.ref it)) Q E s
abbrev TI:=St->Hp->(It->Hp->Prop)->Prop
def PIE(X:Cx)(pins:OX)(σ:St)(tg:Expr)(R:It->Hp->Prop)(itv:Value)(s2:Shared):Prop:=
 ∃(it:Addr) (fp:List Addr) (tn:Nat->Heap->Prop) (J:It) (H':Hp),itv=.ref it/\Inv X pins σ H' s2/\Turn X.prog X.w X.K tg J fp it tn/\tn 0 s2.heap/\(∀b∈fp,u9_ X pins H' b)/\R J H'
def PI(X:Cx)(tg iter:Expr)(wi:TI):Prop:=
 ∀(pins:OX) (s:Shared) (σ:St) (H:Hp) (R:It->Hp->Prop),Inv X pins σ H s->wi σ H R->
  wpAny (model X.prog X.w) X.A (eval iter X.env) (fun v s1=>wpAny (model X.prog X.w) X.A (pyIter v) (PIE X pins σ tg R) X.xe s1) X.xe s
theorem a7r{o:Obj}{n:String}{vs:Array Value}{Q:Unit->Shared->Prop}(ho:s.heap.get? it=some o)(hc:o.cls=.type n)(hd:o.data=.fields vs)
    (hn:["enumerate","zip","dict_itemiterator","dict_reverseitemiterator","odict_iterator","itertools.zip_longest","itertools.pairwise"].contains n=false)(hQ:Q () s):wpAny M A (letOwnedTupleGo tg (.ref it) u) Q E s:=by
  unfold letOwnedTupleGo;cases tg<;>first
    |exact Qk hQ
    | (cases u<;>first
        |exact Qk hQ
        | (refine Qq (wpAny_load ho ?_)
           rw[hc,hd];show wpAny M A (if(["enumerate","zip","dict_itemiterator","dict_reverseitemiterator","odict_iterator","itertools.zip_longest","itertools.pairwise"].contains n&&vs[0]? ==some (rawInt _))=true then _ else _) Q E s
           rw[Ql (by intro h;rw[hn,Jo]at h;cases h)]
           exact Qk hQ))
def Itl(K:Qz)(a:Addr):It:=
 ⟨fun i H=>∃xs x,SqL K H a xs/\xs[i]? =some x,fun i H x H'=>H'=H/\∀xs,SqL K H a xs->xs[i]? =some x,fun i H=>∃xs,SqL K H a xs/\xs.length≤i⟩
def Itt(K:Qz)(a:Addr):It:=
 ⟨fun i H=>∃xs x,SqT K H a xs/\xs[i]? =some x,fun i H x H'=>H'=H/\∀xs,SqT K H a xs->xs[i]? =some x,fun i H=>∃xs,SqT K H a xs/\xs.length≤i⟩
def Itr(lo:Int)(n:Nat):It:=⟨fun i _=>i<n,fun i H x H'=>H'=H/\x=.int (lo+i),fun i _=>n≤i⟩
theorem b6W(a it:Addr):Turn P w K tg (Itl K a) [it] it (fun i h=>h.IsListIter it a i)where
 mem:=by simp
 obj:=fun i h st b hb=>by
  have e:b=it:=by simpa using hb
  subst e;obtain⟨o,e,c,d⟩:=st;exact⟨o,e,fun v z=>by rw[d]at z;cases z⟩
 keep:=fun i h h' st k=>st.at fun o e=>k it (by simp) o e
 item:=by
  intro X hP hw hK hc i pins s σ H E I hf st hg;subst hP hw hK;obtain⟨xs,x,hq,hx⟩:=hg;obtain⟨its,rv,p,hz⟩:=I.list hq;obtain⟨u,hu,ru⟩:=rv.get hx;obtain⟨f0,f1,f2,f3,f4,f5⟩:=hf it (by simp)
  refine wpAny_pyNext_list_item st p.isList (x:=u) (by simpa using hu) fun h' st' sb=>?_
  have I1:Inv X pins σ H {s with heap:=h'}:=I.turned (t':=s.toks) (fun b o hb e=>(sb.2 b hb).trans e) f0 f1 f3 f4 f5
  obtain⟨o,e,c,d⟩:=id st';exact⟨u,rfl,a7r (s:={s with heap:=h'}) e c d (by decide) ⟨x,H,I1,ru,⟨rfl,fun ys hy=>by rw[I.list_inj hy hq];exact hx⟩,st',fun b hb=>(hf b hb).1⟩⟩
 done:=by
  intro X hP hw hK hc i pins s σ H E I hf st hg;subst hP hw hK;obtain⟨xs,hq,hx⟩:=hg;obtain⟨its,rv,p,hz⟩:=I.list hq;obtain⟨f0,f1,f2,f3,f4,f5⟩:=hf it (by simp)
  have hl:=rv.length
  exact wpAny_pyNext_list_end (I.ok.hd hc) st p.isList (by simp;omega) fun h' eb=>⟨rfl,I.turned (t':=s.toks) (fun b o hb e=>eb b o hb e) f0 f1 f3 f4 f5⟩
 self:=fun _ _ _ _ _ st h=>wpAny_pyIter_listiter st h
theorem b6X(a it:Addr):Turn P w K tg (Itt K a) [it] it (fun i h=>h.IsTupleIter it a i)where
 mem:=by simp
 obj:=fun i h st b hb=>by
  have e:b=it:=by simpa using hb
  subst e;obtain⟨o,e,c,d⟩:=st;exact⟨o,e,fun v z=>by rw[d]at z;cases z⟩
 keep:=fun i h h' st k=>st.at fun o e=>k it (by simp) o e
 item:=by
  intro X hP hw hK hc i pins s σ H E I hf st hg;subst hP hw hK;obtain⟨xs,x,hq,hx⟩:=hg;obtain⟨its,rv,p,hz⟩:=I.tuple hq;obtain⟨u,hu,ru⟩:=rv.get hx;obtain⟨f0,f1,f2,f3,f4,f5⟩:=hf it (by simp)
  refine wpAny_pyNext_tuple_item st (show s.heap.IsTuple a its.toArray from p) (x:=u) (by simpa using hu) fun h' st' sb=>?_
  have I1:Inv X pins σ H {s with heap:=h'}:=I.turned (t':=s.toks) (fun b o hb e=>(sb.2 b hb).trans e) f0 f1 f3 f4 f5
  obtain⟨o,e,c,d⟩:=id st';exact⟨u,rfl,a7r (s:={s with heap:=h'}) e c d (by decide) ⟨x,H,I1,ru,⟨rfl,fun ys hy=>by rw[I.tuple_inj hy hq];exact hx⟩,st',fun b hb=>(hf b hb).1⟩⟩
 done:=by
  intro X hP hw hK hc i pins s σ H E I hf st hg;subst hP hw hK;obtain⟨xs,hq,hx⟩:=hg;obtain⟨its,rv,p,hz⟩:=I.tuple hq;obtain⟨f0,f1,f2,f3,f4,f5⟩:=hf it (by simp)
  have hl:=rv.length
  exact wpAny_pyNext_tuple_end (I.ok.hd hc) st (show s.heap.IsTuple a its.toArray from p) (by simp;omega) fun h' eb=>⟨rfl,I.turned (t':=s.toks) (fun b o hb e=>eb b o hb e) f0 f1 f3 f4 f5⟩
 self:=fun _ _ _ _ _ st h=>wpAny_pyIter_tupleiter st h
theorem b6Y(it:Addr)(lo:Int)(n:Nat):Turn P w K tg (Itr lo n) [it] it (fun i h=>IsRangeIter h it (lo+(i:Nat) * 1) ((n:Int)-(i:Nat)) 1)where
 mem:=by simp
 obj:=fun i h st b hb=>by
  have e:b=it:=by simpa using hb
  subst e;exact⟨_,st,fun v z=>by
   have z':Data.fields _=Data.cell v:=z
   cases z'⟩
 keep:=fun i h h' st k=>k it (by simp) _ st
 item:=by
  intro X hP hw hK hc i pins s σ H E I hf st hg;subst hP hw hK;obtain⟨f0,f1,f2,f3,f4,f5⟩:=hf it (by simp)
  have W:=Walks.range (prog:=X.prog) (w:=X.w) (I.ok.hd hc) it lo 1 n
  refine W.item i s _ _ hg st fun v h' tk hv st' kk=>?_
  obtain⟨t,rfl⟩:=hv;have I1:Inv X pins σ H {s with heap:=h',toks:=tk}:=I.turned (fun b o hb e=>kk b o (by simpa using hb) e) f0 f1 f3 f4 f5
  refine⟨_,rfl,a7r (s:={s with heap:=h',toks:=tk}) (n:="range_iterator") st' rfl rfl (by decide) ⟨.int (lo+i),H,I1,⟨t,?_⟩,⟨rfl,rfl⟩,st',fun b hb=>(hf b hb).1⟩⟩
  rw[Int.mul_one]
 done:=by
  intro X hP hw hK hc i pins s σ H E I hf st hg;subst hP hw hK;obtain⟨f0,f1,f2,f3,f4,f5⟩:=hf it (by simp)
  exact wpAny_pyNext_range_end (I.ok.hd hc) st (by have:n≤i:=hg;omega) fun h' eb=>⟨rfl,I.turned (t':=s.toks) (fun b o hb e=>eb b o hb e) f0 f1 f3 f4 f5⟩
 self:=fun _ _ _ _ _ st h=>wpAny_pyIter_rangeiter st h
theorem b0X{R:It->Hp->Prop}{lo hi:Int}{t u v:Tok}{tk:Nat}(I:Inv X pins σ H s)(h1: -(2^62)≤lo)(h2:lo<2^62)(h3: -(2^62)≤hi)(h4:hi<2^62)
  (q:R (Itr lo (hi-lo).toNat) H):wpAny (model X.prog X.w) X.A (pyIter (.ref s.heap.objs.size)) (PIE X pins σ tg R) E {s with heap:=s.heap.push {cls:=.type "range",data:=.fields #[.int lo t,.int hi u,.int 1 v]},toks:=tk}:=by
 refine wpAny_pyIter_range (IsRange.new ..) (small_one h1 h2 h3 h4) ?_
 have I1:Inv X pins σ H {s with heap:=s.heap.push {cls:=.type "range",data:=.fields #[.int lo t,.int hi u,.int 1 v]},toks:=tk}:=I.kept fun b o e=>Qx _ e
 refine⟨(s.heap.push {cls:=.type "range",data:=.fields #[.int lo t,.int hi u,.int 1 v]}).objs.size,[(s.heap.push {cls:=.type "range",data:=.fields #[.int lo t,.int hi u,.int 1 v]}).objs.size],_,_,H,rfl,
  I1.kept (t':=tk) fun b o e=>Qx _ e,b6Y _ lo (hi-lo).toNat,?_,fun b hb=>?_,q⟩
 ·have e1:lo+((0:Nat):Int) * 1=lo:=by simp
  have e2:(((hi-lo).toNat:Nat):Int)-((0:Nat):Int)=Builtin.Range.rangeSize lo hi 1:=by rw[rangeSize_one];split<;>omega
  show IsRangeIter _ _ (lo+((0:Nat):Int) * 1) ((((hi-lo).toNat:Nat):Int)-((0:Nat):Int)) 1;rw[e1,e2];exact Qg _ rfl
 ·have e:b=(s.heap.push {cls:=.type "range",data:=.fields #[.int lo t,.int hi u,.int 1 v]}).objs.size:=by simpa using hb
  subst e;exact I1.fpOk (Qy _) (I1.hok.fresh (Qy _))
def b6Z(ta:TA):TI:=fun σ H R=>ta σ H fun vs H1=>∃j:Int,vs=[.int j]/\ -(2^62)≤j/\j<2^62/\R (Itr 0 j.toNat) H1
def b7a(ta:TA):TI:=fun σ H R=>ta σ H fun vs H1=>∃i j:Int,vs=[.int i,.int j]/\(-(2^62)≤i/\i<2^62/\ -(2^62)≤j/\j<2^62)/\R (Itr i (j-i).toNat) H1
theorem b7b{a:Expr}{ta:TA}(hg:Gl X "range")(hm:X.mg "range"=none)(ha:PA X [a] ta)(hs:starEach [a] X.env=[(false,eval a X.env)]:=by rfl):PI X tg (.Call (.Name "range" p) [a] [] pos) (b6Z ta):=by
 intro pins s σ H R I h;refine Call_ (a3L I hg hm boot_range (Jn (thn (ha pos pins s σ H _ I h) fun us s1 ⟨vs,H1,I1,r1,q1⟩=>?_) hs rfl))
 obtain⟨j,e,q1,q2,q⟩:=q1;subst e;cases r1 with
 |cons r rr=>
  cases rr;obtain⟨t,rfl⟩:=r;exact call_range_1 (b0X I1 (by omega) (by omega) q1 q2 (by simpa using q))
theorem b7c{a b:Expr}{ta:TA}(hg:Gl X "range")(hm:X.mg "range"=none)(ha:PA X [a,b] ta)(hs:starEach [a,b] X.env=[(false,eval a X.env),(false,eval b X.env)]:=by rfl)(hs2:starEach [b] X.env=[(false,eval b X.env)]:=by rfl):
  PI X tg (.Call (.Name "range" p) [a,b] [] pos) (b7a ta):=by
 intro pins s σ H R I h;refine Call_ (a3L I hg hm boot_range (Jn (thn (ha pos pins s σ H _ I h) fun us s1 ⟨vs,H1,I1,r1,q1⟩=>?_) (by rw[hs,hs2]) (by rw[hs2];rfl)))
 obtain⟨i,j,e,⟨q1,q2,q3,q4⟩,q⟩:=q1;subst e;cases r1 with
 |cons r rr=>
  cases rr with
  |cons r' rr=>
   cases rr;obtain⟨t,rfl⟩:=r;obtain⟨t',rfl⟩:=r';exact call_range_2 (b0X I1 q1 q2 q3 q4 q)
def b7d(wi:TI)(g:TG)(tb:TS):TS:=fun D σ H=>wi σ H fun J H1=>∃W:Nat->Nat->St->Hp->Prop,(∃m,W 0 m σ H1)/\∀i m σ H,W i m σ H->
 (J.stop i H/\D.nx σ H)∨(J.go i H/\∃N:St->Hp->Prop,(∀σ' H',N σ' H'->∃m',m'<m/\W (i+1) m' σ' H')/\∀x H',J.yld i H x H'->g x σ H' fun σ2 H2=>tb {D with nx:=N,ct:=N,bk:=D.nx} σ2 H2)
def a3f(fp:List Addr)(h:Heap):OX:=fp.filterMap fun b=>(h.get? b).map fun o=>(b,o)
theorem a2z{o:Obj}(hb:b∈fp)(e:h.get? b=some o):(b,o)∈a3f fp h:=Xw.mpr ⟨b,hb,by rw[e];rfl⟩
theorem b7e{p:Addr×Obj}(hp:p∈a3f fp h):p.1∈fp/\h.get? p.1=some p.2:=by
 obtain⟨b,hb,e⟩:=List.mem_filterMap.mp hp;cases q:h.get? b with
 |none=>rw[q]at e;cases e
 |some o=>
  rw[q]at e;have e':(b,o)=p:=Yv e;subst e';exact⟨hb,q⟩
theorem Inv.pinned(I:Inv X pins σ H s)(hf:∀b∈fp,u9_ X pins H b)(ho:∀b∈fp,∃o,s.heap.get? b=some o/\∀v,o.data≠.cell v):Inv X (pins++a3f fp s.heap) σ H s:=
 I.pins_of fun p hp=>(Ur.mp hp).elim (fun z=>I.pin p (Qo _ z)) fun z=>by
  obtain⟨hb,e⟩:=b7e z;obtain⟨f0,f1,f2,_⟩:=hf p.1 hb;obtain⟨o,e',d⟩:=ho p.1 hb;rw[e]at e';cases e';exact⟨e,f0,f1,f2,d⟩
theorem Inv.unpinned{pl:OX}(I:Inv X (pins++pl) σ H s):Inv X pins σ H s:=I.pins_of fun p hp=>I.pin p (Qo _ (List.mem_append_left _ hp))
theorem b7f{iter:Expr}{wi:TI}{g:TG}{tb:TS}(hp:PassesOwn (model X.prog X.w) X.A X.env X.xe)(hc:X.calm=true)(hi:PI X tg iter wi)(hg:PG X tg g)(hb:PSs X body tb)
  (hs:∀x,foldedSetIterable iter X.env x=pure x:=by intro _;rfl):PS X (.For tg iter body [] pos) (b7d wi g tb):=by
 intro pins s σ H D I h;refine wpAny_For (thn (hi pins s σ H _ I h) fun v s1 h1=>thn h1 fun itv s2 h2=>?_) hs
 obtain⟨it,fp,tn,J,H2,e,I2,T,st2,f2,W,⟨m0,w0⟩,turn⟩:=h2;subst e;have stat:∀{H':Hp},(∀b∈fp,H' b=none)->∀b∈fp,u9_ X pins H' b:=fun hn b hb=>⟨hn b hb,(f2 b hb).2⟩
 refine codeAny_forLoop_any (fun n s'=>∃i σ' H',Inv X pins σ' H' s'/\tn i s'.heap/\(∀b∈fp,H' b=none)/\W i n σ' H') ?_ m0 ⟨0,σ,H2,I2,st2,fun b hb=>(f2 b hb).1,w0⟩
 rintro n s3 ⟨i,σ3,H3,I3,st3,fr3,w3⟩
 rcases turn i n σ3 H3 w3 with⟨stop,qn⟩|⟨go,N,hN,step⟩
 ·refine Ui hp (thn (T.done X rfl rfl rfl hc i pins s3 σ3 H3 X.xe I3 (stat fr3) st3 stop) fun r s4 ⟨hr,I4⟩=>?_)
  subst hr;exact Us ⟨σ3,H3,I4,qn⟩
 ·refine Ui hp (thn (T.item X rfl rfl rfl hc i pins s3 σ3 H3 X.xe I3 (stat fr3) st3 go) fun r s4 ⟨u,hr,h4⟩=>?_)
  subst hr;refine Ui hp (thn h4 fun _ s5 ⟨x,H5,I5,r5,y5,st5,fr5⟩=>?_)
  have I5':=I5.pinned (stat fr5) (T.obj _ _ st5)
  refine Ui hp (thn (hg _ s5 σ3 H5 x u _ I5' r5 (step x H5 y5)) fun _ s6 ⟨σ6,H6,I6,q6⟩=>?_)
  refine Ui hp (thn (hb _ s6 σ6 H6 _ I6 q6) fun f s7 q7=>?_)
  have again:∀{σ7:St}{H7:Hp},Inv X (pins++a3f fp s5.heap) σ7 H7 s7->N σ7 H7->∃m,m<n/\∃i σ' H',Inv X pins σ' H' s7/\tn i s7.heap/\(∀b∈fp,H' b=none)/\W i m σ' H':=fun{σ7 H7} I7 n7=>by
   obtain⟨m',hm,w7⟩:=hN σ7 H7 n7;refine⟨m',hm,i+1,σ7,H7,I7.unpinned,T.keep _ _ _ st5 fun b hb o e=>(I7.pin (b,o) (Qo _ (Qo _ (a2z hb e)))).1,fun b hb=>?_,w7⟩
   obtain⟨o,e,d⟩:=T.obj _ _ st5 b hb;exact(I7.pin (b,o) (Qo _ (Qo _ (a2z hb e)))).2.1
  cases f with
  |next=>obtain⟨σ7,H7,I7,n7⟩:=q7;exact again I7 n7
  |cont=>obtain⟨σ7,H7,I7,n7⟩:=q7;exact again I7 n7
  |brk=>obtain⟨σ7,H7,I7,q7⟩:=q7;exact⟨σ7,H7,I7.unpinned,q7⟩
  |ret v=>obtain⟨x7,σ7,H7,I7,r7,q7⟩:=q7;exact⟨x7,σ7,H7,I7.unpinned,r7,q7⟩
abbrev R2:=V->V->Hp->VK->Prop
variable{r r':R2}
def OpR(X:Cx)(f:Value->Value->Sem Value)(r:R2):Prop:=
 ∀(pins:OX) (s:Shared) (σ:St) (H:Hp) (x y:V) (v u:Value) (Q:VK),Inv X pins σ H s->y1_ x v->y1_ y u->r x y H Q->
  wpAny (model X.prog X.w) X.A (f v u) (EP X pins σ Q) X.xe s
def UnR(X:Cx)(f:Value->Sem Value)(r:V->Hp->VK->Prop):Prop:=
 ∀(pins:OX) (s:Shared) (σ:St) (H:Hp) (x:V) (v:Value) (Q:VK),Inv X pins σ H s->y1_ x v->r x H Q->
  wpAny (model X.prog X.w) X.A (f v) (EP X pins σ Q) X.xe s
def j8_(X:Cx)(f:Value)(r:List V->Hp->VK->Prop):Prop:=
 ∀(pins:OX) (s:Shared) (σ:St) (H:Hp) (xs:List V) (us:List Value) (Q:VK),Inv X pins σ H s->v4_ xs us->r xs H Q->
  wpAny (model X.prog X.w) X.A (call f us) (EP X pins σ Q) X.xe s
def tOp(r:R2)(ta tb:TE):TE:=fun σ H Q=>ta σ H fun x H1=>tb σ H1 fun y H2=>r x y H2 Q
def tUn(r:V->Hp->VK->Prop)(ta:TE):TE:=fun σ H Q=>ta σ H fun x H1=>r x H1 Q
def rI(C:Int->Int->Prop)(g:Int->Int->V):R2:=fun x y H Q=>∃i j,x=.int i/\y=.int j/\C i j/\Q (g i j) H
def rI0(g:Int->Int->V):R2:=fun x y H Q=>∃i j,x=.int i/\y=.int j/\Q (g i j) H
def rU(g:Int->V):V->Hp->VK->Prop:=fun x H Q=>∃i,x=.int i/\Q (g i) H
section
variable{a b:Expr}{tc:TE}
theorem a7s(ha:PE X a ta)(hb:PE X b tb)(I:Inv X pins σ H s)
  (h:ta σ H fun x H1=>tb σ H1 fun y H2=>R x y H2){f:Value->Value->Sem Value}
  (hf:∀v u s2 x y H2,Inv X pins σ H2 s2->y1_ x v->y1_ y u->R x y H2->wpAny (model X.prog X.w) X.A (f v u) Q X.xe s2):
  wpAny (model X.prog X.w) X.A (eval a X.env) (fun v s₁=>wpAny (model X.prog X.w) X.A (eval b X.env) (fun u s₂=>wpAny (model X.prog X.w) X.A (f v u) Q X.xe s₂) X.xe s₁) X.xe s:=by
 refine thn (ha pins s σ H _ I h) fun v s1 ⟨x,H1,I1,r1,q1⟩=>?_
 refine thn (hb pins s1 σ H1 _ I1 q1) fun u s2 ⟨y,H2,I2,r2,q2⟩=>?_
 exact hf v u s2 x y H2 I2 r1 r2 q2
theorem a7t{op:Operator}(ho:OpR X (binaryOp op) r)(ha:PE X a ta)(hb:PE X b tb):PE X (.BinOp a op b pos) (tOp r ta tb):=by
 intro pins s σ H Q I h;exact wpAny_BinOp (a7s ha hb I h fun v u s2 x y H2 I2 rx ry q=>ho pins s2 σ H2 x y v u Q I2 rx ry q)
theorem b0Y{op:UnaryOp}{r:V->Hp->VK->Prop}(ho:UnR X (unaryOp op) r)(ha:PE X a ta):PE X (.UnaryOp op a pos) (tUn r ta):=by
 intro pins s σ H Q I h;exact UnaryOp_ (thn (ha pins s σ H _ I h) fun v s1 ⟨x,H1,I1,r1,q1⟩=>ho pins s1 σ H1 x v Q I1 r1 q1)
theorem opI{f:Value->Value->Sem Value}{C:Int->Int->Prop}{g:Int->Int->Int}
  (rule:∀(i j:Int) (t u:Tok) (s:Shared) (Q:OE) (E:OE),C i j->Q (.int (g i j) s.toks) {s with toks:=s.toks+1}->wpAny (model X.prog X.w) X.A (f (.int i t) (.int j u)) Q E s):
  OpR X f (rI C fun i j=>.int (g i j)):=by
 intro pins s σ H x y v u Q I rx ry h;obtain⟨i,j,rfl,rfl,hc,q⟩:=h;obtain⟨t,rfl⟩:=rx;obtain⟨t',rfl⟩:=ry;exact rule i j t t' s _ _ hc ⟨.int (g i j),H,I.tok _,⟨_,rfl⟩,q⟩
theorem a7u{f:Value->Value->Sem Value}{g:Int->Int->Int}
  (rule:∀(i j:Int) (t u:Tok) (s:Shared) (Q:OE) (E:OE),Q (.int (g i j) s.toks) {s with toks:=s.toks+1}->wpAny (model X.prog X.w) X.A (f (.int i t) (.int j u)) Q E s):
  OpR X f (rI0 fun i j=>.int (g i j)):=by
 intro pins s σ H x y v u Q I rx ry h;obtain⟨i,j,rfl,rfl,q⟩:=h;obtain⟨t,rfl⟩:=rx;obtain⟨t',rfl⟩:=ry;exact rule i j t t' s _ _ ⟨.int (g i j),H,I.tok _,⟨_,rfl⟩,q⟩
theorem a7v{f:Value->Value->Sem Value}{g:Int->Int->Bool}
  (rule:∀(i j:Int) (t u:Tok) (s:Shared) (Q:OE) (E:OE),Q (.bool (g i j)) s->wpAny (model X.prog X.w) X.A (f (.int i t) (.int j u)) Q E s):
  OpR X f (rI0 fun i j=>.bl (g i j)):=by
 intro pins s σ H x y v u Q I rx ry h;obtain⟨i,j,rfl,rfl,q⟩:=h;obtain⟨t,rfl⟩:=rx;obtain⟨t',rfl⟩:=ry;exact rule i j t t' s _ _ ⟨.bl (g i j),H,I,rfl,q⟩
def a7w(i j:Int):Prop:=0<j/\j<1073741824
def a7x(i j:Int):Prop:=0≤j/\j≤1000000/\i.natAbs<2^64
def a3g(i j:Int):Prop:=(-(2^64)<i/\i<2^64)∨(-(2^64)<j/\j<2^64)
theorem a3g.ok{i j:Int}(h:a3g i j):IntMulOk i j:=by
 rcases h with⟨h1,h2⟩|⟨h1,h2⟩
 ·exact .of_left (intBits_le_64 h1 h2)
 ·exact .of_right (intBits_le_64 h1 h2)
theorem b7g:OpR X (binaryOp .Add) (rI0 fun i j=>.int (i+j)):=a7u fun _ _ _ _ _ _ _ q=>add_int q
theorem b7h:OpR X (binaryOp .Sub) (rI0 fun i j=>.int (i-j)):=a7u fun _ _ _ _ _ _ _ q=>sub_int q
theorem b7i:OpR X (binaryOp .Mult) (rI a3g fun i j=>.int (i * j)):=opI fun _ _ _ _ _ _ _ hc q=>mul_int q hc.ok
theorem b7j:OpR X (binaryOp .FloorDiv) (rI a7w fun i j=>.int (i/j)):=opI fun i j _ _ _ _ _ hc q=>by
 have h1:(0:Int)<j:=hc.1
 have h2:j<1073741824:=hc.2
 exact floordiv_int (by omega) (by rw[Int.fdiv_eq_ediv_of_nonneg i (by omega)];exact q) (.inl (PyProof.noPylong_small (by omega)))
theorem b7k:OpR X (binaryOp .Mod) (rI (fun _ j=>0<j) fun i j=>.int (i%j)):=opI fun i j _ _ _ _ _ hc q=>by
 have h1:(0:Int)<j:=hc
 exact mod_int' (by omega) (by rw[Int.fmod_eq_emod_of_nonneg i (by omega)];exact q)
theorem b7l:OpR X (binaryOp .Pow) (rI a7x fun i j=>.int (i^j.toNat)):=opI fun _ _ _ _ _ _ _ hc q=>pow_int_small hc.1 hc.2.1 hc.2.2 q
theorem b7m:OpR X (inplaceOp .Add) (rI0 fun i j=>.int (i+j)):=a7u fun _ _ _ _ _ _ _ q=>iadd_int q
theorem unI{f:Value->Sem Value}{g:Int->Int}
  (rule:∀(i:Int) (t:Tok) (s:Shared) (Q:OE) (E:OE),Q (.int (g i) s.toks) {s with toks:=s.toks+1}->wpAny (model X.prog X.w) X.A (f (.int i t)) Q E s):
  UnR X f (rU fun i=>.int (g i)):=by
 intro pins s σ H x v Q I rx h;obtain⟨i,rfl,q⟩:=h;obtain⟨t,rfl⟩:=rx;exact rule i t s _ _ ⟨.int (g i),H,I.tok _,⟨_,rfl⟩,q⟩
theorem b0Z:UnR X (unaryOp .USub) (rU fun i=>.int (-i)):=unI fun _ _ _ _ _ q=>neg_int q
end
section
variable{a b:Expr}{tc:TE}
theorem b1a{Q:VK}{k k':Bool}(I:Inv X pins σ H s)(q:Q (.bl k) H)(e:k=k'):EP X pins σ Q (.bool k') s:=by
 subst e;exact⟨.bl k,H,I,rfl,q⟩
theorem b7n:OpR X (compareOp .Lt) (rI0 fun i j=>.bl (decide (i<j))):=a7v fun _ _ _ _ _ _ _ q=>lt_int q
theorem b7o:OpR X (compareOp .LtE) (rI0 fun i j=>.bl (decide (i≤j))):=a7v fun _ _ _ _ _ _ _ q=>le_int q
theorem b7p:OpR X (compareOp .GtE) (rI0 fun i j=>.bl (decide (j≤i))):=a7v fun _ _ _ _ _ _ _ q=>ge_int q
theorem b7q:OpR X (compareOp .Is) (fun x y H Q=>y=.non/\Q (.bl (decide (x=.non))) H):=by
 intro pins s σ H x y v u Q I rx ry h;obtain⟨rfl,q⟩:=h;cases ry;refine is_none_gen (b1a I q ?_);cases x<;>first
  |(cases rx;rfl)
  |(obtain⟨t,rfl⟩:=rx;rfl)
theorem b7r:OpR X (compareOp .IsNot) (fun x y H Q=>y=.non/\Q (.bl (!decide (x=.non))) H):=by
 intro pins s σ H x y v u Q I rx ry h;obtain⟨rfl,q⟩:=h;cases ry;refine isnot_none_gen (b1a I q ?_);cases x<;>first
  |(cases rx;rfl)
  |(obtain⟨t,rfl⟩:=rx;rfl)
theorem OpR.or{f:Value->Value->Sem Value}(h:OpR X f r)(h':OpR X f r'):OpR X f (fun x y H Q=>r x y H Q∨r' x y H Q):=by
 intro pins s σ H x y v u Q I rx ry q
 rcases q with q|q
 ·exact h pins s σ H x y v u Q I rx ry q
 ·exact h' pins s σ H x y v u Q I rx ry q
theorem nomark(b:Expr)(h:op≠.In:=by decide)(h2:op≠.NotIn:=by decide):behindInMarks op b=false:=by
 have e1:(op==CmpOp.In)=false:=by cases op<;>first|rfl|exact absurd rfl h
 have e2:(op==CmpOp.NotIn)=false:=by cases op<;>first|rfl|exact absurd rfl h2
 cases b<;>simp[behindInMarks,e1,e2]
theorem b7s(ho:OpR X (compareOp op) r)(ha:PE X a ta)(hb:PE X b tb)(hm:behindInMarks op b=false):PE X (.Compare a [op] [b] pos) (tOp r ta tb):=by
 intro pins s σ H Q I h;exact wpAny_Compare1 (a7s ha hb I h fun v u s2 x y H2 I2 rx ry q=>ho pins s2 σ H2 x y v u Q I2 rx ry q) hm
def b1b(t:TE):TT:=fun σ H Q=>t σ H fun x H'=>∃k,x=.bl k/\Q k H'
theorem b7t(ho:OpR X (compareOp op) r)(ha:PE X a ta)(hb:PE X b tb)(hm:behindInMarks op b=false):PT X (.Compare a [op] [b] pos) (b1b (tOp r ta tb)):=by
 intro pins s σ H Q I h;refine wpAny_isTrue_Compare1 (thn (ha pins s σ H _ I h) fun v s1 ⟨x,H1,I1,r1,q1⟩=>thn (hb pins s1 σ H1 _ I1 q1) fun u s2 ⟨y,H2,I2,r2,q2⟩=>
  thn (ho pins s2 σ H2 x y v u _ I2 r1 r2 q2) fun c s3 ⟨z,H3,I3,r3,k,e,q3⟩=>?_) hm
 subst e;cases r3;exact Yp ⟨H3,I3,q3⟩
def a7y(r r':R2)(ta tb tc:TE):TE:=fun σ H Q=>ta σ H fun x H1=>tb σ H1 fun y H2=>r x y H2 fun z H3=>∃k,z=.bl k/\
 (if k=true then tc σ H3 fun w' H4=>r' y w' H4 Q else Q (.bl false) H3)
theorem b7u(ho:OpR X (compareOp op) r)(ho':OpR X (compareOp op') r')(ha:PE X a ta)(hb:PE X b tb)(hc:PE X c tc)
  (hm:lastMarks [op,op'] [b,c]=false:=by with_unfolding_all rfl):PE X (.Compare a [op,op'] [b,c] pos) (a7y r r' ta tb tc):=by
 intro pins s σ H Q I h;refine Compare_chain (thn (ha pins s σ H _ I h) fun v s1 ⟨x,H1,I1,r1,q1⟩=>chain_link (thn (hb pins s1 σ H1 _ I1 q1) fun u s2 ⟨y,H2,I2,r2,q2⟩=>
  thn (ho pins s2 σ H2 x y v u _ I2 r1 r2 q2) fun d s3 ⟨z,H3,I3,r3,k,e,q3⟩=>?_)) hm
 subst e;cases r3;refine Yp ?_
 cases k with
 |false=>exact ite_ff ⟨.bl false,H3,I3,rfl,q3⟩
 |true=>exact ite_tt (chain_last (thn (hc pins s3 σ H3 _ I3 q3) fun w' s4 ⟨z',H4,I4,r4,q4⟩=>ho' pins s4 σ H4 y z' u w' Q I4 r2 r4 q4))
theorem b7v(ho:OpR X (compareOp op) r)(ho':OpR X (compareOp op') r')(ha:PE X a ta)(hb:PE X b tb)(hc:PE X c tc)
  (hm:lastMarks [op,op'] [b,c]=false:=by with_unfolding_all rfl):PT X (.Compare a [op,op'] [b,c] pos) (b1b (a7y r r' ta tb tc)):=by
 intro pins s σ H Q I h;refine isTrue_chain (thn (ha pins s σ H _ I h) fun v s1 ⟨x,H1,I1,r1,q1⟩=>test_link (thn (hb pins s1 σ H1 _ I1 q1) fun u s2 ⟨y,H2,I2,r2,q2⟩=>
  thn (ho pins s2 σ H2 x y v u _ I2 r1 r2 q2) fun d s3 ⟨z,H3,I3,r3,k,e,q3⟩=>?_)) hm
 subst e;cases r3;refine Yp ?_
 cases k with
 |false=>
  obtain⟨k',e',q'⟩:=q3;cases e';exact ite_ff ⟨H3,I3,q'⟩
 |true=>
  refine ite_tt (test_last (thn (hc pins s3 σ H3 _ I3 q3) fun w' s4 ⟨z',H4,I4,r4,q4⟩=>thn (ho' pins s4 σ H4 y z' u w' _ I4 r2 r4 q4) fun d' s5 ⟨z2,H5,I5,r5,k2,e2,q5⟩=>?_))
  subst e2;cases r5;exact Yp ⟨H5,I5,q5⟩
theorem a4E:(sizeLine:Nat)<2^63:=by rw[sizeLine_eq];decide
theorem a1O{x:V}(r:v4_ [x] us):∃u,us=[u]/\y1_ x u:=by
 cases r with
 |cons r1 r2=>cases r2;exact⟨_,rfl,r1⟩
theorem a2e{x:V}(r:v4_ [x,y] us):∃u w',us=[u,w']/\y1_ x u/\y1_ y w':=by
 cases r with
 |cons r1 r2=>
  cases r2 with
  |cons r3 r4=>cases r4;exact⟨_,_,rfl,r1,r3⟩
theorem b1c(hc:X.calm=true):j8_ X (.builtin "max") (fun xs H Q=>∃i j,xs=[.int i,.int j]/\Q (.int (if j>i then j else i)) H):=by
 intro pins s σ H xs us Q I r h;obtain⟨i,j,rfl,q⟩:=h;obtain⟨u,w',rfl,⟨t,rfl⟩,⟨t',rfl⟩⟩:=a2e r;refine max_two_ints (I.ok.hd hc) fun h' tk k=>⟨_,H,I.kept k,?_,q⟩
 by_cases hj:j>i
 ·rw[Qn hj,Qn hj];exact⟨_,rfl⟩
 ·rw[Ql hj,Ql hj];exact⟨_,rfl⟩
theorem a7z(hc:X.calm=true):j8_ X (.builtin "min") (fun xs H Q=>∃i j,xs=[.int i,.int j]/\Q (.int (if j<i then j else i)) H):=by
 intro pins s σ H xs us Q I r h;obtain⟨i,j,rfl,q⟩:=h;obtain⟨u,w',rfl,⟨t,rfl⟩,⟨t',rfl⟩⟩:=a2e r;refine min_two_ints (I.ok.hd hc) fun h' tk k=>⟨_,H,I.kept k,?_,q⟩
 by_cases hj:j<i
 ·rw[Qn hj,Qn hj];exact⟨_,rfl⟩
 ·rw[Ql hj,Ql hj];exact⟨_,rfl⟩
theorem a5N:j8_ X (.type "int") (fun xs H Q=>(∃i,xs=[.int i]/\Q (.int i) H)∨ ∃k,xs=[.bl k]/\Q (.int (if k then 1 else 0)) H):=by
 intro pins s σ H xs us Q I r h
 rcases h with⟨i,rfl,q⟩|⟨k,rfl,q⟩
 ·obtain⟨u,rfl,t,rfl⟩:=a1O r
  exact call_int_int ⟨.int i,H,I,⟨_,rfl⟩,q⟩
 ·obtain⟨u,rfl,r1⟩:=a1O r
  cases r1;exact call_int_bool ⟨.int (if k then 1 else 0),H,I.tok _,⟨_,rfl⟩,q⟩
end
structure ObjM(h:Heap)(x dx C:Addr)(mA:OU):Prop where
 obj:h.get? x=some (PySem.W.instObj C dx)
 ns:h.Ns1 dx mA
 ne:dx≠x
theorem b7w(n:h.Ns1 dx mA):∃od,h.get? dx=some od/\∀name,PySem.W.lookIn name od=some (mA name):=by
 obtain⟨o,es,ep,ho,hd,hk,_,hm⟩:=n;refine⟨o,ho,fun name=>?_⟩
 have e:=hm name
 unfold nsFind findBy at e;rw[←Array.find?_toList]at e;unfold PySem.W.lookIn;rw[hd];dsimp only;split
 ·rename_i y q
  rw[q]at e;exact Zc some e
 ·rename_i q
  rw[q]at e;have a:es.toList.any (·.refKey)=false:=by
   rw[List.any_eq_false];intro y hy;obtain⟨z,t,hkey⟩:=hk y (Array.mem_toList_iff.mp hy)
   simp[DictEntry.refKey,hkey]
  have a':¬ es.toList.any (·.refKey)=true:=by rw[a];exact Yx
  rw[Ql a'];exact Zc some e
theorem ObjM.look{x:Addr}(I:ObjM h x dx C mA):∃od,PySem.W.InstAt h x (PySem.W.instObj C dx) C (some od)/\∀name,PySem.W.lookIn name od=some (mA name):=
 let ⟨od,ho,hl⟩:=b7w I.ns
 ⟨od,⟨I.obj,rfl,rfl,ho⟩,hl⟩
section
variable{prog:Program}{x f:Addr}{name:Str}{v:Value}
end
theorem a2d.some_of{o:Option Value}(r:a2d (some v) o):∃u,o=some u/\y1_ v u:=by
 cases o with
 |none=>exact(show False from r).elim
 |some u=>exact⟨u,rfl,r⟩
section
variable{fs fs':List (Str×V)}
theorem b7x(hok:HOk P w H h)(e:H a=some (.ins C dx fs)):∃mA,ObjM h a dx C mA/\(∀f,a2d (fs.lookup f) (mA f))/\PySem.Within mA (fs.map (·.1))/\fs.length≤1000/\H dx=some (.own a):=by
 obtain⟨d,z,ne,ob,mA,n,r,q⟩:=(show w6_ P w H h a (.ins C dx fs)from hok a _ e)
 exact⟨mA,⟨ob,n,ne⟩,r,q,z,d⟩
end
structure Cls(K:Qz)(C:Addr):Prop where
 pg:PySem.W.plainGet K C Str.empty=true
 hd:PySem.W.hasDictIn K C=true
 po:PySem.W.plainOver K C=true
 sa:PySem.W.findIn K (.ref C) "__setattr__"=some (some (.builtin "object.__setattr__"))
theorem Cls.get(c:Cls K C)(f:Str):PySem.W.plainGet K C f=true:=c.pg
structure Con(K:Qz)(C:Addr)(f:Str)(v:V)(u:Value):Prop where
 at_:PySem.W.findIn K (.ref C) f=some (some u)
 rel:y1_ v u
 get:PySem.W.specialIn K u "__get__"=some none
 cp:PySem.W.copiedNames.contains f=false
structure Meth(K:Qz)(C:Addr)(m:Str)(f:Addr):Prop where
 at_:PySem.W.findIn K (.ref C) m=some (some (.ref f))
 fn:PySem.W.isFn K (.ref f)=true
 kp:PySem.W.keepIn K (.ref f)=true
section
variable{fs:List (Str×V)}{f:Str}
theorem Inv.made(I:Inv X pins σ H s):Inv X pins σ (upd (upd H s.heap.objs.size (.own (s.heap.objs.size+1))) (s.heap.objs.size+1) (.ins C s.heap.objs.size []))
  {s with heap:=(s.heap.push PySem.W.emptyDict).push (PySem.W.instObj C s.heap.objs.size)}:=by
 have e1:(s.heap.push PySem.W.emptyDict).get? s.heap.objs.size=some PySem.W.emptyDict:=Qg s.heap rfl
 have e2:((s.heap.push PySem.W.emptyDict).push (PySem.W.instObj C s.heap.objs.size)).get? (s.heap.objs.size+1)=some (PySem.W.instObj C s.heap.objs.size):=by
  have:=Qg (s.heap.push PySem.W.emptyDict) (o:=PySem.W.instObj C s.heap.objs.size) rfl;rwa [Zr]at this
 have e3:(s.heap.push PySem.W.emptyDict).Ns s.heap.objs.size (fun _=>none):=⟨PySem.W.emptyDict,#[],_,e1,rfl,(fun e he=>absurd he (by simp)),fun _=>rfl⟩
 have I1:=I.laid (a:=s.heap.objs.size) (o:=.own (s.heap.objs.size+1)) (h':=s.heap.push PySem.W.emptyDict) (t':=s.toks) (fun b u q=>Qx _ q) (Qy _) ⟨_,e1⟩
 refine I1.laid (a:=s.heap.objs.size+1) (o:=.ins C s.heap.objs.size []) (t':=s.toks) (fun b u q=>Qx _ q) (Xc (Zr _ _)) ?_
 have ne:s.heap.objs.size≠s.heap.objs.size+1:=Qi (Xl _)
 refine⟨by rw[q7_ ne,y8_],Ub _,ne,e2,fun _=>none,(Heap.Ns1.of_empty e3).at fun o q=>Qx _ q,fun _=>True.intro,fun y hy=>absurd rfl hy⟩
end
section
variable{o value:Expr}{f:Str}{tpos:Pos}{tv:TE}
end
section
variable{c:Value}{b:Bool}
inductive TyOf (K:Qz) (H:Hp):V->Value->Prop where
 |non:TyOf K H .non (.type "NoneType")
 |bl (x:Bool):TyOf K H (.bl x) (.type "bool")
 |int (i:Int):TyOf K H (.int i) (.type "int")
 |str (x:Str):TyOf K H (.str x) (.type "str")
 |flt (x:UInt64):TyOf K H (.flt x) (.type "float")
 |lst {a:Addr}{xs:List V}(e:H a=some (.lst xs)):TyOf K H (.ref a) (.type "list")
 |frz {a:Addr}{o:Obj}{xs:List V}(e:H a=some (.frz o (.lst xs))):TyOf K H (.ref a) (.type "list")
 |tup {a:Addr}{xs:List V}(e:H a=some (.tup xs)):TyOf K H (.ref a) (.type "tuple")
 |dK {a:Addr}{kvs:List (Key×V)}(e:H a=some (.dK kvs)):TyOf K H (.ref a) (.type "dict")
 |dT {a:Addr}{C:Addr->List Key->Prop}{kvs:List (List Key×V)}(e:H a=some (.dT C kvs)):TyOf K H (.ref a) (.type "dict")
 |ins {a C dx:Addr}{fs:List (Str×V)}(e:H a=some (.ins C dx fs)) (cl:Cls K C) (ha:PySem.W.findIn K (.ref C) "__class__"=some (some (.builtin "object.__class__")))
   (hn:PySem.W.specialIn K (.builtin "object.__class__") "__get__"=some (some (.builtin "getset_descriptor.__get__"))) (htk:PySem.W.takesIn K (.builtin "object.__class__")=some true)
   (hm:PySem.W.mroIn K C (.type "object")=some true):TyOf K H (.ref a) (.ref C)
theorem a3M{x:V}{t:Value}(I:Inv X pins σ H s)(rx:y1_ x u)(ty:TyOf X.K H x t)(e:PySem.W.kitOne X.K t c=some b)(h:∀tk,Q (.bool b) {s with toks:=tk}):
  wpAny (model X.prog X.w) A (call (.builtin "isinstance") [u,c]) Q E s:=by
 cases ty with
 |non=>cases (show u=Value.none from rx);exact Zm PySem.W.kitx_none I.kIn True.intro e (fun z=>nomatch z) h
 |bl y=>cases (show u=Value.bool y from rx);exact Zm PySem.W.kitx_bool I.kIn True.intro e (fun z=>nomatch z) h
 |int i=>obtain⟨t,q⟩:=(show∃t,u=Value.int i t from rx);cases q;exact Zm PySem.W.kitx_int I.kIn True.intro e (fun z=>nomatch z) h
 |str y=>obtain⟨t,q⟩:=(show∃t,u=Value.str y t from rx);cases q;exact Zm PySem.W.kitx_str I.kIn True.intro e (fun z=>nomatch z) h
 |flt y=>obtain⟨t,q⟩:=(show∃t,u=Value.float y t from rx);cases q;exact Zm PySem.W.kitx_float I.kIn True.intro e (fun z=>nomatch z) h
 |@lst a xs ea=>
  cases (show u=Value.ref a from rx)
  obtain⟨_,_,n,_,h1⟩:=(show w6_ X.prog X.w H s.heap a (.lst xs)from I.hok a _ ea)
  exact Zm Vg I.kIn ⟨_,h1,rfl⟩ e (fun z=>nomatch z) h
 |@frz a ob xs ea=>
  cases (show u=Value.ref a from rx)
  obtain⟨_,_,_,n,_,h1⟩:=(show w6_ X.prog X.w H s.heap a (.frz ob (.lst xs))from I.hok a _ ea)
  exact Zm Vg I.kIn ⟨_,h1,rfl⟩ e (fun z=>nomatch z) h
 |@tup a xs ea=>
  cases (show u=Value.ref a from rx)
  obtain⟨_,_,_,p⟩:=(show w6_ X.prog X.w H s.heap a (.tup xs)from I.hok a _ ea)
  obtain⟨o,h1,h2,_⟩:=p;exact Zm Xy I.kIn ⟨o,h1,h2⟩ e (fun z=>nomatch z) h
 |@dK a kvs ea=>
  cases (show u=Value.ref a from rx)
  obtain⟨_,_,vs,_,p⟩:=(show w6_ X.prog X.w H s.heap a (.dK kvs)from I.hok a _ ea)
  obtain⟨o,es,ep,h1,h2,_⟩:=p;exact Zm Vf I.kIn ⟨o,h1,h2.1⟩ e (fun z=>nomatch z) h
 |@dT a C kvs ea=>
  cases (show u=Value.ref a from rx)
  obtain⟨_,_,xs,_,o,es,ep,h1,h2,_⟩:=(show w6_ X.prog X.w H s.heap a (.dT C kvs)from I.hok a _ ea)
  exact Zm Vf I.kIn ⟨o,h1,h2.1⟩ e (fun z=>nomatch z) h
 |@ins a C dx fs ea cl ha hn htk hm=>
  cases (show u=Value.ref a from rx)
  obtain⟨mA,O,_⟩:=b7x I.hok ea;obtain⟨od,J,_⟩:=O.look;exact Zm (PySem.W.kitx_own (cl.get _) cl.hd ha hn htk hm) I.kIn J e (fun z=>nomatch z) h
end
structure Room(k:Nat)(A:Around):Prop where
 hd:A.handled=none
 dp:A.depth+3 * k+5<recursionLimit
 un:A.units+16 * k+200<cLine
theorem Room.mono(r:Room k A)(h:j≤k):Room j A:=⟨r.hd,by have:=r.dp;omega,by have:=r.un;omega⟩
theorem Room.deeper(r:Room (k+1) A)(env:Env):Room k (A.deeper env):=
 ⟨r.hd,by have:=r.dp;show A.depth+1+3 * k+5<_;omega,by have:=r.un;show A.units+3+16 * k+200<_;omega⟩
theorem Room.in1(r:Room (k+1) A):Room k A.in1:=
 ⟨r.hd,by have:=r.dp;show A.depth+3 * k+5<_;omega,by have:=r.un;show A.units+1+16 * k+200<_;omega⟩
theorem Room.depth(r:Room k A):A.depth<recursionLimit:=by have:=r.dp;omega
theorem Room.units(r:Room k A):A.units+64<cLine:=by have:=r.un;omega
def b1d:TA:=fun _ H Q=>Q [] H
def a7A(ta:TE)(tr:TA):TA:=fun σ H Q=>ta σ H fun x H1=>tr σ H1 fun xs H2=>Q (x::xs) H2
section
variable{t:TA}
theorem a1l:PA X [] b1d:=fun _ _ _ _ H Q I h=>Calls.spliced_nil ⟨[],H,I,.nil,h⟩
theorem a0g(ha:PE X e te)(hr:PA X es t)(hs:starEach (e::es) X.env=(false,eval e X.env)::starEach es X.env:=by rfl):PA X (e::es) (a7A te t):=by
 intro pos pins s σ H Q I h;rw[hs];show wpAny _ _ (spliced ((false,eval e X.env)::backTo pos (starEach es X.env))) _ _ s;refine Calls.spliced_cons (thn (ha pins s σ H _ I h) fun u s1 ⟨x,H1,I1,r1,q1⟩=>?_)
 exact thn (hr pos pins s1 σ H1 _ I1 q1) fun us s2 ⟨xs,H2,I2,r2,q2⟩=>⟨x::xs,H2,I2,.cons r1 r2,q2⟩
def b1e(t:TA):TE:=fun σ H Q=>t σ H fun xs H1=>xs.length≤sizeLine/\∀p,H1 p=none->Q (.ref p) (upd H1 p (.tup xs))
def b7y(t:TA):TE:=fun σ H Q=>t σ H fun xs H1=>xs.length≤sizeLine/\∀p,H1 p=none->Q (.ref p) (upd H1 p (.lst xs))
theorem b1f{x1}(h:PA X es t):PE X (.Tuple es x1 pos) (b1e t):=by
 intro pins s σ H Q I hq;refine wpAny_Tuple_spliced (thn (h pos pins s σ H _ I hq) fun us s1 ⟨xs,H1,I1,r,z,q⟩=>⟨by rw[←r.length];exact z,?_⟩)
 have hf:H1 s1.heap.objs.size=none:=I1.hok.fresh (Qy _)
 refine⟨.ref s1.heap.objs.size,upd H1 s1.heap.objs.size (.tup xs),I1.laid (t':=s1.toks) (fun b u e=>Qx _ e) (Qy _) ?_,rfl,q _ hf⟩
 exact⟨z,us,r,⟨_,Qg _ rfl,rfl,rfl,_,rfl⟩⟩
theorem b7z(h:PA X es t):PE X (.List es pos) (b7y t):=by
 intro pins s σ H Q I hq;refine wpAny_List_spliced (thn (h pos pins s σ H _ I hq) fun us s1 ⟨xs,H1,I1,r,z,q⟩=>⟨by rw[←r.length];exact z,?_⟩)
 have hf:H1 s1.heap.objs.size=none:=I1.hok.fresh (Qy _)
 refine⟨.ref s1.heap.objs.size,upd H1 s1.heap.objs.size (.lst xs),I1.laid (t':=s1.toks) (fun b u e=>Qx _ e) (Qy _) ?_,rfl,q _ hf⟩
 exact⟨z,us,0,r,Qg _ rfl⟩
end
abbrev Sp:=List V->Hp->VK->XK->Prop
variable{sp:Sp}
abbrev CXT:=List Env->Hp->Shared->XK->OE
variable{CX:CXT}
structure Env0(P:Program)(w:World)(K:Qz)(mg:OU)(base:Heap)(A:Around)(outer:List Env)(s:Shared)(H:Hp):Prop where
 frames:A.frames=some outer
 mod:Mod K mg base
 bs:∀b o,base.get? b=some o->s.heap.get? b=some o/\H b=none
 bsz:base.objs.size≤s.heap.objs.size
 funs:s.heap.FunFrames base outer
 frf:∀b∈frs outer,H b=none
 hok:HOk P w H s.heap
 bare:AllBare s.gens
def CE(outer:List Env)(P:Program)(w:World)(H:Hp)(s:Shared)(Q:VK)(u:Value)(s':Shared):Prop:=
 ∃v H',s'.os=s.os/\AllBare s'.gens/\Un (frs outer) [] H H' s.heap s'.heap/\HOk P w H' s'.heap/\y1_ v u/\Q v H'
def CR(CX:CXT)(outer:List Env)(P:Program)(w:World)(H:Hp)(s:Shared)(Q:VK)(E:XK)(r:Result)(s':Shared):Prop:=
 match r with
 |.ok (.ret u)=>CE outer P w H s Q u s'
 |.ok _=>False
 |.error e=>CX outer H s E e s'
structure FnOk(P:Program)(w:World)(K:Qz)(mg:OU)(base:Heap)(CX:CXT)(k:Nat)(f:Addr)(fd:FuncData)(ps:List Str)(sp:Sp):Prop where
 len:∀vs H Q E,sp vs H Q E->vs.length=ps.length
 run:∀(A:Around) (outer:List Env) (s:Shared) (H:Hp) (args:Args) (us:List Value) (vs:List V) (Q:VK) (E:XK),Room k A->Env0 P w K mg base A outer s H->BindsTo s fd args (ps.zip us)->v4_ vs us->sp vs H Q E->
  codeAny (model P w) A (.call (.ref f) args) (CR CX outer P w H s Q E) s
theorem FnOk.mono{f:Addr}(F:FnOk P w K mg base CX j f fd ps sp)(h:j≤k):
  FnOk P w K mg base CX k f fd ps sp:=⟨F.len,fun A outer s H args us vs Q E hr=>F.run A outer s H args us vs Q E (hr.mono h)⟩
theorem FnOk.imp{f:Addr}{sp':Sp}(F:FnOk P w K mg base CX k f fd ps sp)
  (h:∀vs H Q E,sp' vs H Q E->sp vs H Q E):FnOk P w K mg base CX k f fd ps sp':=
 ⟨fun vs H Q E q=>F.len vs H Q E (h _ _ _ _ q),fun A outer s H args us vs Q E hr he hb hv hs=>F.run A outer s H args us vs Q E hr he hb hv (h _ _ _ _ hs)⟩
theorem Env0.in1(e:Env0 P w K mg base A outer s H):
  Env0 P w K mg base A.in1 outer s H:=⟨e.frames,e.mod,e.bs,e.bsz,e.funs,e.frf,e.hok,e.bare⟩
theorem Inv.env0(I:Inv X pins σ H s):Env0 X.prog X.w X.K X.mg X.base X.A X.stack s H:=
 ⟨I.ok.frames,I.ok.mod,I.bs,Zp I.ok.bsz I.sz,I.stack,I.stkFree,I.hok,I.bare⟩
theorem Inv.after{Q:VK}(I:Inv X pins σ H s)(h:CE X.stack X.prog X.w H s Q u s'):EP X pins σ Q u s':=by
 obtain⟨v,H',os,bare,un,hok,r,q⟩:=h;obtain⟨hh,g,d,t,os'⟩:=s';obtain rfl:os'=s.os:=os;exact⟨v,H',I.call (h':=hh) (g':=g) (d':=d) (t':=t) (ch:=[]) un hok bare (fun b z=>absurd z (by simp)),r,q⟩
def a7B(sp:Sp)(dvs:List V)(E:XK)(t:TA):TE:=fun σ H Q=>t σ H fun vs H1=>sp (vs++dvs) H1 Q E
def a0M(K:Qz)(fd:FuncData)(ps:List Str)(ds:List Value):Prop:=
 ∀(s:Shared) (us:List Value),K.In s.heap->(us++ds).length=ps.length->BindsTo s fd ⟨us,[]⟩ (ps.zip (us++ds))
theorem a0M.all(h:∀us:List Value,us.length=ps.length->bindArgs fd ⟨us,[]⟩=pure (ps.zip us)):a0M K fd ps []:=fun s us _ hl=>by
 rw[Yh]at hl ⊢;exact .of_eq (h us hl)
def a4F(CX:CXT)(X:Cx)(E:XK):Prop:=∀(pins:OX) (σ:St) (H:Hp) (s:Shared) (e:Value) (s':Shared),Inv X pins σ H s->CX X.stack H s E e s'->X.xe e s'
section
variable{f:Addr}{dvs:List V}{ds:List Value}{E:XK}{m:Str}{apos:Pos}{o:Expr}{t:TA}
theorem b1g{Q:VK}(F:FnOk X.prog X.w X.K X.mg X.base CX k f fd ps sp)(hr:Room k X.A)(hb:a0M X.K fd ps ds)(hd:v4_ dvs ds)(hx:a4F CX X E)
  (I:Inv X pins σ H s)(r:v4_ vs us)(h:sp (vs++dvs) H Q E):wpAny (model X.prog X.w) X.A (call (.ref f) us) (EP X pins σ Q) X.xe s:=by
 have r2:v4_ (vs++dvs) (us++ds):=r.append hd
 have hl:(us++ds).length=ps.length:=by rw[←r2.length];exact F.len _ _ _ _ h
 refine wpAny_call (Xq (F.run X.A X.stack s H ⟨us,[]⟩ (us++ds) (vs++dvs) Q E hr I.env0 (hb s us I.kIn hl) r2 h) fun r s' hq=>?_)
 cases r with
 |error e=>exact hx pins σ H s e s' I hq
 |ok fl=>
  cases fl with
  |ret u=>exact I.after hq
  |next=>exact False.elim hq
  |brk=>exact False.elim hq
  |cont=>exact False.elim hq
theorem a4G(F:FnOk X.prog X.w X.K X.mg X.base CX k f fd ps sp)(hr:Room k X.A)(hg:Gl X x)(hm:X.mg x=some (.ref f))(hk:PySem.W.keepIn X.K (.ref f)=true)(hb:a0M X.K fd ps ds)(hd:v4_ dvs ds)(hx:a4F CX X E)
  (ha:PA X (e::es) t)(hdb:(x==("__debug__":Str))=false:=by decide)(he:starEach (e::es) X.env=(false,eval e X.env)::starEach es X.env:=by rfl)(hpl:(backTo pos (starEach es X.env)).any (·.1)=false:=by rfl):
  PE X (.Call (.Name x p) (e::es) [] pos) (a7B sp dvs E t):=by
 intro pins s σ H Q I h;refine Jc (a3K I hg hm ?_ hdb);refine PySem.W.callWith_K (h₀:=X.base) I.ok.mod.kin hk (thn (ha pos pins s σ H _ I h) fun us s1 ⟨vs,H1,I1,r,q⟩=>⟨I1.kIn,?_⟩) he hpl
 exact b1g F hr hb hd hx I1 r q
structure Mk(K:Qz)(C f:Addr):Prop where
 makes:PySem.W.makesIn K C=true
 init:PySem.W.findIn K (.ref C) "__init__"=some (some (.ref f))
 fn:PySem.W.isFn K (.ref f)=true
 kp:PySem.W.keepIn K (.ref C)=true
end
section
variable{f:Addr}{ks:List Str}{E:XK}{m:Str}{apos kpos:Pos}{o:Expr}{kws:List Keyword}{t tk:TA}{nm:Option Str}
structure KBinds(K:Qz)(fd:FuncData)(ps ks:List Str)(g:List Value->List Value->List Value)(gV:List V->List V->List V):Prop where
 to:∀(s:Shared) (us ws:List Value),K.In s.heap->(g us ws).length=ps.length->BindsTo s fd ⟨us,ks.zip ws⟩ (ps.zip (g us ws))
 rel:∀{vs:List V}{us:List Value}{zs:List V}{ws:List Value},v4_ vs us->v4_ zs ws->v4_ (gV vs zs) (g us ws)
variable{g:List Value->List Value->List Value}{gV:List V->List V->List V}
end
structure FnScope(N P:List Str)(sc:Scope):Prop where
 kind:sc.kind=.function
 co:sc.isCoroutine=false
 gen:sc.isGenerator=false
 nd:N.Nodup
 pre:N.take P.length=P
 par:∀x∈P,sc.names.lookup x=some .local∨sc.names.lookup x=some .cell
 nofree:∀y∈sc.names,y.2≠.free
theorem b1h{kindOf:Str->Option NameKind}{x:Str}:∀{binds:List (Str×Value)}{m:OU},(∀v,(x,v)∉binds)->bindL kindOf binds m x=m x
 |[],_,_=>rfl
 |(n,v)::r,m,h=>by
  unfold bindL;rw[b1h fun w hw=>h w (Zx _ hw)]
  split
  ·have:x≠n:=by rintro rfl;exact h v Zg
   simp[this]
  ·rfl
theorem b1i{kindOf:Str->Option NameKind}{x:Str}:∀{binds:List (Str×Value)}{m:OU},(∀v,(x,v)∉binds)->bindC kindOf binds m x=m x
 |[],_,_=>rfl
 |(n,v)::r,m,h=>by
  unfold bindC;rw[b1i fun w hw=>h w (Zx _ hw)]
  split
  ·rfl
  ·have:x≠n:=by rintro rfl;exact h v Zg
   simp[this]
theorem b1j{kindOf:Str->Option NameKind}{x:Str}{v:Value}:∀{P:List Str}{vs:List Value}{i:Nat}{m:OU},P.Nodup->P[i]? =some x->vs[i]? =some v->kindOf x=some .local->
  bindL kindOf (P.zip vs) m x=some v
 |[],_,_,_,_,h,_,_=>by simp at h
 |_::_,[],_,_,_,_,h,_=>by simp at h
 |p::P,w::vs,0,m,nd,h1,h2,hk=>by
  simp at h1 h2;subst h1;subst h2
  show bindL kindOf ((p,w)::P.zip vs) m p=_;unfold bindL;rw[b1h fun v hv=>(Jk.mp nd).1 (Uv hv).1,Qn hk]
  simp
 |p::P,w::vs,i+1,m,nd,h1,h2,hk=>by
  show bindL kindOf ((p,w)::P.zip vs) m x=_;unfold bindL;exact b1j (i:=i) (Jk.mp nd).2 (by simpa using h1) (by simpa using h2) hk
theorem b1k{kindOf:Str->Option NameKind}{x:Str}{v:Value}:∀{P:List Str}{vs:List Value}{i:Nat}{m:OU},P.Nodup->P[i]? =some x->vs[i]? =some v->kindOf x≠some .local->
  bindC kindOf (P.zip vs) m x=some v
 |[],_,_,_,_,h,_,_=>by simp at h
 |_::_,[],_,_,_,_,h,_=>by simp at h
 |p::P,w::vs,0,m,nd,h1,h2,hk=>by
  simp at h1 h2;subst h1;subst h2
  show bindC kindOf ((p,w)::P.zip vs) m p=_;unfold bindC;rw[b1i fun v hv=>(Jk.mp nd).1 (Uv hv).1,Ql hk]
  simp
 |p::P,w::vs,i+1,m,nd,h1,h2,hk=>by
  show bindC kindOf ((p,w)::P.zip vs) m x=_;unfold bindC;exact b1k (i:=i) (Jk.mp nd).2 (by simpa using h1) (by simpa using h2) hk
def start(N:List Str)(vs:List V):St:=vs.map some++List.replicate (N.length-vs.length) none
def u4_(CX:CXT)(P:Program)(w:World)(K:Qz)(mg:OU)(base:Heap)(N:List Str)(qual:Str)(scope:Scope)(f:Addr)(cd:Value)(A:Around)(outer:List Env)(s:Shared)(H:Hp)(E:XK):Cx where
 prog:=P
 w:=w
 K:=K
 mg:=mg
 base:=base
 A:=A.deeper (envOfC qual scope s.heap.objs.size f cd)
 N:=N
 s₀:=s
 H₀:=H
 env:=envOfC qual scope s.heap.objs.size f cd
 outer:=outer
 stack:=envOfC qual scope s.heap.objs.size f cd::outer
 ex:=[]
 calm:=true
 fn:=fun _=>true
 pn:=[]
 xe:=fun e s'=>wpAny (model P w) (A.deeper (envOfC qual scope s.heap.objs.size f cd)) (leaving (envOfC qual scope s.heap.objs.size f cd) e) (fun _ s''=>CX outer H s E e s'') (fun e' s''=>CX outer H s E e' s'') s'
theorem b1l{sc:Scope}(h:sc.names.lookup x=some .cell):∃c,(cellsFrom n sc.names []).lookup x=some c:=by
 have q:=Ug sc.names n [] (.inl h)
 exact Yq.mp q
theorem b1m{f:Addr}{cd:Value}{s1:Shared}{E:XK}
  (S:FnScope N ps scope)(hd:A.handled=none)(e0:Env0 P w K mg base A outer s H)(hl:vs.length=ps.length)(r:v4_ vs us)
  (x:InCallC s s.heap.objs.size (bindL (envOfC qual scope s.heap.objs.size f cd).kindOf (ps.zip us) fun _=>none) (cellsFrom (s.heap.objs.size+1) scope.names []) (bindC (envOfC qual scope s.heap.objs.size f cd).kindOf (ps.zip us) fun _=>none) s1):
  Inv (u4_ CX P w K mg base N qual scope f cd A outer s H E) [] (start N vs) H s1:=by
 have hpl:ps.length≤N.length:=by have:=Zc List.length S.pre;rw[Yk]at this;omega
 obtain⟨h1,tk,rfl,hk⟩:=x.done;have noA:∀b:Addr,b∉(u4_ CX P w K mg base N qual scope f cd A outer s H E).ex:=fun b z=>absurd (show b∈([]:List Addr)from z) (by simp)
 refine⟨⟨e0.mod,S.kind,rfl,rfl,Qy _,fun y z c h1 h2=>?_,fun y hy=>?_,fun y c _ h=>?_,fun _=>hd,Around.frames_deeper e0.frames,.inr ⟨rfl,rfl⟩,fun b z=>absurd z (noA b),e0.bs,e0.bsz,fun b _ _=>noA b,fun b z=>absurd z (noA b),e0.funs,e0.frf⟩,
  rfl,e0.bare,Un.kept hk,⟨_,x.toInCall.ns,fun i y v h1 h2 h3=>?_⟩,fun y c h=>⟨_,x.cell y c h⟩,e0.hok.fresh (Qy _),fun y c h=>?_,fun p hp=>absurd (show p∈([]:OX)from hp) (by simp),e0.hok.kept hk,?_⟩
 ·exact name_of_addr x.apart (Zk h1) (Zk h2)
 ·have hy:scope.names.lookup y=some .cell∨scope.names.lookup y=some .free:=hy
  rcases hy with hy|hy
  ·exact b1l hy
  ·exact absurd rfl (S.nofree _ (Zk hy))
 ·exact Uz (x.above y c (Zk h))
 ·have hi:i<vs.length:=by
   unfold start at h2
   by_cases hi:i<vs.length
   ·exact hi
   ·rw[List.getElem?_append_right (by simpa using hi)]at h2
    rw[Ju]at h2;split at h2<;>cases h2
  have ha:vs[i]? =some v:=by
   unfold start at h2;rw[Jx (by simpa using hi),Qa]at h2
   cases e:vs[i]? with
   |none=>rw[e]at h2;cases h2
   |some a=>rw[e]at h2;cases h2;rfl
  obtain⟨u,hu,rv⟩:=r.get ha;have hp:ps[i]? =some y:=by
   rw[←S.pre,List.getElem?_take_of_lt (by omega)];exact h1
  have ndP:ps.Nodup:=by rw[←S.pre];exact S.nd.sublist (List.take_sublist _ _)
  refine⟨u,rv,?_⟩
  rcases S.par y (Yl hp)with k|k
  ·exact .inl ⟨k,b1j ndP hp hu k⟩
  ·obtain⟨c,e⟩:=b1l (n:=s.heap.objs.size+1) k
   refine .inr ⟨.inl k,c,e,?_⟩;have q:=x.cell y c e;rw[b1k ndP hp hu (by show scope.names.lookup y≠_;rw[k];decide)]at q
   exact q
 ·exact e0.hok.fresh (Uz (x.above y c (Zk h)))
 ·unfold start
  show _=N.length;rw[Qs,Qv,Yz]
  omega
theorem a7C{f:Addr}{name:Str}{params:Arguments}{dV kV doc pm cdv ct oc:Value}{an od:Option Addr}
  {osl:Array (Option Value)}(lk:K.lookup f=some ⟨oc,od,.func (PySem.W.fnOf name qual params body scope dV kV doc pm an cdv ct),osl⟩)(hcd:PySem.W.codeIn K cdv qual=true)(S:FnScope N ps scope)
  (len:∀vs H Q E,sp vs H Q E->vs.length=ps.length)
  (hbody:∀(A:Around) (outer:List Env) (s:Shared) (H:Hp) (vs:List V) (Q:VK) (E:XK),Room k (A.deeper (envOfC qual scope s.heap.objs.size f cdv))->sp vs H Q E->
   ∃t,PSs (u4_ CX P w K mg base N qual scope f cdv A outer s H E) body t/\t {nx:=fun _ H'=>Q .non H',rt:=Q} (start N vs) H):
  FnOk P w K mg base CX (k+1) f (PySem.W.fnOf name qual params body scope dV kV doc pm an cdv ct) ps sp:=by
 refine⟨len,fun A outer s H args us vs Q E hr e0 hb r hsp=>?_⟩
 have hl:=len _ _ _ _ hsp
 have KX:K.In s.heap:=e0.mod.kin.keeps fun b o e=>(e0.bs b o e).1
 have lim:s.heap.NoLimit:=e0.mod.nolimit.keeps fun b o e=>(e0.bs b o e).1
 have hkind:∀y∈ps.zip us,scope.names.lookup y.1=some .local∨(scope.names.lookup y.1=some .cell/\((cellsFrom (s.heap.objs.size+1) scope.names []).lookup y.1).isSome=true):=fun⟨n,v⟩ hy=>by
  rcases S.par n (Uv hy).1 with q|q
  ·exact .inl q
  ·exact .inr ⟨q,Ug _ _ _ (.inl q)⟩
 refine codeAny_call_function hr.depth (KX _ _ lk) rfl S.co S.gen rfl (PySem.W.codeRec_of KX hcd) (hb _ _ _ _ ?_);refine wpAny_newFunctionEnv_cells S.kind hkind fun env he s1 x=>?_
 subst he;refine⟨lim.keeps x.toInCall.keep,codeAny_func ?_⟩;obtain⟨t,ht,hq⟩:=hbody A outer s H vs Q E (hr.deeper _) hsp;have I:Inv (u4_ CX P w K mg base N qual scope f cdv A outer s H E) [] (start N vs) H s1:=b1m S hr.hd e0 hl r x;refine Qt (ht [] s1 (start N vs) H _ I hq) (fun fl s' hs=>?_) fun e s' hs=>hs
 have fin:∀{σ':St}{H':Hp}{v:V}{u:Value},Inv (u4_ CX P w K mg base N qual scope f cdv A outer s H E) [] σ' H' s'->y1_ v u->Q v H'->CE outer P w H s Q u s':=
  fun{σ' H' v u} J rv q=>⟨v,H',J.os,J.bare,J.base,J.hok,rv,q⟩
 cases fl with
 |ret u=>
  obtain⟨v,σ',H',J,rv,q⟩:=hs;exact fin J rv q
 |next=>
  obtain⟨σ',H',J,q⟩:=hs;exact fin (v:=V.non) (u:=Value.none) J rfl q
 |brk=>
  obtain⟨_,_,_,q⟩:=hs;exact False.elim q
 |cont=>
  obtain⟨_,_,_,q⟩:=hs;exact False.elim q
section
variable{t:TA}{id T:String}{r:List V->Hp->VK->Prop}
def tCB(r:List V->Hp->VK->Prop)(t:TA):TE:=fun σ H Q=>t σ H fun vs H1=>r vs H1 Q
theorem a4H(hc:j8_ X (.builtin id) r)(hg:Gl X x)(hm:X.mg x=none)(hv:bootBuiltins x=some (.builtin id))(ha:PA X (e::es) t)(hn:x≠"__name__":=by decide)(hdb:(x==("__debug__":Str))=false:=by decide)
  (he:starEach (e::es) X.env=(false,eval e X.env)::starEach es X.env:=by rfl)(hpl:(backTo pos (starEach es X.env)).any (·.1)=false:=by rfl):PE X (.Call (.Name x p) (e::es) [] pos) (tCB r t):=by
 intro pins s σ H Q I h;refine Jc (a3L I hg hm hv ?_ hn hdb);exact PyProof.Rows.callWith_builtin1 (thn (ha pos pins s σ H _ I h) fun us s1 ⟨vs,H1,I1,r1,q1⟩=>hc pins s1 σ H1 vs us Q I1 r1 q1) he hpl
theorem a3N(hc:j8_ X (.type T) r)(hg:Gl X x)(hm:X.mg x=none)(hv:bootBuiltins x=some (.type T))(ha:PA X (e::es) t)(hn:x≠"__name__":=by decide)(hdb:(x==("__debug__":Str))=false:=by decide)
  (he:starEach (e::es) X.env=(false,eval e X.env)::starEach es X.env:=by rfl)(hpl:(backTo pos (starEach es X.env)).any (·.1)=false:=by rfl):PE X (.Call (.Name x p) (e::es) [] pos) (tCB r t):=by
 intro pins s σ H Q I h;refine Jc (a3L I hg hm hv ?_ hn hdb);exact Jn (thn (ha pos pins s σ H _ I h) fun us s1 ⟨vs,H1,I1,r1,q1⟩=>hc pins s1 σ H1 vs us Q I1 r1 q1) he hpl
end
end L2
namespace HT
open PySem PyProof.Rows
variable{sl:Addr}{vl vu:Value}
section
open PySem.SeqAt
open PySem.AutoSeq1 (wpAny_loadPart')
open PySem.MeetsSeq PySem.MeetsSeq2 PySem.MeetsSeq3
end
section
variable{prog:Program}{w:World}{A:Around}{E:OE}{s:Shared}
def sIx(n d:Nat):Option Int->Nat
 |none=>d
 |some v=>if v<0 then(v+(n:Int)).toNat else min v.toNat n
theorem sIx_none(n d:Nat):sIx n d none=d:=rfl
theorem sIx_nat(n d k:Nat):sIx n d (some (k:Int))=min k n:=by
 show(if(k:Int)<0 then((k:Int)+(n:Int)).toNat else min (k:Int).toNat n)=min k n
 rw[Ql (by omega),Yd]
theorem sIx_le(n d:Nat)(hd:d≤n)(o:Option Int):sIx n d o≤n:=by
 cases o with
 |none=>exact hd
 |some v=>
  show(if v<0 then(v+(n:Int)).toNat else min v.toNat n)≤n
  by_cases hv:v<0
  ·rw[Qn hv];omega
  ·rw[Ql hv];exact Xd _ _
theorem clip_eq(v:Int)(n d:Nat):(if v<0 then max (v+(n:Int)) 0 else min v (n:Int))=((sIx n d (some v):Nat):Int):=by
 show(if v<0 then max (v+(n:Int)) 0 else min v (n:Int))=(((if v<0 then(v+(n:Int)).toNat else min v.toNat n):Nat):Int)
 by_cases hv:v<0
 ·simp only[Qn hv];omega
 ·simp only[Ql hv];omega
theorem adjust_gen(lo hi:Option Int)(n:Nat):Builtin.Slice.sliceAdjust lo hi 1 (n:Int)=(((sIx n 0 lo:Nat):Int),((sIx n n hi:Nat):Int)):=by
 have h1:¬ ((1:Int)<0):=by omega
 unfold Builtin.Slice.sliceAdjust;simp only[h1,Yj];refine Uq ?_ ?_
 ·cases lo with
  |none=>rfl
  |some v=>exact clip_eq v n 0
 ·cases hi with
  |none=>rfl
  |some v=>exact clip_eq v n n
theorem places_gen(i j:Nat):Builtin.Slice.slicePlaces (i:Int) (j:Int) 1=j-i:=by
 unfold Builtin.Slice.slicePlaces;have h1:(1:Int)>0:=by omega
 simp only[h1,Zy,Int.ediv_one];split<;>omega
theorem slicePart_{v:Value}{o:Option Int}{Q:Option Int->Shared->Prop}(p:IsPart v o)(h:Q o s):wpAny (model prog w) A (Builtin.Slice.slicePartIndex v) Q E s:=by
 cases p with
 |none=>exact slicePart_none h
 |int i t=>exact slicePart_int h
theorem sliceApplied_gen{lo hi:Option Int}{n:Nat}{Q:Int×Int×Nat->Shared->Prop}(hs:s.heap.IsSliceOf sl vl vu .none)(pl:IsPart vl lo)(pu:IsPart vu hi)
  (h:Q (((sIx n 0 lo:Nat):Int),1,sIx n n hi-sIx n 0 lo) s):wpAny (model prog w) A (Builtin.Slice.sliceApplied (.ref sl) (pure (n:Int))) Q E s:=by
 obtain⟨os,hos,hcs,hds⟩:=id hs;unfold Builtin.Slice.sliceApplied Builtin.Slice.sliceFields;refine Qq (Qq (Ze hos hds (x:=vl) rfl (Qq (Ze hos hds (x:=vu) rfl (Qq (Ze hos hds (x:=.none) rfl (Qk ?_)))))));refine Qq (slicePart_none ?_);show wpAny _ _ (if((1:Int)==0)=true then _ else _) _ _ s
 rw[Ql (by decide)]
 refine Qq (slicePart_ pl (Qq (slicePart_ pu (Qq (Qk ?_)))));show wpAny _ _ (match Builtin.Slice.sliceAdjust lo hi 1 (n:Int)with|(lo,hi)=>pure (lo,(1:Int),Builtin.Slice.slicePlaces lo hi 1)) _ _ s
 rw[adjust_gen lo hi n];show wpAny _ _ (pure (((sIx n 0 lo:Nat):Int),(1:Int),Builtin.Slice.slicePlaces ((sIx n 0 lo:Nat):Int) ((sIx n n hi:Nat):Int) 1)) _ _ s;rw[places_gen];exact Qk h
theorem pick_gen(xs:Array Value)(i k:Nat):((List.range k).filterMap fun(m:Nat)=>xs[((i:Int)+(m:Int) * 1).toNat]?).toArray=((xs.toList.drop i).take k).toArray:=by
 have e:(fun(m:Nat)=>xs[((i:Int)+(m:Int) * 1).toNat]?)=fun m=>xs[i+m]?:=by
  funext m
  have:((i:Int)+(m:Int) * 1).toNat=i+m:=by omega
  rw[this]
 rw[e];have:=pick_run xs i k;rw[List.filterMap_map]at this;have e2:((fun x=>xs[x]?)∘fun x=>i+x)=fun m=>xs[i+m]?:=rfl
 rw[e2]at this;rw[this]
theorem getItem_tuple_cut{t:Addr}{items:Array Value}{lo hi:Option Int}{Q:OE}(ht:IsTup s.heap t items)(hs:s.heap.IsSliceOf sl vl vu .none)(pl:IsPart vl lo)(pu:IsPart vu hi)
  (hw:¬ (sIx items.size 0 lo=0/\sIx items.size items.size hi=items.size))
  (h:Q (.ref s.heap.objs.size) {s with heap:=s.heap.push {cls:=.type "tuple",data:=.seq ((items.toList.drop (sIx items.size 0 lo)).take (sIx items.size items.size hi-sIx items.size 0 lo)).toArray}})
  (hsz:items.size≤sizeLine):wpAny (model prog w) A (getItem (.ref t) (.ref sl)) Q E s:=by
 have htake:sizeOk (.seq ((items.toList.drop (sIx items.size 0 lo)).take (sIx items.size items.size hi-sIx items.size 0 lo)).toArray):=by
  show((items.toList.drop (sIx items.size 0 lo)).take (sIx items.size items.size hi-sIx items.size 0 lo)).toArray.size≤sizeLine;rw[Qm,Yk,Uj,Ud]
  omega
 have hj:sIx items.size items.size hi≤items.size:=sIx_le _ _ (Qy _) hi
 obtain⟨os,hos,hcs,hds⟩:=id hs;have hTs:s.TypeIs (.ref sl) "slice":=⟨os,hos,hcs⟩;unfold getItem
 try with_reducible refine Yn ?_
 first|refine Qq (Qk ?_)|skip
 refine Qq (wpAny_sequenceKey ht.typeIs (by decide) ?_)
 refine Qq (Yw (name:=Str.ofString "__getitem__") ht.typeIs Zu
  (Jf Zu ht.typeIs entry_tuple_getitem ?_ (args_tuple_getitem _ _)))
 show wpAny _ _ (Builtin.Tuple.tupleItemsOf (.ref t)>>=_) _ _ s;refine Qq (tupleItemsOf_ ht ?_);refine Qq (Uf hTs ?_);rw[Qn (by decide)]
 refine Qq (sliceApplied_gen hs pl pu ?_);have hno:¬ ((((sIx items.size 0 lo:Nat):Int)==0&&(1:Int)==1&&(sIx items.size items.size hi-sIx items.size 0 lo)==items.size)=true):=by
  intro q;rw[Qw,Qw]at q;have q1:((sIx items.size 0 lo:Nat):Int)=0:=eq_of_beq q.1.1;have q2:sIx items.size items.size hi-sIx items.size 0 lo=items.size:=eq_of_beq q.2;exact hw ⟨by omega,by omega⟩
 show wpAny _ _ (if(((sIx items.size 0 lo:Nat):Int)==0&&(1:Int)==1&&(sIx items.size items.size hi-sIx items.size 0 lo)==items.size)=true then _ else _) _ _ s
 rw[Ql hno,pick_gen]
 first
  |exact Qq (m:=Builtin.Tuple.tupleExact _) (Zd (Qk ⟨_,rfl,Qk h⟩) htake)
  |exact Qq (m:=Builtin.Tuple.tupleExact _) (Zd (Qq (Qk (Qk ⟨_,rfl,Qk h⟩))) htake)
  |exact Qq (Qq (m:=Builtin.Tuple.tupleExact _) (Zd (Qk (Qk ⟨_,rfl,Qk h⟩)) htake))
  |exact Qq (Qq (m:=Builtin.Tuple.tupleExact _) (Zd (Qk ⟨_,rfl,Qk h⟩) htake))
end
end HT
namespace L2
open PySem PySem.Spec PyProof.Rows
variable{H:Hp}{X:Cx}{i:Int}{its its' us:List Value}{j n t':Nat}{p:Addr}{pins:OX}{r:V->Option Int->Option Int->Hp->VK->Prop}{s:Shared}{u v:Value}{x y:V}{xs:List V}{α:Type}{σ:St}
abbrev TO:=St->Hp->(Option Int->Hp->Prop)->Prop
def PO(X:Cx)(e:Option Expr)(t:TO):Prop:=
 ∀(pins:OX) (s:Shared) (σ:St) (H:Hp) (Q:Option Int->Hp->Prop),Inv X pins σ H s->t σ H Q->
  wpAny (model X.prog X.w) X.A (evalPart e X.env) (fun u s'=>∃o H',Inv X pins σ H' s'/\IsPart u o/\Q o H') X.xe s
def b7A:TO:=fun _ H Q=>Q none H
def b7B(t:TE):TO:=fun σ H Q=>t σ H fun x H1=>∃i,x=.int i/\Q (some i) H1
theorem a5O{ns:List Int}:∀{us:List Value},v4_ (ns.map V.int) us->IntsAre us ns:=by
 induction ns with
 |nil=>intro us r;rw[Uo]at r;cases r;exact .nil
 |cons n ns ih=>
  intro us r;rw[Qu]at r;cases r with
  |cons r1 r2=>
   obtain⟨t,e⟩:=r1;subst e;exact .cons n t (ih r2)
section
variable{e:Expr}{te:TE}{lo hi:Option Expr}{tl th:TO}{pos p2:Pos}
theorem b7C:PO X none b7A:=by
 intro pins s σ H Q I h;rw[evalPart_none];exact Qk ⟨none,H,I,.none,h⟩
theorem b7D(h:PE X e te):PO X (some e) (b7B te):=by
 intro pins s σ H Q I hw;rw[evalPart_some];refine thn (h pins s σ H _ I hw) fun u s1 ⟨x,H1,I1,r1,q1⟩=>?_
 obtain⟨i,rfl,q⟩:=q1;obtain⟨t,rfl⟩:=r1;exact⟨some i,H1,I1,.int i t,q⟩
def SlR(X:Cx)(r:V->Option Int->Option Int->Hp->VK->Prop):Prop:=
 ∀(pins:OX) (s:Shared) (σ:St) (H:Hp) (x:V) (v vl vu:Value) (lo hi:Option Int) (sl:Addr) (Q:VK),Inv X pins σ H s->y1_ x v->s.heap.IsSliceOf sl vl vu .none->IsPart vl lo->IsPart vu hi->r x lo hi H Q->
  ∃T id,typeLookup (.type T) "__getitem__"=pure (some (.builtin id))/\s.TypeIs v T/\wpAny (model X.prog X.w) X.A (getItem v (.ref sl)) (EP X pins σ Q) X.xe s
theorem SlR.or{r':V->Option Int->Option Int->Hp->VK->Prop}(h:SlR X r)(h':SlR X r'):SlR X (fun x lo hi H Q=>r x lo hi H Q∨r' x lo hi H Q):=by
 intro pins s σ H x v vl vu lo hi sl Q I rx hs pl pu q
 rcases q with q|q
 ·exact h pins s σ H x v vl vu lo hi sl Q I rx hs pl pu q
 ·exact h' pins s σ H x v vl vu lo hi sl Q I rx hs pl pu q
def tSl(r:V->Option Int->Option Int->Hp->VK->Prop)(te:TE)(tl th:TO):TE:=fun σ H Q=>te σ H fun x H1=>tl σ H1 fun l H2=>th σ H2 fun u H3=>r x l u H3 Q
theorem b1n(hr:SlR X r)(he:PE X e te)(hl:PO X lo tl)(hu:PO X hi th):PE X (.Subscript e (.Slice lo hi none p2) pos) (tSl r te tl th):=by
 intro pins s σ H Q I h;refine Subscript_ (thn (he pins s σ H _ I h) fun v s1 ⟨x,H1,I1,r1,q1⟩=>?_)
 refine wpAny_Slice (thn (hl pins s1 σ H1 _ I1 q1) fun vl s2 ⟨l,H2,I2,pl,q2⟩=>thn (hu pins s2 σ H2 _ I2 q2) fun vu s3 ⟨u,H3,I3,pu,q3⟩=>?_)
 rw[evalPart_none];refine Qk ?_
 have I4:Inv X pins σ H3 {s3 with heap:=s3.heap.push {cls:=.type "slice",data:=.fields #[vl,vu,.none]}}:=I3.kept (t':=s3.toks) fun b ob q=>Qx _ q
 obtain⟨T,id,hT,ht,hg⟩:=hr pins {s3 with heap:=s3.heap.push {cls:=.type "slice",data:=.fields #[vl,vu,.none]}} σ H3 x v vl vu l u s3.heap.objs.size Q I4 r1 (Heap.IsSliceOf.new ..) pl pu q3
 show wpAny (model X.prog X.w) X.A (subscriptTail e (.Slice lo hi none p2) v (.ref s3.heap.objs.size)) (EP X pins σ Q) X.xe {s3 with heap:=s3.heap.push {cls:=.type "slice",data:=.fields #[vl,vu,.none]}}
 exact tail_any (ops:=[.ref s3.heap.objs.size,v]) ht hT hg (by with_unfolding_all rfl)
def a2f(xs:List V)(lo hi:Option Int):List V:=(xs.drop (HT.sIx xs.length 0 lo)).take (HT.sIx xs.length xs.length hi-HT.sIx xs.length 0 lo)
theorem b1o(xs:List V)(lo hi:Option Int):(a2f xs lo hi).length≤xs.length:=by
 unfold a2f;rw[Yk,Uj]
 omega
def b7E(K:Qz):V->Option Int->Option Int->Hp->VK->Prop:=fun x lo hi H Q=>∃a xs,x=.ref a/\SqT K H a xs/\
 ¬ (HT.sIx xs.length 0 lo=0/\HT.sIx xs.length xs.length hi=xs.length)/\∀p,H p=none->Q (.ref p) (upd H p (.tup (a2f xs lo hi)))
theorem a2A:SlR X (b7E X.K):=by
 intro pins s σ H x v vl vu lo hi sl Q I rx hs pl pu h;obtain⟨a,xs,rfl,hx,hw,q⟩:=h;cases rx;obtain⟨its,r,ht,hz⟩:=I.tuple hx;have hlen:its.toArray.size=xs.length:=by rw[Qm];exact r.length.symm
 refine⟨"tuple",_,Zu.lookup,ht.typeIs,?_⟩;refine HT.getItem_tuple_cut ht hs pl pu (by rw[hlen];exact hw) ?_ (by rw[hlen];exact hz)
 rw[hlen];refine⟨.ref s.heap.objs.size,_,I.laid (t':=s.toks) (o:=.tup (a2f xs lo hi)) (fun b ob q=>Qx _ q) (Qy _) ?_,rfl,q _ (I.hok.fresh (Qy _))⟩
 exact⟨Zp (b1o xs lo hi) hz,_,(r.drop (HT.sIx xs.length 0 lo)).take (HT.sIx xs.length xs.length hi-HT.sIx xs.length 0 lo),a0Y.new _ _⟩
theorem v4_.nil_iff(r:v4_ xs us):us=[]↔xs=[]:=by
 cases r with
 |nil=>simp
 |cons _ _=>simp
end
def ixN(n:Nat)(i:Int):Option Nat:=if 0≤i then(if i<n then some i.toNat else none)else if-(n:Int)≤i then some (i+n).toNat else none
def atI{α:Type}(xs:List α)(i:Int):Option α:=(ixN xs.length i).bind fun j=>xs[j]?
theorem b1p(h:ixN n i=some j):seqIndex? i n=some j/\j<n/\ -(n:Int)≤i/\i<n:=by
 unfold ixN at h
 by_cases h0:0≤i
 ·rw[Qn h0]at h
  by_cases h1:i<n
  ·rw[Qn h1]at h
   have e:i.toNat=j:=Yv h
   exact⟨by rw[seqIndex_of h0 h1,e],by omega,by omega,h1⟩
  ·rw[Ql h1]at h;cases h
 ·rw[Ql h0]at h
  by_cases h1: -(n:Int)≤i
  ·rw[Qn h1]at h
   have e:(i+n).toNat=j:=Yv h
   exact⟨by rw[seqIndex_neg (by omega) h1,e],by omega,h1,by omega⟩
  ·rw[Ql h1]at h;cases h
theorem a7D{xs:List α}{v:α}(h:atI xs i=some v):∃j,seqIndex? i xs.length=some j/\xs[j]? =some v/\j<xs.length/\ -(xs.length:Int)≤i/\i<xs.length:=by
 unfold atI at h;cases e:ixN xs.length i with
 |none=>rw[e]at h;cases h
 |some j=>
  rw[e]at h;obtain⟨h1,h2,h3,h4⟩:=b1p e;exact⟨j,h1,h,h2,h3,h4⟩
theorem a0z{xs:List α}{v:α}(h:xs[j]? =some v):atI xs (j:Int)=some v:=by
 have hj:j<xs.length:=(Qh.mp h).1
 have e:ixN xs.length (j:Int)=some j:=by
  unfold ixN;rw[Qn (by omega),Qn (by omega)];simp
 unfold atI;rw[e];exact h
theorem b1q(xs:List α)(v:α):atI (xs++[v]) (-1)=some v:=by
 have hl:(xs++[v]).length=xs.length+1:=by simp
 have e:ixN (xs++[v]).length (-1)=some xs.length:=by
  unfold ixN;rw[hl,Ql (by decide),Qn (by omega)]
  congr 1
  omega
 unfold atI;rw[e];show(xs++[v])[xs.length]? =some v
 simp
def a2B(b:Expr):Prop:=∀o i,subscripted b false o i=operate [o,i] (getItem o i)
def IxR(X:Cx)(r:R2):Prop:=
 ∀(value slice:Expr) (pins:OX) (s:Shared) (σ:St) (H:Hp) (x y:V) (v u:Value) (Q:VK),Inv X pins σ H s->y1_ x v->y1_ y u->r x y H Q->
  subscripted slice false v u=operate [v,u] (getItem v u)->wpAny (model X.prog X.w) X.A (subscriptTail value slice v u) (EP X pins σ Q) X.xe s
def MtR(X:Cx)(id:String)(r:V->List V->Hp->VK->Prop):Prop:=
 ∀(pins:OX) (s:Shared) (σ:St) (H:Hp) (x:V) (xs:List V) (v:Value) (us:List Value) (Q:VK),Inv X pins σ H s->y1_ x v->v4_ xs us->r x xs H Q->
  wpAny (model X.prog X.w) X.A (call (.builtin id) (v::us)) (EP X pins σ Q) X.xe s
section
variable{a b:Expr}{ta tb:TE}{pos:Pos}
theorem IxR.or{r r':R2}(h:IxR X r)(h':IxR X r'):IxR X (fun x y H Q=>r x y H Q∨r' x y H Q):=by
 intro value slice pins s σ H x y v u Q I rx ry q hs
 rcases q with q|q
 ·exact h value slice pins s σ H x y v u Q I rx ry q hs
 ·exact h' value slice pins s σ H x y v u Q I rx ry q hs
theorem MtR.or{id:String}{r r':V->List V->Hp->VK->Prop}(h:MtR X id r)(h':MtR X id r'):MtR X id (fun x xs H Q=>r x xs H Q∨r' x xs H Q):=by
 intro pins s σ H x xs v us Q I rx rs q
 rcases q with q|q
 ·exact h pins s σ H x xs v us Q I rx rs q
 ·exact h' pins s σ H x xs v us Q I rx rs q
theorem a4I{r:R2}(hr:IxR X r)(ha:PE X a ta)(hb:PE X b tb)(hs:a2B b):PE X (.Subscript a b pos) (tOp r ta tb):=by
 intro pins s σ H Q I h;exact Subscript_ (a7s ha hb I h fun v u s2 x y H2 I2 rx ry q=>hr a b pins s2 σ H2 x y v u Q I2 rx ry q (hs _ _))
def b1r(K:Qz):R2:=fun x y H Q=>∃p xs i v,x=.ref p/\y=.int i/\SqL K H p xs/\atI xs i=some v/\Q v H
def b1s(K:Qz):R2:=fun x y H Q=>∃p xs i v,x=.ref p/\y=.int i/\SqT K H p xs/\atI xs i=some v/\Q v H
def b1t:R2:=fun x y H Q=>∃z i c,x=.str z/\y=.int i/\z.length≤sizeLine/\atI z.cps.toList i=some c/\Q (.str ⟨#[c]⟩) H
theorem a4J:IxR X (b1r X.K):=by
 intro value slice pins s σ H x y v u Q I rx ry h hs;obtain⟨p,xs,i,z,rfl,rfl,hq,he,q⟩:=h;cases rx;obtain⟨t,rfl⟩:=ry;obtain⟨its,r,pl,hz⟩:=I.list hq;obtain⟨j,h1,h2,h3,h4,h5⟩:=a7D he;obtain⟨w,ew,rw'⟩:=r.get h2;have hl:=r.length;have hn:=a4E;have fin:EP X pins σ Q w s:=⟨z,H,I,rw',q⟩
 by_cases h0:0≤i
 ·have hj:i.toNat=j:=by
   rw[seqIndex_of h0 h5]at h1;exact Yv h1
  exact item_listR pl.isList h0 (by omega) (by rw[hj];simpa using ew) fin hs
 ·have hj:(i+(its.toArray.size:Int)).toNat=j:=by
   rw[seqIndex_neg (by omega) h4]at h1
   rw[Qm,←hl];exact Yv h1
  exact subscriptTail_builtinR (x:=w) pl.isList.typeIs slot_list_getitem.lookup
   (wpAny_getItem_list_neg (Q:=fun r s'=>r=w/\EP X pins σ Q r s') pl.isList (by omega) (by rw[Qm]<;>omega) (by omega) (by rw[hj];simpa using ew) ⟨rfl,fin⟩) hs
theorem b7F:IxR X (b1s X.K):=by
 intro value slice pins s σ H x y v u Q I rx ry h hs;obtain⟨p,xs,i,z,rfl,rfl,hq,he,q⟩:=h;cases rx;obtain⟨t,rfl⟩:=ry;obtain⟨its,r,pl,hz⟩:=I.tuple hq;obtain⟨j,h1,h2,h3,h4,h5⟩:=a7D he;obtain⟨w,ew,rw'⟩:=r.get h2;have hl:=r.length;have hn:=a4E;have fin:EP X pins σ Q w s:=⟨z,H,I,rw',q⟩;exact subscriptTail_builtinR (x:=w) pl.typeIs slot_tuple_getitem.lookup
  (getItem_tuple (j:=j) (Q:=fun r s'=>r=w/\EP X pins σ Q r s') pl (by omega) (by omega) (by rw[Qm,←hl];exact h1) (by simpa using ew) ⟨rfl,fin⟩) hs
theorem b7G:IxR X b1t:=by
 intro value slice pins s σ H x y v u Q I rx ry h hs;obtain⟨z,i,c,rfl,rfl,hz,he,q⟩:=h;obtain⟨t,rfl⟩:=rx;obtain⟨t',rfl⟩:=ry;obtain⟨j,h1,h2,h3,h4,h5⟩:=a7D he;have hl:z.cps.toList.length=z.length:=by simp[Str.length]
 rw[hl]at h1 h4 h5;have hn:=a4E;exact tail_any (typeIs_str s z t) slot_str_getitem.lookup (getItem_str (c:=c) (by
  have e1:decide (i< -(2^63:Int))=false:=Zb (by omega)
  have e2:decide (i ≥ 2^63)=false:=Zb (by omega)
  rw[e1,e2,Bool.or_false]) (by rw[h1];simpa using h2) ⟨.str ⟨#[c]⟩,H,I.tok _,⟨_,rfl⟩,q⟩) hs
def rIx(K:Qz):R2:=fun x y H Q=>b1r K x y H Q∨b1s K x y H Q∨b1t x y H Q
theorem b7H:IxR X (rIx X.K):=a4J.or (b7F.or b7G)
theorem b7I(its:List Value)(n j:Nat)(u:Value):Obj.mapSeq (·.setIfInBounds j u) {cls:=.type "list",data:=.seq its.toArray n}={cls:=.type "list",data:=.seq (its.set j u).toArray n}:=by
 simp[Obj.mapSeq]
theorem Inv.lst(I:Inv X pins σ H s)(h:H p=some (.lst xs)):
  ∃(its:List Value) (n:Nat),v4_ xs its/\s.heap.get? p=some {cls:=.type "list",data:=.seq its.toArray n}/\xs.length≤sizeLine:=by
 obtain⟨z,its,n,r,e⟩:=I.hok p _ h;exact⟨its,n,r,e,z⟩
theorem Inv.lstUpd{ys:List V}{n':Nat}{f:Obj->Obj}(I:Inv X pins σ H s)(h:H p=some (.lst xs))
  (ho:s.heap.get? p=some {cls:=.type "list",data:=.seq its.toArray n})(hf:f {cls:=.type "list",data:=.seq its.toArray n}={cls:=.type "list",data:=.seq its'.toArray n'})(r:v4_ ys its')(hz:ys.length≤sizeLine)(t:Nat):
  Inv X pins σ (upd H p (.lst ys)) {s with heap:=s.heap.update p f,toks:=t}:=by
 have e:(s.heap.update p f).get? p=some {cls:=.type "list",data:=.seq its'.toArray n'}:=by
  rw[Heap.get?_update_self f ho (by rw[hf]<;>rfl),hf]
 refine I.write (x:=p) (e:=p) (by rw[h];trivial) (.inl rfl) (fun b u hb q=>(Heap.get?_update_other _ _ (Zn hb)).trans q) ⟨_,e⟩ ?_
 exact⟨hz,its',n',r,e⟩
def b7J:V->V->V->Hp->(Hp->Prop)->Prop:=fun o i v H Q=>∃p xs k j,o=.ref p/\i=.int k/\H p=some (.lst xs)/\ixN xs.length k=some j/\Q (upd H p (.lst (xs.set j v)))
theorem b1u:b0U X b7J:=by
 intro pins s σ H o i v ov iv u Q I ro ri rv h;obtain⟨p,xs,k,j,rfl,rfl,hp,hj,q⟩:=h;cases ro;obtain⟨t,rfl⟩:=ri;obtain⟨its,n,r,ho,hz⟩:=I.lst hp;obtain⟨h1,h2,h3,h4⟩:=b1p hj;have hl:=r.length;have hn:=a4E;have I':Inv X pins σ (upd H p (.lst (xs.set j v))) {s with heap:=s.heap.update p (Obj.mapSeq (·.setIfInBounds j u))}:=
  I.lstUpd hp ho (b7I its n j u) (r.set rv j) (by rw[Zh];exact hz) s.toks
 by_cases h0:0≤k
 ·have hk:k.toNat=j:=by
   rw[seqIndex_of h0 h4]at h1;exact Yv h1
  exact PySem.W.ki_setAt ho h0 (by omega) (by rw[Qm,←hl];exact h4) (by rw[hk];exact⟨_,I',q⟩)
 ·have hk:(k+(its.toArray.size:Int)).toNat=j:=by
   rw[seqIndex_neg (by omega) h3]at h1
   rw[Qm,←hl];exact Yv h1
  exact PySem.W.ki_setBack ho (by omega) (by rw[Qm,←hl];exact h3) (by omega) (by rw[hk];exact⟨_,I',q⟩)
theorem b7K(lo hi:Option Int)(n:Nat):(sliceBounds lo hi none n).1=((HT.sIx n 0 lo:Nat):Int)/\(sliceBounds lo hi none n).2.1=((HT.sIx n n hi:Nat):Int)/\(sliceBounds lo hi none n).2.2=1:=by
 refine⟨?_,?_,rfl⟩
 ·cases lo with
  |none=>simp[sliceBounds,HT.sIx]
  |some i=>
   simp only[sliceBounds,HT.sIx,Option.getD_none,show(1:Int)>0 by decide,Zy]
   by_cases h:i<0
   ·simp only[h,Zy]<;>omega
   ·simp only[h,Yj]<;>omega
 ·cases hi with
  |none=>simp[sliceBounds,HT.sIx]
  |some i=>
   simp only[sliceBounds,HT.sIx,Option.getD_none,show(1:Int)>0 by decide,Zy]
   by_cases h:i<0
   ·simp only[h,Zy]<;>omega
   ·simp only[h,Yj]<;>omega
theorem b7L(its:List Value)(lo hi:Option Int):slicePick its.toArray lo hi none=((its.drop (HT.sIx its.length 0 lo)).take (HT.sIx its.length its.length hi-HT.sIx its.length 0 lo)).toArray:=by
 obtain⟨h1,h2,h3⟩:=b7K lo hi its.toArray.size;unfold slicePick;rw[h1,h2,h3];simp only[sliceRange_one,pick_run,Qm]<;>rfl
def b7M(K:Qz):V->Option Int->Option Int->Hp->VK->Prop:=fun x lo hi H Q=>∃a xs,x=.ref a/\SqL K H a xs/\∀p,H p=none->Q (.ref p) (upd H p (.lst (a2f xs lo hi)))
theorem b7N:SlR X (b7M X.K):=by
 intro pins s σ H x v vl vu lo hi sl Q I rx hs pl pu h;obtain⟨a,xs,rfl,hx,q⟩:=h;cases rx;obtain⟨its,r,ht,hz⟩:=I.list hx;have hlen:=r.length;refine⟨"list",_,slot_list_getitem.lookup,ht.isList.typeIs,?_⟩;refine wpAny_getItem_list_slice ht.isList hs pl pu .none (by simp) ?_ (by rw[Qm]<;>omega)
 rw[b7L,←hlen];refine⟨.ref s.heap.objs.size,_,I.laid (t':=s.toks) (o:=.lst (a2f xs lo hi)) (fun b ob q=>Qx _ q) (Qy _) ?_,rfl,q _ (I.hok.fresh (Qy _))⟩
 exact⟨Zp (b1o xs lo hi) hz,_,0,(r.drop (HT.sIx xs.length 0 lo)).take (HT.sIx xs.length xs.length hi-HT.sIx xs.length 0 lo),Qg _ rfl⟩
def a1m:V->Bool
 |.non=>true
 |.bl _=>true
 |.int _=>true
 |.str _=>true
 |_=>false
def eqV:V->V->Bool
 |.non,.non=>true
 |.bl a,.bl b=>a==b
 |.bl a,.int b=>(if a then 1 else 0)==b
 |.int a,.bl b=>a==(if b then 1 else 0)
 |.int a,.int b=>a==b
 |.str a,.str b=>a==b
 |_,_=>false
theorem b7O{A:Around}(ry:y1_ y u)(rx:y1_ x v)(fy:a1m y=true)(fx:a1m x=true):SeqAt.EqAt A s u v (eqV y x):=by
 cases y with
 |non=>
  cases ry;cases x with
  |non=>cases rx;exact SeqAt.EqAt.same _
  |bl b=>cases rx;exact SeqAt.EqAt.none_bool b
  |int b=>obtain⟨t,rfl⟩:=rx;exact SeqAt.EqAt.none_int b t
  |str b=>obtain⟨t,rfl⟩:=rx;exact SeqAt.EqAt.none_str b t
  |_=>exact absurd (show false=true from fx) Yx
 |bl a=>
  cases ry;cases x with
  |non=>cases rx;exact SeqAt.EqAt.bool_none a
  |bl b=>cases rx;exact SeqAt.EqAt.bool_bool a b
  |int b=>obtain⟨t,rfl⟩:=rx;exact SeqAt.EqAt.bool_int a b t
  |str b=>obtain⟨t,rfl⟩:=rx;exact SeqAt.EqAt.bool_str a b t
  |_=>exact absurd (show false=true from fx) Yx
 |int a=>
  obtain⟨t',rfl⟩:=ry;cases x with
  |non=>cases rx;exact SeqAt.EqAt.int_none a t'
  |bl b=>cases rx;exact SeqAt.EqAt.int_bool a t' b
  |int b=>obtain⟨t,rfl⟩:=rx;exact SeqAt.EqAt.int_int a t' b t
  |str b=>obtain⟨t,rfl⟩:=rx;exact SeqAt.EqAt.int_str a t' b t
  |_=>exact absurd (show false=true from fx) Yx
 |str a=>
  obtain⟨t',rfl⟩:=ry;cases x with
  |non=>cases rx;exact SeqAt.EqAt.str_none a t'
  |bl b=>cases rx;exact SeqAt.EqAt.str_bool a t' b
  |int b=>obtain⟨t,rfl⟩:=rx;exact SeqAt.EqAt.str_int a t' b t
  |str b=>obtain⟨t,rfl⟩:=rx;exact SeqAt.EqAt.str_str a t' b t
  |_=>exact absurd (show false=true from fx) Yx
 |_=>exact absurd (show false=true from fy) Yx
def eqU(x:V)(u:Value):Bool:=match u with
 |.none=>eqV .non x
 |.bool b=>eqV (.bl b) x
 |.int i _=>eqV (.int i) x
 |.str z _=>eqV (.str z) x
 |_=>false
theorem b1v(r:y1_ y u)(f:a1m y=true):eqU x u=eqV y x:=by
 cases y with
 |non=>cases r;rfl
 |bl b=>cases r;rfl
 |int i=>obtain⟨t,rfl⟩:=r;rfl
 |str z=>obtain⟨t,rfl⟩:=r;rfl
 |_=>exact absurd (show false=true from f) Yx
theorem a7E{x:V}:∀{xs:List V}{us:List Value},v4_ xs us->xs.all a1m=true->us.any (eqU x)=xs.any fun y=>eqV y x
 |_,_,.nil,_=>rfl
 |y::xs,u::us,.cons r t,f=>by
  rw[Ux,Qw]at f;rw[Xp,Xp,b1v r f.1,a7E t f.2]
theorem a5P{A:Around}{s:Shared}{x:V}{v:Value}(rx:y1_ x v)(fx:a1m x=true):∀{xs:List V}{us:List Value},v4_ xs us->xs.all a1m=true->∀u∈us,SeqAt.EqAt A s u v (eqU x u)
 |_,_,.nil,_=>fun u hu=>by cases hu
 |y::xs,u::us,.cons r t,f=>fun u' hu=>by
  rw[Ux,Qw]at f
  rcases Qr.mp hu with rfl|hu
  ·rw[b1v r f.1];exact b7O r rx f.1 fx
  ·exact a5P rx fx t f.2 u' hu
def inV(x:V)(xs:List V):Bool:=xs.any fun y=>eqV y x
def rIn(K:Qz)(neg:Bool):R2:=fun x y H Q=>∃p xs,y=.ref p/\(SqL K H p xs∨SqT K H p xs)/\a1m x=true/\xs.all a1m=true/\Q (.bl (if neg then !inV x xs else inV x xs)) H
theorem b7P:OpR X (compareOp .NotIn) (rIn X.K true):=by
 intro pins s σ H x y v u Q I rx ry h;obtain⟨p,xs,rfl,hq,fx,fs,q⟩:=h;cases ry
 rcases hq with hq|hq
 ·obtain⟨its,r,pl,hz⟩:=I.list hq
  refine SeqAt.notIn_listAt (eqU x) pl.isList (fun w hw=>a5P rx fx r fs w (by simpa using hw)) ⟨.bl _,H,I,rfl,?_⟩
  rw[show its.toArray.any (eqU x)=its.any (eqU x) by simp,a7E r fs]
  exact q
 ·obtain⟨its,r,pl,hz⟩:=I.tuple hq
  refine SeqAt.notIn_tupleAt (eqU x) pl (fun w hw=>a5P rx fx r fs w (by simpa using hw)) ⟨.bl _,H,I,rfl,?_⟩
  rw[show its.toArray.any (eqU x)=its.any (eqU x) by simp,a7E r fs]
  exact q
theorem w7_:j8_ X (.builtin "len") (fun xs H Q=>∃p ys,xs=[.ref p]/\(SqL X.K H p ys∨SqT X.K H p ys)/\Q (.int ys.length) H):=by
 intro pins s σ H xs us Q I r h;obtain⟨p,ys,rfl,hq,q⟩:=h;obtain⟨u,rfl,rx⟩:=a1O r;cases rx;have hn:=a4E
 rcases hq with hq|hq
 ·obtain⟨its,r',pl,hz⟩:=I.list hq
  have hlen:=r'.length
  exact Calls.call_len_list pl.isList (by simp only[Qm]<;>omega) ⟨.int ys.length,H,I.tok _,⟨s.toks+1,by rw[Qm,hlen]⟩,q⟩
 ·obtain⟨its,r',pl,hz⟩:=I.tuple hq
  have hlen:=r'.length
  exact len_tuple pl (by simp only[Qm]<;>omega) ⟨.int ys.length,H,I.tok _,⟨s.toks+1,by rw[Qm,hlen]⟩,q⟩
theorem j8_.or{f:Value}{r r':List V->Hp->VK->Prop}(h:j8_ X f r)(h':j8_ X f r'):j8_ X f (fun xs H Q=>r xs H Q∨r' xs H Q):=by
 intro pins s σ H xs us Q I rs q
 rcases q with q|q
 ·exact h pins s σ H xs us Q I rs q
 ·exact h' pins s σ H xs us Q I rs q
theorem a4K:j8_ X (.type "list") (fun xs H Q=>∃p ys,xs=[.ref p]/\(SqL X.K H p ys∨SqT X.K H p ys)/\∀l,H l=none->Q (.ref l) (upd H l (.lst ys))):=by
 intro pins s σ H xs us Q I r h;obtain⟨p,ys,rfl,hq,q⟩:=h;obtain⟨u,rfl,rx⟩:=a1O r;cases rx;have fin:∀(its:List Value),v4_ ys its->ys.length≤sizeLine->∀(h':Heap) (c':Nat),(∀b o',s.heap.get? b=some o'->h'.get? b=some o')->
   h'.get? s.heap.objs.size=some {cls:=.type "list",dict:=none,data:=.seq its.toArray c',slots:=#[]}->EP X pins σ Q (.ref s.heap.objs.size) {s with heap:=h'}:=fun its r' hz h' c' kp e=>
  ⟨.ref s.heap.objs.size,_,I.laid (t':=s.toks) kp (Qy _) (show w6_ X.prog X.w _ h' _ (.lst ys)from⟨hz,its,c',r',e⟩),rfl,q _ (I.hok.fresh (Qy _))⟩
 rcases hq with hq|hq
 ·obtain⟨its,r',pl,hz⟩:=I.list hq
  have hlen:=r'.length
  obtain⟨o,ho,hc,n,hd⟩:=pl.isList;exact call_list_seq p (.inl rfl) ho hc hd (fun h' c' kp e=>fin its r' hz h' c' kp e) (by simp only[Qm]<;>omega)
 ·obtain⟨its,r',pl,hz⟩:=I.tuple hq
  have hlen:=r'.length
  obtain⟨o,ho,hc,n,hd⟩:=pl;exact call_list_seq p (.inr rfl) ho hc hd (fun h' c' kp e=>fin its r' hz h' c' kp e) (by simp only[Qm]<;>omega)
theorem a0A:j8_ X (.type "tuple") (fun xs H Q=>∃p ys,xs=[.ref p]/\((SqL X.K H p ys/\∀l,H l=none->Q (.ref l) (upd H l (.tup ys)))∨(SqT X.K H p ys/\Q (.ref p) H))):=by
 intro pins s σ H xs us Q I r h;obtain⟨p,ys,rfl,h⟩:=h;obtain⟨u,rfl,rx⟩:=a1O r;cases rx
 rcases h with⟨hq,q⟩|⟨hq,q⟩
 ·obtain⟨its,r',pl,hz⟩:=I.list hq
  have hlen:=r'.length
  refine call_tuple_list pl.isList (fun h' kp=>?_) (by simp only[Qm]<;>omega)
  have I1:Inv X pins σ H {s with heap:=h'}:=I.kept (t':=s.toks) kp
  have I2:Inv X pins σ (upd H h'.objs.size (.tup ys)) {s with heap:=h'.push {cls:=.type "tuple",data:=.seq its.toArray}}:=
   I1.laid (t':=s.toks) (fun b o e=>Qx _ e) (Qy _) (show w6_ X.prog X.w _ _ _ (.tup ys)from⟨hz,its,r',a0Y.new _ _⟩)
  exact⟨.ref h'.objs.size,_,I2,rfl,q _ (I1.hok.fresh (Qy _))⟩
 ·obtain⟨its,r',pl,hz⟩:=I.tuple hq
  exact call_tuple_same pl ⟨.ref p,H,I,rfl,q⟩
def tyV(K:Qz)(T:String)(x:V)(H:Hp):Prop:=match x with
 |.str _=>T="str"
 |.int _=>T="int"
 |.ref p=>(T="list"/\ ∃xs,SqL K H p xs)∨(T="tuple"/\ ∃o,K.lookup p=some o/\o.cls=.type "tuple"/\o.dict=none)∨
   (T="dict"/\((∃kvs,H p=some (.dK kvs))∨ ∃C kvs,H p=some (.dT C kvs)))∨(T="set"/\ ∃S n,H p=some (.set S n))
 |_=>False
theorem b7Q{T:String}(I:Inv X pins σ H s)(r:y1_ x v)(ty:tyV X.K T x H):
  s.TypeIs v T/\∀a,v=.ref a->∃ob,s.heap.get? a=some ob/\ob.dict=none:=by
 cases x with
 |str z=>
  obtain⟨t,rfl⟩:=r;cases (show T="str" from ty)
  exact⟨typeIs_str s z t,fun _ e=>nomatch e⟩
 |int i=>
  obtain⟨t,rfl⟩:=r;cases (show T="int" from ty)
  exact⟨typeIs_int s i t,fun _ e=>nomatch e⟩
 |ref p=>
  cases r
  rcases ty with⟨rfl,xs,hq⟩|⟨rfl,o,hk,hc,hd⟩|⟨rfl,hk⟩|⟨rfl,S,n,hk⟩
  ·obtain⟨its,_,pl,_⟩:=I.list hq
   refine⟨pl.isList.typeIs,fun a e=>?_⟩
   cases e;obtain⟨o,n,e,c,hd,_⟩:=pl;exact⟨o,e,hd⟩
  ·refine⟨⟨o,I.kIn p o hk,hc⟩,fun a e=>?_⟩
   cases e;exact⟨o,I.kIn _ o hk,hd⟩
  ·have z:∃o,s.heap.get? p=some o/\o.ExactDict:=by
    rcases hk with⟨kvs,hk⟩|⟨C,kvs,hk⟩
    ·obtain⟨_,_,_,_,o,_,_,e,ex,_⟩:=I.hok p _ hk
     exact⟨o,e,ex⟩
    ·obtain⟨_,_,_,_,o,_,_,e,ex,_⟩:=I.hok p _ hk
     exact⟨o,e,ex⟩
   obtain⟨o,e,ex⟩:=z;refine⟨⟨o,e,ex.1⟩,fun a e2=>?_⟩
   cases e2;exact⟨o,e,ex.2.1⟩
  ·obtain⟨o,_,_,_,e,ex,_⟩:=I.hok p _ hk
   refine⟨⟨o,e,ex.1⟩,fun a e2=>?_⟩
   cases e2;exact⟨o,e,ex.2.1⟩
 |_=>exact False.elim ty
def tBM(K:Qz)(T:String)(r:V->List V->Hp->VK->Prop)(to:TE)(t:TA):TE:=fun σ H Q=>to σ H fun x H1=>tyV K T x H1/\t σ H1 fun xs H2=>r x xs H2 Q
variable{o e:Expr}{es:List Expr}{to:TE}{t:TA}{name:Str}{apos cpos:Pos}{T id:String}{r:V->List V->Hp->VK->Prop}
theorem a7F(pa:PlainAttrs T)(slot:Slot T name id)(hty:typeOf (.builtin id)=pure (.type "method_descriptor"))(hm:MtR X id r)(ho:PE X o to)(ha:PA X (e::es) t)
  (hbase:attributeBase o name X.env (eval o X.env)=eval o X.env:=by rfl)
  (hfew:((backTo cpos (starEach (e::es) X.env)).all (fun x=>!x.1)&&(backToKw cpos (keywordEach [] X.env)).all (fun x=>x.1.isSome)
   &&decide ((e::es).length+([]:List Keyword).length+(if([]:List Keyword).isEmpty then 0 else 1)<30))=true:=by rfl)
  (hline:(apos.endLine==cpos.line)=true:=by rfl)(hs:starEach (e::es) X.env=(false,eval e X.env)::starEach es X.env:=by rfl)(hplain:(backTo cpos (starEach es X.env)).any (·.1)=false:=by rfl):
  PE X (.Call (.Attribute o name apos) (e::es) [] cpos) (tBM X.K T r to t):=by
 intro pins s σ H Q I h;refine wpAny_Call_method_late hbase hfew hline rfl (thn (ho pins s σ H _ I h) fun v s1 ⟨x,H1,I1,r1,ty,q1⟩=>?_)
 obtain⟨h1,h2⟩:=b7Q I1 r1 ty;refine⟨T,id,pa,slot,hty,h1,h2,?_⟩;have hA:=ha cpos pins s1 σ H1 _ I1 q1;rw[hs]at hA ⊢;refine Calls.callWith_builtin (by show(false||(backTo cpos (starEach es X.env)).any (·.1))=false;rw[hplain]<;>rfl) (Calls.evalArgs_plain ?_)
 exact thn hA fun us s2 ⟨vs,H2,I2,r2,q2⟩=>hm pins s2 σ H2 x vs v us Q I2 r1 r2 q2
end
def MtM(X:Cx)(id:String)(r:V->List V->Hp->VK->Prop):Prop:=
 ∀(pins:OX) (s:Shared) (σ:St) (H:Hp) (x:V) (xs:List V) (v:Value) (us:List Value) (Q:VK),Inv X pins σ H s->y1_ x v->v4_ xs us->r x xs H Q->
  wpAny (model X.prog X.w) X.A (call (.builtin id) (v::us)) (EP X pins σ Q) X.xe s
theorem v4_.one:∀{x:V}{us:List Value},v4_ [x] us->∃u,us=[u]/\y1_ x u
 |_,_,.cons r .nil=>⟨_,rfl,r⟩
theorem v4_.zero:∀{us:List Value},v4_ [] us->us=[]
 |_,.nil=>rfl
theorem v4_.reverse(h:v4_ xs us):v4_ xs.reverse us.reverse:=by
 induction h with
 |nil=>exact .nil
 |cons r t ih=>rw[Xh,Xh];exact v4_.append ih (.cons r .nil)
theorem v4_.rep{xs:List V}{us:List Value}(h:v4_ xs us):∀k:Nat,v4_ (List.replicate k xs).flatten (List.replicate k us).flatten
 |0=>.nil
 |k+1=>by
  rw[Zs,Zs,Jw,Jw];exact v4_.append h (v4_.rep h k)
theorem b1w(its:List Value):∀(k:Nat) (acc:List Value),
  List.foldl (fun x1 x2=>x1++x2) acc.toArray (List.replicate k its.toArray)=(acc++(List.replicate k its).flatten).toArray
 |0,acc=>by simp
 |k+1,acc=>by
  have e:acc.toArray++its.toArray=(acc++its).toArray:=by simp
  have e2:(acc++its)++(List.replicate k its).flatten=acc++(List.replicate (k+1) its).flatten:=by
   rw[Zs,Jw,Yb]
  rw[←e2,←b1w its k (acc++its),←e,Zs,List.foldl_cons]
section
variable{l b:Addr}{ys zs:List V}
theorem Inv.lset{f:Array Value->Array Value}(I:Inv X pins σ H s)(hH:H l=some (.lst xs))
  (e:s.heap.get? l=some {cls:=.type "list",data:=.seq its.toArray n})(hf:f its.toArray=its'.toArray)(hv:v4_ ys its')(hz:ys.length≤sizeLine):
  Inv X pins σ (upd H l (.lst ys)) {s with heap:=s.heap.update l (Obj.mapSeq f),toks:=t'}:=by
 have q:=PySem.IsL.update e f
 rw[hf]at q;refine I.write (x:=l) (e:=l) (by rw[hH];exact trivial) (.inl rfl) (fun b' u hb hu=>(Heap.get?_update_other s.heap (Obj.mapSeq f) (Zn hb)).trans hu) ⟨_,q⟩ ?_
 exact⟨hz,its',_,hv,q⟩
theorem Inv.lnew(I:Inv X pins σ H s)(hv:v4_ ys its)(hz:ys.length≤sizeLine):
  Inv X pins σ (upd H s.heap.objs.size (.lst ys)) {s with heap:=s.heap.push {cls:=.type "list",data:=.seq its.toArray},toks:=t'}:=
 I.laid (fun _ _ q=>Qx _ q) (Qy _) ⟨hz,its,0,hv,Qg _ rfl⟩
theorem Inv.fresh(I:Inv X pins σ H s):H s.heap.objs.size=none:=I.hok.fresh (Qy _)
theorem Inv.lstM(I:Inv X pins σ H s)(hH:H l=some (.lst xs)):xs.length≤sizeLine/\∃(its:List Value) (n:Nat),v4_ xs its/\xs.length=its.length/\s.heap.get? l=some {cls:=.type "list",data:=.seq its.toArray n}:=by
 obtain⟨z,its,n,r,e⟩:=I.hok l _ hH;exact⟨z,its,n,r,r.length,e⟩
theorem b7R(h:n≤sizeLine):Builtin.List.listTooLong n=false:=by
 unfold Builtin.List.listTooLong;exact Zb (by omega)
end
def b7S:V->List V->Hp->VK->Prop:=fun x vs H Q=>∃l xs y,x=.ref l/\vs=[y]/\H l=some (.lst xs)/\xs.length<sizeLine/\Q .non (upd H l (.lst (xs++[y])))
theorem a7G:MtM X "list.append" b7S:=by
 intro pins s σ H x vs v us Q I rx rv h;obtain⟨l,xs,y,rfl,rfl,hH,hz,q⟩:=h;cases rx;obtain⟨u,rfl,ru⟩:=rv.one;obtain⟨z,its,n,r,hl,e⟩:=I.lstM hH;refine Vu F.slot_list_append ⟨_,e,rfl⟩ F.entry_list_append (F.args_list_append_2 _ _) (PySem.list_append l its.toArray n u (by rw[Qm];omega)) ⟨e,?_⟩
 refine⟨.non,_,I.lset (its':=its++[u]) hH e (by simp) (r.append (.cons ru .nil)) ?_,rfl,q⟩
 rw[Qs,List.length_singleton]
 omega
def b7T:V->List V->Hp->VK->Prop:=fun x vs H Q=>∃l b xs zs,x=.ref l/\vs=[.ref b]/\H l=some (.lst xs)/\H b=some (.lst zs)/\xs.length+zs.length≤sizeLine/\Q .non (upd H l (.lst (xs++zs)))
theorem b7U:MtM X "list.extend" b7T:=by
 intro pins s σ H x vs v us Q I rx rv h;obtain⟨l,b,xs,zs,rfl,rfl,hH,hB,hz,q⟩:=h;cases rx;obtain⟨u,rfl,ru⟩:=rv.one;cases ru;obtain⟨z,its,n,r,hl,e⟩:=I.lstM hH;obtain⟨z2,its2,n2,r2,hl2,e2⟩:=I.lstM hB;have hsz:its.toArray.size+its2.toArray.size≤sizeLine:=by rw[Qm,Qm];omega
 have hlong:¬ (!its.toArray.isEmpty&&Builtin.List.listTooLong (its.toArray.size+its2.toArray.size))=true:=by
  rw[b7R hsz,Bool.and_false];exact Yx
 refine Vu F.slot_list_extend ⟨_,e,rfl⟩ F.entry_list_extend (F.args_list_extend_2 _ _)
  (AutoSeq1.list_extend_list_list_0 l its.toArray n b its2.toArray n2 hlong (by rw[Qm];omega) (by omega)) ⟨e,e2,?_⟩
 refine⟨.non,_,I.lset (its':=its++its2) hH e (by simp) (r.append r2) ?_,rfl,q⟩
 rw[Qs]
 omega
theorem b1x(xs:List α)(k:Nat):(List.replicate k xs).flatten.length=k * xs.length:=by
 induction k with
 |zero=>simp
 |succ k ih=>rw[Zs,Jw,Qs,ih,Nat.succ_mul,Nat.add_comm]
section
variable{prog:Program}{w:World}{A:Around}{E:OE}
set_option maxRecDepth 100000 in
end
end L2
namespace Att
open PySem PySem.W PySem.Calls PyProof.Rows
variable{P:Params}{h:Heap}{l:OpenLaw}{n:Nat}
theorem ints_of_wellAll:∀(ns:List Int) (vs:List Value),WellAll P h vs (ns.map WData.int)->IntsAre vs ns:=by
 intro ns
 induction ns with
 |nil=>
  intro vs w;rw[Uo]at w;cases w;exact .nil
 |cons n ns ih=>
  intro vs w;rw[Qu]at w;cases w with
  |cons a b=>
   cases a;exact .cons _ _ (ih _ b)
theorem script_of(hn:l.most=some n){args:List WData}{vals:List Value}
  (hpre:l.row.toRowW.claim.pre args=true)(hwl:WellAll P h vals args):
  ∃a vs ns,vals=[Value.ref a]/\args=[WData.list (ns.map WData.int)]/\h.get? a=some {cls:=.type "list",data:=.seq vs.toArray}/\IntsAre vs ns/\ns.length≤n:=by
 have hsh:WShape.hasAll [] args [.list .int]=true:=(pre_splitW hpre).1
 have hc:l.pre.holds [] {args:=args}=true:=(pre_splitW hpre).2
 obtain⟨d,r,rfl,h1,h2⟩:=hasAllW_cons hsh;obtain rfl:=hasAllW_nil h2;obtain⟨xs,rfl,h3⟩:=hasW_list h1;obtain⟨ns,rfl⟩:=items_int h3;have hlen:ns.length≤n:=by
  unfold OpenLaw.pre at hc;have h4:(WTm.not (.lt (.lit (.int (n:Int))) (.len (.arg 0)))).holds [] {args:=[.list (ns.map .int)]}=true:=by
   have h4:=(holds_andW hc).1
   rw[hn]at h4;exact h4
  have h5:=condW_of h4 (w_not (w_lt w_lit (w_len_list (w_arg rfl))))
  rw[Qv]at h5;refine Nat.le_of_not_lt fun q=>?_
  have q':(n:Int)<((ns.length:Nat):Int):=by omega
  first
   |(rw[Xx q']at h5;exact absurd h5 (by decide))
   |(simp at h5;omega)
 cases hwl with
 |cons w1 w2=>
  cases w2;cases w1 with
  |list ho hall=>exact⟨_,_,ns,rfl,rfl,ho,ints_of_wellAll ns _ hall,hlen⟩
theorem post_true(l:OpenLaw)(args:List WData):l.row.toRowW.claim.post args (.bool true) args=true:=
 postW_of (r:=l.row.toRowW) (X:=(true==true))
  (show WShape.has [] (.bool true) .bool=true by first|rfl|decide|simp[WShape.has,WShape.arms,WShape.armsAll])
  (show(WTm.eq .res (.lit (.bool true))).value [] {args:=args,res:=some (.bool true),after:=args}=some (.bool (true==true))from w_eq_bool (w_res rfl) w_lit) rfl
theorem attach_call{q:Program}{loose:List Str}{XP:(OU)->Heap->Prop}{YP:World->Heap->Prop}{d:DefRec}
  (hn:l.most=some n)(hdf:d.params.defaults=[])
  (call:∀(w:World) (s₀ s₁:Shared) (mg mb:OU) (fa:Addr) (o:Obj) (pm cd doc:Value) (a:Addr) (vs:List Value) (ns:List Int),
   Ground q loose [] XP w s₀ mg mb s₁.heap->YP w s₁.heap->
   s₁.heap.get? fa=some o->o.data=.func (docDef d.name d.params d.body d.scope pm cd doc)->s₁.heap.CodeRec cd d.name->mg d.name=some (.ref fa)->
   s₁.heap.get? a=some {cls:=.type "list",data:=.seq vs.toArray}->IntsAre vs ns->ns.length≤n->s₁.gens= #[]->
   codeAny (model l.prog w) callerA (.call (.ref fa) ⟨[.ref a],[]⟩) (fun r s'=>r=.ok (.ret (.bool true))/\OldK s₁.heap s'.heap/\s'.os=s₁.os/\AllBare s'.gens) s₁):
  WalkO q loose XP YP l.row.toRowW d [] (fun f vs=>PySem.call f vs):=by
 intro w s₀ s₁ mg mb G Y fa o pm cd doc dV kV ho hd hcd hD hmg hg args vals as hpre hlay hrd hwl hlo;obtain rfl:dV=.none:=Dflts.none hD hdf;obtain rfl:kV=.none:=Dflts.noKw hD;obtain⟨a,vs,ns,rfl,rfl,hobj,hints,hlen⟩:=script_of hn hpre hwl;refine enter_call (Xq (call w s₀ s₁ mg mb fa o pm cd doc a vs ns G Y ho (fd_plain hd) hcd hmg hobj hints hlen hg) fun r s' hq=>?_)
 obtain⟨rfl,h2,h3,h4⟩:=hq;exact⟨.inl ⟨.bool true,.bool true,[],rfl,fun _=>rfl,.bool true,post_true l _,fun _=>⟨List.Pairwise.nil,fun _ hm=>(nomatch hm)⟩⟩,h2,h3,h4⟩
section
variable{prog:Program}{w:World}{A:Around}{E:OE}{s:Shared}{K:Frag}
end
end Att
namespace L2
open PySem PySem.Spec PyProof.Rows
variable{C:Addr->List Key->Prop}{H H':Hp}{P:Program}{X:Cx}{a:Addr}{fd:FuncData}{kvs:List (List Key×V)}{pos:Pos}{ps:List Str}{qual x:Str}{u:Value}{w:World}{xs:List (List Key×Addr×Value)}{y:V}
theorem b1y:∀{vs:List Value}{ns:List Int},IntsAre vs ns->v4_ (ns.map V.int) vs
 |_,_,.nil=>.nil
 |_,_,.cons n t h=>.cons ⟨t,rfl⟩ (b1y h)
def a3h(s:Stmt):Arguments:=match s with
 |.FunctionDef _ a _ _ _ _ _ _ _ _=>a
 |_=>{posonlyargs:=[],args:=[],vararg:=none,kwonlyargs:=[],kw_defaults:=[],kwarg:=none,defaults:=[]}
def a1n(s:Stmt):List Stmt:=match s with
 |.FunctionDef _ _ b _ _ _ _ _ _ _=>b
 |_=>[]
def y2_(s:Stmt):Scope:=match s with
 |.FunctionDef _ _ _ _ _ _ sc _ _ _=>sc
 |_=>{kind:=.function,names:=[],isGenerator:=false,isCoroutine:=false}
abbrev CX0:CXT:=fun _ _ _ _ _ _=>False
abbrev E0:XK:=fun _ _ _=>False
theorem a4L:a4F CX0 X E0:=fun _ _ _ _ _ _ _ h=>h.elim
structure Fun(K:Qz)(x qual:Str)(st:Stmt)(f:Addr)(fd:FuncData):Prop where
 ex:∃(oc:Value) (od:Option Addr) (kV doc pm:Value) (an:Option Addr) (cdv ct:Value) (osl:Array (Option Value)),
  fd=PySem.W.fnOf x qual (a3h st) (a1n st) (y2_ st) .none kV doc pm an cdv ct/\K.lookup f=some ⟨oc,od,.func fd,osl⟩/\PySem.W.codeIn K cdv qual=true
 kp:PySem.W.keepIn K (.ref f)=true
section
variable{K:Qz}{mg:OU}{base:Heap}
theorem Fun.ok{st:Stmt}{f:Addr}{N:List Str}{k:Nat}{sp:Sp}(F:Fun K x qual st f fd)(S:FnScope N ps (y2_ st))(len:∀vs H Q E,sp vs H Q E->vs.length=ps.length)
  (hbody:∀(cdv:Value) (A:Around) (outer:List Env) (s:Shared) (H:Hp) (vs:List V) (Q:VK) (E:XK),Room k (A.deeper (envOfC qual (y2_ st) s.heap.objs.size f cdv))->sp vs H Q E->
   ∃t,PSs (u4_ CX0 P w K mg base N qual (y2_ st) f cdv A outer s H E).nox (a1n st) t/\t {nx:=fun _ H'=>Q .non H',rt:=Q} (start N vs) H):FnOk P w K mg base CX0 (k+1) f fd ps sp:=by
 obtain⟨oc,od,kV,doc,pm,an,cdv,ct,osl,rfl,lk,hcd⟩:=F.ex;refine a7C lk hcd S len fun A outer s H vs Q E hr hsp=>?_
 obtain⟨t,h,q⟩:=hbody cdv A outer s H vs Q E hr hsp;exact⟨t,h.nox,q⟩
theorem Fun.binds{st:Stmt}{f:Addr}(F:Fun K x qual st f fd)
  (h:∀(kV doc pm:Value) (an:Option Addr) (cdv ct:Value) (us:List Value),us.length=ps.length->bindArgs (PySem.W.fnOf x qual (a3h st) (a1n st) (y2_ st) .none kV doc pm an cdv ct) ⟨us,[]⟩=pure (ps.zip us)):a0M K fd ps []:=by
 obtain⟨oc,od,kV,doc,pm,an,cdv,ct,osl,rfl,lk,hcd⟩:=F.ex;exact .all (h kV doc pm an cdv ct)
theorem b7V{st:Stmt}{f:Addr}{oc:Value}{od an:Option Addr}{osl:Array (Option Value)}{kV doc pm cdv ct:Value}(l:K.lookup f=some ⟨oc,od,.func (PySem.W.fnOf x qual (a3h st) (a1n st) (y2_ st) .none kV doc pm an cdv ct),osl⟩)
  (c:PySem.W.codeIn K cdv qual=true)(k:PySem.W.keepIn K (.ref f)=true):Fun K x qual st f (PySem.W.fnOf x qual (a3h st) (a1n st) (y2_ st) .none kV doc pm an cdv ct):=⟨⟨oc,od,kV,doc,pm,an,cdv,ct,osl,rfl,l,c⟩,k⟩
end
theorem a5Q{n:Nat}(h:n≤1000):n<sizeLine:=Vq h (by decide)
theorem pv(i:Nat)(hN:X.N[i]? =some x:=by rfl)(hv:Vis X.env.scope x:=by first|exact Or.inl rfl|exact Or.inr (Or.inl rfl)|exact Or.inr (Or.inr rfl))(hd:(x==("__debug__":Str))=false:=by decide)
  (hcd:(x==("__classdict__":Str))=false:=by decide):PE X (.Name x pos) (a0L i):=a7l hN hv hd hcd
def a1P(H H':Hp):Prop:=∀b o,H b=some o->H' b=some o
theorem a1P.refl(H:Hp):a1P H H:=fun _ _ h=>h
theorem a1P.trans{H1 H2:Hp}(a:a1P H H1)(b:a1P H1 H2):a1P H H2:=fun c o h=>b c o (a c o h)
theorem a1P.free(e:a1P H H'){l:Addr}(h:H' l=Option.none):H l=Option.none:=by
 cases q:H l with
 |none=>rfl
 |some o=>
  rw[e l o q]at h;cases h
theorem a1P.seq{K:Qz}{xs:List V}(e:a1P H H')(h:SqL K H a xs):SqL K H' a xs:=by
 rcases h with(h|⟨o,h⟩)|h
 ·exact .inl (.inl (e _ _ h))
 ·exact .inl (.inr ⟨o,e _ _ h⟩)
 ·exact .inr h
section
variable{κ:Type}[DecidableEq κ]
def a1Q(kvs:List (κ×V))(k:κ):Option V:=(kvs.find? fun kv=>decide (kv.1=k)).map (·.2)
def a1R(kvs:List (κ×V))(k:κ)(v:V):List (κ×V):=
 if(kvs.any fun kv=>decide (kv.1=k))=true then kvs.map (fun kv=>if kv.1=k then(kv.1,v)else kv)else kvs++[(k,v)]
theorem a5R{p:κ×V}{r:List (κ×V)}{k:κ}(e:p.1=k):a1Q (p::r) k=some p.2:=by simp[a1Q,Xz,e]
theorem a5S{p:κ×V}{r:List (κ×V)}{k:κ}(e:¬ p.1=k):a1Q (p::r) k=a1Q r k:=by simp[a1Q,Xz,e]
theorem a7H(k:κ):∀kvs:List (κ×V),(kvs.any fun kv=>decide (kv.1=k))=(a1Q kvs k).isSome
 |[]=>rfl
 |p::r=>by
  rw[Xp]
  by_cases e:p.1=k
  ·simp only[a5R e,Xx e,Bool.true_or,Option.isSome_some]
  ·rw[a5S e,Zb e,Xb];exact a7H k r
theorem b1z(kvs:List (κ×V))(k:κ)(v:V):(a1R kvs k v).length≤kvs.length+1:=by
 unfold a1R;split
 ·rw[Qv];omega
 ·rw[Qs,Yy,Xi];omega
end
theorem a2d.isSome_eq{o:Option V}{u:Option Value}(r:a2d o u):o.isSome=u.isSome:=by
 cases o with
 |none=>cases u with
  |none=>rfl
  |some _=>exact(show False from r).elim
 |some _=>cases u with
  |none=>exact(show False from r).elim
  |some _=>rfl
theorem b7W{k:Key}(r:y1_ (kV k) u):(a1k P w).is k u=true:=by
 cases k with
 |inl i=>obtain⟨t,e⟩:=(show∃t,u=Value.int i t from r);subst e;exact b6g P w i t
 |inr x=>obtain⟨t,e⟩:=(show∃t,u=Value.str x t from r);subst e;exact b6h P w x t
theorem a7I{P:Program}{w:World}:∀{ks:List Key}{us:List Value},v4_ (ks.map kV) us->ItemsAre (a1k P w) ks us
 |[],_,r=>by rw[Uo]at r;cases r;exact .nil
 |k::ks,_,r=>by
  rw[Qu]at r;cases r with
  |cons h t=>exact .cons (b7W h) (a7I t)
abbrev KT(C:Addr->List Key->Prop)(H:Hp):List (List Key×V)->List (List Key×Addr×Value)->Prop:=Paired fun p q=>p.1=q.1/\(H q.2.1=some (.tup (p.1.map kV))∨C q.2.1 p.1)/\y1_ p.2 q.2.2
theorem KT.val(r:KT C H kvs xs)(k:List Key):a2d (a1Q kvs k) ((atKey xs k).map (·.2)):=by
 induction r with
 |nil=>exact True.intro
 |@cons p q ps qs h t ih=>
  obtain⟨h1,_,h2⟩:=h
  by_cases e:p.1=k
  ·have e':q.1=k:=h1.symm.trans e
   have b:atKey (q::qs) k=some q.2:=by simp[atKey,Xz,e']
   rw[a5R e,b];exact h2
  ·have e':¬ q.1=k:=fun z=>e (h1.trans z)
   have b:atKey (q::qs) k=atKey qs k:=by simp[atKey,Xz,e']
   rw[a5S e,b];exact ih
theorem KT.repl(r:KT C H kvs xs)(k:List Key)(ry:y1_ y u):
  KT C H (kvs.map fun kv=>if kv.1=k then(kv.1,y)else kv) (xs.map (putAt k u)):=by
 induction r with
 |nil=>exact .nil
 |@cons p q ps qs h t ih=>
  rw[Qu,Qu];refine .cons ?_ ih;obtain⟨h1,h2,h3⟩:=h;unfold putAt
  by_cases e:p.1=k
  ·rw[Qn e,Qn (h1.symm.trans e)];exact⟨h1,h2,ry⟩
  ·rw[Ql e,Ql (fun z=>e (h1.trans z))];exact⟨h1,h2,h3⟩
theorem KT.put(r:KT C H kvs xs)(k:List Key){b:Addr}(hb:H b=some (.tup (k.map kV))∨C b k)(ry:y1_ y u):
  KT C H (a1R kvs k y) (storedH xs k b u):=by
 have e:(kvs.any fun kv=>decide (kv.1=k))=(atKey xs k).isSome:=by
  rw[a7H,(r.val k).isSome_eq,Option.isSome_map]
 unfold a1R storedH;rw[e]
 by_cases q:(atKey xs k).isSome=true
 ·rw[Qn q,Qn q];exact r.repl k ry
 ·rw[Ql q,Ql q];exact Paired.snoc r ⟨rfl,hb,ry⟩
theorem KT.keeps(r:KT C H kvs xs)(ht:∀b ys,H b=some (.tup ys)->H' b=some (.tup ys)):KT C H' kvs xs:=
 Paired.mapP r fun _ _ z=>⟨z.1,z.2.1.imp (ht _ _) id,z.2.2⟩
section
variable{h:Heap}
theorem b7X{ks:List Key}(ok:HOk P w H h)(e:H a=some (.tup (ks.map kV))):(tupleKind (a1k P w)).is h ks a:=by
 obtain⟨_,its,r,o,h1,h2,_,n,h3⟩:=(show w6_ P w H h a (.tup (ks.map kV))from ok a _ e)
 exact⟨o,its.toArray,n,h1,h2,h3,by simpa using a7I r⟩
end
section
variable{pins:OX}{σ:St}{s:Shared}{v:V}{r:Value}{o:Option V}{A:Around}{E:OE}
theorem b7Y{h':Heap}{t':Nat}{ob:HO}(I:Inv X pins σ H s)(mu:Mut (H a))(hs:Heap.SameBut a s.heap h')(he:∃q,h'.get? a=some q)(new:w6_ X.prog X.w (upd H a ob) h' a ob):
  Inv X pins σ (upd H a ob) {s with heap:=h',toks:=t'}:=
 I.write (x:=a) (e:=a) mu (.inl rfl) (fun b q hb z=>(hs.2 b hb).trans z) he new
end
def b7Z(i:Expr):Prop:=∀ov iv,subscripted i false ov iv=operate [ov,iv] (getItem ov iv)
theorem b1A{prog:Program}{A:Around}{E:OE}{s:Shared}{env:Env}{value slice:Expr}{T id:String}{Q:OE}
  (hl:typeLookup (.type T) "__getitem__"=pure (some (.builtin id)))(hs:b7Z slice)
  (h:wpAny (model prog w) A (eval value env) (fun o s₁=>wpAny (model prog w) A (eval slice env) (fun i s₂=>s₂.TypeIs o T/\wpAny (model prog w) A (getItem o i) Q E s₂) E s₁) E s):
  wpAny (model prog w) A (eval (.Subscript value slice pos) env) Q E s:=by
 refine Subscript_ (Qt h (fun o s₁ h₁=>Qt h₁ (fun i s₂ h₂=>?_) fun _ _ x=>x) fun _ _ x=>x)
 obtain⟨hT,h₂⟩:=h₂;unfold subscriptTail;refine Qq ?_
 rw[getitemInPython_of_ne hT.not_modules];refine Qq (wpAny_specialOf hT hl ?_);have fin:wpAny (model prog w) A (subscripted slice false o i) (fun r s₃=>wpAny (model prog w) A (letTemporaryGo value o r>>=fun _=>pure r) Q E s₃) E s₂:=by
  rw[hs o i];exact wpAny_operating (Qt h₂ (fun r s₃ h₃=>Qq (wpAny_letTemporaryGo (Qk h₃))) fun _ _ x=>x)
 first
  |exact Qk (Qq fin)
  |exact Qq (Qk (Qq fin))
  |exact Qq fin
theorem Inv.big(I:Inv X pins σ H s):sysModules<s.heap.objs.size:=by
 have h:mainGlobals<s.heap.objs.size:=(I.mod.glob.keeps I.bk).lt
 exact Vz (by decide) h
end L2
namespace L2.Mir
open PySem PySem.Spec PyProof.Rows
variable{B:OA}{E:OE}{G G' G1 G2 H H' H1 H2:Hp}{N N':List Str}{Q:VK}{T:String}{X:Cx}{a p:Addr}{b c e elt iter tg:Expr}{es ifs:List Expr}{fp:List Addr}{i j k more n:Nat}{keep:List Bool}{ks:OI}{neg:Bool}{o:HO}{op op':CmpOp}{pins:OX}{pos py spos:Pos}{r r':R2}{s:Shared}{scope:Scope}{t':TT}{v:V}{vs xs:List V}{wi:TI}{x y:Str}{α β:Type}{σ σ' σ1:St}
inductive Ob where
 |exc (n:Str)|fn (n:Str)
 deriving Inhabited
inductive D where
 |non|bl (b:Bool)|int (i:Int)|str (x:Str)|tup (ds:List D)|lst (ds:List D)|emp|obj (o:Ob)|dct (ks:OI) (vs:List D)
 deriving Inhabited
variable{d:D}{ds:List D}{g':Int->Int->D}
def b1B(K:Qz)(t:Value):Prop:=∀T∈(["tuple","list","int","bool","str"]:List String),PySem.W.kitOne K t (.type T)=some false
def a5T(K:Qz)(G:Hp)(v:V):Ob->Prop
 |.exc n=>∃a C HP,v=.ref a/\PySem.W.nsIn K mainGlobals n=some (some (.ref C))/\G a=some (.ext HP)/\PySem.W.KitX K (.ref a) (.ref C) HP/\b1B K (.ref C)
 |.fn n=>∃f,v=.ref f/\PySem.W.nsIn K mainGlobals n=some (some (.ref f))/\PySem.W.KitX K (.ref f) (.type "function") (fun _=>True)
def SqU(K:Qz)(G:Hp)(a:Addr)(xs:List V):Prop:=G a=some (.tup xs)∨ ∃(o:Obj) (its:Array Value) (n:Nat),K.lookup a=some o/\o.cls=.type "tuple"/\o.dict=none/\o.data=.seq its n/\its.size≤sizeLine/\v4_ xs its.toList
theorem SqU.t{K:Qz}(h:SqU K G a xs):SqT K G a xs:=h.imp (fun e=>.inl e) id
abbrev w8_(k:List Int):List Key:=k.map Sum.inl
def j9_(K:Qz):Addr->List Key->Prop:=fun b k=>SqU K (fun _=>none) b (k.map kV)
mutual
def Rep(K:Qz)(G:Hp):V->D->Prop
 |v,.non=>v=.non
 |v,.bl b=>v=.bl b
 |v,.int i=>v=.int i
 |v,.str x=>v=.str x/\x.length≤sizeLine
 |v,.tup ds=>∃a xs,v=.ref a/\SqU K G a xs/\z9_ K G xs ds
 |v,.lst ds=>∃a xs,v=.ref a/\SqL K G a xs/\z9_ K G xs ds
 |v,.emp=>∃a kvs,v=.ref a/\G a=some (.dK kvs)
 |v,.obj o=>a5T K G v o
 |v,.dct ks vs=>∃a kvs,v=.ref a/\G a=some (.dT (j9_ K) kvs)/\kvs.map (·.1)=ks.map w8_/\z9_ K G (kvs.map (·.2)) vs
def z9_(K:Qz)(G:Hp):List V->List D->Prop
 |xs,[]=>xs=[]
 |xs,d::ds=>∃x r,xs=x::r/\Rep K G x d/\z9_ K G r ds
end
def Le(G G':Hp):Prop:=∀b o,G b=some o->G' b=some o
theorem Le.refl:Le G G:=fun _ _ e=>e
theorem Le.trans(a:Le G G1)(b:Le G1 G2):Le G G2:=fun x o e=>b x o (a x o e)
theorem Le.upd(h:G a=none):Le G (upd G a o):=fun b u e=>by rw[q7_ (a0l e h)];exact e
theorem Le.sqU{K:Qz}(l:Le G G')(h:SqU K G a xs):SqU K G' a xs:=h.imp (fun e=>l _ _ e) id
theorem Le.sqT{K:Qz}(l:Le G G')(h:SqU K G a xs):SqT K G' a xs:=(l.sqU h).t
theorem Le.sqT'{K:Qz}(l:Le G G')(h:SqT K G a xs):SqT K G' a xs:=by
 rcases h with h|h
 ·rcases h with h|⟨o,h⟩
  ·exact .inl (.inl (l _ _ h))
  ·exact .inl (.inr ⟨o,l _ _ h⟩)
 ·exact .inr h
theorem Le.sqL{K:Qz}(l:Le G G')(h:SqL K G a xs):SqL K G' a xs:=by
 rcases h with h|h
 ·rcases h with h|⟨o,h⟩
  ·exact .inl (.inl (l _ _ h))
  ·exact .inl (.inr ⟨o,l _ _ h⟩)
 ·exact .inr h
theorem a5T.mono{K:Qz}(l:Le G G'):∀{o:Ob},a5T K G v o->a5T K G' v o
 |.exc n,⟨a,C,HP,h1,h2,h3,h4⟩=>⟨a,C,HP,h1,h2,l _ _ h3,h4⟩
 |.fn n,h=>h
mutual
theorem Rep.mono{K:Qz}{G G':Hp}(l:Le G G'):∀(d:D) {v:V},Rep K G v d->Rep K G' v d
 |.non,_,h=>by simpa only[Rep]using h
 |.bl b,_,h=>by simpa only[Rep]using h
 |.int i,_,h=>by simpa only[Rep]using h
 |.str x,_,h=>by simpa only[Rep]using h
 |.tup ds,_,h=>by
  simp only[Rep]at h ⊢;obtain⟨a,xs,e,q,r⟩:=h;exact⟨a,xs,e,l.sqU q,z9_.mono l ds r⟩
 |.lst ds,_,h=>by
  simp only[Rep]at h ⊢;obtain⟨a,xs,e,q,r⟩:=h;exact⟨a,xs,e,l.sqL q,z9_.mono l ds r⟩
 |.emp,_,h=>by
  simp only[Rep]at h ⊢;obtain⟨a,kvs,e,q⟩:=h;exact⟨a,kvs,e,l _ _ q⟩
 |.obj o,_,h=>by
  simp only[Rep]at h ⊢;exact h.mono l
 |.dct ks vs,_,h=>by
  simp only[Rep]at h ⊢;obtain⟨a,kvs,e,q,k,r⟩:=h;exact⟨a,kvs,e,l _ _ q,k,z9_.mono l vs r⟩
theorem z9_.mono{K:Qz}{G G':Hp}(l:Le G G'):∀(ds:List D) {xs:List V},z9_ K G xs ds->z9_ K G' xs ds
 |[],_,h=>by simpa only[z9_]using h
 |d::ds,_,h=>by
  simp only[z9_]at h ⊢;obtain⟨x,r,e,q,t⟩:=h;exact⟨x,r,e,Rep.mono l d q,z9_.mono l ds t⟩
end
theorem repL_nil{K:Qz}:z9_ K G [] []:=by simp only[z9_]
theorem repL_cons{K:Qz}{x:V}(h:Rep K G x d)(t:z9_ K G xs ds):z9_ K G (x::xs) (d::ds):=by
 simp only[z9_];exact⟨x,xs,rfl,h,t⟩
theorem z9_.length{K:Qz}{G:Hp}:∀{ds:List D}{xs:List V},z9_ K G xs ds->xs.length=ds.length
 |[],_,h=>by simp only[z9_]at h;subst h;rfl
 |d::ds,_,h=>by
  simp only[z9_]at h;obtain⟨x,r,e,q,t⟩:=h;subst e
  simp[z9_.length t]
theorem z9_.append{K:Qz}{G:Hp}:∀{ds es:List D}{xs ys:List V},z9_ K G xs ds->z9_ K G ys es->z9_ K G (xs++ys) (ds++es)
 |[],_,_,_,h,t=>by simp only[z9_]at h;subst h;exact t
 |d::ds,_,_,_,h,t=>by
  simp only[z9_]at h;obtain⟨x,r,e,q,u⟩:=h;subst e;exact repL_cons q (z9_.append u t)
theorem z9_.get{K:Qz}{G:Hp}:∀{ds:List D}{xs:List V}{i:Nat}{d:D},z9_ K G xs ds->ds[i]? =some d->∃x,xs[i]? =some x/\Rep K G x d
 |[],_,i,d,h,e=>by simp at e
 |d::ds,_,i,d',h,e=>by
  simp only[z9_]at h;obtain⟨x,r,e1,q,t⟩:=h;subst e1;cases i with
  |zero=>simp at e;subst e;exact⟨x,rfl,q⟩
  |succ i=>simpa using z9_.get (i:=i) t (by simpa using e)
theorem z9_.get'{K:Qz}{x:V}(h:z9_ K G xs ds)(e:xs[i]? =some x):∃d,ds[i]? =some d/\Rep K G x d:=by
 have hl:=h.length
 have hi:i<xs.length:=(Qh.mp e).1
 obtain⟨x',e',r⟩:=h.get (i:=i) (d:=ds[i]'(by omega)) (by simp)
 rw[e]at e';cases e';exact⟨_,by simp,r⟩
theorem z9_.take{K:Qz}:∀{ds:List D}{xs:List V}(n:Nat),z9_ K G xs ds->z9_ K G (xs.take n) (ds.take n)
 |_,_,0,_=>by simp[repL_nil]
 |[],_,n+1,h=>by simp only[z9_]at h;subst h;simp[repL_nil]
 |d::ds,_,n+1,h=>by
  simp only[z9_]at h;obtain⟨x,r,e,q,t⟩:=h;subst e;exact repL_cons q (t.take n)
theorem z9_.drop{K:Qz}:∀{ds:List D}{xs:List V}(n:Nat),z9_ K G xs ds->z9_ K G (xs.drop n) (ds.drop n)
 |_,_,0,h=>h
 |[],_,n+1,h=>by simp only[z9_]at h;subst h;simp[repL_nil]
 |d::ds,_,n+1,h=>by
  simp only[z9_]at h;obtain⟨x,r,e,q,t⟩:=h;subst e;exact t.drop n
theorem z9_.reverse{K:Qz}:∀{ds:List D}{xs:List V},z9_ K G xs ds->z9_ K G xs.reverse ds.reverse
 |[],_,h=>by simp only[z9_]at h;subst h;simp[repL_nil]
 |d::ds,_,h=>by
  simp only[z9_]at h;obtain⟨x,r,e,q,t⟩:=h;subst e;simp only[Xh];exact t.reverse.append (repL_cons q repL_nil)
theorem z9_.set{K:Qz}:∀{ds:List D}{xs:List V}{x:V}{d:D}(n:Nat),z9_ K G xs ds->Rep K G x d->z9_ K G (xs.set n x) (ds.set n d)
 |[],_,_,_,n,h,_=>by simp only[z9_]at h;subst h;simp[repL_nil]
 |d::ds,_,_,_,0,h,q'=>by
  simp only[z9_]at h;obtain⟨x,r,e,q,t⟩:=h;subst e;exact repL_cons q' t
 |d::ds,_,_,_,n+1,h,q'=>by
  simp only[z9_]at h;obtain⟨x,r,e,q,t⟩:=h;subst e;exact repL_cons q (t.set n q')
inductive Mu where
 |l (ds:List D)|d (ks:OI) (vs:List D)
 deriving Inhabited
variable{m:Mu}
inductive W where
 |nil|dat (d:D)|own (ds:List D)|par (ds:List D)|ownD (ks:OI) (vs:List D)|parD (ks:OI) (vs:List D)
 deriving Inhabited
variable{w w2:W}{ws':List W}
abbrev Env':=List W
abbrev OZ:=D->Env'->Option Env'
variable{env env' env1:Env'}
def W.mut:W->Option Mu
 |.own ds=>some (.l ds)
 |.par ds=>some (.l ds)
 |.ownD ks vs=>some (.d ks vs)
 |.parD ks vs=>some (.d ks vs)
 |_=>none
def W.mutL:W->Option (List D)
 |.own ds=>some ds
 |.par ds=>some ds
 |_=>none
def W.mutD:W->Option (OI×List D)
 |.ownD ks vs=>some (ks,vs)
 |.parD ks vs=>some (ks,vs)
 |_=>none
def W.put:W->List D->W
 |.own _,ds=>.own ds
 |.par _,ds=>.par ds
 |w,_=>w
def W.isOwn:W->Bool
 |.own _=>true
 |.ownD _ _=>true
 |_=>false
def W.isPar:W->Bool
 |.par _=>true
 |.parD _ _=>true
 |_=>false
def W.putM(w:W):Mu->W
 |.l ds=>if w.isOwn then .own ds else if w.isPar then .par ds else w
 |.d ks vs=>if w.isOwn then .ownD ks vs else if w.isPar then .parD ks vs else w
theorem W.mutL_of(h:w.mutL=some ds):w.mut=some (.l ds):=by cases w<;>first|(cases h;rfl)|cases h
theorem W.mutD_of{vs:List D}(h:w.mutD=some (ks,vs)):w.mut=some (.d ks vs):=by cases w<;>first|(cases h;rfl)|cases h
theorem W.put_eq(h:w.mutL=some ds)(ds':List D):w.put ds'=w.putM (.l ds'):=by cases w<;>first|rfl|cases h
theorem W.putM_mut(h:w.mut=some m)(m':Mu):(w.putM m').mut=some m':=by
 cases w<;>cases m'<;>first|rfl|cases h
theorem W.putM_own(h:w.mut=some m)(m':Mu):(w.putM m').isOwn=w.isOwn:=by
 cases w<;>cases m'<;>first|rfl|cases h
theorem W.putM_par(h:w.mut=some m)(m':Mu):(w.putM m').isPar=w.isPar:=by
 cases w<;>cases m'<;>first|rfl|cases h
def Owned(σ:St)(env:Env')(a:Addr):Prop:=∃(i:Nat) (w:W) (m:Mu),env[i]? =some w/\w.mut=some m/\σ[i]? =some (some (V.ref a))
theorem own_mut(h:w.isOwn=true):∃m,w.mut=some m:=by cases w<;>first|exact⟨_,rfl⟩|cases h
theorem par_mut(h:w.isPar=true):∃m,w.mut=some m:=by cases w<;>first|exact⟨_,rfl⟩|cases h
def NT(o:HO):Prop:=∀ps,o≠.tbl ps
theorem nt_lst:NT (.lst xs):=fun _ z=>by cases z
theorem nt_tup:NT (.tup xs):=fun _ z=>by cases z
def lamQ(q:Str):Str:=(q++".<locals>.")++"<lambda>"
def tabQ(K:Qz)(P:Addr)(q:Str):Bool:=K.all fun p=>match p.2 with
 |⟨.type "code",_,.fields vs,_⟩=>(match (vs[11]? :Option Value)with|some (.ref P')=>P' !=P|_=>true)||(match vs.toList with|_::.str n _::_=>n==q|_=>false)
 |_=>true
def LamC(K:Qz)(P a:Addr):HO:=.ext fun h=>∀q,tabQ K P q=true->h.CodeRec (.ref a) (lamQ q)
def TabsOk(K:Qz)(H:Hp):Prop:=∀P ps,H P=some (.tbl ps)->TriplesOk ps.toList/\∀pos v,codeAmong pos ps.toList=some v->∃a,v=.ref a/\H a=some (LamC K P a)
theorem TabsOk.mono{K:Qz}(t:TabsOk K H)(h1:∀P ps,H' P=some (.tbl ps)->H P=some (.tbl ps))(h2:∀a φ,H a=some (.ext φ)->H' a=some (.ext φ)):TabsOk K H':=fun P ps e=>by
 obtain⟨q1,q2⟩:=t P ps (h1 P ps e);refine⟨q1,fun pos v e=>?_⟩
 obtain⟨a,e1,e2⟩:=q2 pos v e;exact⟨a,e1,h2 _ _ e2⟩
theorem TabsOk.upd{K:Qz}(t:TabsOk K H)(no:NT o)(h:∀φ,H a≠some (.ext φ)):TabsOk K (upd H a o):=
 t.mono (fun P ps e=>by
  by_cases hb:P=a
  ·subst hb;rw[y8_]at e;cases e;exact absurd rfl (no ps)
  ·rw[q7_ hb]at e;exact e) fun b φ e=>by
  by_cases hb:b=a
  ·subst hb;exact absurd e (h φ)
  ·rw[q7_ hb];exact e
def RepM(K:Qz)(G:Hp)(o:HO):Mu->Prop
 |.l ds=>∃xs,o=.lst xs/\z9_ K G xs ds
 |.d ks vs=>∃kvs,o=.dT (j9_ K) kvs/\kvs.map (·.1)=ks.map w8_/\z9_ K G (kvs.map (·.2)) vs
theorem RepM.mono{K:Qz}(l:Le G G'):∀{m:Mu},RepM K G o m->RepM K G' o m
 |.l ds,⟨xs,e,r⟩=>⟨xs,e,z9_.mono l ds r⟩
 |.d ks vs,⟨kvs,e,k,r⟩=>⟨kvs,e,k,z9_.mono l vs r⟩
theorem RepM.nt{K:Qz}:∀{m:Mu},RepM K G o m->NT o
 |.l ds,⟨xs,e,r⟩=>by subst e;exact nt_lst
 |.d ks vs,⟨kvs,e,k,r⟩=>by subst e;exact fun _ z=>by cases z
theorem RepM.ne{K:Qz}(r:RepM K G o m):∀φ,o≠.ext φ:=by
 cases m with
 |l ds=>obtain⟨xs,e,_⟩:=r;subst e;exact fun _ z=>by cases z
 |d ks vs=>obtain⟨xs,e,_⟩:=r;subst e;exact fun _ z=>by cases z
structure Rel(K:Qz)(B:OA)(G:Hp)(σ:St)(env:Env')(H:Hp):Prop where
 sub:Le G H
 len:env.length=σ.length
 dat:∀(i:Nat) (d:D),env[i]? =some (.dat d)->∃v,σ[i]? =some (some v)/\Rep K G v d
 own:∀(i:Nat) (w:W) (m:Mu),env[i]? =some w->w.mut=some m->∃a o,σ[i]? =some (some (V.ref a))/\H a=some o/\RepM K G o m/\G a=none
 inj:∀(i j:Nat) (w w':W) (ds es:Mu) (a:Addr),env[i]? =some w->w.mut=some ds->env[j]? =some w'->w'.mut=some es->σ[i]? =some (some (V.ref a))->σ[j]? =some (some (V.ref a))->i=j
 fresh:∀(i:Nat) (w:W) (a:Addr),env[i]? =some w->w.isOwn=true->σ[i]? =some (some (V.ref a))-> ¬ B a
 old:∀b,B b->H b≠none
 tabs:TabsOk K H
 gnt:∀b o,G b=some o->NT o
structure Ev(K:Qz)(B:OA)(G:Hp)(σ:St)(env:Env')(H:Hp)(G':Hp)(σ':St)(env':Env')(H':Hp):Prop where
 rel:Rel K B G' σ' env' H'
 same:Le G G'
 keep:∀b o,¬ Owned σ env b->NT o->H b=some o->H' b=some o
 live:∀b,H b≠none->H' b≠none
 stay:∀b,H b≠none-> ¬ Owned σ env b->G b=none->G' b=none
 sub:∀a,Owned σ' env' a->Owned σ env a∨H a=none
 par:∀(i:Nat) (w:W),env'[i]? =some w->w.isPar=true->σ'[i]? =σ[i]? /\ ∃w0,env[i]? =some w0/\w0.isPar=true
 slen:σ'.length=σ.length
theorem Ev.refl{K:Qz}(r:Rel K B G σ env H):Ev K B G σ env H G σ env H:=
 ⟨r,Le.refl,fun _ _ _ _ e=>e,fun _ e=>e,fun _ _ _ e=>e,fun _ e=>.inl e,fun _ w e h=>⟨rfl,w,e,h⟩,rfl⟩
theorem Ev.trans{K:Qz}{σ2:St}{env2:Env'}(a:Ev K B G σ env H G1 σ1 env1 H1)(b:Ev K B G1 σ1 env1 H1 G2 σ2 env2 H2):Ev K B G σ env H G2 σ2 env2 H2 where
 rel:=b.rel
 same:=a.same.trans b.same
 keep:=fun x o n t e=>b.keep x o (fun z=>(a.sub x z).elim n fun q=>by rw[e]at q;cases q) t (a.keep x o n t e)
 live:=fun x e=>b.live x (a.live x e)
 stay:=fun x e n g=>b.stay x (a.live x e) (fun z=>(a.sub x z).elim n fun q=>e q) (a.stay x e n g)
 sub:=fun x z=>(b.sub x z).elim (fun q=>a.sub x q) fun q=>.inr (by
  cases h:H x with
  |none=>rfl
  |some o=>exact absurd q (a.live x (by rw[h];simp)))
 par:=fun i w e h=>by
  obtain⟨h1,d1,e1,p1⟩:=b.par i w e h;obtain⟨h2,d2,e2,p2⟩:=a.par i d1 e1 p1;exact⟨h1.trans h2,d2,e2,p2⟩
 slen:=b.slen.trans a.slen
theorem Rel.ownL{K:Qz}(r:Rel K B G σ env H)(i:Nat)(w:W)(ds:List D)(e1:env[i]? =some w)(e2:w.mutL=some ds):∃a xs,σ[i]? =some (some (V.ref a))/\H a=some (.lst xs)/\z9_ K G xs ds/\G a=none:=by
 obtain⟨a,o,h1,h2,⟨xs,rfl,h3⟩,h4⟩:=r.own i w (.l ds) e1 (W.mutL_of e2);exact⟨a,xs,h1,h2,h3,h4⟩
theorem Rel.ownD{K:Qz}(r:Rel K B G σ env H)(i:Nat)(w:W)(ks:OI)(vs:List D)(e1:env[i]? =some w)(e2:w.mutD=some (ks,vs)):∃a kvs,σ[i]? =some (some (V.ref a))/\H a=some (.dT (j9_ K) kvs)/\kvs.map (·.1)=ks.map w8_/\z9_ K G (kvs.map (·.2)) vs/\G a=none:=by
 obtain⟨a,o,h1,h2,⟨kvs,rfl,h3,h4⟩,h5⟩:=r.own i w (.d ks vs) e1 (W.mutD_of e2);exact⟨a,kvs,h1,h2,h3,h4,h5⟩
abbrev Mo(α:Type):=Env'->Option (α×Env')
variable{ma mb mc:Mo D}{mi ms:Mo (List D)}
section
variable(K:Qz)(B:OA)
def TD(m:Mo D):TE:=fun σ H Q=>∃G env d env',Rel K B G σ env H/\m env=some (d,env')/\∀v G' H',Ev K B G σ env H G' σ env' H'->Rep K G' v d->Q v H'
def TL(m:Mo (List D)):TE:=fun σ H Q=>∃G env ds env',Rel K B G σ env H/\m env=some (ds,env')/\∀a xs G' H',Ev K B G σ env H G' σ env' H'->H a=none-> ¬ Owned σ env' a->H' a=some (.lst xs)->G' a=none->z9_ K G' xs ds->Q (.ref a) H'
def TTm(m:Mo Bool):TT:=fun σ H Q=>∃G env b env',Rel K B G σ env H/\m env=some (b,env')/\∀G' H',Ev K B G σ env H G' σ env' H'->Q b H'
inductive Ar where
 |d (d:D)|sl (i:Nat)
 deriving Inhabited
def RepA(G:Hp)(σ:St):List V->List Ar->Prop
 |xs,[]=>xs=[]
 |xs,.d d::as=>∃x r,xs=x::r/\Rep K G x d/\RepA G σ r as
 |xs,.sl i::as=>∃x r,xs=x::r/\σ[i]? =some (some x)/\RepA G σ r as
def TAm(m:Mo (List Ar)):TA:=fun σ H Q=>∃G env as env',Rel K B G σ env H/\m env=some (as,env')/\∀vs G' H',Ev K B G σ env H G' σ env' H'->RepA K G' σ vs as->Q vs H'
def TDs(m:Mo (List D)):TA:=fun σ H Q=>∃G env ds env',Rel K B G σ env H/\m env=some (ds,env')/\∀vs G' H',Ev K B G σ env H G' σ env' H'->z9_ K G' vs ds->Q vs H'
inductive Fl where
 |nx|bk|ct|ret (d:D)|retL (ds:List D)
def Post(G:Hp)(σ:St)(env:Env')(H:Hp)(env':Env')(D:Ends):Fl->Prop
 |.nx=>∀σ' G' H',Ev K B G σ env H G' σ' env' H'->D.nx σ' H'
 |.bk=>∀σ' G' H',Ev K B G σ env H G' σ' env' H'->D.bk σ' H'
 |.ct=>∀σ' G' H',Ev K B G σ env H G' σ' env' H'->D.ct σ' H'
 |.ret d=>∀v σ' G' H',Ev K B G σ env H G' σ' env' H'->Rep K G' v d->D.rt v H'
 |.retL ds=>∀a xs σ' G' H',Ev K B G σ env H G' σ' env' H'-> ¬ B a-> ¬ Owned σ' env' a->H' a=some (.lst xs)->G' a=none->z9_ K G' xs ds->D.rt (.ref a) H'
def TSm(m:Mo Fl):TS:=fun D σ H=>∃G env fl env',Rel K B G σ env H/\m env=some (fl,env')/\Post K B G σ env H env' D fl
theorem Post.after{D:Ends}{fl:Fl}(k:Post K B G σ env H env' D fl)(ev:Ev K B G σ env H G1 σ1 env1 H1):Post K B G1 σ1 env1 H1 env' D fl:=by
 cases fl with
 |nx=>exact fun σ2 G2 H2 ev2=>k σ2 G2 H2 (ev.trans ev2)
 |bk=>exact fun σ2 G2 H2 ev2=>k σ2 G2 H2 (ev.trans ev2)
 |ct=>exact fun σ2 G2 H2 ev2=>k σ2 G2 H2 (ev.trans ev2)
 |ret d=>exact fun v σ2 G2 H2 ev2=>k v σ2 G2 H2 (ev.trans ev2)
 |retL d=>exact fun a xs σ2 G2 H2 ev2=>k a xs σ2 G2 H2 (ev.trans ev2)
end
variable{as:Mo (List Ar)}
abbrev ED(X:Cx)(B:OA)(e:Expr)(m:Mo D):Prop:=PE X e (TD X.K B m)
abbrev EL(X:Cx)(B:OA)(e:Expr)(m:Mo (List D)):Prop:=PE X e (TL X.K B m)
abbrev ET(X:Cx)(B:OA)(e:Expr)(m:Mo Bool):Prop:=PT X e (TTm X.K B m)
abbrev EAr(X:Cx)(B:OA)(es:List Expr)(m:Mo (List Ar)):Prop:=PA X es (TAm X.K B m)
abbrev EDs(X:Cx)(B:OA)(es:List Expr)(m:Mo (List D)):Prop:=PA X es (TDs X.K B m)
abbrev ES(X:Cx)(B:OA)(s:Stmt)(m:Mo Fl):Prop:=PS X s (TSm X.K B m)
abbrev ESs(X:Cx)(B:OA)(s:List Stmt)(m:Mo Fl):Prop:=PSs X s (TSm X.K B m)
theorem pe_imp{t t':TE}(h:PE X e t)(i:∀σ H Q,t' σ H Q->t σ H Q):PE X e t':=fun pins s σ H Q I q=>h pins s σ H Q I (i σ H Q q)
theorem pt_imp{t:TT}(h:PT X e t)(i:∀σ H Q,t' σ H Q->t σ H Q):PT X e t':=fun pins s σ H Q I q=>h pins s σ H Q I (i σ H Q q)
theorem pw_imp{t:TT}(h:PW X e t)(i:∀σ H Q,t' σ H Q->t σ H Q):PW X e t':=fun wh pins s σ H Q I q=>h wh pins s σ H Q I (i σ H Q q)
theorem pa_imp{e:List Expr}{t t':TA}(h:PA X e t)(i:∀σ H Q,t' σ H Q->t σ H Q):PA X e t':=fun pos pins s σ H Q I q=>h pos pins s σ H Q I (i σ H Q q)
theorem ps_imp{e:Stmt}{t t':TS}(h:PS X e t)(i:∀D σ H,t' D σ H->t D σ H):PS X e t':=fun pins s σ H D I q=>h pins s σ H D I (i D σ H q)
theorem pss_imp{e:List Stmt}{t t':TS}(h:PSs X e t)(i:∀D σ H,t' D σ H->t D σ H):PSs X e t':=fun pins s σ H D I q=>h pins s σ H D I (i D σ H q)
section
variable{K:Qz}
theorem Rel.gnone(r:Rel K B G σ env H)(h:H p=none):G p=none:=by
 cases e:G p with
 |none=>rfl
 |some o=>rw[r.sub p o e]at h;cases h
theorem Rel.unowned(r:Rel K B G σ env H)(h:H p=none):¬ Owned σ env p:=by
 rintro⟨i,w,ds,e1,e2,e3⟩;obtain⟨a,xs,e4,e5,_⟩:=r.own i w ds e1 e2;rw[e3]at e4;cases e4;rw[h]at e5;cases e5
theorem a7J(h:∀b o,G b=some o->NT o)(no:NT o):∀b u,upd G p o b=some u->NT u:=fun b u e=>by
 by_cases hb:b=p
 ·subst hb;rw[y8_]at e;cases e;exact no
 ·rw[q7_ hb]at e;exact h b u e
theorem Rel.alloc(r:Rel K B G σ env H)(h:H p=none)(no:NT o:=by intro _ z;cases z):Ev K B G σ env H (upd G p o) σ env (upd H p o):=by
 have gp:=r.gnone h
 refine⟨⟨fun b u e=>?_,r.len,fun i d e=>?_,fun i w ds e1 e2=>?_,r.inj,r.fresh,fun b e=>?_,r.tabs.upd no (fun φ z=>by rw[h]at z;cases z),a7J r.gnt no⟩,Le.upd gp,fun b u _ _ e=>?_,fun b e=>?_,fun b e _ g=>?_,fun a z=>.inl z,fun i w e hp=>⟨rfl,w,e,hp⟩,rfl⟩
 ·by_cases hb:b=p
  ·subst hb;rw[y8_]at e ⊢;exact e
  ·rw[q7_ hb]at e ⊢;exact r.sub b u e
 ·obtain⟨v,e1,e2⟩:=r.dat i d e
  exact⟨v,e1,Rep.mono (Le.upd gp) d e2⟩
 ·obtain⟨a,xs,e3,e4,e5,e6⟩:=r.own i w ds e1 e2
  have ha:a≠p:=a0l e4 h
  exact⟨a,xs,e3,by rw[q7_ ha];exact e4,e5.mono (Le.upd gp),by rw[q7_ ha];exact e6⟩
 ·by_cases hb:b=p
  ·subst hb;rw[y8_];simp
  ·rw[q7_ hb];exact r.old b e
 ·rw[q7_ (a0l e h)];exact e
 ·by_cases hb:b=p
  ·subst hb;rw[y8_];simp
  ·rw[q7_ hb];exact e
 ·have hb:b≠p:=fun z=>e (z ▸ h)
  rw[q7_ hb];exact g
theorem Rel.allocM(r:Rel K B G σ env H)(h:H p=none)(no:NT o:=by intro _ z;cases z):Ev K B G σ env H G σ env (upd H p o):=by
 refine⟨⟨fun b u e=>?_,r.len,r.dat,fun i w ds e1 e2=>?_,r.inj,r.fresh,fun b e=>?_,r.tabs.upd no (fun φ z=>by rw[h]at z;cases z),r.gnt⟩,Le.refl,fun b u _ _ e=>?_,fun b e=>?_,fun b e _ g=>g,fun a z=>.inl z,fun i w e hp=>⟨rfl,w,e,hp⟩,rfl⟩
 ·rw[q7_ (a0l (r.sub b u e) h)];exact r.sub b u e
 ·obtain⟨a,xs,e3,e4,e5,e6⟩:=r.own i w ds e1 e2
  exact⟨a,xs,e3,by rw[q7_ (a0l e4 h)];exact e4,e5,e6⟩
 ·by_cases hb:b=p
  ·subst hb;rw[y8_];simp
  ·rw[q7_ hb];exact r.old b e
 ·rw[q7_ (a0l e h)];exact e
 ·by_cases hb:b=p
  ·subst hb;rw[y8_];simp
  ·rw[q7_ hb];exact e
theorem Ev.frz(v:Ev K B G σ env H G' σ' env' H')(ha:H a=none)(no:¬ Owned σ' env' a)(h':H' a=some (.lst xs))(g':G' a=none):
  Ev K B G σ env H (upd G' a (.lst xs)) σ' env' H':=by
 refine⟨⟨fun b u e=>?_,v.rel.len,fun i d e=>?_,fun i w ds e1 e2=>?_,v.rel.inj,v.rel.fresh,v.rel.old,v.rel.tabs,a7J v.rel.gnt nt_lst⟩,v.same.trans (Le.upd g'),v.keep,v.live,fun b e n g=>?_,v.sub,v.par,v.slen⟩
 ·by_cases hb:b=a
  ·subst hb;rw[y8_]at e;cases e;exact h'
  ·rw[q7_ hb]at e;exact v.rel.sub b u e
 ·obtain⟨x,e1,e2⟩:=v.rel.dat i d e
  exact⟨x,e1,Rep.mono (Le.upd g') d e2⟩
 ·obtain⟨p,ys,e3,e4,e5,e6⟩:=v.rel.own i w ds e1 e2
  have hp:p≠a:=fun z=>no ⟨i,w,ds,e1,e2,by rw[←z];exact e3⟩
  exact⟨p,ys,e3,e4,e5.mono (Le.upd g'),by rw[q7_ hp];exact e6⟩
 ·have hb:b≠a:=fun z=>e (z ▸ ha)
  rw[q7_ hb];exact v.stay b e n g
theorem a3O(h:G a=some (.lst xs))(r:z9_ K G xs ds):Rep K G (.ref a) (.lst ds):=by
 simp only[Rep];exact⟨a,xs,rfl,.inl (.inl h),r⟩
theorem a2C(h:G a=some (.tup xs))(r:z9_ K G xs ds):Rep K G (.ref a) (.tup ds):=by
 simp only[Rep];exact⟨a,xs,rfl,.inl h,r⟩
theorem Rel.frzSlotM{w0:W}(r:Rel K B G σ env H)(e:env[i]? =some w0)(em:w0.mut=some m)(hrep:∀G1 a o,G1 a=some o->RepM K G1 o m->Rep K G1 (.ref a) d):
  ∃a o,σ[i]? =some (some (.ref a))/\Rep K (upd G a o) (.ref a) d/\Ev K B G σ env H (upd G a o) σ (env.set i (.dat d)) H:=by
 obtain⟨a,o,e1,e2,e3,e4⟩:=r.own i _ m e em;have rp:Rep K (upd G a o) (.ref a) d:=hrep _ a o y8_ (e3.mono (Le.upd e4));have ow:Owned σ env a:=⟨i,_,m,e,em,e1⟩;have hi:i<env.length:=(Qh.mp e).1;have ne:∀j w es,(env.set i (.dat d))[j]? =some w->w.mut=some es->j≠i/\env[j]? =some w:=fun j w es q1 q2=>by
  by_cases hj:j=i
  ·subst hj;rw[Za hi]at q1;cases q1;cases q2
  ·rw[Qc (Zn hj)]at q1;exact⟨hj,q1⟩
 refine⟨a,o,e1,rp,⟨⟨fun b u q=>?_,by rw[Zh];exact r.len,fun j d q=>?_,fun j w es q1 q2=>?_,fun j k w w' es fs b q1 q2 q3 q4 q5 q6=>?_,fun j w b q1 qo q2=>?_,r.old,r.tabs,a7J r.gnt e3.nt⟩,Le.upd e4,fun b o _ _ q=>q,fun b q=>q,fun b q n g=>?_,fun b z=>?_,fun j w q qp=>?_,rfl⟩⟩
 ·by_cases hb:b=a
  ·subst hb;rw[y8_]at q;cases q;exact e2
  ·rw[q7_ hb]at q;exact r.sub b u q
 ·by_cases hj:j=i
  ·subst hj;rw[Za hi]at q;cases q;exact⟨_,e1,rp⟩
  ·rw[Qc (Zn hj)]at q
   obtain⟨x,q1,q2⟩:=r.dat j d q;exact⟨x,q1,Rep.mono (Le.upd e4) d q2⟩
 ·obtain⟨hj,q⟩:=ne j w es q1 q2
  obtain⟨p,ys,e3',e4',e5',e6'⟩:=r.own j w es q q2;have hp:p≠a:=fun z=>hj (r.inj j i w _ es m a q q2 e em (by rw[e3',z]) e1)
  exact⟨p,ys,e3',e4',e5'.mono (Le.upd e4),by rw[q7_ hp];exact e6'⟩
 ·exact r.inj j k w w' es fs b (ne j w es q1 q2).2 q2 (ne k w' fs q3 q4).2 q4 q5 q6
 ·obtain⟨es,hm⟩:=own_mut qo
  exact r.fresh j w b (ne j _ es q1 hm).2 qo q2
 ·have hb:b≠a:=fun z=>n (z ▸ ow)
  rw[q7_ hb];exact g
 ·obtain⟨j,w,es,q1,q2,q3⟩:=z
  exact .inl ⟨j,w,es,(ne j w es q1 q2).2,q2,q3⟩
 ·obtain⟨es,hm⟩:=par_mut qp
  exact⟨rfl,w,(ne j _ es q hm).2,qp⟩
theorem Rel.frzSlot(r:Rel K B G σ env H)(e:env[i]? =some (.own ds)):
  ∃a o,σ[i]? =some (some (.ref a))/\Rep K (upd G a o) (.ref a) (.lst ds)/\Ev K B G σ env H (upd G a o) σ (env.set i (.dat (.lst ds))) H:=
 r.frzSlotM (m:=.l ds) e rfl fun G1 a o h ⟨xs,z,q⟩=>by subst z;exact a3O h q
theorem Rel.frzSlotD{vs:List D}(r:Rel K B G σ env H)(e:env[i]? =some (.ownD ks vs)):
  ∃a o,σ[i]? =some (some (.ref a))/\Rep K (upd G a o) (.ref a) (.dct ks vs)/\Ev K B G σ env H (upd G a o) σ (env.set i (.dat (.dct ks vs))) H:=
 r.frzSlotM (m:=.d ks vs) e rfl fun G1 a o h ⟨kvs,z,q1,q2⟩=>by subst z;simp only[Rep];exact⟨a,kvs,rfl,h,q1,q2⟩
end
def z0_(i:Nat):Mo D:=fun env=>match env[i]? with
 |some (.dat d)=>some (d,env)
 |some (.own ds)=>some (.lst ds,env.set i (.dat (.lst ds)))
 |some (.ownD ks vs)=>some (.dct ks vs,env.set i (.dat (.dct ks vs)))
 |_=>none
def mC(d:D):Mo D:=fun env=>some (d,env)
theorem z2_(h:PE X (.Name x pos) (a0L i)):ED X B (.Name x pos) (z0_ i):=by
 refine pe_imp h fun σ H Q q=>?_
 obtain⟨G,env,d,env',r,e,k⟩:=q;unfold z0_ at e;split at e
 ·rename_i d' e1
  cases e;obtain⟨v,e2,e3⟩:=r.dat i _ e1;exact⟨v,e2,k v G H (.refl r) e3⟩
 ·rename_i ds e1
  cases e;obtain⟨a,xs,e2,e3,e4⟩:=r.frzSlot e1;exact⟨_,e2,k _ _ H e4 e3⟩
 ·rename_i ks vs e1
  cases e;obtain⟨a,xs,e2,e3,e4⟩:=r.frzSlotD e1;exact⟨_,e2,k _ _ H e4 e3⟩
 ·cases e
theorem a4M(h:PE X e (tC v))(hd:∀K G,Rep K G v d):ED X B e (mC d):=by
 refine pe_imp h fun σ H Q q=>?_
 obtain⟨G,env,d',env',r,e,k⟩:=q;cases e;exact k v G H (.refl r) (hd _ _)
theorem q0_{i:Int}:ED X B (.Constant (.int i) j pos) (mC (.int i)):=a4M b0N fun _ _=>by simp only[Rep]
theorem w1_{b:Bool}:ED X B (.Constant (.bool b) j pos) (mC (.bl b)):=a4M b6n fun _ _=>by simp only[Rep]
theorem a0Z:ED X B (.Constant .none j pos) (mC .non):=a4M b0O fun _ _=>by simp only[Rep]
theorem g0_(hx:x.length≤1000):ED X B (.Constant (.str x) j pos) (mC (.str x)):=a4M b6o fun _ _=>by simp only[Rep];exact⟨trivial,Uz (a5Q hx)⟩
theorem b8a{i:Int}{t:Tok}(hg:Gl X x)(hm:X.mg x=some (.int i t))(hd:(x==("__debug__":Str))=false:=by decide):ED X B (.Name x pos) (mC (.int i)):=
 a4M (b0P (v:=.int i) hg hm ⟨t,rfl⟩ hd) fun _ _=>by simp only[Rep]
def z4_(f:D->D->Option D)(ma mb:Mo D):Mo D:=fun env=>(ma env).bind fun p=>(mb p.2).bind fun q=>(f p.1 q.1).map fun d=>(d,q.2)
def OpD(X:Cx)(B:OA)(r:R2)(f:D->D->Option D):Prop:=
 ∀(G:Hp) (σ:St) (env:Env') (H:Hp) (x y:V) (a b c:D) (Q:VK),Rel X.K B G σ env H->Rep X.K G x a->Rep X.K G y b->f a b=some c->
  (∀v G' H',Ev X.K B G σ env H G' σ env H'->Rep X.K G' v c->Q v H')->r x y H Q
theorem a5U{f:D->D->Option D}(o:OpD X B r f):∀σ H Q,TD X.K B (z4_ f ma mb) σ H Q->tOp r (TD X.K B ma) (TD X.K B mb) σ H Q:=by
 rintro σ H Q ⟨G,env,d,env',rl,e,k⟩;unfold z4_ at e;cases ea:ma env with
 |none=>rw[ea]at e;cases e
 |some p=>
  obtain⟨d1,env1⟩:=p;rw[ea]at e;simp only[Qj]at e;cases eb:mb env1 with
  |none=>rw[eb]at e;cases e
  |some p=>
   obtain⟨d2,env2⟩:=p;rw[eb]at e;simp only[Qj]at e;cases ef:f d1 d2 with
   |none=>rw[ef]at e;cases e
   |some c=>
    rw[ef]at e;cases e;refine⟨G,env,d1,env1,rl,ea,fun v1 G1 H1 v r1=>⟨G1,env1,d2,_,v.rel,eb,fun v2 G2 H2 v' r2=>?_⟩⟩
    exact o G2 σ _ H2 v1 v2 d1 d2 _ Q v'.rel (Rep.mono v'.same _ r1) r2 ef fun v3 G3 H3 v3' r3=>k v3 G3 H3 ((v.trans v').trans v3') r3
theorem v5_{op:Operator}{f:D->D->Option D}{a:Expr}(ho:OpR X (binaryOp op) r)(o:OpD X B r f)(ha:ED X B a ma)(hb:ED X B b mb):ED X B (.BinOp a op b pos) (z4_ f ma mb):=
 pe_imp (a7t ho ha hb) (a5U o)
theorem a1S{f:D->D->Option D}{a:Expr}(ho:OpR X (compareOp op) r)(o:OpD X B r f)(ha:ED X B a ma)(hb:ED X B b mb)(hm:behindInMarks op b=false):ED X B (.Compare a [op] [b] pos) (z4_ f ma mb):=
 pe_imp (b7s ho ha hb hm) (a5U o)
def fI(C:Int->Int->Bool)(g:Int->Int->D):D->D->Option D
 |.int i,.int j=>if C i j then some (g i j)else none
 |_,_=>none
theorem a5V{C:Int->Int->Prop}{c:Int->Int->Bool}{g:Int->Int->V}(hc:∀i j,c i j=true->C i j)(hg:∀K G i j,Rep K G (g i j) (g' i j)):OpD X B (rI C g) (fI c g'):=by
 intro G σ env H x y a b d Q rl ra rb e k;cases a<;>cases b<;>first|(exact absurd (show(none:Option D)=some d from e) (by simp))|skip
 rename_i i j;simp only[Rep]at ra rb;subst ra rb;simp only[fI]at e;split at e
 ·rename_i h
  cases e;exact⟨i,j,rfl,rfl,hc i j h,k _ G H (.refl rl) (hg _ _ i j)⟩
 ·cases e
theorem a4N{g:Int->Int->V}(hg:∀K G i j,Rep K G (g i j) (g' i j)):OpD X B (rI0 g) (fI (fun _ _=>true) g'):=by
 intro G σ env H x y a b d Q rl ra rb e k;cases a<;>cases b<;>first|(exact absurd (show(none:Option D)=some d from e) (by simp))|skip
 rename_i i j;simp only[Rep]at ra rb;subst ra rb;simp only[fI,Zy]at e;cases e;exact⟨i,j,rfl,rfl,k _ G H (.refl rl) (hg _ _ i j)⟩
theorem OpR.or{f:Value->Value->Sem Value}(h:OpR X f r)(h':OpR X f r'):OpR X f (fun x y H Q=>r x y H Q∨r' x y H Q):=by
 intro pins s σ H x y v u Q I rx ry q
 rcases q with q|q
 ·exact h pins s σ H x y v u Q I rx ry q
 ·exact h' pins s σ H x y v u Q I rx ry q
def fOr(f g:D->D->Option D):D->D->Option D:=fun a b=>match f a b with
 |some c=>some c
 |none=>g a b
theorem OpD.or{f g:D->D->Option D}(h:OpD X B r f)(h':OpD X B r' g):OpD X B (fun x y H Q=>r x y H Q∨r' x y H Q) (fOr f g):=by
 intro G σ env H x y a b d Q rl ra rb e k;unfold fOr at e;split at e
 ·rename_i c ec
  cases e;exact .inl (h G σ env H x y a b _ Q rl ra rb ec k)
 ·exact .inr (h' G σ env H x y a b d Q rl ra rb e k)
def a3i(i j:Int):Bool:=(decide (-(2^64)<i)&&decide (i<2^64))||(decide (-(2^64)<j)&&decide (j<2^64))
def a5W(_ j:Int):Bool:=decide (0<j)&&decide (j<1073741824)
def a5X(i j:Int):Bool:=decide (0≤j)&&decide (j≤1000000)&&decide (i.natAbs<2^64)
def k6_:=fI (fun _ _=>true) fun i j=>.int (i-j)
def a7K:=fI a3i fun i j=>.int (i * j)
def a4O:=fI a5W fun i j=>.int (i/j)
def a0a:=fI (fun _ j=>decide (0<j)) fun i j=>.int (i%j)
def a0N:=fI a5X fun i j=>.int (i^j.toNat)
def a5Y:=fI (fun _ _=>true) fun i j=>.int (i+j)
def dLt:=fI (fun _ _=>true) fun i j=>.bl (decide (i<j))
def dLe:=fI (fun _ _=>true) fun i j=>.bl (decide (i≤j))
def dGe:=fI (fun _ _=>true) fun i j=>.bl (decide (j≤i))
theorem b8b:OpD X B (rI0 fun i j=>.int (i-j)) k6_:=a4N fun _ _ _ _=>by simp only[Rep]
theorem b1C:OpD X B (rI0 fun i j=>.int (i+j)) a5Y:=a4N fun _ _ _ _=>by simp only[Rep]
theorem b8c:OpD X B (rI a3g fun i j=>.int (i * j)) a7K:=a5V (fun i j h=>by simpa [a3g,a3i]using h) fun _ _ _ _=>by simp only[Rep]
theorem b8d:OpD X B (rI a7w fun i j=>.int (i/j)) a4O:=a5V (fun i j h=>by simpa [a7w,a5W]using h) fun _ _ _ _=>by simp only[Rep]
theorem b8e:OpD X B (rI (fun _ j=>0<j) fun i j=>.int (i%j)) a0a:=a5V (fun i j h=>by simpa using h) fun _ _ _ _=>by simp only[Rep]
theorem b8f:OpD X B (rI a7x fun i j=>.int (i^j.toNat)) a0N:=a5V (fun i j h=>by simpa [a7x,a5X,and_assoc]using h) fun _ _ _ _=>by simp only[Rep]
theorem b8g:OpD X B (rI0 fun i j=>.bl (decide (i<j))) dLt:=a4N fun _ _ _ _=>by simp only[Rep]
theorem b8h:OpD X B (rI0 fun i j=>.bl (decide (i≤j))) dLe:=a4N fun _ _ _ _=>by simp only[Rep]
theorem b8i:OpD X B (rI0 fun i j=>.bl (decide (j≤i))) dGe:=a4N fun _ _ _ _=>by simp only[Rep]
section
variable{a:Expr}{ta tb:Mo Bool}
theorem TD.bind{K:Qz}{m:Mo D}(r:Rel K B G σ env H)(e:m env=some (d,env'))
  (k:∀v G' H',Ev K B G σ env H G' σ env' H'->Rep K G' v d->Q v H'):TD K B m σ H Q:=⟨G,env,d,env',r,e,k⟩
def asB:D×Env'->Option (Bool×Env')
 |(.bl b,e)=>some (b,e)
 |_=>none
def mT(m:Mo D):Mo Bool:=fun env=>(m env).bind asB
theorem a7L{t:TE}{m:Mo D}(i:∀σ H Q,TD X.K B m σ H Q->t σ H Q)(mono:True):∀σ H Q,TTm X.K B (mT m) σ H Q->(fun σ H (Q:Bool->Hp->Prop)=>t σ H fun x H'=>∃k,x=.bl k/\Q k H') σ H Q:=by
 rintro σ H Q ⟨G,env,b,env',rl,e,k⟩;unfold mT at e;cases em:m env with
 |none=>rw[em]at e;cases e
 |some p=>
  obtain⟨d,env1⟩:=p;rw[em]at e;simp only[Qj]at e;cases d<;>first|(exact absurd (show(none:Option (Bool×Env'))=some (b,env')from e) (by simp))|skip
  cases e;refine i σ H _ (.bind rl em fun v G' H' ev r=>?_)
  simp only[Rep]at r;exact⟨_,r,k G' H' ev⟩
theorem g4_(h:ED X B e ma)(he:∀whole,isTrue e X.env whole=(do let v←whole;standAt e.pos;holding [v] (truthy v)):=by intro _;rfl):ET X B e (mT ma):=
 pt_imp (b6p h he) (a7L (fun _ _ _ q=>q) trivial)
theorem w9_{f:D->D->Option D}(ho:OpR X (compareOp op) r)(o:OpD X B r f)(ha:ED X B a ma)(hb:ED X B b mb)(hm:behindInMarks op b=false):ET X B (.Compare a [op] [b] pos) (mT (z4_ f ma mb)):=
 pt_imp (b7t ho ha hb hm) (a7L (a5U o) trivial)
def x2_(t:Mo Bool):Mo Bool:=fun env=>(t env).map fun p=>(!p.1,p.2)
theorem u1_(h:ET X B a ta):ET X B (.UnaryOp .Not a pos) (x2_ ta):=by
 refine pt_imp (b6v h) ?_
 rintro σ H Q ⟨G,env,b,env',rl,e,k⟩;unfold x2_ at e;cases em:ta env with
 |none=>rw[em]at e;cases e
 |some p=>rw[em]at e;cases e;exact⟨G,env,_,_,rl,em,k⟩
def a4P(t u:Mo Bool):Mo Bool:=fun env=>(t env).bind fun p=>if p.1 then u p.2 else some (false,p.2)
def j0_(t u:Mo Bool):Mo Bool:=fun env=>(t env).bind fun p=>if p.1 then some (true,p.2)else u p.2
theorem b8j:∀σ H Q,TTm X.K B (a4P ta tb) σ H Q->b0Q (TTm X.K B ta) (TTm X.K B tb) σ H Q:=by
 rintro σ H Q ⟨G,env,b,env',rl,e,k⟩;unfold a4P at e;cases em:ta env with
 |none=>rw[em]at e;cases e
 |some p=>
  obtain⟨b1,env1⟩:=p;rw[em]at e;simp only[Qj]at e;refine⟨G,env,b1,env1,rl,em,fun G1 H1 ev=>?_⟩
  cases b1 with
  |true=>
   simp only[Zy]at e ⊢;exact⟨G1,env1,b,env',ev.rel,e,fun G2 H2 ev2=>k G2 H2 (ev.trans ev2)⟩
  |false=>
   simp only[Zq,Yj]at e ⊢;cases e;exact k G1 H1 ev
theorem b8k:∀σ H Q,TTm X.K B (j0_ ta tb) σ H Q->tOr (TTm X.K B ta) (TTm X.K B tb) σ H Q:=by
 rintro σ H Q ⟨G,env,b,env',rl,e,k⟩;unfold j0_ at e;cases em:ta env with
 |none=>rw[em]at e;cases e
 |some p=>
  obtain⟨b1,env1⟩:=p;rw[em]at e;simp only[Qj]at e;refine⟨G,env,b1,env1,rl,em,fun G1 H1 ev=>?_⟩
  cases b1 with
  |false=>
   simp only[Zq,Yj]at e ⊢;exact⟨G1,env1,b,env',ev.rel,e,fun G2 H2 ev2=>k G2 H2 (ev.trans ev2)⟩
  |true=>
   simp only[Zy]at e ⊢;cases e;exact k G1 H1 ev
abbrev EW(X:Cx)(B:OA)(e:Expr)(m:Mo Bool):Prop:=PW X e (TTm X.K B m)
variable{rest:List Expr}
theorem a7M(h:ET X B a ta):EW X B (.BoolOp .And [a] pos) ta:=b6r h
theorem a1o(h:ET X B a ta):EW X B (.BoolOp .Or [a] pos) ta:=b6s h
theorem a7N(h:ET X B a ta)(h2:EW X B (.BoolOp .And (b::rest) pos) tb):EW X B (.BoolOp .And (a::b::rest) pos) (a4P ta tb):=pw_imp (b6t h h2) b8j
theorem a1p(h:ET X B a ta)(h2:EW X B (.BoolOp .Or (b::rest) pos) tb):EW X B (.BoolOp .Or (a::b::rest) pos) (j0_ ta tb):=pw_imp (b6u h h2) b8k
theorem a0O(h:EW X B e ta):ET X B e ta:=h.pt
def a0h(m n:Mo D):Mo D:=fun env=>(m env).bind fun p=>match p.1 with
 |.bl true=>n p.2
 |.bl false=>some (.bl false,p.2)
 |_=>none
theorem a2D{op}(h:ED X B a ma):ED X B (.BoolOp op [a] pos) ma:=b6y h
theorem a2E(ha:ED X B a ma)(hb:ED X B (.BoolOp .And (b::rest) pos) mb):ED X B (.BoolOp .And (a::b::rest) pos) (a0h ma mb):=by
 refine pe_imp (b6z ha hb) ?_
 rintro σ H Q ⟨G,env,d,env',rl,e,k⟩;unfold a0h at e;cases em:ma env with
 |none=>rw[em]at e;cases e
 |some p=>
  obtain⟨d1,env1⟩:=p;rw[em]at e;simp only[Qj]at e;refine .bind rl em fun v G1 H1 ev r1=>?_
  split at e
  ·simp only[Rep]at r1
   exact⟨true,r1,by simp only[Zy];exact .bind ev.rel e fun v2 G2 H2 ev2 r2=>k v2 G2 H2 (ev.trans ev2) r2⟩
  ·simp only[Rep]at r1
   cases e;exact⟨false,r1,by simp only[Zq,Yj];exact k _ G1 H1 ev (by simp only[Rep])⟩
  ·cases e
def a5Z(m:Mo D):Mo D:=fun env=>(m env).bind fun p=>match p.1 with
 |.bl b=>some (.bl (!b),p.2)
 |_=>none
theorem a7O(ha:ED X B a ma):ED X B (.UnaryOp .Not a pos) (a5Z ma):=by
 refine pe_imp (b6A ha) ?_
 rintro σ H Q ⟨G,env,d,env',rl,e,k⟩;unfold a5Z at e;cases em:ma env with
 |none=>rw[em]at e;cases e
 |some p=>
  obtain⟨d1,env1⟩:=p;rw[em]at e;simp only[Qj]at e;refine .bind rl em fun v G1 H1 ev r1=>?_
  split at e
  ·rename_i b1
   simp only[Rep]at r1;cases e;exact⟨b1,r1,k _ G1 H1 ev (by simp only[Rep])⟩
  ·cases e
def u5_(m:Mo D):Mo D:=fun env=>(m env).bind fun p=>match p.1 with
 |.int b=>some (.int (-b),p.2)
 |_=>none
theorem a2F(ha:ED X B a ma):ED X B (.UnaryOp .USub a pos) (u5_ ma):=by
 refine pe_imp (b0Y b0Z ha) ?_
 rintro σ H Q ⟨G,env,d,env',rl,e,k⟩;unfold u5_ at e;cases em:ma env with
 |none=>rw[em]at e;cases e
 |some p=>
  obtain⟨d1,env1⟩:=p;rw[em]at e;simp only[Qj]at e;refine .bind rl em fun v G1 H1 ev r1=>?_
  split at e
  ·rename_i b1
   simp only[Rep]at r1;cases e;exact⟨b1,r1,k _ G1 H1 ev (by simp only[Rep])⟩
  ·cases e
def mIf(t:Mo Bool)(m n:Mo D):Mo D:=fun env=>(t env).bind fun p=>if p.1 then m p.2 else n p.2
theorem b1D(hc:ET X B c ta)(ha:ED X B a ma)(hb:ED X B b mb):ED X B (.IfExp c a b pos) (mIf ta ma mb):=by
 refine pe_imp (b6B hc ha hb) ?_
 rintro σ H Q ⟨G,env,d,env',rl,e,k⟩;unfold mIf at e;cases em:ta env with
 |none=>rw[em]at e;cases e
 |some p=>
  obtain⟨b1,env1⟩:=p;rw[em]at e;simp only[Qj]at e;refine⟨G,env,b1,env1,rl,em,fun G1 H1 ev=>?_⟩
  cases b1 with
  |true=>
   simp only[Zy]at e ⊢;exact .bind ev.rel e fun v2 G2 H2 ev2 r2=>k v2 G2 H2 (ev.trans ev2) r2
  |false=>
   simp only[Zq,Yj]at e ⊢;exact .bind ev.rel e fun v2 G2 H2 ev2 r2=>k v2 G2 H2 (ev.trans ev2) r2
def a1a(f g:D->D->Option D)(ma mb mc:Mo D):Mo D:=fun env=>(ma env).bind fun p=>(mb p.2).bind fun q=>match f p.1 q.1 with
 |some (.bl true)=>(mc q.2).bind fun r=>(g q.1 r.1).map fun d=>(d,r.2)
 |some (.bl false)=>some (.bl false,q.2)
 |_=>none
theorem b1E{f g:D->D->Option D}(o:OpD X B r f)(o':OpD X B r' g):∀σ H Q,TD X.K B (a1a f g ma mb mc) σ H Q->a7y r r' (TD X.K B ma) (TD X.K B mb) (TD X.K B mc) σ H Q:=by
 rintro σ H Q ⟨G,env,d,env',rl,e,k⟩;unfold a1a at e;cases ea:ma env with
 |none=>rw[ea]at e;cases e
 |some p=>
  obtain⟨d1,env1⟩:=p;rw[ea]at e;simp only[Qj]at e;cases eb:mb env1 with
  |none=>rw[eb]at e;cases e
  |some p=>
   obtain⟨d2,env2⟩:=p;rw[eb]at e;simp only[Qj]at e;refine .bind rl ea fun v1 G1 H1 ev1 r1=>.bind ev1.rel eb fun v2 G2 H2 ev2 r2=>?_
   split at e
   ·rename_i ef
    refine o G2 σ _ H2 v1 v2 d1 d2 _ _ ev2.rel (Rep.mono ev2.same _ r1) r2 ef fun v3 G3 H3 ev3 r3=>?_
    simp only[Rep]at r3;refine⟨true,r3,?_⟩;simp only[Zy];cases ec:mc env2 with
    |none=>rw[ec]at e;cases e
    |some p=>
     obtain⟨d3,env3⟩:=p;rw[ec]at e;simp only[Qj]at e;cases eg:g d2 d3 with
     |none=>rw[eg]at e;cases e
     |some d4=>
      rw[eg]at e;cases e;refine .bind ev3.rel ec fun v4 G4 H4 ev4 r4=>?_
      exact o' G4 σ _ H4 v2 v4 d2 d3 _ Q ev4.rel (Rep.mono ev4.same _ (Rep.mono ev3.same _ r2)) r4 eg fun v5 G5 H5 ev5 r5=>k v5 G5 H5 ((((ev1.trans ev2).trans ev3).trans ev4).trans ev5) r5
   ·rename_i ef
    cases e;refine o G2 σ _ H2 v1 v2 d1 d2 _ _ ev2.rel (Rep.mono ev2.same _ r1) r2 ef fun v3 G3 H3 ev3 r3=>?_
    simp only[Rep]at r3;refine⟨false,r3,?_⟩;simp only[Zq,Yj];exact k _ G3 H3 ((ev1.trans ev2).trans ev3) (by simp only[Rep])
   ·cases e
theorem b1F{f g:D->D->Option D}(ho:OpR X (compareOp op) r)(ho':OpR X (compareOp op') r')(o:OpD X B r f)(o':OpD X B r' g)(ha:ED X B a ma)(hb:ED X B b mb)(hc:ED X B c mc)
  (hm:lastMarks [op,op'] [b,c]=false:=by with_unfolding_all rfl):ED X B (.Compare a [op,op'] [b,c] pos) (a1a f g ma mb mc):=pe_imp (b7u ho ho' ha hb hc hm) (b1E o o')
theorem a7P{f g:D->D->Option D}(ho:OpR X (compareOp op) r)(ho':OpR X (compareOp op') r')(o:OpD X B r f)(o':OpD X B r' g)(ha:ED X B a ma)(hb:ED X B b mb)(hc:ED X B c mc)
  (hm:lastMarks [op,op'] [b,c]=false:=by with_unfolding_all rfl):ET X B (.Compare a [op,op'] [b,c] pos) (mT (a1a f g ma mb mc)):=pt_imp (b7v ho ho' ha hb hc hm) (a7L (b1E o o') trivial)
def z3_:Mo (List D):=fun env=>some ([],env)
def z1_(m:Mo D)(ms:Mo (List D)):Mo (List D):=fun env=>(m env).bind fun p=>(ms p.2).map fun q=>(p.1::q.1,q.2)
theorem z7_:EDs X B [] z3_:=by
 refine pa_imp a1l ?_
 rintro σ H Q ⟨G,env,d,env',rl,e,k⟩;cases e;exact k [] G H (.refl rl) repL_nil
theorem z5_(ha:ED X B e ma)(hr:EDs X B es ms)(hs:starEach (e::es) X.env=(false,eval e X.env)::starEach es X.env:=by rfl):EDs X B (e::es) (z1_ ma ms):=by
 refine pa_imp (a0g ha hr hs) ?_
 rintro σ H Q ⟨G,env,d,env',rl,e,k⟩;unfold z1_ at e;cases ea:ma env with
 |none=>rw[ea]at e;cases e
 |some p=>
  obtain⟨d1,env1⟩:=p;rw[ea]at e;simp only[Qj]at e;cases eb:ms env1 with
  |none=>rw[eb]at e;cases e
  |some p=>
   obtain⟨d2,env2⟩:=p;rw[eb]at e;cases e;exact .bind rl ea fun v1 G1 H1 ev1 r1=>⟨G1,env1,d2,_,ev1.rel,eb,fun vs G2 H2 ev2 r2=>k _ G2 H2 (ev1.trans ev2) (repL_cons (Rep.mono ev2.same _ r1) r2)⟩
def z8_:Mo (List Ar):=fun env=>some ([],env)
def z6_(m:Mo D)(ms:Mo (List Ar)):Mo (List Ar):=fun env=>(m env).bind fun p=>(ms p.2).map fun q=>(.d p.1::q.1,q.2)
def k4_(i:Nat)(ms:Mo (List Ar)):Mo (List Ar):=fun env=>((env[i]?).bind W.mut).bind fun _=>(ms env).map fun q=>(.sl i::q.1,q.2)
theorem q8_:EAr X B [] z8_:=by
 refine pa_imp a1l ?_
 rintro σ H Q ⟨G,env,d,env',rl,e,k⟩;cases e;exact k [] G H (.refl rl) (by simp only[RepA])
theorem q4_(ha:ED X B e ma)(hr:EAr X B es as)(hs:starEach (e::es) X.env=(false,eval e X.env)::starEach es X.env:=by rfl):EAr X B (e::es) (z6_ ma as):=by
 refine pa_imp (a0g ha hr hs) ?_
 rintro σ H Q ⟨G,env,d,env',rl,e,k⟩;unfold z6_ at e;cases ea:ma env with
 |none=>rw[ea]at e;cases e
 |some p=>
  obtain⟨d1,env1⟩:=p;rw[ea]at e;simp only[Qj]at e;cases eb:as env1 with
  |none=>rw[eb]at e;cases e
  |some p=>
   obtain⟨d2,env2⟩:=p;rw[eb]at e;cases e;exact .bind rl ea fun v1 G1 H1 ev1 r1=>⟨G1,env1,d2,_,ev1.rel,eb,fun vs G2 H2 ev2 r2=>k _ G2 H2 (ev1.trans ev2) (by simp only[RepA];exact⟨_,_,rfl,Rep.mono ev2.same _ r1,r2⟩)⟩
theorem a0B{p:Pos}(ha:PE X (.Name x p) (a0L i))(hr:EAr X B es as)(hs:starEach (.Name x p::es) X.env=(false,eval (.Name x p) X.env)::starEach es X.env:=by rfl):EAr X B (.Name x p::es) (k4_ i as):=by
 refine pa_imp (a0g ha hr hs) ?_
 rintro σ H Q ⟨G,env,d,env',rl,e,k⟩;unfold k4_ at e;cases ew:env[i]? with
 |none=>rw[ew]at e;cases e
 |some w=>
  rw[ew]at e;simp only[Qj]at e;cases em:w.mut with
  |none=>rw[em]at e;cases e
  |some ds=>
   rw[em]at e;simp only[Qj]at e;cases eb:as env with
   |none=>rw[eb]at e;cases e
   |some p=>
    obtain⟨d2,env2⟩:=p;rw[eb]at e;cases e;obtain⟨a',xs,hv,_⟩:=rl.own i w ds ew em;exact⟨_,hv,G,env,d2,_,rl,eb,fun vs G2 H2 ev2 r2=>k _ G2 H2 ev2 (by simp only[RepA];exact⟨_,_,rfl,hv,r2⟩)⟩
end
section
variable{a:Expr}
theorem q2_{o:Option α}{f:α->Option β}{y:β}(h:o.bind f=some y):∃x,o=some x/\f x=some y:=by
 cases o with
 |none=>cases h
 |some x=>exact⟨x,rfl,h⟩
theorem x3_{o:Option α}{f:α->β}{y:β}(h:o.map f=some y):∃x,o=some x/\f x=y:=by
 cases o with
 |none=>cases h
 |some x=>exact⟨x,rfl,Yv h⟩
def v6_(ms:Mo (List D)):Mo D:=fun env=>(ms env).bind fun p=>if p.1.length≤1000 then some (.tup p.1,p.2)else none
theorem y9_{x1:Nat}(h:EDs X B es ms):ED X B (.Tuple es x1 pos) (v6_ ms):=by
 refine pe_imp (b1f h) ?_
 rintro σ H Q ⟨G,env,d,env',rl,e,k⟩;obtain⟨⟨ds,env1⟩,e1,e2⟩:=q2_ e;dsimp only at e2;split at e2
 ·rename_i hl
  cases e2;refine⟨G,env,ds,_,rl,e1,fun vs G1 H1 ev r1=>⟨by rw[r1.length];exact Uz (a5Q hl),fun p hp=>?_⟩⟩
  exact k _ _ _ (ev.trans (ev.rel.alloc hp)) (a2C y8_ (z9_.mono (Le.upd (ev.rel.gnone hp)) _ r1))
 ·cases e2
def x5_(ms:Mo (List D)):Mo (List D):=fun env=>(ms env).bind fun p=>if p.1.length≤1000 then some p else none
theorem a4Q{K:Qz}(ev:Ev K B G σ env H G1 σ env1 H1)(hp:H1 p=none)(r:z9_ K G1 xs ds)
  (k:∀a xs G' H',Ev K B G σ env H G' σ env1 H'->H a=none-> ¬ Owned σ env1 a->H' a=some (.lst xs)->G' a=none->z9_ K G' xs ds->Q (.ref a) H'):Q (.ref p) (upd H1 p (.lst xs)):=by
 refine k p xs G1 _ (ev.trans (ev.rel.allocM hp)) ?_ (ev.rel.unowned hp) y8_ (ev.rel.gnone hp) r;cases h:H p with
 |none=>rfl
 |some o=>exact absurd hp (ev.live p (by rw[h];simp))
theorem w3_(h:EDs X B es ms):EL X B (.List es pos) (x5_ ms):=by
 refine pe_imp (b7z h) ?_
 rintro σ H Q ⟨G,env,d,env',rl,e,k⟩;obtain⟨⟨ds,env1⟩,e1,e2⟩:=q2_ e;dsimp only at e2;split at e2
 ·rename_i hl
  cases e2;exact⟨G,env,_,_,rl,e1,fun vs G1 H1 ev r1=>⟨by rw[r1.length];exact Uz (a5Q hl),fun p hp=>a4Q ev hp r1 k⟩⟩
 ·cases e2
def mF(m:Mo (List D)):Mo D:=fun env=>(m env).map fun p=>(.lst p.1,p.2)
theorem y3_(h:EL X B e ms):ED X B e (mF ms):=by
 refine pe_imp h ?_
 rintro σ H Q ⟨G,env,d,env',rl,e,k⟩;obtain⟨⟨ds,env1⟩,e1,e2⟩:=x3_ e;cases e2;exact⟨G,env,ds,_,rl,e1,fun a xs G' H' ev ha no h' g' r=>k (.ref a) _ H' (ev.frz ha no h' g') (a3O y8_ (z9_.mono (Le.upd g') ds r))⟩
theorem a7Q{K:Qz}{k:Int}(r:z9_ K G xs ds)(h:atI ds k=some d):∃x,atI xs k=some x/\Rep K G x d:=by
 unfold atI at h ⊢;rw[r.length];obtain⟨j,e1,e2⟩:=q2_ h;rw[e1];exact r.get e2
def dIx:D->D->Option D
 |.lst ds,.int k=>atI ds k
 |.tup ds,.int k=>atI ds k
 |_,_=>none
theorem b8l:OpD X B (rIx X.K) dIx:=by
 intro G σ env H x y a b d Q rl ra rb e k;cases a<;>cases b<;>first|(exact absurd (show(none:Option D)=some d from e) (by simp))|skip
 ·simp only[Rep]at ra rb
  obtain⟨p,xs,e1,q,r⟩:=ra;subst e1 rb;obtain⟨v,e3,e4⟩:=a7Q r e;exact .inr (.inl ⟨p,xs,_,v,rfl,rfl,rl.sub.sqT q,e3,k v G H (.refl rl) e4⟩)
 ·simp only[Rep]at ra rb
  obtain⟨p,xs,e1,q,r⟩:=ra;subst e1 rb;obtain⟨v,e3,e4⟩:=a7Q r e;exact .inl ⟨p,xs,_,v,rfl,rfl,rl.sub.sqL q,e3,k v G H (.refl rl) e4⟩
theorem k0_(ha:ED X B a ma)(hb:ED X B b mb)(hs:a2B b):ED X B (.Subscript a b pos) (z4_ dIx ma mb):=pe_imp (a4I b7H ha hb hs) (a5U b8l)
def a0b(i:Nat)(mb:Mo D):Mo D:=fun env=>(mb env).bind fun p=>((p.2[i]?).bind W.mutL).bind fun ds=>(dIx (.lst ds) p.1).map fun d=>(d,p.2)
theorem a2g{p:Pos}(ha:PE X (.Name x p) (a0L i))(hb:ED X B b mb)(hs:a2B b)(hr:∀env d env' w ds,mb env=some (d,env')->env'[i]? =some w->w.mut=some ds->∃w0 ds0,env[i]? =some w0/\w0.mut=some ds0):
  ED X B (.Subscript (.Name x p) b pos) (a0b i mb):=by
 refine pe_imp (a4I a4J ha hb hs) ?_
 rintro σ H Q ⟨G,env,d,env',rl,e,k⟩;obtain⟨⟨d1,env1⟩,e1,e2⟩:=q2_ e;obtain⟨ds,e3,e4⟩:=q2_ e2;obtain⟨w,e5,e6⟩:=q2_ e3;obtain⟨d2,e7,e8⟩:=x3_ e4;cases e8;obtain⟨w0,ds0,e9,e10⟩:=hr env d1 _ w (.l ds) e1 e5 (W.mutL_of e6);obtain⟨q,xs,h1,_⟩:=rl.own i w0 ds0 e9 e10;refine⟨_,h1,.bind rl e1 fun v G1 H1 ev r1=>?_⟩
 obtain⟨q',ys,h2,h3,h4,h5⟩:=ev.rel.ownL i w ds e5 e6;rw[h1]at h2;cases h2;dsimp only at e7;cases d1<;>first|(exact absurd (show(none:Option D)=some _ from e7) (by simp))|skip
 simp only[Rep]at r1;obtain⟨z,h6,h7⟩:=a7Q h4 e7;exact⟨q,ys,_,z,rfl,r1,.inl (.inl h3),h6,k z G1 H1 ev h7⟩
def a1q(X:Cx)(B:OA)(r:List V->Hp->VK->Prop)(f:List D->Option D):Prop:=
 ∀(G:Hp) (σ:St) (env:Env') (H:Hp) (xs:List V) (ds:List D) (c:D) (Q:VK),Rel X.K B G σ env H->z9_ X.K G xs ds->f ds=some c->
  (∀v G' H',Ev X.K B G σ env H G' σ env H'->Rep X.K G' v c->Q v H')->r xs H Q
def a7R(X:Cx)(B:OA)(r:List V->Hp->VK->Prop)(f:List D->Option (List D)):Prop:=
 ∀(G:Hp) (σ:St) (env:Env') (H:Hp) (xs:List V) (ds:List D) (c:List D) (Q:VK),Rel X.K B G σ env H->z9_ X.K G xs ds->f ds=some c->
  (∀p ys G' H',Ev X.K B G σ env H G' σ env H'->H' p=none->z9_ X.K G' ys c->Q (.ref p) (upd H' p (.lst ys)))->r xs H Q
def mCB(f:List D->Option D)(ms:Mo (List D)):Mo D:=fun env=>(ms env).bind fun p=>(f p.1).map fun d=>(d,p.2)
def mCL(f:List D->Option (List D))(ms:Mo (List D)):Mo (List D):=fun env=>(ms env).bind fun p=>(f p.1).map fun d=>(d,p.2)
theorem b1G{r:List V->Hp->VK->Prop}{f:List D->Option D}(o:a1q X B r f):∀σ H Q,TD X.K B (mCB f ms) σ H Q->tCB r (TDs X.K B ms) σ H Q:=by
 rintro σ H Q ⟨G,env,d,env',rl,e,k⟩;obtain⟨⟨ds,env1⟩,e1,e2⟩:=q2_ e;obtain⟨d1,e3,e4⟩:=x3_ e2;cases e4;exact⟨G,env,ds,_,rl,e1,fun vs G1 H1 ev r1=>o G1 σ _ H1 vs ds _ Q ev.rel r1 e3 fun v G2 H2 ev2 r2=>k v G2 H2 (ev.trans ev2) r2⟩
theorem b8m{r:List V->Hp->VK->Prop}{f:List D->Option (List D)}(o:a7R X B r f):∀σ H Q,TL X.K B (mCL f ms) σ H Q->tCB r (TDs X.K B ms) σ H Q:=by
 rintro σ H Q ⟨G,env,d,env',rl,e,k⟩;obtain⟨⟨ds,env1⟩,e1,e2⟩:=q2_ e;obtain⟨d1,e3,e4⟩:=x3_ e2;cases e4;exact⟨G,env,ds,_,rl,e1,fun vs G1 H1 ev r1=>o G1 σ _ H1 vs ds _ Q ev.rel r1 e3 fun p ys G2 H2 ev2 hp r2=>a4Q (ev.trans ev2) hp r2 k⟩
variable{r:List V->Hp->VK->Prop}{f:List D->Option D}{g:List D->Option (List D)}{id:String}{p:Pos}
theorem x4_(hc:j8_ X (.builtin id) r)(o:a1q X B r f)(hg:Gl X x)(hm:X.mg x=none)(hv:bootBuiltins x=some (.builtin id))(ha:EDs X B (e::es) ms)(hn:x≠"__name__":=by decide)(hdb:(x==("__debug__":Str))=false:=by decide)
  (he:starEach (e::es) X.env=(false,eval e X.env)::starEach es X.env:=by rfl)(hpl:(backTo pos (starEach es X.env)).any (·.1)=false:=by rfl):ED X B (.Call (.Name x p) (e::es) [] pos) (mCB f ms):=
 pe_imp (a4H hc hg hm hv ha hn hdb he hpl) (b1G o)
theorem a0m(hc:j8_ X (.type T) r)(o:a1q X B r f)(hg:Gl X x)(hm:X.mg x=none)(hv:bootBuiltins x=some (.type T))(ha:EDs X B (e::es) ms)(hn:x≠"__name__":=by decide)(hdb:(x==("__debug__":Str))=false:=by decide)
  (he:starEach (e::es) X.env=(false,eval e X.env)::starEach es X.env:=by rfl)(hpl:(backTo pos (starEach es X.env)).any (·.1)=false:=by rfl):ED X B (.Call (.Name x p) (e::es) [] pos) (mCB f ms):=
 pe_imp (a3N hc hg hm hv ha hn hdb he hpl) (b1G o)
theorem a6a(hc:j8_ X (.type T) r)(o:a7R X B r g)(hg:Gl X x)(hm:X.mg x=none)(hv:bootBuiltins x=some (.type T))(ha:EDs X B (e::es) ms)(hn:x≠"__name__":=by decide)(hdb:(x==("__debug__":Str))=false:=by decide)
  (he:starEach (e::es) X.env=(false,eval e X.env)::starEach es X.env:=by rfl)(hpl:(backTo pos (starEach es X.env)).any (·.1)=false:=by rfl):EL X B (.Call (.Name x p) (e::es) [] pos) (mCL g ms):=
 pe_imp (a3N hc hg hm hv ha hn hdb he hpl) (b8m o)
theorem a0C{K:Qz}(h:z9_ K G xs [d]):∃x,xs=[x]/\Rep K G x d:=by
 simp only[z9_]at h;obtain⟨x,r,e,q,t⟩:=h;subst t;exact⟨x,e,q⟩
theorem a3P{K:Qz}{d':D}(h:z9_ K G xs [d,d']):∃x y,xs=[x,y]/\Rep K G x d/\Rep K G y d':=by
 simp only[z9_]at h;obtain⟨x,r,e,q,y,r2,e2,q2,t⟩:=h;subst t e2;exact⟨x,y,e,q,q2⟩
def D.items:D->Option (List D)
 |.lst ds=>some ds
 |.tup ds=>some ds
 |_=>none
theorem a7S{K:Qz}(l:Le G H)(r:Rep K G v d)(h:d.items=some ds):∃a xs,v=.ref a/\(SqL K H a xs∨SqT K H a xs)/\z9_ K G xs ds:=by
 cases d<;>first|(exact absurd (show(none:Option (List D))=some ds from h) (by simp))|skip
 ·cases h;simp only[Rep]at r;obtain⟨a,xs,e,q,t⟩:=r;exact⟨a,xs,e,.inr (l.sqT q),t⟩
 ·cases h;simp only[Rep]at r;obtain⟨a,xs,e,q,t⟩:=r;exact⟨a,xs,e,.inl (l.sqL q),t⟩
def v8_:List D->Option D
 |[d]=>d.items.map fun ds=>.int ds.length
 |_=>none
theorem b8n:a1q X B (fun xs H Q=>∃p ys,xs=[.ref p]/\(SqL X.K H p ys∨SqT X.K H p ys)/\Q (.int ys.length) H) v8_:=by
 intro G σ env H xs ds c Q rl r e k
 match ds,e with
 |[d],e=>
  obtain⟨x,rfl,q⟩:=a0C r;obtain⟨ds,e1,e2⟩:=x3_ e;obtain⟨a,ys,rfl,h1,h2⟩:=a7S rl.sub q e1;exact⟨a,ys,rfl,h1,k _ G H (.refl rl) (by rw[←e2,h2.length];simp only[Rep])⟩
def g1_:List D->Option D
 |[d]=>d.items.map fun ds=>.tup ds
 |_=>none
theorem b8o:a1q X B (fun xs H Q=>∃p ys,xs=[.ref p]/\((SqL X.K H p ys/\∀l,H l=none->Q (.ref l) (upd H l (.tup ys)))∨(SqT X.K H p ys/\Q (.ref p) H))) g1_:=by
 intro G σ env H xs ds c Q rl r e k
 match ds,e with
 |[d],e=>
  obtain⟨x,rfl,q⟩:=a0C r;obtain⟨ds,e1,e2⟩:=x3_ e;subst e2;cases d<;>first|(exact absurd (show(none:Option (List D))=some ds from e1) (by simp))|skip
  ·cases e1
   have q0:=q
   simp only[Rep]at q;obtain⟨a,ys,rfl,h1,h2⟩:=q;exact⟨a,ys,rfl,.inr ⟨rl.sub.sqT h1,k _ G H (.refl rl) q0⟩⟩
  ·cases e1
   simp only[Rep]at q;obtain⟨a,ys,rfl,h1,h2⟩:=q;exact⟨a,ys,rfl,.inl ⟨rl.sub.sqL h1,fun l hl=>k _ _ _ (rl.alloc hl) (a2C y8_ (z9_.mono (Le.upd (rl.gnone hl)) _ h2))⟩⟩
def a1T:List D->Option (List D)
 |[d]=>d.items
 |_=>none
theorem b8p:a7R X B (fun xs H Q=>∃p ys,xs=[.ref p]/\(SqL X.K H p ys∨SqT X.K H p ys)/\∀l,H l=none->Q (.ref l) (upd H l (.lst ys))) a1T:=by
 intro G σ env H xs ds c Q rl r e k
 match ds,e with
 |[d],e=>
  obtain⟨x,rfl,q⟩:=a0C r;obtain⟨a,ys,rfl,h1,h2⟩:=a7S rl.sub q e;exact⟨a,ys,rfl,h1,fun l hl=>k l ys G H (.refl rl) hl h2⟩
end
section
variable{K:Qz}
theorem g3_{l:List α}{a b:α}(h:(l.set i a)[j]? =some b):(j=i/\b=a)∨(j≠i/\l[j]? =some b):=by
 by_cases hj:j=i
 ·subst hj
  have hl:j<l.length:=by
   have:=(Qh.mp h).1;rwa [Zh]at this
  rw[Za hl]at h;cases h;exact .inl ⟨rfl,rfl⟩
 ·rw[Qc (Zn hj)]at h
  exact .inr ⟨hj,h⟩
theorem a3Q{l:List α}{m:List β}{a b:α}{c:β}(h:(l.set i a)[i]? =some b)(hl:l.length=m.length):(m.set i c)[i]? =some c:=by
 have:=(Qh.mp h).1;rw[Zh]at this;exact Za (by omega)
theorem Ev.setDat(ev:Ev K B G σ env H G1 σ1 env1 H1)(r:Rep K G1 v d):Ev K B G σ env H G1 (σ1.set i (some v)) (env1.set i (.dat d)) H1:=by
 have rl:=ev.rel
 have ne:∀(j:Nat) (w:W) (es:Mu),(env1.set i (.dat d))[j]? =some w->w.mut=some es->j≠i/\env1[j]? =some w:=fun j w es q1 q2=>by
  rcases g3_ q1 with⟨_,z⟩|z
  ·rw[z]at q2;cases q2
  ·exact z
 refine⟨⟨rl.sub,by rw[Zh,Zh];exact rl.len,fun j d' q=>?_,fun j w es q1 q2=>?_,fun j k w w' es fs b q1 q2 q3 q4 q5 q6=>?_,fun j w b q1 qo q2=>?_,rl.old,rl.tabs,rl.gnt⟩,ev.same,ev.keep,ev.live,ev.stay,fun b z=>?_,fun j w q qp=>?_,by rw[Zh];exact ev.slen⟩
 ·rcases g3_ q with⟨z1,z2⟩|⟨z1,z2⟩
  ·subst z1;cases z2
   exact⟨v,a3Q q rl.len,r⟩
  ·obtain⟨x,q1,q2⟩:=rl.dat j d' z2
   exact⟨x,by rw[Qc (Zn z1)];exact q1,q2⟩
 ·obtain⟨hj,q⟩:=ne j w es q1 q2
  obtain⟨p,ys,e3,e4⟩:=rl.own j w es q q2;exact⟨p,ys,by rw[Qc (Zn hj)];exact e3,e4⟩
 ·obtain⟨h1,h2⟩:=ne j w es q1 q2
  obtain⟨h3,h4⟩:=ne k w' fs q3 q4;rw[Qc (Zn h1)]at q5;rw[Qc (Zn h3)]at q6;exact rl.inj j k w w' es fs b h2 q2 h4 q4 q5 q6
 ·obtain⟨es,hm⟩:=own_mut qo
  obtain⟨h1,h2⟩:=ne j _ es q1 hm;rw[Qc (Zn h1)]at q2;exact rl.fresh j w b h2 qo q2
 ·obtain⟨j,w,es,q1,q2,q3⟩:=z
  obtain⟨h1,h2⟩:=ne j w es q1 q2;rw[Qc (Zn h1)]at q3;exact ev.sub b ⟨j,w,es,h2,q2,q3⟩
 ·obtain⟨es,hm⟩:=par_mut qp
  obtain⟨h1,h2⟩:=ne j _ es q hm;obtain⟨h3,h4⟩:=ev.par j w h2 qp;exact⟨by rw[Qc (Zn h1)];exact h3,h4⟩
theorem Ev.setOwnM{wn:W}(ev:Ev K B G σ env H G1 σ1 env1 H1)(nb:¬ B a)(ha:H a=none)(no:¬ Owned σ1 env1 a)(h1:H1 a=some o)(g1:G1 a=none)(r:RepM K G1 o m)(wm:wn.mut=some m)(wo:wn.isPar=false):
  Ev K B G σ env H G1 (σ1.set i (some (.ref a))) (env1.set i wn) H1:=by
 have rl:=ev.rel
 refine⟨⟨rl.sub,by rw[Zh,Zh];exact rl.len,fun j d' q=>?_,fun j w es q1 q2=>?_,fun j k w w' es fs b q1 q2 q3 q4 q5 q6=>?_,fun j w b q1 qo q2=>?_,rl.old,rl.tabs,rl.gnt⟩,ev.same,ev.keep,ev.live,ev.stay,fun b z=>?_,fun j w q qp=>?_,by rw[Zh];exact ev.slen⟩
 ·rcases g3_ q with⟨z1,z2⟩|⟨z1,z2⟩
  ·rw[←z2]at wm;cases wm
  ·obtain⟨x,q1,q2⟩:=rl.dat j d' z2
   exact⟨x,by rw[Qc (Zn z1)];exact q1,q2⟩
 ·rcases g3_ q1 with⟨z1,z2⟩|⟨z1,z2⟩
  ·subst z1 z2;rw[wm]at q2;cases q2
   exact⟨a,o,a3Q q1 rl.len,h1,r,g1⟩
  ·obtain⟨p,ys,e3,e4⟩:=rl.own j w es z2 q2
   exact⟨p,ys,by rw[Qc (Zn z1)];exact e3,e4⟩
 ·rcases g3_ q1 with⟨z1,z2⟩|⟨z1,z2⟩
  ·rcases g3_ q3 with⟨y1,y2⟩|⟨y1,y2⟩
   ·rw[z1,y1]
   ·subst z1
    rw[a3Q q1 rl.len]at q5;cases q5;rw[Qc (Zn y1)]at q6;exact absurd ⟨k,w',fs,y2,q4,q6⟩ no
  ·rw[Qc (Zn z1)]at q5
   rcases g3_ q3 with⟨y1,y2⟩|⟨y1,y2⟩
   ·subst y1
    rw[a3Q q3 rl.len]at q6;cases q6;exact absurd ⟨j,w,es,z2,q2,q5⟩ no
   ·rw[Qc (Zn y1)]at q6
    exact rl.inj j k w w' es fs b z2 q2 y2 q4 q5 q6
 ·rcases g3_ q1 with⟨z1,z2⟩|⟨z1,z2⟩
  ·subst z1
   rw[a3Q q1 rl.len]at q2;cases q2;exact nb
  ·rw[Qc (Zn z1)]at q2
   exact rl.fresh j w b z2 qo q2
 ·obtain⟨j,w,es,q1,q2,q3⟩:=z
  rcases g3_ q1 with⟨z1,z2⟩|⟨z1,z2⟩
  ·subst z1
   rw[a3Q q1 rl.len]at q3;cases q3;exact .inr ha
  ·rw[Qc (Zn z1)]at q3
   exact ev.sub b ⟨j,w,es,z2,q2,q3⟩
 ·rcases g3_ q with⟨z1,z2⟩|⟨z1,z2⟩
  ·rw[z2,wo]at qp;cases qp
  ·obtain⟨h3,h4⟩:=ev.par j w z2 qp
   exact⟨by rw[Qc (Zn z1)];exact h3,h4⟩
theorem Ev.setOwn(ev:Ev K B G σ env H G1 σ1 env1 H1)(nb:¬ B a)(ha:H a=none)(no:¬ Owned σ1 env1 a)(h1:H1 a=some (.lst xs))(g1:G1 a=none)(r:z9_ K G1 xs ds):
  Ev K B G σ env H G1 (σ1.set i (some (.ref a))) (env1.set i (.own ds)) H1:=ev.setOwnM (m:=.l ds) nb ha no h1 g1 ⟨xs,rfl,r⟩ rfl rfl
theorem Ev.setNil(ev:Ev K B G σ env H G1 σ1 env1 H1):Ev K B G σ env H G1 σ1 (env1.set i .nil) H1:=by
 have rl:=ev.rel
 have ne:∀(j:Nat) (w:W),(env1.set i .nil)[j]? =some w->w≠.nil->j≠i/\env1[j]? =some w:=fun j w q1 q2=>by
  rcases g3_ q1 with⟨_,z⟩|z
  ·exact absurd z q2
  ·exact z
 have nm:∀(w:W) (es:Mu),w.mut=some es->w≠.nil:=fun w es h z=>by rw[z]at h;cases h
 refine⟨⟨rl.sub,by rw[Zh];exact rl.len,fun j d' q=>rl.dat j d' (ne j _ q (by simp)).2,fun j w es q1 q2=>rl.own j w es (ne j w q1 (nm w es q2)).2 q2,fun j k w w' es fs b q1 q2 q3 q4 q5 q6=>rl.inj j k w w' es fs b (ne j w q1 (nm _ _ q2)).2 q2 (ne k w' q3 (nm _ _ q4)).2 q4 q5 q6,
  fun j w b q1 qo q2=>rl.fresh j w b (ne j _ q1 (by rintro rfl;cases qo)).2 qo q2,rl.old,rl.tabs,rl.gnt⟩,ev.same,ev.keep,ev.live,ev.stay,fun b z=>?_,fun j w q qp=>ev.par j w (ne j _ q (by rintro rfl;cases qp)).2 qp,ev.slen⟩
 obtain⟨j,w,es,q1,q2,q3⟩:=z;exact ev.sub b ⟨j,w,es,(ne j w q1 (nm _ _ q2)).2,q2,q3⟩
theorem Ev.writeM{o':HO}{m':Mu}(ev:Ev K B G σ env H G1 σ1 env1 H1)(e1:env1[i]? =some w)(e2:w.mut=some m)(e3:σ1[i]? =some (some (.ref a)))(r:RepM K G1 o' m'):
  Ev K B G σ env H G1 σ1 (env1.set i (w.putM m')) (upd H1 a o'):=by
 have rl:=ev.rel
 obtain⟨a',o0,h1,h2,h3,h4⟩:=rl.own i w m e1 e2;rw[e3]at h1;cases h1;have ow:Owned σ1 env1 a:=⟨i,w,m,e1,e2,e3⟩;have wp:(w.putM m').mut=some m':=W.putM_mut e2 m';have nd:∀d,w.putM m'≠.dat d:=fun d z=>by rw[z]at wp;cases wp
 have oo:Owned σ env a∨H a=none:=ev.sub a ow
 refine⟨⟨fun b u e=>?_,by rw[Zh];exact rl.len,fun j d' q=>?_,fun j v es q1 q2=>?_,fun j k v v' es fs b q1 q2 q3 q4 q5 q6=>?_,fun j v b q1 qo q2=>?_,fun b hb=>?_,rl.tabs.upd r.nt (fun φ z=>by rw[h2]at z;cases z;exact h3.ne φ rfl),rl.gnt⟩,ev.same,fun b o n t e=>?_,fun b e=>?_,ev.stay,fun b z=>?_,fun j v q qp=>?_,ev.slen⟩
 ·have hb:b≠a:=fun z=>by rw[z,h4]at e;cases e
  rw[q7_ hb];exact rl.sub b u e
 ·rcases g3_ q with⟨z1,z2⟩|⟨z1,z2⟩
  ·exact absurd z2.symm (nd d')
  ·exact rl.dat j d' z2
 ·rcases g3_ q1 with⟨z1,z2⟩|⟨z1,z2⟩
  ·subst z1 z2
   rw[wp]at q2;cases q2;exact⟨a,o',e3,y8_,r,h4⟩
  ·obtain⟨p,ys,f1,f2,f3,f4⟩:=rl.own j v es z2 q2
   have hp:p≠a:=fun z=>z1 (rl.inj j i v w es m a z2 q2 e1 e2 (by rw[f1,z]) e3)
   exact⟨p,ys,f1,by rw[q7_ hp];exact f2,f3,f4⟩
 ·have g:∀(n:Nat) (v:W) (es:Mu),(env1.set i (w.putM m'))[n]? =some v->v.mut=some es->∃v0 es0,env1[n]? =some v0/\v0.mut=some es0:=fun n v es y1 y2=>by
   rcases g3_ y1 with⟨z1,z2⟩|⟨z1,z2⟩
   ·rw[z1];exact⟨w,m,e1,e2⟩
   ·exact⟨v,es,z2,y2⟩
  obtain⟨v0,es0,y1,y2⟩:=g j v es q1 q2;obtain⟨v1,es1,y3,y4⟩:=g k v' fs q3 q4;exact rl.inj j k v0 v1 es0 es1 b y1 y2 y3 y4 q5 q6
 ·rcases g3_ q1 with⟨z1,z2⟩|⟨z1,z2⟩
  ·subst z1
   exact rl.fresh j w b e1 (by rw[z2,W.putM_own e2]at qo;exact qo) q2
  ·exact rl.fresh j v b z2 qo q2
 ·by_cases h:b=a
  ·subst h;rw[y8_];simp
  ·rw[q7_ h];exact rl.old b hb
 ·have hb:b≠a:=fun z=>by
   rcases oo with q|q
   ·exact n (z ▸ q)
   ·rw[z,q]at e;cases e
  rw[q7_ hb];exact ev.keep b o n t e
 ·by_cases h:b=a
  ·subst h;rw[y8_];simp
  ·rw[q7_ h];exact ev.live b e
 ·obtain⟨j,v,es,q1,q2,q3⟩:=z
  rcases g3_ q1 with⟨z1,z2⟩|⟨z1,z2⟩
  ·rw[z1,e3]at q3;cases q3
   exact oo
  ·exact ev.sub b ⟨j,v,es,z2,q2,q3⟩
 ·rcases g3_ q with⟨z1,z2⟩|⟨z1,z2⟩
  ·subst z1
   exact ev.par j w e1 (by rw[z2,W.putM_par e2]at qp;exact qp)
  ·exact ev.par j v z2 qp
theorem Ev.write{xs':List V}{ds':List D}(ev:Ev K B G σ env H G1 σ1 env1 H1)(e1:env1[i]? =some w)(e2:w.mutL=some ds)(e3:σ1[i]? =some (some (.ref a)))(r:z9_ K G1 xs' ds'):
  Ev K B G σ env H G1 σ1 (env1.set i (w.put ds')) (upd H1 a (.lst xs')):=by
 rw[W.put_eq e2];exact ev.writeM e1 (W.mutL_of e2) e3 ⟨xs',rfl,r⟩
end
section
variable{a:Expr}{st:Stmt}{rest:List Stmt}{s1 s2:Mo Fl}
def mNx:Mo Fl:=fun env=>some (.nx,env)
def q1_(m n:Mo Fl):Mo Fl:=fun env=>(m env).bind fun p=>match p.1 with
 |.nx=>n p.2
 |fl=>some (fl,p.2)
theorem TSm.nx{K:Qz}{D:Ends}{m:Mo Fl}(r:Rel K B G σ env H)(e:m env=some (.nx,env'))(k:∀σ' G' H',Ev K B G σ env H G' σ' env' H'->D.nx σ' H'):TSm K B m D σ H:=⟨G,env,.nx,env',r,e,k⟩
theorem w2_:ESs X B [] mNx:=by
 refine pss_imp b6F ?_
 rintro D σ H ⟨G,env,fl,env',rl,e,k⟩;cases e;exact k σ G H (.refl rl)
theorem q6_(h1:ES X B st s1)(h2:ESs X B rest s2):ESs X B (st::rest) (q1_ s1 s2):=by
 refine pss_imp (a3e h1 h2) ?_
 rintro D σ H ⟨G,env,fl,env',rl,e,k⟩;obtain⟨⟨fl1,env1⟩,e1,e2⟩:=q2_ e;dsimp only at e2;cases fl1 with
 |nx=>
  dsimp only at e2;exact⟨G,env,.nx,env1,rl,e1,fun σ1 G1 H1 ev=>⟨G1,env1,fl,env',ev.rel,e2,Post.after _ _ k ev⟩⟩
 |bk=>cases e2;exact⟨G,env,.bk,_,rl,e1,k⟩
 |ct=>cases e2;exact⟨G,env,.ct,_,rl,e1,k⟩
 |ret d=>cases e2;exact⟨G,env,.ret d,_,rl,e1,k⟩
 |retL d=>cases e2;exact⟨G,env,.retL d,_,rl,e1,k⟩
theorem q9_(h1:ES X B st s1):ESs X B [st] s1:=a7m h1
def y4_(t:Mo Bool)(m n:Mo Fl):Mo Fl:=fun env=>(t env).bind fun p=>if p.1 then m p.2 else n p.2
theorem k7_{s t:List Stmt}{tc:Mo Bool}(hc:ET X B c tc)(h1:ESs X B s s1)(h2:ESs X B t s2):ES X B (.If c s t pos) (y4_ tc s1 s2):=by
 refine ps_imp (b0R hc h1 h2) ?_
 rintro D σ H ⟨G,env,fl,env',rl,e,k⟩;obtain⟨⟨b1,env1⟩,e1,e2⟩:=q2_ e;dsimp only at e2;refine⟨G,env,b1,env1,rl,e1,fun G1 H1 ev=>?_⟩
 cases b1 with
 |true=>simp only[Zy]at e2 ⊢;exact⟨G1,env1,fl,env',ev.rel,e2,Post.after _ _ k ev⟩
 |false=>simp only[Zq,Yj]at e2 ⊢;exact⟨G1,env1,fl,env',ev.rel,e2,Post.after _ _ k ev⟩
def a6b:Mo Fl:=fun _=>none
theorem a6c:ES X B st a6b:=by
 refine ps_imp b6J ?_
 rintro D σ H ⟨G,env,fl,env',rl,e,k⟩;cases e
def v0_(m:Mo D):Mo Fl:=fun env=>(m env).map fun p=>(.ret p.1,p.2)
theorem y7_(h:ED X B e ma):ES X B (.Return (some e) pos) (v0_ ma):=by
 refine ps_imp (a7n h) ?_
 rintro D σ H ⟨G,env,fl,env',rl,e,k⟩;obtain⟨⟨d,env1⟩,e1,e2⟩:=x3_ e;cases e2;exact⟨G,env,d,_,rl,e1,fun v G' H' ev r=>k v σ G' H' ev r⟩
def a2h(m:Mo (List D)):Mo Fl:=fun env=>(m env).map fun p=>(.retL p.1,p.2)
theorem a3R(h:EL X B e ms):ES X B (.Return (some e) pos) (a2h ms):=by
 refine ps_imp (a7n h) ?_
 rintro D σ H ⟨G,env,fl,env',rl,e,k⟩;obtain⟨⟨d,env1⟩,e1,e2⟩:=x3_ e;cases e2;exact⟨G,env,d,_,rl,e1,fun a xs G' H' ev ha no h' g' r=>k a xs σ G' H' ev (fun z=>rl.old a z ha) no h' g' r⟩
def c5M(i:Nat):Mo Fl:=fun env=>match env[i]? with
 |some (.own ds)=>some (.retL ds,env.set i .nil)
 |_=>none
def v2_(i:Nat)(m:Mo D):Mo Fl:=fun env=>(m env).map fun p=>(.nx,p.2.set i (.dat p.1))
def j5_(i:Nat)(m:Mo (List D)):Mo Fl:=fun env=>(m env).map fun p=>(.nx,p.2.set i (.own p.1))
section
variable{pos':Pos}
theorem x6_(hN:X.N.Nodup)(hi:X.N[i]? =some x)(hx:Loc X.env.scope x)(he:ED X B e ma)(hs:swapsWith e (some (.Name x pos')) pos.line X.env=pure false:=by rfl)(hf:X.fn x=true∨X.env.scope.names.lookup x=some .local:=by first|exact .inl rfl|exact .inr rfl|assumption):
  ES X B (.Assign [.Name x pos'] e pos) (v2_ i ma):=by
 refine ps_imp (a4D hN hi hx he hs hf) ?_
 rintro D σ H ⟨G,env,fl,env',rl,e,k⟩;obtain⟨⟨d,env1⟩,e1,e2⟩:=x3_ e;cases e2;exact⟨G,env,d,_,rl,e1,fun v G' H' ev r=>k _ G' H' (ev.setDat r)⟩
theorem a1r(hN:X.N.Nodup)(hi:X.N[i]? =some x)(hx:Loc X.env.scope x)(he:EL X B e ms)(hs:swapsWith e (some (.Name x pos')) pos.line X.env=pure false:=by rfl)(hf:X.fn x=true∨X.env.scope.names.lookup x=some .local:=by first|exact .inl rfl|exact .inr rfl|assumption):
  ES X B (.Assign [.Name x pos'] e pos) (j5_ i ms):=by
 refine ps_imp (a4D hN hi hx he hs hf) ?_
 rintro D σ H ⟨G,env,fl,env',rl,e,k⟩;obtain⟨⟨d,env1⟩,e1,e2⟩:=x3_ e;cases e2;exact⟨G,env,d,_,rl,e1,fun a xs G' H' ev ha no h' g' r=>k _ G' H' (ev.setOwn (fun z=>rl.old a z ha) ha no h' g' r)⟩
def a6d(i:Nat)(f:D->D->Option D)(m:Mo D):Mo Fl:=fun env=>match env[i]? with
 |some (.dat d0)=>(m env).bind fun p=>(f d0 p.1).map fun d=>(.nx,p.2.set i (.dat d))
 |_=>none
theorem b1H{op:Operator}{f:D->D->Option D}(hN:X.N.Nodup)(hi:X.N[i]? =some x)(hx:Loc X.env.scope x)(he:ED X B e ma)(ho:OpR X (inplaceOp op) r)(o:OpD X B r f)
  (hf:X.fn x=true∨X.env.scope.names.lookup x=some .local:=by first|exact .inl rfl|exact .inr rfl|assumption):ES X B (.AugAssign (.Name x pos') op e pos) (a6d i f ma):=by
 refine ps_imp (b6V hN hi hx he (ti:=r) (fun pins s σ H x y v u Q I rx ry q=>ho pins s σ H x y v u Q I rx ry q) hf) ?_
 rintro D σ H ⟨G,env,fl,env',rl,e,k⟩;unfold a6d at e;split at e
 ·rename_i d0 e0
  obtain⟨⟨d,env1⟩,e1,e2⟩:=q2_ e;obtain⟨d2,e3,e4⟩:=x3_ e2;cases e4;obtain⟨v0,h0,r0⟩:=rl.dat i d0 e0;exact⟨v0,h0,.bind rl e1 fun v G' H' ev r1=>o G' σ _ H' v0 v d0 d _ _ ev.rel (Rep.mono ev.same _ r0) r1 e3 fun v2 G2 H2 ev2 r2=>k _ G2 H2 ((ev.trans ev2).setDat r2)⟩
 ·cases e
end
def a0q(i:Nat)(m:Mo D):Mo Fl:=fun env=>((env[i]?).bind W.mutL).bind fun _=>(m env).bind fun p=>(p.2[i]?).bind fun w=>w.mutL.bind fun ds=>if ds.length<100000 then some (.nx,p.2.set i (w.put (ds++[p.1])))else none
theorem a2i{p apos cpos:Pos}(ho:PE X (.Name x p) (a0L i))(ha:EDs X B [e] (z1_ ma z3_))
  (hbase:attributeBase (.Name x p) "append" X.env (eval (.Name x p) X.env)=eval (.Name x p) X.env:=by rfl)
  (hfew:((backTo cpos (starEach [e] X.env)).all (fun x=>!x.1)&&(backToKw cpos (keywordEach [] X.env)).all (fun x=>x.1.isSome)
   &&decide ([e].length+([]:List Keyword).length+(if([]:List Keyword).isEmpty then 0 else 1)<30))=true:=by rfl)
  (hline:(apos.endLine==cpos.line)=true:=by rfl)(hs:starEach [e] X.env=(false,eval e X.env)::starEach [] X.env:=by rfl)(hplain:(backTo cpos (starEach [] X.env)).any (·.1)=false:=by rfl)
  (hsw:swapsWith (.Call (.Attribute (.Name x p) "append" apos) [e] [] cpos) none pos.line X.env=pure false:=by rfl):
  ES X B (.Expr (.Call (.Attribute (.Name x p) "append" apos) [e] [] cpos) pos) (a0q i ma):=by
 refine ps_imp (a5M (a7F Vp PySem.F.slot_list_append PySem.F.type_list_append a7G ho ha hbase hfew hline hs hplain) hsw) ?_
 rintro D σ H ⟨G,env,fl,env',rl,e,k⟩;obtain⟨ds0,e0,e⟩:=q2_ e;obtain⟨w0,e00,em0⟩:=q2_ e0;obtain⟨⟨d,env1⟩,e1,e2⟩:=q2_ e;obtain⟨w,e3,e4⟩:=q2_ e2;obtain⟨ds,e5,e6⟩:=q2_ e4;dsimp only at e3 e6;split at e6
 ·rename_i hl
  cases e6;obtain⟨q,xs0,h1,h2,h3,h4⟩:=rl.ownL i w0 ds0 e00 em0;refine⟨_,h1,.inl ⟨rfl,xs0,.inl (.inl h2)⟩,G,env,[d],env1,rl,by show(ma env).bind _=_;rw[e1];rfl,fun vs G1 H1 ev r1=>?_⟩
  obtain⟨v,rfl,rv⟩:=a0C r1;obtain⟨q',xs,g1,g2,g3,g4⟩:=ev.rel.ownL i w ds e3 e5;rw[h1]at g1;cases g1;have hz:xs.length<sizeLine:=by rw[g3.length];exact Vz hl (by decide)
  exact⟨q,xs,v,rfl,rfl,g2,hz,k _ G1 _ (ev.write e3 e5 h1 (g3.append (repL_cons rv repL_nil)))⟩
 ·cases e6
end
section
variable(K:Qz)(B:OA)
def TGm(n:Nat)(g:OZ):TG:=fun v σ H Q=>∃G env d env',Rel K B G σ env H/\Rep K G v d/\g d env=some env'/\∀σ' G' H',Ev K B G σ env H G' σ' env' H'->(∀j,j<n->σ'[j]? =σ[j]?)->Q σ' H'
def b8q(n:Nat)(g:List D->Env'->Option Env'):TGs:=fun vs σ H Q=>∃G env ds env',Rel K B G σ env H/\z9_ K G vs ds/\g ds env=some env'/\∀σ' G' H',Ev K B G σ env H G' σ' env' H'->(∀j,j<n->σ'[j]? =σ[j]?)->Q σ' H'
end
abbrev EG(X:Cx)(B:OA)(n:Nat)(e:Expr)(g:OZ):Prop:=PG X e (TGm X.K B n g)
abbrev EGs(X:Cx)(B:OA)(n:Nat)(es:List Expr)(g:List D->Env'->Option Env'):Prop:=PGs X es (b8q X.K B n g)
theorem a7T{t t':TG}(h:PG X e t)(i:∀v σ H Q,t' v σ H Q->t v σ H Q):PG X e t':=fun pins s σ H v u Q I r q=>h pins s σ H v u Q I r (i v σ H Q q)
theorem b1I{e:List Expr}{t t':TGs}(h:PGs X e t)(i:∀v σ H Q,t' v σ H Q->t v σ H Q):PGs X e t':=fun pins s σ H v u Q I r q=>h pins s σ H v u Q I r (i v σ H Q q)
def gN(i:Nat):OZ:=fun d env=>some (env.set i (.dat d))
def gNl:List D->Env'->Option Env':=fun ds env=>match ds with
 |[]=>some env
 |_=>none
def gCn(g:OZ)(gs:List D->Env'->Option Env'):List D->Env'->Option Env':=fun ds env=>match ds with
 |d::ds=>(g d env).bind (gs ds)
 |[]=>none
def gT(n:Nat)(gs:List D->Env'->Option Env'):OZ:=fun d env=>match d with
 |.tup ds=>if ds.length=n then gs ds env else none
 |_=>none
section
variable{a:Expr}{g:OZ}{gs:List D->Env'->Option Env'}
theorem y5_(hn:n≤i)(hN:X.N.Nodup)(hi:X.N[i]? =some x)(hx:Loc X.env.scope x)(hf:X.fn x=true∨X.env.scope.names.lookup x=some .local:=by first|exact .inl rfl|exact .inr rfl|assumption):EG X B n (.Name x pos) (gN i):=by
 refine a7T (b6K hN hi hx hf) ?_
 rintro v σ H Q ⟨G,env,d,env',rl,r,e,k⟩;cases e;exact k _ G H ((Ev.refl rl).setDat r) fun j hj=>Qc (by omega)
theorem a2j:EGs X B n [] gNl:=by
 refine b1I b6N ?_
 rintro vs σ H Q ⟨G,env,ds,env',rl,r,e,k⟩;unfold gNl at e;split at e
 ·cases e
  simp only[z9_]at r;exact⟨r,k _ G H (.refl rl) fun _ _=>rfl⟩
 ·cases e
theorem a0n(h1:EG X B n e g)(h2:EGs X B n es gs)(hs:(assignEach (e::es) X.env).map (·.2)=assign e X.env::(assignEach es X.env).map (·.2):=by rfl):EGs X B n (e::es) (gCn g gs):=by
 refine b1I (b6O h1 h2 hs) ?_
 rintro vs σ H Q ⟨G,env,ds,env',rl,r,e,k⟩;unfold gCn at e;split at e
 ·rename_i d ds
  obtain⟨env1,e1,e2⟩:=q2_ e;simp only[z9_]at r;obtain⟨x,xs,e3,r1,r2⟩:=r;exact⟨x,xs,e3,G,env,d,env1,rl,r1,e1,fun σ1 G1 H1 ev y1=>⟨G1,env1,ds,env',ev.rel,z9_.mono ev.same _ r2,e2,fun σ2 G2 H2 ev2 y2=>k σ2 G2 H2 (ev.trans ev2) fun j hj=>(y2 j hj).trans (y1 j hj)⟩⟩
 ·cases e
theorem a2k{nb k':Nat}(hc:X.calm=true)(h:EGs X B nb es gs)(hn:(assignEach es X.env).length=n:=by rfl)(hst:(assignEach es X.env).findIdx? (·.1)=none:=by rfl):EG X B nb (.Tuple es k' pos) (gT n gs):=by
 refine a7T (b6Q hc h hn hst) ?_
 rintro v σ H Q ⟨G,env,d,env',rl,r,e,k⟩;unfold gT at e;split at e
 ·rename_i ds
  split at e
  ·rename_i hl
   simp only[Rep]at r;obtain⟨p,xs,e1,q,t⟩:=r;exact⟨p,xs,e1,rl.sub.sqT q,t.length.trans hl,G,env,ds,env',rl,t,e,k⟩
  ·cases e
 ·cases e
def gS(s:Nat)(mi:Mo D):OZ:=fun d env=>((env[s]?).bind W.mutL).bind fun _=>(mi env).bind fun p=>match p.1 with
 |.int k=>(p.2[s]?).bind fun w=>w.mutL.bind fun ds=>(ixN ds.length k).map fun j=>p.2.set s (w.put (ds.set j d))
 |_=>none
theorem a7U{s:Nat}{p:Pos}(ho:PE X (.Name x p) (a0L s))(hi:ED X B b mb)
  (ha:∀v,assign (.Subscript (.Name x p) b pos) X.env v=(do
   let ov←holding [v] (eval (.Name x p) X.env)
   let iv←holding [v,ov] (eval b X.env)
   standAt pos
   holding [v,ov,iv] (setItem ov iv v)
   release [v,ov,iv] []):=by intro _;rfl):EG X B n (.Subscript (.Name x p) b pos) (gS s mb):=by
 refine a7T (b0V ho hi b1u ha) ?_
 rintro v σ H Q ⟨G,env,d,env',rl,r,e,k⟩;obtain⟨ds0,e0,e⟩:=q2_ e;obtain⟨w0,e00,em0⟩:=q2_ e0;obtain⟨⟨d1,env1⟩,e1,e2⟩:=q2_ e;dsimp only at e2;split at e2
 ·rename_i kk
  obtain⟨w,e3,e4⟩:=q2_ e2;obtain⟨ds,e5,e6⟩:=q2_ e4;obtain⟨j,e7,e8⟩:=x3_ e6;cases e8;obtain⟨q,xs0,h1,h2,h3,h4⟩:=rl.ownL s w0 ds0 e00 em0;refine⟨_,h1,.bind rl e1 fun iv G1 H1 ev r1=>?_⟩
  simp only[Rep]at r1;obtain⟨q',xs,g1,g2,g3,g4⟩:=ev.rel.ownL s w ds e3 e5;rw[h1]at g1;cases g1;exact⟨q,xs,kk,j,rfl,r1,g2,by rw[g3.length];exact e7,k _ G1 _ (ev.write e3 e5 h1 (g3.set j (Rep.mono ev.same _ r))) fun _ _=>rfl⟩
 ·cases e2
def a1B(m:Mo D)(g:OZ):Mo Fl:=fun env=>(m env).bind fun p=>(g p.1 p.2).map fun e=>(.nx,e)
theorem a6e(he:ED X B e ma)(hg:EG X B 0 tg g)(hs:swapsWithSole [tg] e pos.line X.env=pure false:=by rfl)(hw:swappedStores [tg] e X.env=pure none:=by rfl)
  (h1:(assignEach [tg] X.env).map (·.2)=[assign tg X.env]:=by rfl):ES X B (.Assign [tg] e pos) (a1B ma g):=by
 refine ps_imp (b0W he hg hs hw h1) ?_
 rintro D σ H ⟨G,env,fl,env',rl,e,k⟩;obtain⟨⟨d1,env1⟩,e1,e2⟩:=q2_ e;obtain⟨env2,e3,e4⟩:=x3_ e2;cases e4;exact .bind rl e1 fun v G1 H1 ev r=>⟨G1,env1,d1,_,ev.rel,r,e3,fun σ2 G2 H2 ev2 _=>k σ2 G2 H2 (ev.trans ev2)⟩
def a4R(i j:Nat)(ms:Mo (List D)):Mo Fl:=fun env=>(ms env).bind fun p=>match p.1 with
 |[d,d']=>some (.nx,(p.2.set i (.dat d)).set j (.dat d'))
 |_=>none
theorem b1J{px pt pt2:Pos}{kt k2}(hc:X.calm=true)(hN:X.N.Nodup)(hi:X.N[i]? =some x)(hj:X.N[j]? =some y)(hij:i≠j)
  (hx:X.env.scope.names.lookup x=some .local)(hy:X.env.scope.names.lookup y=some .local)(ha:EDs X B [a,b] ms)
  (hw:swappedStores [.Tuple [.Name x px,.Name y py] kt pt] (.Tuple [a,b] k2 pt2) X.env=pure (some [x,y]))
  (hs:swapsWithSole [.Tuple [.Name x px,.Name y py] kt pt] (.Tuple [a,b] k2 pt2) pos.line X.env=pure false:=by rfl):
  ES X B (.Assign [.Tuple [.Name x px,.Name y py] kt pt] (.Tuple [a,b] k2 pt2) pos) (a4R i j ms):=by
 refine ps_imp (b6T hc hN hi hj hij hx hy ha hw hs) ?_
 rintro D σ H ⟨G,env,fl,env',rl,e,k⟩;obtain⟨⟨ds,env1⟩,e1,e2⟩:=q2_ e;dsimp only at e2;split at e2
 ·cases e2
  refine⟨G,env,_,env1,rl,e1,fun vs G1 H1 ev r=>?_⟩
  obtain⟨v,w,rfl,r1,r2⟩:=a3P r;exact⟨v,w,rfl,k _ G1 H1 ((ev.setDat r1).setDat r2)⟩
 ·cases e2
structure ItD(K:Qz)(J:It)(G:Hp)(ds:List D):Prop where
 go:∀i H,Le G H->i<ds.length->J.go i H
 stop:∀i H,Le G H->ds.length≤i->J.stop i H
 yld:∀i H x H' d,Le G H->J.yld i H x H'->ds[i]? =some d->(H'=H/\Rep K G x d)∨ ∃p o,NT o/\H p=none/\H'=upd H p o/\Rep K (upd G p o) x d
end
section
variable(K:Qz)(B:OA)
def TIm(m:Mo (List D)):TI:=fun σ H R=>∃G env ds env',Rel K B G σ env H/\m env=some (ds,env')/\∀J G' H',Ev K B G σ env H G' σ env' H'->ItD K J G' ds->R J H'
end
abbrev EI(X:Cx)(B:OA)(tg e:Expr)(m:Mo (List D)):Prop:=PI X tg e (TIm X.K B m)
theorem a6f{t t':TI}(h:PI X tg e t)(i:∀σ H R,t' σ H R->t σ H R):PI X tg e t':=fun pins s σ H R I q=>h pins s σ H R I (i σ H R q)
section
variable{a:Expr}{g:OZ}{gs:List D->Env'->Option Env'}
def b8r(K:Qz)(tl:TE):TI:=fun σ H R=>tl σ H fun x H1=>∃a,x=.ref a/\(((∃xs,SqL K H1 a xs)/\R (Itl K a) H1)∨((∃xs,SqT K H1 a xs)/\R (Itt K a) H1))
theorem b8s{l:Expr}{tl:TE}(hl:PE X l tl):PI X tg l (b8r X.K tl):=by
 intro pins s σ H R I h;refine thn (hl pins s σ H _ I h) fun v s1 ⟨x,H1,I1,r1,q1⟩=>?_
 obtain⟨a,e,q⟩:=q1;subst e;cases r1
 rcases q with⟨⟨xs,hq⟩,q⟩|⟨⟨xs,hq⟩,q⟩
 ·obtain⟨its,rv,p,hz⟩:=I1.list hq
  refine Ji p.isList ?_
  refine⟨s1.heap.objs.size,[s1.heap.objs.size],_,_,H1,rfl,I1.kept (t':=s1.toks) fun b o e=>Qx _ e,b6W a _,⟨_,Qg _ rfl,rfl,rfl⟩,fun b hb=>?_,q⟩
  have e:b=s1.heap.objs.size:=by simpa using hb
  subst e;exact I1.fpOk (Qy _) (I1.hok.fresh (Qy _))
 ·obtain⟨its,rv,p,hz⟩:=I1.tuple hq
  refine Vj (show s1.heap.IsTuple a its.toArray from p) ?_
  refine⟨s1.heap.objs.size,[s1.heap.objs.size],_,_,H1,rfl,I1.kept (t':=s1.toks) fun b o e=>Qx _ e,b6X a _,⟨_,Qg _ rfl,rfl,rfl⟩,fun b hb=>?_,q⟩
  have e:b=s1.heap.objs.size:=by simpa using hb
  subst e;exact I1.fpOk (Qy _) (I1.hok.fresh (Qy _))
def y0_(m:Mo D):Mo (List D):=fun env=>(m env).bind fun p=>p.1.items.map fun ds=>(ds,p.2)
theorem b8t{K:Qz}(q:SqL K G p xs)(r:z9_ K G xs ds):ItD K (Itl K p) G ds where
 go:=fun i H l hi=>⟨xs,xs[i]'(by rw[r.length];exact hi),l.sqL q,by simp⟩
 stop:=fun i H l hi=>⟨xs,l.sqL q,by rw[r.length];exact hi⟩
 yld:=fun i H x H' d l y e=>by
  obtain⟨rfl,y⟩:=y;obtain⟨x',e1,e2⟩:=r.get e;have:=y xs (l.sqL q);rw[e1]at this;cases this;exact .inl ⟨rfl,e2⟩
theorem b8u{K:Qz}(q:SqU K G p xs)(r:z9_ K G xs ds):ItD K (Itt K p) G ds where
 go:=fun i H l hi=>⟨xs,xs[i]'(by rw[r.length];exact hi),l.sqT q,by simp⟩
 stop:=fun i H l hi=>⟨xs,l.sqT q,by rw[r.length];exact hi⟩
 yld:=fun i H x H' d l y e=>by
  obtain⟨rfl,y⟩:=y;obtain⟨x',e1,e2⟩:=r.get e;have:=y xs (l.sqT q);rw[e1]at this;cases this;exact .inl ⟨rfl,e2⟩
theorem k8_(h:ED X B e ma):EI X B tg e (y0_ ma):=by
 refine a6f (b8s h) ?_
 rintro σ H R ⟨G,env,ds,env',rl,e,k⟩;obtain⟨⟨d,env1⟩,e1,e2⟩:=q2_ e;obtain⟨ds',e3,e4⟩:=x3_ e2;cases e4;refine .bind rl e1 fun v G1 H1 ev r=>?_
 cases d<;>first|(exact absurd (show(none:Option (List D))=some _ from e3) (by simp))|skip
 ·cases e3
  simp only[Rep]at r;obtain⟨p,xs,e5,q,t⟩:=r;exact⟨p,e5,.inr ⟨⟨xs,ev.rel.sub.sqT q⟩,k _ G1 H1 ev (b8u q t)⟩⟩
 ·cases e3
  simp only[Rep]at r;obtain⟨p,xs,e5,q,t⟩:=r;exact⟨p,e5,.inl ⟨⟨xs,ev.rel.sub.sqL q⟩,k _ G1 H1 ev (b8t q t)⟩⟩
def a0i(lo:Int)(n:Nat):List D:=(List.range n).map fun(i:Nat)=>D.int (lo+i)
theorem b1K{K:Qz}{lo:Int}:ItD K (Itr lo n) G (a0i lo n)where
 go:=fun i H l hi=>by
  have h:i<n:=by simpa [a0i]using hi
  exact h
 stop:=fun i H l hi=>by
  have h:n≤i:=by simpa [a0i]using hi
  exact h
 yld:=fun i H x H' d l y e=>by
  obtain⟨rfl,rfl⟩:=y;refine .inl ⟨rfl,?_⟩;unfold a0i at e;rw[Qa]at e;cases hr:(List.range n)[i]? with
  |none=>rw[hr]at e;cases e
  |some j=>
   rw[hr]at e;cases e;obtain⟨h1,h2⟩:=Qh.mp hr
   simp at h2
   subst h2;simp only[Rep]
def j1_(ms:Mo (List D)):Mo (List D):=fun env=>(ms env).bind fun p=>match p.1 with
 |[.int j]=>if-1000000<j/\j<1000000 then some (a0i 0 j.toNat,p.2)else none
 |_=>none
def a1s(ms:Mo (List D)):Mo (List D):=fun env=>(ms env).bind fun p=>match p.1 with
 |[.int i,.int j]=>if-1000000<i/\i<1000000/\ -1000000<j/\j<1000000 then some (a0i i (j-i).toNat,p.2)else none
 |_=>none
theorem a1t{p:Pos}(hg:Gl X "range")(hm:X.mg "range"=none)(ha:EDs X B [a] ms)(hs:starEach [a] X.env=[(false,eval a X.env)]:=by rfl):EI X B tg (.Call (.Name "range" p) [a] [] pos) (j1_ ms):=by
 have h0:=b7b (tg:=tg) (p:=p) (pos:=pos) hg hm ha hs
 refine a6f h0 ?_
 rintro σ H R ⟨G,env,ds,env',rl,e,k⟩;obtain⟨⟨ds',env1⟩,e1,e2⟩:=q2_ e;dsimp only at e2;split at e2
 ·rename_i j
  split at e2
  ·rename_i hj
   cases e2;refine⟨G,env,_,_,rl,e1,fun vs G1 H1 ev r=>?_⟩
   obtain⟨v,rfl,r1⟩:=a0C r;simp only[Rep]at r1;subst r1;exact⟨j,rfl,by omega,by omega,k _ G1 H1 ev b1K⟩
  ·cases e2
 ·cases e2
theorem a6g{p:Pos}(hg:Gl X "range")(hm:X.mg "range"=none)(ha:EDs X B [a,b] ms)(hs:starEach [a,b] X.env=[(false,eval a X.env),(false,eval b X.env)]:=by rfl)(hs2:starEach [b] X.env=[(false,eval b X.env)]:=by rfl):EI X B tg (.Call (.Name "range" p) [a,b] [] pos) (a1s ms):=by
 have h0:=b7c (tg:=tg) (p:=p) (pos:=pos) hg hm ha hs hs2
 refine a6f h0 ?_
 rintro σ H R ⟨G,env,ds,env',rl,e,k⟩;obtain⟨⟨ds',env1⟩,e1,e2⟩:=q2_ e;dsimp only at e2;split at e2
 ·rename_i i j
  split at e2
  ·rename_i hj
   cases e2;refine⟨G,env,_,_,rl,e1,fun vs G1 H1 ev r=>?_⟩
   obtain⟨v,w,rfl,r1,r2⟩:=a3P r;simp only[Rep]at r1 r2;subst r1 r2;exact⟨i,j,rfl,⟨by omega,by omega,by omega,by omega⟩,k _ G1 H1 ev b1K⟩
  ·cases e2
 ·cases e2
def loop(g:OZ)(body:Mo Fl):List D->Mo Fl
 |[],env=>some (.nx,env)
 |d::ds,env=>(g d env).bind fun e1=>(body e1).bind fun p=>match p.1 with
  |.nx=>loop g body ds p.2
  |.ct=>loop g body ds p.2
  |.bk=>some (.nx,p.2)
  |.ret d=>some (.ret d,p.2)
  |.retL d=>some (.retL d,p.2)
def u2_(mi:Mo (List D))(g:OZ)(body:Mo Fl):Mo Fl:=fun env=>(mi env).bind fun p=>loop g body p.1 p.2
theorem Ev.alloc{K:Qz}(r:Rel K B G σ env H)(h:H p=none)(no:NT o):Ev K B G σ env H (upd G p o) σ env (upd H p o):=r.alloc h no
theorem a0D{body:List Stmt}{mbd:Mo Fl}(hp:PassesOwn (model X.prog X.w) X.A X.env X.xe)(hc:X.calm=true)(hi:EI X B tg iter mi)(hg:EG X B 0 tg g)(hb:ESs X B body mbd)
  (hs:∀x,foldedSetIterable iter X.env x=pure x:=by intro _;rfl):ES X B (.For tg iter body [] pos) (u2_ mi g mbd):=by
 refine ps_imp (b7f hp hc hi hg hb hs) ?_
 rintro D σ H ⟨G,env,fl,env',rl,e,k⟩;obtain⟨⟨ds,env1⟩,e1,e2⟩:=q2_ e;dsimp only at e2;refine⟨G,env,ds,env1,rl,e1,fun J G1 H1 ev1 it=>?_⟩
 refine⟨fun i m σ2 H2=>m=ds.length-i/\i≤ds.length/\∃G2 env2,Ev X.K B G σ env H G2 σ2 env2 H2/\Le G1 G2/\loop g mbd (ds.drop i) env2=some (fl,env'),⟨_,rfl,Ub _,G1,env1,ev1,Le.refl,by simpa using e2⟩,?_⟩
 rintro i m σ2 H2 ⟨rfl,hi2,G2,env2,ev2,l2,e3⟩;have lH:Le G1 H2:=l2.trans ev2.rel.sub
 by_cases hlt:i<ds.length
 ·refine .inr ⟨it.go i H2 lH hlt,fun σ' H'=>∃G3 env3,Ev X.K B G σ env H G3 σ' env3 H'/\Le G1 G3/\loop g mbd (ds.drop (i+1)) env3=some (fl,env'),?_,fun x H3 y=>?_⟩
  ·rintro σ' H' ⟨G3,env3,ev3,l3,e4⟩
   exact⟨ds.length-(i+1),by omega,rfl,hlt,G3,env3,ev3,l3,e4⟩
  ·have ed:ds.drop i=ds[i]::ds.drop (i+1):=Ja hlt
   rw[ed]at e3;obtain⟨env4,e4,e5⟩:=q2_ e3;obtain⟨⟨fl5,env5⟩,e6,e7⟩:=q2_ e5;have hget:ds[i]? =some ds[i]:=by simp[hlt]
   have st:∃G3,Ev X.K B G σ env H G3 σ2 env2 H3/\Le G1 G3/\Rep X.K G3 x ds[i]:=by
    rcases it.yld i H2 x H3 ds[i] lH y hget with⟨rfl,r⟩|⟨p,o,hno,hp2,rfl,r⟩
    ·exact⟨G2,ev2,l2,Rep.mono l2 _ r⟩
    ·have gp:=ev2.rel.gnone hp2
     refine⟨upd G2 p o,ev2.trans (ev2.rel.alloc hp2 hno),l2.trans (Le.upd gp),Rep.mono (fun b u q=>?_) _ r⟩
     by_cases hb2:b=p
     ·subst hb2;rw[y8_]at q ⊢;exact q
     ·rw[q7_ hb2]at q ⊢;exact l2 b u q
   obtain⟨G3,ev3,l3,r3⟩:=st;refine⟨G3,env2,ds[i],env4,ev3.rel,r3,e4,fun σ4 G4 H4 ev4 _=>?_⟩
   have ev5:=ev3.trans ev4
   refine⟨G4,env4,fl5,env5,ev4.rel,e6,?_⟩;cases fl5 with
   |nx=>exact fun σ6 G6 H6 ev6=>⟨G6,env5,ev5.trans ev6,(l3.trans ev4.same).trans ev6.same,e7⟩
   |ct=>exact fun σ6 G6 H6 ev6=>⟨G6,env5,ev5.trans ev6,(l3.trans ev4.same).trans ev6.same,e7⟩
   |bk=>cases e7;exact fun σ6 G6 H6 ev6=>k σ6 G6 H6 (ev5.trans ev6)
   |ret d=>cases e7;exact fun v σ6 G6 H6 ev6=>k v σ6 G6 H6 (ev5.trans ev6)
   |retL d=>cases e7;exact fun a xs σ6 G6 H6 ev6=>k a xs σ6 G6 H6 (ev5.trans ev6)
 ·have ei:i=ds.length:=by omega
  subst ei;rw[Vi]at e3;cases e3;exact .inl ⟨it.stop _ H2 lH (Qy _),k σ2 G2 H2 ev2⟩
end
inductive Rr where
 |d (d:D)|l (ds:List D)
abbrev Fn:=List W->Option (Rr×List W)
def u6_:OA:=fun _=>False
def a4S(ws:List W):Prop:=∀w∈ws,(∃d,w=.dat d)∨w.isPar=true
def b8v(K:Qz)(G:Hp)(vs:List V)(ws:List W)(H:Hp)(ws':List W)(Q:VK):Rr->Prop
 |.d d=>∀v G' H',Ev K u6_ G (vs.map some) ws H G' (vs.map some) ws' H'->Rep K G' v d->Q v H'
 |.l ds=>∀a xs G' H',Ev K u6_ G (vs.map some) ws H G' (vs.map some) ws' H'->H a=none-> ¬ Owned (vs.map some) ws' a->H' a=some (.lst xs)->G' a=none->z9_ K G' xs ds->Q (.ref a) H'
def SpF(K:Qz)(n:Nat)(f:Fn):Sp:=fun vs H Q _=>∃G ws r ws',ws.length=n/\a4S ws/\Rel K u6_ G (vs.map some) ws H/\f ws=some (r,ws')/\b8v K G vs ws H ws' Q r
def a6h:W->W->W
 |.par _,.par ds=>.par ds
 |.par _,.parD ks vs=>.parD ks vs
 |.parD _ _,.par ds=>.par ds
 |.parD _ _,.parD ks vs=>.parD ks vs
 |.par _,_=>.nil
 |.parD _ _,_=>.nil
 |w,_=>w
def a1b(ws env:List W):List W:=List.zipWith a6h ws env
def fnM(N:Nat)(mb:Mo Fl):Fn:=fun ws=>match mb (ws++List.replicate (N-ws.length) .nil)with
 |some (.ret d,env)=>some (.d d,a1b ws env)
 |some (.retL ds,env)=>some (.l ds,a1b ws env)
 |some (.nx,env)=>some (.d .non,a1b ws env)
 |_=>none
theorem a1U(hi:i<vs.length):(start N vs)[i]? =(vs.map some)[i]?:=by
 unfold start;rw[Jx (by simpa using hi)]
theorem a2G{l:List α}{a b:α}(h:(l++List.replicate n a)[i]? =some b):(i<l.length/\l[i]? =some b)∨(l.length≤i/\b=a):=by
 by_cases hi:i<l.length
 ·rw[Jx hi]at h;exact .inl ⟨hi,h⟩
 ·rw[List.getElem?_append_right (by omega),Ju]at h
  split at h
  ·cases h;exact .inr ⟨by omega,rfl⟩
  ·cases h
section
variable{K:Qz}{ws:List W}
theorem b1L(hl:ws.length=vs.length):Owned (start N vs) (ws++List.replicate n .nil) a↔Owned (vs.map some) ws a:=by
 constructor
 ·rintro⟨i,w,ds,e1,e2,e3⟩
  rcases a2G e1 with⟨h1,h2⟩|⟨h1,h2⟩
  ·rw[a1U (by omega)]at e3;exact⟨i,w,ds,h2,e2,e3⟩
  ·rw[h2]at e2;cases e2
 ·rintro⟨i,w,ds,e1,e2,e3⟩
  have hi:i<ws.length:=(Qh.mp e1).1
  exact⟨i,w,ds,by rw[Jx hi];exact e1,e2,by rw[a1U (by omega)];exact e3⟩
theorem a7V(r:Rel K u6_ G (vs.map some) ws H)(ok:a4S ws)(hN:vs.length≤N.length):Rel K (fun b=>H b≠none) G (start N vs) (ws++List.replicate (N.length-ws.length) .nil) H:=by
 have hl:ws.length=vs.length:=by have:=r.len;rwa [Qv]at this
 have noOwn:∀(i:Nat) (w:W),ws[i]? =some w->w.isOwn=true->False:=fun i w e h=>by
  rcases ok _ (Yl e)with⟨d,z⟩|z
  ·subst z;cases h
  ·cases w<;>first|(cases h;done)|(cases z;done)
 refine⟨r.sub,?_,fun i d e=>?_,fun i w ds e1 e2=>?_,fun i j w w' ds es a q1 q2 q3 q4 q5 q6=>?_,fun i w a q1 qo q2=>?_,fun b h=>h,r.tabs,r.gnt⟩
 ·unfold start
  simp only[Qs,Yz,Qv]
  omega
 ·rcases a2G e with⟨h1,h2⟩|⟨h1,h2⟩
  ·obtain⟨v,e1,e2⟩:=r.dat i d h2
   exact⟨v,by rw[a1U (by omega)];exact e1,e2⟩
  ·cases h2
 ·rcases a2G e1 with⟨h1,h2⟩|⟨h1,h2⟩
  ·obtain⟨a,xs,e3,e4⟩:=r.own i w ds h2 e2
   exact⟨a,xs,by rw[a1U (by omega)];exact e3,e4⟩
  ·rw[h2]at e2;cases e2
 ·rcases a2G q1 with⟨h1,h2⟩|⟨h1,h2⟩
  ·rcases a2G q3 with⟨h3,h4⟩|⟨h3,h4⟩
   ·rw[a1U (by omega)]at q5 q6
    exact r.inj i j w w' ds es a h2 q2 h4 q4 q5 q6
   ·rw[h4]at q4;cases q4
  ·rw[h2]at q2;cases q2
 ·rcases a2G q1 with⟨h1,h2⟩|⟨h1,h2⟩
  ·exact(noOwn i w h2 qo).elim
  ·subst h2;cases qo
theorem a6i{ws env:List W}(h:(a1b ws env)[i]? =some w):∃w1 w2,ws[i]? =some w1/\env[i]? =some w2/\w=a6h w1 w2:=by
 unfold a1b at h;rw[Jz]at h;cases e1:ws[i]? with
 |none=>rw[e1]at h;cases h
 |some w1=>
  cases e2:env[i]? with
  |none=>rw[e1,e2]at h;cases h
  |some w2=>rw[e1,e2]at h;cases h;exact⟨w1,w2,rfl,rfl,rfl⟩
theorem a7W{w1:W}(ok:(∃d,w1=.dat d)∨w1.isPar=true)(h:(a6h w1 w2).mut=some m):w2.mut=some m/\w2.isPar=true/\a6h w1 w2=w2/\w1.isPar=true:=by
 rcases ok with⟨d,z⟩|z
 ·subst z;cases h
 ·cases w1<;>cases w2<;>first|exact⟨h,rfl,rfl,rfl⟩|(cases z;done)|(cases h;done)
theorem a3j(r:Rel K u6_ G (vs.map some) ws H)(ok:a4S ws)(hN:vs.length≤N.length)
  (ev:Ev K (fun b=>H b≠none) G (start N vs) (ws++List.replicate (N.length-ws.length) .nil) H G' σ' env' H'):Ev K u6_ G (vs.map some) ws H G' (vs.map some) (a1b ws env') H':=by
 have hl:ws.length=vs.length:=by have:=r.len;rwa [Qv]at this
 have okg:∀{i:Nat}{w:W},ws[i]? =some w->(∃d,w=.dat d)∨w.isPar=true:=fun e=>ok _ (Yl e)
 have hle:ws.length≤env'.length:=by
  have h1:=ev.rel.len
  have h2:=ev.slen
  have h3:(start N vs).length=N.length:=by unfold start;simp only[Qs,Yz,Qv];omega
  omega
 have par:∀(i:Nat) (w:W) (m:Mu),(a1b ws env')[i]? =some w->w.mut=some m->∃w0,ws[i]? =some w0/\w0.isPar=true/\env'[i]? =some w/\w.isPar=true/\σ'[i]? =(vs.map some)[i]?:=fun i w m e1 e2=>by
  obtain⟨w1,w2,h1,h2,h3⟩:=a6i e1;subst h3;obtain⟨h4,h5,h6,h7⟩:=a7W (okg h1) e2;have hi:i<vs.length:=by have:=(Qh.mp h1).1;omega
  rw[h6];exact⟨w1,h1,h7,h2,h5,(ev.par i w2 h2 h5).1.trans (a1U hi)⟩
 refine⟨⟨ev.rel.sub,?_,fun i d e=>?_,fun i w ds e1 e2=>?_,fun i j w w' ds es a q1 q2 q3 q4 q5 q6=>?_,fun i w a q1 qo q2 h=>h,fun b h=>h.elim,ev.rel.tabs,ev.rel.gnt⟩,ev.same,fun b o n t e=>ev.keep b o (fun z=>n ((b1L hl).mp z)) t e,ev.live,fun b e n g=>ev.stay b e (fun z=>n ((b1L hl).mp z)) g,fun a z=>?_,fun i w e hp=>?_,rfl⟩
 ·unfold a1b
  rw[Yg,Qv];omega
 ·obtain⟨w1,w2,h1,h2,h3⟩:=a6i e
  rcases okg h1 with⟨d1,z⟩|z
  ·subst z
   cases h3;obtain⟨v,e1,e2⟩:=r.dat i d h1;exact⟨v,e1,Rep.mono ev.same d e2⟩
  ·cases w1<;>cases w2<;>first|(cases h3;done)|(cases z;done)
 ·obtain⟨d0,h1,hp,h2,h3,h4⟩:=par i w ds e1 e2
  obtain⟨a,xs,e3,e4⟩:=ev.rel.own i _ ds h2 e2;exact⟨a,xs,by rw[←h4];exact e3,e4⟩
 ·obtain⟨d0,h1,hp,h2,h3,h4⟩:=par i w ds q1 q2
  obtain⟨d1,h5,hp',h6,h7,h8⟩:=par j w' es q3 q4;exact ev.rel.inj i j _ _ ds es a h2 q2 h6 q4 (by rw[h4];exact q5) (by rw[h8];exact q6)
 ·obtain⟨i,w,ds,e1,e2,e3⟩:=z
  obtain⟨d0,h1,hp,h2,h3,h4⟩:=par i w ds e1 e2;obtain⟨m0,hm0⟩:=par_mut hp;exact .inl ⟨i,_,m0,h1,hm0,e3⟩
 ·obtain⟨m,hm⟩:=par_mut hp
  obtain⟨d0,h1,hp',h2,h3,h4⟩:=par i _ m e hm;exact⟨rfl,d0,h1,hp'⟩
end
theorem k1_{P:Program}{w:World}{K:Qz}{mg:OU}{base:Heap}{qual:Str}{st:Stmt}{f:Addr}{fd:FuncData}{ps:List Str}{mb:Mo Fl}(F:Fun K x qual st f fd)(S:FnScope N ps (y2_ st))
  (hb:∀(cdv:Value) (A:Around) (outer:List Env) (s:Shared) (H:Hp) (E:XK),Room k (A.deeper (envOfC qual (y2_ st) s.heap.objs.size f cdv))->
   ESs (u4_ CX0 P w K mg base N qual (y2_ st) f cdv A outer s H E).nox (fun b=>H b≠none) (a1n st) mb):FnOk P w K mg base CX0 (k+1) f fd ps (SpF K ps.length (fnM N.length mb)):=by
 have hpl:ps.length≤N.length:=by have:=Zc List.length S.pre;rw[Yk]at this;omega
 refine F.ok S (fun vs H Q E h=>?_) (fun cdv A outer s H vs Q E hr h=>?_)
 ·obtain⟨G,ws,r,ws',hl,ok,rl,_⟩:=h
  have:=rl.len;rw[Qv]at this;omega
 ·obtain⟨G,ws,r,ws',hl,ok,rl,e,k⟩:=h
  have hv:ws.length=vs.length:=by have:=rl.len;rwa [Qv]at this
  refine⟨_,hb cdv A outer s H E hr,?_⟩;have rl':=a7V (N:=N) rl ok (by omega)
  unfold fnM at e;split at e
  ·rename_i d env em
   cases e;refine⟨G,_,_,env,rl',em,?_⟩;exact fun v σ' G' H' ev rp=>k v G' H' (a3j rl ok (by omega) ev) rp
  ·rename_i ds env em
   cases e;refine⟨G,_,_,env,rl',em,?_⟩;intro a xs σ' G' H' ev nb no h' g' rp;refine k a xs G' H' (a3j rl ok (by omega) ev) (Je nb) ?_ h' g' rp
   rintro⟨i,w',es,e1,e2,e3⟩;obtain⟨w1,w2,q1,q2,q3⟩:=a6i e1;subst q3;obtain⟨q4,q5,q6,q7⟩:=a7W (ok _ (Yl q1)) e2;have hi:i<vs.length:=by have:=(Qh.mp q1).1;omega
   exact no ⟨i,_,es,q2,q4,by rw[(ev.par i w2 q2 q5).1,a1U hi];exact e3⟩
  ·rename_i env em
   cases e;refine⟨G,_,_,env,rl',em,?_⟩;exact fun σ' G' H' ev=>k .non G' H' (a3j rl ok (by omega) ev) (by simp only[Rep])
  ·cases e
def slots:List Ar->List Nat
 |[]=>[]
 |.d _::r=>slots r
 |.sl i::r=>i::slots r
def a3k:Mu->W
 |.l ds=>.par ds
 |.d ks vs=>.parD ks vs
theorem b1M(c:Mu):(a3k c).mut=some c:=by cases c<;>rfl
theorem b1N(c:Mu):(a3k c).isPar=true:=by cases c<;>rfl
def a0d(c:Mu):Ar->W
 |.d d=>.dat d
 |.sl _=>a3k c
def a2H:List W->Option Mu
 |[]=>none
 |.par ds::_=>some (.l ds)
 |.parD ks vs::_=>some (.d ks vs)
 |_::r=>a2H r
def a2l(n:Nat)(f:Fn)(as:Mo (List Ar)):Mo Rr:=fun env=>(as env).bind fun p=>if p.1.length=n then
 match slots p.1 with
 |[]=>(f (p.1.map (a0d (.l [])))).map fun q=>(q.1,p.2)
 |[i]=>(p.2[i]?).bind fun w=>w.mut.bind fun c=>(f (p.1.map (a0d c))).bind fun q=>(a2H q.2).map fun c'=>(q.1,p.2.set i (w.putM c'))
 |_=>none
 else none
theorem a2I:∀{as:List Ar},slots as=[]->∀(k j:Nat),as[k]? ≠some (.sl j)
 |[],_,k,j,e=>by simp at e
 |.d _::r,h,k,j,e=>by
  cases k with
  |zero=>simp at e
  |succ k=>exact a2I (as:=r) h k j (by simpa using e)
 |.sl i::r,h,k,j,e=>by simp[slots]at h
theorem a7X:∀{as:List Ar}{i:Nat},slots as=[i]->∃k:Nat,as[k]? =some (.sl i)/\∀(k' j:Nat),as[k']? =some (.sl j)->k'=k/\j=i
 |[],_,h=>by simp[slots]at h
 |.d _::r,i,h=>by
  obtain⟨k,h1,h2⟩:=a7X (as:=r) h;refine⟨k+1,by simpa using h1,fun k' j e=>?_⟩
  cases k' with
  |zero=>simp at e
  |succ k'=>
   obtain⟨a,b⟩:=h2 k' j (by simpa using e)
   exact⟨by omega,b⟩
 |.sl i'::r,i,h=>by
  simp only[slots,Uw]at h;obtain⟨rfl,h⟩:=h;refine⟨0,by simp,fun k' j e=>?_⟩
  cases k' with
  |zero=>simp at e;exact⟨rfl,e.symm⟩
  |succ k'=>exact absurd (by simpa using e) (a2I h k' j)
theorem a4T:∀{ws:List W}{c:Mu},a2H ws=some c->∃k:Nat,ws[k]? =some (a3k c)
 |[],_,h=>by simp[a2H]at h
 |.par ds::r,c,h=>by simp only[a2H,Zt]at h;subst h;exact⟨0,by simp[a3k]⟩
 |.parD ks vs::r,c,h=>by simp only[a2H,Zt]at h;subst h;exact⟨0,by simp[a3k]⟩
 |.nil::r,c,h=>by obtain⟨k,e⟩:=a4T (ws:=r) h;exact⟨k+1,by simpa using e⟩
 |.dat _::r,c,h=>by obtain⟨k,e⟩:=a4T (ws:=r) h;exact⟨k+1,by simpa using e⟩
 |.own _::r,c,h=>by obtain⟨k,e⟩:=a4T (ws:=r) h;exact⟨k+1,by simpa using e⟩
 |.ownD _ _::r,c,h=>by obtain⟨k,e⟩:=a4T (ws:=r) h;exact⟨k+1,by simpa using e⟩
section
variable{K:Qz}
theorem RepA.length:∀{as:List Ar}{vs:List V},RepA K G σ vs as->vs.length=as.length
 |[],_,h=>by simp only[RepA]at h;subst h;rfl
 |.d d::as,_,h=>by
  simp only[RepA]at h;obtain⟨x,r,rfl,_,t⟩:=h
  simp[RepA.length t]
 |.sl i::as,_,h=>by
  simp only[RepA]at h;obtain⟨x,r,rfl,_,t⟩:=h
  simp[RepA.length t]
theorem RepA.getD:∀{as:List Ar}{vs:List V}{k:Nat}{d:D},RepA K G σ vs as->as[k]? =some (.d d)->∃v,vs[k]? =some v/\Rep K G v d
 |[],_,k,d,h,e=>by simp at e
 |.d d'::as,_,k,d,h,e=>by
  simp only[RepA]at h;obtain⟨x,r,rfl,q,t⟩:=h;cases k with
  |zero=>simp at e;subst e;exact⟨x,by simp,q⟩
  |succ k=>simpa using RepA.getD (k:=k) t (by simpa using e)
 |.sl i::as,_,k,d,h,e=>by
  simp only[RepA]at h;obtain⟨x,r,rfl,q,t⟩:=h;cases k with
  |zero=>simp at e
  |succ k=>simpa using RepA.getD (k:=k) t (by simpa using e)
theorem RepA.getS:∀{as:List Ar}{vs:List V}{k i:Nat},RepA K G σ vs as->as[k]? =some (.sl i)->∃v,vs[k]? =some v/\σ[i]? =some (some v)
 |[],_,k,i,h,e=>by simp at e
 |.d d'::as,_,k,i,h,e=>by
  simp only[RepA]at h;obtain⟨x,r,rfl,q,t⟩:=h;cases k with
  |zero=>simp at e
  |succ k=>simpa using RepA.getS (k:=k) t (by simpa using e)
 |.sl i'::as,_,k,i,h,e=>by
  simp only[RepA]at h;obtain⟨x,r,rfl,q,t⟩:=h;cases k with
  |zero=>simp at e;subst e;exact⟨x,by simp,q⟩
  |succ k=>simpa using RepA.getS (k:=k) t (by simpa using e)
end
section
variable{K:Qz}{as:List Ar}{c:Mu}
theorem a7Y:a4S (as.map (a0d c)):=fun w hw=>by
 obtain⟨a,_,rfl⟩:=Zj.mp hw;cases a with
 |d d=>exact .inl ⟨d,rfl⟩
 |sl i=>exact .inr (b1N c)
theorem a3S(e:(as.map (a0d c))[k]? =some w):(∃d,as[k]? =some (.d d)/\w=.dat d)∨ ∃j,as[k]? =some (.sl j)/\w=a3k c:=by
 rw[Qa]at e;cases h:as[k]? with
 |none=>rw[h]at e;cases e
 |some a=>
  rw[h]at e;cases a with
  |d d=>cases e;exact .inl ⟨d,rfl,rfl⟩
  |sl j=>cases e;exact .inr ⟨j,rfl,rfl⟩
theorem b1O(h:vs[k]? =some v):(vs.map some)[k]? =some (some v):=by rw[Qa,h];rfl
theorem b1P(h:(vs.map some)[k]? =some (some v)):vs[k]? =some v:=by
 rw[Qa]at h;cases e:vs[k]? with
 |none=>rw[e]at h;cases h
 |some u=>rw[e]at h;cases h;rfl
theorem a7Z(rl:Rel K B G σ env H)(ra:RepA K G σ vs as)(u:∀(k j:Nat),as[k]? =some (.sl j)->j=i/\env[i]? =some w/\w.mut=some c)(un:∀(k k' j j':Nat),as[k]? =some (.sl j)->as[k']? =some (.sl j')->k=k'):
  Rel K u6_ G (vs.map some) (as.map (a0d c)) H:=by
 refine⟨rl.sub,by rw[Qv,Qv,ra.length],fun k d e=>?_,fun k v ds e1 e2=>?_,fun k k' v v' ds es a q1 q2 q3 q4 q5 q6=>?_,fun k w a e _ _ h=>h,fun b h=>h.elim,rl.tabs,rl.gnt⟩
 ·rcases a3S e with⟨d',h1,h2⟩|⟨j,h1,h2⟩
  ·cases h2
   obtain⟨v,q1,q2⟩:=ra.getD h1;exact⟨v,b1O q1,q2⟩
  ·cases c<;>cases h2
 ·rcases a3S e1 with⟨d',h1,h2⟩|⟨j,h1,h2⟩
  ·subst h2;cases e2
  ·subst h2;rw[b1M]at e2;cases e2
   obtain⟨v,q1,q2⟩:=ra.getS h1;obtain⟨rfl,q3,q4⟩:=u k j h1;obtain⟨a,xs,q5,q6,q7,q8⟩:=rl.own j w c q3 q4;rw[q2]at q5;cases q5;exact⟨a,xs,b1O q1,q6,q7,q8⟩
 ·rcases a3S q1 with⟨d',h1,h2⟩|⟨j,h1,h2⟩
  ·subst h2;cases q2
  ·rcases a3S q3 with⟨d',h3,h4⟩|⟨j',h3,h4⟩
   ·subst h4;cases q4
   ·exact un k k' j j' h1 h3
theorem b1Q(ra:RepA K G σ vs as)(u:∀(k j:Nat),as[k]? =some (.sl j)->j=i)(h:Owned (vs.map some) (as.map (a0d c)) a):σ[i]? =some (some (V.ref a))/\∃k:Nat,as[k]? =some (Ar.sl i):=by
 obtain⟨k,v,ds,e1,e2,e3⟩:=h
 rcases a3S e1 with⟨d',h1,h2⟩|⟨j,h1,h2⟩
 ·subst h2;cases e2
 ·obtain⟨v',q1,q2⟩:=ra.getS h1
  have:=u k j h1;subst this;have e4:=b1P e3;rw[q1]at e4;cases e4;exact⟨q2,k,h1⟩
theorem a8a(rl:Rel K B G σ env H)(ra:RepA K G σ vs as)(hs:slots as=[])(ev:Ev K u6_ G (vs.map some) (as.map (a0d c)) H G2 (vs.map some) ws' H2):Ev K B G σ env H G2 σ env H2:=by
 have no:∀a,¬ Owned (vs.map some) (as.map (a0d c)) a:=fun a z=>by
  obtain⟨_,k,e⟩:=b1Q (i:=0) ra (fun k j e=>absurd e (a2I hs k j)) z
  exact a2I hs k 0 e
 refine⟨⟨ev.rel.sub,rl.len,fun i d e=>?_,fun i w ds e1 e2=>?_,rl.inj,rl.fresh,fun b h=>ev.live b (rl.old b h),ev.rel.tabs,ev.rel.gnt⟩,ev.same,fun b o _ t e=>ev.keep b o (no b) t e,ev.live,fun b e _ g=>ev.stay b e (no b) g,fun a z=>.inl z,fun i w e hp=>⟨rfl,w,e,hp⟩,rfl⟩
 ·obtain⟨v,q1,q2⟩:=rl.dat i d e
  exact⟨v,q1,Rep.mono ev.same d q2⟩
 ·obtain⟨a,xs,q1,q2,q3,q4⟩:=rl.own i w ds e1 e2
  exact⟨a,xs,q1,ev.keep a _ (no a) q3.nt q2,q3.mono ev.same,ev.stay a (by rw[q2];simp) (no a) q4⟩
theorem b1R{c':Mu}(rl:Rel K B G σ env H)(ra:RepA K G σ vs as)(hs:slots as=[i])(e1:env[i]? =some w)(e2:w.mut=some c)(hp:a2H ws'=some c')
  (ev:Ev K u6_ G (vs.map some) (as.map (a0d c)) H G2 (vs.map some) ws' H2):Ev K B G σ env H G2 σ (env.set i (w.putM c')) H2:=by
 obtain⟨k,hk,uk⟩:=a7X hs;obtain⟨a,xs,h1,h2,h3,h4⟩:=rl.own i w c e1 e2;have ow:Owned σ env a:=⟨i,w,c,e1,e2,h1⟩;have isA:∀b,Owned (vs.map some) (as.map (a0d c)) b->b=a:=fun b z=>by
  obtain⟨q,_⟩:=b1Q ra (fun k j e=>(uk k j e).2) z
  rw[h1]at q;cases q;rfl
 obtain⟨k',hk'⟩:=a4T hp;have ek:k'=k:=by
  obtain⟨_,d0,q,qp⟩:=ev.par k' _ hk' (b1N c')
  rcases a3S q with⟨d',z1,z2⟩|⟨j,z1,z2⟩
  ·subst z2;cases qp
  ·exact(uk k' j z1).1
 subst ek;obtain⟨a2,ys,g1,g2,g3,g4⟩:=ev.rel.own k' _ c' hk' (b1M c');obtain⟨v,q1,q2⟩:=ra.getS hk;have g5:=b1P g1;rw[q1]at g5;cases g5;rw[h1]at q2;cases q2;have wp:(w.putM c').mut=some c':=W.putM_mut e2 c';have nd:∀d,w.putM c'≠.dat d:=fun d z=>by rw[z]at wp;cases wp
 refine⟨⟨ev.rel.sub,by rw[Zh];exact rl.len,fun j d' q=>?_,fun j v es y1 y2=>?_,fun j m v v' es fs b y1 y2 y3 y4 y5 y6=>?_,fun j v b y1 yo y2=>?_,fun b h=>ev.live b (rl.old b h),ev.rel.tabs,ev.rel.gnt⟩,ev.same,fun b o n t e=>ev.keep b o (fun z=>n (isA b z ▸ ow)) t e,ev.live,fun b e n g=>ev.stay b e (fun z=>n (isA b z ▸ ow)) g,fun b z=>.inl ?_,fun j v q qp=>⟨rfl,?_⟩,rfl⟩
 ·rcases g3_ q with⟨z1,z2⟩|⟨z1,z2⟩
  ·exact absurd z2.symm (nd d')
  ·obtain⟨v,q1,q2⟩:=rl.dat j d' z2
   exact⟨v,q1,Rep.mono ev.same d' q2⟩
 ·rcases g3_ y1 with⟨z1,z2⟩|⟨z1,z2⟩
  ·subst z1 z2
   rw[wp]at y2;cases y2;exact⟨a,ys,h1,g2,g3,g4⟩
  ·obtain⟨p,zs,f1,f2,f3,f4⟩:=rl.own j v es z2 y2
   have hp:p≠a:=fun z=>z1 (rl.inj j i v w es c a z2 y2 e1 e2 (by rw[f1,z]) h1)
   have np:¬ Owned (vs.map some) (as.map (a0d c)) p:=fun z=>hp (isA p z)
   exact⟨p,zs,f1,ev.keep p _ np f3.nt f2,f3.mono ev.same,ev.stay p (by rw[f2];simp) np f4⟩
 ·have g:∀(m:Nat) (v:W) (es:Mu),(env.set i (w.putM c'))[m]? =some v->v.mut=some es->∃v0 es0,env[m]? =some v0/\v0.mut=some es0:=fun m v es y1 y2=>by
   rcases g3_ y1 with⟨z1,z2⟩|⟨z1,z2⟩
   ·rw[z1];exact⟨w,c,e1,e2⟩
   ·exact⟨v,es,z2,y2⟩
  obtain⟨v0,es0,x1,x2⟩:=g j v es y1 y2;obtain⟨v1,es1,x3,x4⟩:=g m v' fs y3 y4;exact rl.inj j m v0 v1 es0 es1 b x1 x2 x3 x4 y5 y6
 ·rcases g3_ y1 with⟨z1,z2⟩|⟨z1,z2⟩
  ·subst z1
   exact rl.fresh j w b e1 (by rw[z2,W.putM_own e2]at yo;exact yo) y2
  ·exact rl.fresh j v b z2 yo y2
 ·obtain⟨j,v,es,y1,y2,y3⟩:=z
  rcases g3_ y1 with⟨z1,z2⟩|⟨z1,z2⟩
  ·rw[z1,h1]at y3;cases y3;exact ow
  ·exact⟨j,v,es,z2,y2,y3⟩
 ·rcases g3_ q with⟨z1,z2⟩|⟨z1,z2⟩
  ·subst z1
   exact⟨w,e1,by rw[z2,W.putM_par e2]at qp;exact qp⟩
  ·exact⟨v,z2,qp⟩
end
def asD:Rr×Env'->Option (D×Env')
 |(.d d,e)=>some (d,e)
 |_=>none
def asL:Rr×Env'->Option (List D×Env')
 |(.l d,e)=>some (d,e)
 |_=>none
def mCD(n:Nat)(f:Fn)(as:Mo (List Ar)):Mo D:=fun env=>(a2l n f as env).bind asD
def a0e(n:Nat)(f:Fn)(as:Mo (List Ar)):Mo (List D):=fun env=>(a2l n f as env).bind asL
def b8w(K:Qz)(B:OA)(G:Hp)(σ:St)(env:Env')(H:Hp)(env':Env')(Q:VK):Rr->Prop
 |.d d=>∀v G' H',Ev K B G σ env H G' σ env' H'->Rep K G' v d->Q v H'
 |.l ds=>∀a xs G' H',Ev K B G σ env H G' σ env' H'->H a=none-> ¬ Owned σ env' a->H' a=some (.lst xs)->G' a=none->z9_ K G' xs ds->Q (.ref a) H'
theorem a8b{K:Qz}{f:Fn}{r:Rr}{E:XK}(rl:Rel K B G σ env H)(e:a2l n f as env=some (r,env'))
  (k:b8w K B G σ env H env' Q r):
  a7B (SpF K n f) [] E (TAm K B as) σ H Q:=by
 obtain⟨⟨av,env1⟩,e1,e2⟩:=q2_ e;dsimp only at e2;split at e2
 ·rename_i hn
  refine⟨G,env,av,env1,rl,e1,fun vs G1 H1 ev ra=>?_⟩
  show SpF K n f (vs++[]) H1 Q E;rw[Yh];have hnone:∀a,H1 a=none->H a=none:=fun a h=>by
   cases q:H a with
   |none=>rfl
   |some o=>exact absurd h (ev.live a (by rw[q];simp))
  split at e2
  ·rename_i hs
   obtain⟨⟨r',ws'⟩,e3,e4⟩:=x3_ e2;cases e4;refine⟨G1,av.map (a0d (.l [])),r',ws',by rw[Qv];exact hn,a7Y,a7Z (i:=0) (w:=.nil) ev.rel ra (fun k j e=>absurd e (a2I hs k j)) (fun k k' j j' e=>absurd e (a2I hs k j)),e3,?_⟩
   cases r' with
   |d d=>exact fun v G2 H2 ev2 rp=>k v G2 H2 (ev.trans (a8a ev.rel ra hs ev2)) rp
   |l ds=>
    intro a xs G2 H2 ev2 ha no h' g' rp;exact k a xs G2 H2 (ev.trans (a8a ev.rel ra hs ev2)) (hnone a ha) (ev.rel.unowned ha) h' g' rp
  ·rename_i i hs
   obtain⟨w,e3,e4⟩:=q2_ e2;obtain⟨c,e5,e6⟩:=q2_ e4;obtain⟨⟨r',ws'⟩,e7,e8⟩:=q2_ e6;obtain⟨c',e9,e10⟩:=x3_ e8;cases e10;obtain⟨kk,hk,uk⟩:=a7X hs;refine⟨G1,av.map (a0d c),r',ws',by rw[Qv];exact hn,a7Y,a7Z (i:=i) (w:=w) ev.rel ra (fun k j e=>⟨(uk k j e).2,e3,e5⟩) (fun k k' j j' h1 h2=>(uk k j h1).1.trans (uk k' j' h2).1.symm),e7,?_⟩
   cases r' with
   |d d=>exact fun v G2 H2 ev2 rp=>k v G2 H2 (ev.trans (b1R ev.rel ra hs e3 e5 e9 ev2)) rp
   |l ds=>
    intro a xs G2 H2 ev2 ha no h' g' rp;have evc:=b1R ev.rel ra hs e3 e5 e9 ev2;refine k a xs G2 H2 (ev.trans evc) (hnone a ha) (fun z=>?_) h' g' rp
    rcases evc.sub a z with q|q
    ·exact ev.rel.unowned ha q
    ·obtain⟨j,v,es,y1,y2,y3⟩:=z
     rcases g3_ y1 with⟨z1,z2⟩|⟨z1,z2⟩
     ·subst z1
      exact ev.rel.unowned ha ⟨j,w,c,e3,e5,y3⟩
     ·exact ev.rel.unowned ha ⟨j,v,es,z2,y2,y3⟩
  ·cases e2
 ·cases e2
section
variable{p:Pos}{fn:Fn}{f:Addr}{fd:FuncData}{ps:List Str}
theorem b8x(F:FnOk X.prog X.w X.K X.mg X.base CX0 k f fd ps (SpF X.K ps.length fn))(hr:Room k X.A)(hg:Gl X x)(hm:X.mg x=some (.ref f))(hk:PySem.W.keepIn X.K (.ref f)=true)(hb:a0M X.K fd ps [])
  (ha:EAr X B (e::es) as)(hdb:(x==("__debug__":Str))=false:=by decide)(he:starEach (e::es) X.env=(false,eval e X.env)::starEach es X.env:=by rfl)(hpl:(backTo pos (starEach es X.env)).any (·.1)=false:=by rfl):
  ED X B (.Call (.Name x p) (e::es) [] pos) (mCD ps.length fn as):=by
 refine pe_imp (a4G F hr hg hm hk hb .nil a4L ha hdb he hpl) ?_
 rintro σ H Q ⟨G,env,d,env',rl,e,k⟩;obtain⟨⟨r,env1⟩,e1,e2⟩:=q2_ e;cases r with
 |d d'=>cases e2;exact a8b rl e1 k
 |l ds=>cases e2
theorem b8y(F:FnOk X.prog X.w X.K X.mg X.base CX0 k f fd ps (SpF X.K ps.length fn))(hr:Room k X.A)(hg:Gl X x)(hm:X.mg x=some (.ref f))(hk:PySem.W.keepIn X.K (.ref f)=true)(hb:a0M X.K fd ps [])
  (ha:EAr X B (e::es) as)(hdb:(x==("__debug__":Str))=false:=by decide)(he:starEach (e::es) X.env=(false,eval e X.env)::starEach es X.env:=by rfl)(hpl:(backTo pos (starEach es X.env)).any (·.1)=false:=by rfl):
  EL X B (.Call (.Name x p) (e::es) [] pos) (a0e ps.length fn as):=by
 refine pe_imp (a4G F hr hg hm hk hb .nil a4L ha hdb he hpl) ?_
 rintro σ H Q ⟨G,env,d,env',rl,e,k⟩;obtain⟨⟨r,env1⟩,e1,e2⟩:=q2_ e;cases r with
 |d d'=>cases e2
 |l ds=>cases e2;exact a8b rl e1 k
end
def u7_(cells:List (Str×Addr)):List (Str×NameKind)->List (Str×Addr)->List (Str×Addr)
 |[],acc=>acc
 |(n,k)::r,acc=>if k==.free then(match cells.lookup n with
  |some c=>u7_ cells r ((n,c)::acc)
  |none=>u7_ cells r acc)else u7_ cells r acc
theorem a0E{n:Str}{a:α}{r:List (Str×α)}:((n,a)::r).lookup x=if x=n then some a else r.lookup x:=by
 rw[List.lookup_cons]
 by_cases h:x=n
 ·subst h;simp
 ·have:(x==n)=false:=by simpa using h
  rw[this,Ql h]
theorem a2J{cells:List (Str×Addr)}:∀{names:List (Str×NameKind)}{acc:List (Str×Addr)}{x:Str}{c:Addr},(u7_ cells names acc).lookup x=some c->acc.lookup x=some c∨cells.lookup x=some c
 |[],acc,x,c,h=>.inl h
 |(n,k)::r,acc,x,c,h=>by
  unfold u7_ at h;split at h
  ·split at h
   ·rename_i c' hc
    rcases a2J h with q|q
    ·rw[a0E]at q
     split at q
     ·rename_i e;subst e;cases q;exact .inr hc
     ·exact .inl q
    ·exact .inr q
   ·exact a2J h
  ·exact a2J h
theorem a6j{cells:List (Str×Addr)}:∀{names:List (Str×NameKind)}{acc:List (Str×Addr)}{x:Str},(acc.lookup x).isSome=true->((u7_ cells names acc).lookup x).isSome=true
 |[],acc,x,h=>h
 |(n,k)::r,acc,x,h=>by
  unfold u7_;split
  ·split
   ·refine a6j ?_
    rw[a0E];split<;>simp[h]
   ·exact a6j h
  ·exact a6j h
theorem a3l{cells:List (Str×Addr)}:∀{names:List (Str×NameKind)}{acc:List (Str×Addr)}{x:Str},(x,NameKind.free)∈names->(cells.lookup x).isSome=true->((u7_ cells names acc).lookup x).isSome=true
 |[],acc,x,h,_=>by cases h
 |(n,k)::r,acc,x,h,hc=>by
  unfold u7_
  rcases Qr.mp h with e|h
  ·cases e
   rw[Qn (by decide)]
   split
   ·refine a6j ?_
    rw[a0E];simp
   ·rename_i hn;rw[hn]at hc;cases hc
  ·split
   ·split
    ·exact a3l h hc
    ·exact a3l h hc
   ·exact a3l h hc
theorem a8c:∀{names:List (Str×NameKind)}{h:Heap}{acc:List (Str×Addr)}{x:Str}{c:Addr},(cellsFrom h.objs.size names acc).lookup x=some c->
  acc.lookup x=some c∨((pushCells h names).IsCell c none/\h.objs.size≤c/\(x,NameKind.cell)∈names)
 |[],h,acc,x,c,q=>.inl q
 |(n,k)::r,h,acc,x,c,q=>by
  unfold cellsFrom at q;unfold pushCells;split at q
  ·rename_i hk
   rw[Qn hk];have hk':k=.cell:=by simpa using hk
   have ih:=a8c (names:=r) (h:=h.push {cls:=.type "cell",data:=.cell none}) (acc:=(n,h.objs.size)::acc) (x:=x) (c:=c) (by rw[Zr];exact q)
   rcases ih with z|⟨z1,z2,z3⟩
   ·rw[a0E]at z
    split at z
    ·rename_i e;subst e;cases z
     exact .inr ⟨⟨_,Ut _ _ _ _ (Qg _ rfl),rfl⟩,Qy _,by rw[hk'];exact Zg⟩
    ·exact .inl z
   ·rw[Zr]at z2
    exact .inr ⟨z1,by omega,Zx _ z3⟩
  ·rename_i hk
   rw[Ql hk]
   rcases a8c q with z|⟨z1,z2,z3⟩
   ·exact .inl z
   ·exact .inr ⟨z1,z2,Zx _ z3⟩
theorem a8d:∀{names:List (Str×NameKind)}{n:Nat}{acc:List (Str×Addr)},(∀x y c,acc.lookup x=some c->acc.lookup y=some c->x=y)->(∀x c,acc.lookup x=some c->c<n)->
  ∀x y c,(cellsFrom n names acc).lookup x=some c->(cellsFrom n names acc).lookup y=some c->x=y
 |[],n,acc,h1,h2=>h1
 |(m,k)::r,n,acc,h1,h2=>by
  unfold cellsFrom;split
  ·refine a8d (names:=r) (fun x y c q1 q2=>?_) (fun x c q=>?_)
   ·rw[a0E]at q1 q2
    split at q1<;>split at q2
    ·rename_i e1 e2;rw[e1,e2]
    ·cases q1;exact absurd (h2 _ _ q2) (Yt _)
    ·cases q2;exact absurd (h2 _ _ q1) (Yt _)
    ·exact h1 x y c q1 q2
   ·rw[a0E]at q
    split at q
    ·cases q;exact Xl _
    ·exact Vh (h2 _ _ q)
  ·exact a8d (names:=r) h1 h2
theorem a6k{env:Env}{x:Str}:∀{names:List (Str×NameKind)},((names.map fun(n,k)=>if(k==NameKind.free&&env.scope.kind==.function&&env.kindOf n==some .cell)then(n,NameKind.cell)else(n,k)).lookup x)=
  (names.lookup x).map fun k=>if(k==NameKind.free&&env.scope.kind==.function&&env.kindOf x==some .cell)then NameKind.cell else k
 |[]=>rfl
 |(n,k)::r=>by
  have ih:=a6k (env:=env) (x:=x) (names:=r)
  show List.lookup x ((if(k==NameKind.free&&env.scope.kind==.function&&env.kindOf n==some .cell)=true then(n,NameKind.cell)else(n,k))::_)=_
  by_cases hx:x=n
  ·subst hx
   rw[a0E (a:=k),Qn rfl]
   by_cases hc:(k==NameKind.free&&env.scope.kind==.function&&env.kindOf x==some .cell)=true
   ·rw[Qn hc,a0E,Qn rfl]
    show _=some (if(k==NameKind.free&&env.scope.kind==.function&&env.kindOf x==some .cell)=true then NameKind.cell else k)
    rw[Qn hc]
   ·rw[Ql hc,a0E,Qn rfl]
    show _=some (if(k==NameKind.free&&env.scope.kind==.function&&env.kindOf x==some .cell)=true then NameKind.cell else k)
    rw[Ql hc]
  ·rw[a0E (a:=k),Ql hx]
   by_cases hc:(k==NameKind.free&&env.scope.kind==.function&&env.kindOf n==some .cell)=true
   ·rw[Qn hc,a0E,Ql hx];exact ih
   ·rw[Ql hc,a0E,Ql hx];exact ih
theorem a6l:∀{names:List (Str×NameKind)}{n:Nat}{acc:List (Str×Addr)}{x:Str}{c0:Addr},acc.lookup x=some c0->∃c,(cellsFrom n names acc).lookup x=some c/\(c=c0∨n≤c)
 |[],n,acc,x,c0,h=>⟨c0,h,.inl rfl⟩
 |(m,k)::r,n,acc,x,c0,h=>by
  unfold cellsFrom;split
  ·by_cases hx:x=m
   ·obtain⟨c,h1,h2⟩:=a6l (names:=r) (n:=n+1) (acc:=(m,n)::acc) (x:=x) (c0:=n) (by rw[a0E,Qn hx])
    exact⟨c,h1,.inr (h2.elim (fun z=>Xc z.symm) fun z=>Jt z)⟩
   ·obtain⟨c,h1,h2⟩:=a6l (names:=r) (n:=n+1) (acc:=(m,n)::acc) (x:=x) (c0:=c0) (by rw[a0E,Ql hx];exact h)
    exact⟨c,h1,h2.elim .inl fun z=>.inr (Jt z)⟩
  ·exact a6l h
theorem a8e:∀{names:List (Str×NameKind)}{n:Nat}{acc:List (Str×Addr)}{x:Str},(x,NameKind.cell)∈names->∃c,(cellsFrom n names acc).lookup x=some c/\n≤c
 |[],n,acc,x,h=>by cases h
 |(m,k)::r,n,acc,x,h=>by
  unfold cellsFrom
  rcases Qr.mp h with e|h
  ·cases e
   rw[Qn (by decide)]
   obtain⟨c,h1,h2⟩:=a6l (names:=r) (n:=n+1) (acc:=(m,n)::acc) (x:=m) (c0:=n) (by rw[a0E,Qn rfl])
   exact⟨c,h1,h2.elim (fun z=>Xc z.symm) fun z=>Jt z⟩
  ·split
   ·obtain⟨c,h1,h2⟩:=a8e (names:=r) (n:=n+1) (acc:=(m,n)::acc) h
    exact⟨c,h1,Jt h2⟩
   ·exact a8e h
def a3m(scope:Scope)(env:Env)(C:Addr):Env:=
 {scope:=relabel scope env,locals:=C,globals:=env.globals,cells:=cellsFrom (C+1) scope.names (u7_ env.cells scope.names []),qual:=env.qual,func:=none,code:=env.code,frame:=env.frame,builtins:=env.builtins}
def x1_(X:Cx)(N':List Str)(scope:Scope)(s:Shared)(H:Hp)(fp:List Addr):Cx where
 prog:=X.prog
 w:=X.w
 K:=X.K
 mg:=X.mg
 base:=X.base
 A:=X.A
 N:=N'
 s₀:=s
 H₀:=H
 env:=a3m scope X.env s.heap.objs.size
 outer:=X.stack
 stack:=X.stack
 ex:=fp
 fn:=fun x=>scope.names.lookup x==some .cell
 calm:=X.calm
 pn:=[]
 xe:=fun _ _=>False
structure CompOk(X:Cx)(N':List Str)(scope:Scope)(keep:List Bool)(more:Nat):Prop where
 kind:scope.kind=.function
 uniq:∀y∈scope.names,scope.names.lookup y.1=some y.2
 clos:closureFor scope X.env=pure (u7_ X.env.cells scope.names [])
 free:∀y∈scope.names,y.2=.free->(X.env.cells.lookup y.1).isSome=true
 klen:keep.length=X.N.length
 len:N'.length=X.N.length+more
 kept:∀(i:Nat) (x:Str),keep[i]? =some true->N'[i]? =some x->X.N[i]? =some x/\scope.names.lookup x≠some .local/\scope.names.lookup x≠some .cell
 outVis:∀(i:Nat) (x:Str),keep[i]? =some true->X.N[i]? =some x->scope.names.lookup x=some .free->X.env.scope.names.lookup x=some .cell∨X.env.scope.names.lookup x=some .free
def w4_(keep:List Bool)(more:Nat)(σ:St):St:=List.zipWith (fun k v=>if k then v else none) keep σ++List.replicate more none
theorem a3n(h:(w4_ keep more σ)[i]? =some (some v)):keep[i]? =some true/\σ[i]? =some (some v):=by
 unfold w4_ at h
 rcases a2G h with⟨_,h⟩|⟨_,h⟩
 ·rw[Jz]at h
  cases e1:keep[i]? with
  |none=>rw[e1]at h;cases h
  |some k=>
   cases e2:σ[i]? with
   |none=>rw[e1,e2]at h;cases h
   |some u=>
    rw[e1,e2]at h;cases k with
    |true=>simp at h;exact⟨rfl,by rw[h]⟩
    |false=>simp at h
 ·cases h
theorem b1S(ok:CompOk X N' scope keep more)(I:Inv X pins σ H s)
  (hf:∀b∈fp,u9_ X pins H b/\b<s.heap.objs.size):
  Inv (x1_ X N' scope s H fp) [] (w4_ keep more σ) H {s with heap:=pushCells (s.heap.push {cls:=.type "dict",data:=.dict #[]}) scope.names}:=by
 have hsz:(s.heap.push {cls:=.type "dict",data:=.dict #[]}).objs.size=s.heap.objs.size+1:=Zr ..
 have keepAll:∀b u,s.heap.get? b=some u->(pushCells (s.heap.push {cls:=.type "dict",data:=.dict #[]}) scope.names).get? b=some u:=fun b u e=>Ut _ _ _ _ (Qx _ e)
 have cases':∀x c,(a3m scope X.env s.heap.objs.size).cells.lookup x=some c->X.env.cells.lookup x=some c∨((pushCells (s.heap.push {cls:=.type "dict",data:=.dict #[]}) scope.names).IsCell c none/\s.heap.objs.size+1≤c/\(x,NameKind.cell)∈scope.names):=fun x c e=>by
  have e':(cellsFrom ((s.heap.push {cls:=.type "dict",data:=.dict #[]}).objs.size) scope.names (u7_ X.env.cells scope.names [])).lookup x=some c:=by rw[hsz];exact e
  rcases a8c e' with z|⟨z1,z2,z3⟩
  ·rcases a2J z with y|y
   ·cases y
   ·exact .inl y
  ·rw[hsz]at z2;exact .inr ⟨z1,z2,z3⟩
 have cellLt:∀x c,X.env.cells.lookup x=some c->c<s.heap.objs.size:=fun x c e=>by
  obtain⟨v,q⟩:=I.cell x c e;exact q.lt
 have fsSub:∀b∈frs X.stack,b<s.heap.objs.size:=fun b hb=>by
  obtain⟨_,o,ho,_⟩:=I.stack.mem hb;exact Qp ho
 refine⟨⟨I.ok.mod,?_,I.ok.glob,I.ok.blt,Qy _,fun x y c e1 e2=>?_,fun x hx=>?_,fun x c e1 e2=>?_,I.ok.hd,I.ok.frames,.inl rfl,fun b hb=>?_,I.bs,Zp I.ok.bsz I.sz,fun b o e hb=>?_,fun b hb hb2=>?_,I.stack,I.stkFree⟩,
  rfl,I.bare,Un.kept keepAll,⟨fun _=>none,(Heap.Ns.new s.heap (.type "dict")).keeps (Ut _ _),fun i x v e1 e2 e3=>?_⟩,fun x c e=>?_,I.hok.fresh (Qy _),fun x c e=>?_,fun p hp=>absurd (show p∈([]:OX)from hp) (by simp),I.hok.kept keepAll,?_⟩
 ·show(relabel scope X.env).kind=.function
  exact ok.kind
 ·refine a8d (names:=scope.names) (n:=s.heap.objs.size+1) (acc:=u7_ X.env.cells scope.names []) (fun x y c q1 q2=>?_) (fun x c q=>?_) x y c e1 e2
  ·rcases a2J q1 with z1|z1
   ·cases z1
   ·rcases a2J q2 with z2|z2
    ·cases z2
    ·exact I.ok.inj x y c z1 z2
  ·rcases a2J q with z1|z1
   ·cases z1
   ·exact Vh (cellLt x c z1)
 ·have hx':(relabel scope X.env).names.lookup x=some .cell∨(relabel scope X.env).names.lookup x=some .free:=hx
  have h1:scope.names.lookup x=some .cell∨scope.names.lookup x=some .free:=by
   unfold relabel at hx';rw[a6k]at hx';cases q:scope.names.lookup x with
   |none=>rw[q]at hx';simp at hx'
   |some k=>
    rw[q]at hx';cases k<;>simp at hx'<;>first|exact .inl rfl|exact .inr rfl
  refine Yq.mp (Ug scope.names _ _ ?_)
  rcases h1 with h1|h1
  ·exact .inl h1
  ·exact .inr (a3l (Zk h1) (ok.free _ (Zk h1) rfl))
 ·have e1':scope.names.lookup x=some .cell:=by simpa [x1_]using e1
  obtain⟨c',q1,q2⟩:=a8e (names:=scope.names) (n:=s.heap.objs.size+1) (acc:=u7_ X.env.cells scope.names []) (Zk e1');have e2':(cellsFrom (s.heap.objs.size+1) scope.names (u7_ X.env.cells scope.names [])).lookup x=some c:=e2;rw[q1]at e2';cases e2';exact Jt q2
 ·refine⟨Qi (hf b hb).2,fun x c e z=>?_⟩
  rcases cases' x c e with y|⟨_,y,_⟩
  ·exact(hf b hb).1.2.2.2.2.1 x c y z
  ·exact absurd (Qd (hf b hb).2 (Jt y)) (by rw[z];exact Yt _)
 ·have:=(I.bs b o e).1
  rcases(hf b hb).1.2.2.2.1 with z|z
  ·exact I.ok.noex b o e z
  ·exact absurd (Qd (Qp e) (Zp I.ok.bsz z)) (Yt _)
 ·rcases Qr.mp (I.stkSub b hb2)with z|z
  ·exact(hf b hb).1.2.1 z
  ·exact(hf b hb).1.2.2.1 z
 ·obtain⟨k1,k2⟩:=a3n e2
  obtain⟨h1,h2,h3⟩:=ok.kept i x k1 e1;have e3':(relabel scope X.env).names.lookup x=some .local∨(relabel scope X.env).names.lookup x=some .cell∨(relabel scope X.env).names.lookup x=some .free:=e3;have hfree:scope.names.lookup x=some .free:=by
   unfold relabel at e3';rw[a6k]at e3';cases q:scope.names.lookup x with
   |none=>rw[q]at e3';simp at e3'
   |some k=>
    rw[q]at e3' h2 h3;cases k<;>simp at e3' h2 h3<;>rfl
  obtain⟨m,hn,hl⟩:=I.loc;have ov:=ok.outVis i x k1 h1 hfree;obtain⟨u,r,l⟩:=hl i x v h1 k2 (.inr ov);refine⟨u,r,.inr ?_⟩;obtain⟨c0,hc0⟩:=Yq.mp (ok.free _ (Zk hfree) rfl);have hcell:s.heap.IsCell c0 (some u):=by
   rcases l with⟨kl,_⟩|⟨_,c,hc,hz⟩
   ·have kl':X.env.scope.names.lookup x=some .local:=kl
    rcases ov with z|z<;>(rw[z]at kl';cases kl')
   ·have hc':X.env.cells.lookup x=some c:=hc
    have hc0':X.env.cells.lookup x=some c0:=hc0
    rw[hc']at hc0';cases hc0';exact hz
  have hk:(a3m scope X.env s.heap.objs.size).kindOf x=some .cell∨(a3m scope X.env s.heap.objs.size).kindOf x=some .free:=by
   show(relabel scope X.env).names.lookup x=some .cell∨(relabel scope X.env).names.lookup x=some .free
   rcases e3' with z|z
   ·exfalso
    unfold relabel at z;rw[a6k,hfree]at z;simp only[Xa,Zt]at z;split at z<;>cases z
   ·exact z
  refine⟨hk,c0,?_,hcell.keeps keepAll⟩;obtain⟨c1,hc1⟩:=Yq.mp (Ug (x:=x) scope.names (s.heap.objs.size+1) (u7_ X.env.cells scope.names []) (.inr (a3l (Zk hfree) (ok.free _ (Zk hfree) rfl))));have hc1':(a3m scope X.env s.heap.objs.size).cells.lookup x=some c1:=hc1
  rcases cases' x c1 hc1' with z|⟨_,_,z⟩
  ·have hc0':X.env.cells.lookup x=some c0:=hc0
   rw[hc0']at z;cases z;exact hc1'
  ·have:=ok.uniq _ z
   rw[hfree]at this;cases this
 ·rcases cases' x c e with y|⟨y,_,_⟩
  ·obtain⟨v,q⟩:=I.cell x c y
   exact⟨v,q.keeps keepAll⟩
  ·exact⟨none,y⟩
 ·rcases cases' x c e with y|⟨_,y,_⟩
  ·exact I.freeC x c y
  ·exact I.hok.fresh (by omega)
 ·show(w4_ keep more σ).length=N'.length
  unfold w4_;rw[Qs,Yg,Yz,ok.len,ok.klen,I.len]
  omega
section
variable{prog:Program}{w:World}{A:Around}{R:Result->Shared->Prop}
theorem b8z{target:Expr}{it acc:Value}{env:Env}(I:Nat->Shared->Prop)
  (turn:∀n s,I n s->wpAny (model prog w) A (pyNext it) (fun r s₁=>match r with
   |none=>R (.ok .next) s₁
   |some v=>wpAny (model prog w) A (letOwnedTupleGo target it v) (fun _ s₁'=>wpAny (model prog w) A (assign target env v) (fun _ s₂=>
     wpAny (model prog w) A (forIn ifs true fun c r=>if r=true then do let ok←isTrue c env (eval c env);pure (ForInStep.yield ok)else pure (ForInStep.yield r)) (fun ok s₃=>
      if ok=true then wpAny (model prog w) A (eval elt env) (fun x s₄=>
       wpAny (model prog w) A (call (.builtin "list.append") [acc,x]) (fun _ s₅=>∃m,m<n/\I m s₅) (fun _ _=>False) s₄) (fun _ _=>False) s₃
      else∃m,m<n/\I m s₃) (fun _ _=>False) s₂) (fun _ _=>False) s₁') (fun _ _=>False) s₁) (fun _ _=>False) s)
  (n:Nat)(h:I n s):
  codeAny (model prog w) A (.compLoop (.ListComp elt [⟨target,iter,ifs,0⟩] scope pos) 0 it acc env) R s:=by
 refine codeAny_loop rfl I (fun n s hI=>?_) n h
 show wpAny _ A ((compTurn (.ListComp elt [⟨target,iter,ifs,0⟩] scope pos) 0 it acc env).onRaise (fun x=>do noteFrame x env;theTreesLotGoes x)) _ _ s
 refine wpAny_noted ?_
 rw[compTurn_list];refine Qq (Jr (Qq (Qt (turn n s hI) (fun r s₁ h₁=>?_) fun _ _ h'=>h'.elim)))
 cases r with
 |none=>exact Qk h₁
 |some v=>
  refine Qq (Qt h₁ (fun _ s₁' h₁'=>?_) fun _ _ h'=>h'.elim)
  refine Qq (Qt h₁' (fun _ s₂ h₂=>Qq (Qt h₂ (fun ok s₃ h₃=>?_) fun _ _ h'=>h'.elim)) fun _ _ h'=>h'.elim)
  cases ok with
  |false=>exact Qk ⟨rfl,h₃⟩
  |true=>
   exact Qq (Qq (Qt h₃ (fun x s₄ h₄=>Qq (Qt h₄ (fun _ s₅ h₅=>Qk (Qk ⟨rfl,h₅⟩)) fun _ _ h'=>h'.elim)) fun _ _ h'=>h'.elim))
theorem b1T{M:Model}{env:Env}{Q:Env->Shared->Prop}(cl:List (Str×Addr))
  (h:Q {scope:=scope,locals:=s.heap.objs.size,globals:=env.globals,cells:=cellsFrom (s.heap.objs.size+1) scope.names cl,qual:=env.qual,func:=none,code:=env.code,frame:=env.frame,builtins:=env.builtins}
   {s with heap:=pushCells (s.heap.push {cls:=.type "dict",data:=.dict #[]}) scope.names}):
  wpAny M A (newFunctionEnv scope env.globals cl [] env.qual none .none (some env)) Q E s:=by
 simp only[newFunctionEnv,Option.isSome_some,Zy];refine Qq (wpAny_alloc ?_);refine Qq (wpAny_layCells _ (fun name kind cells=>by cases hkc:kind==NameKind.cell<;>simp[hkc]) _ _ _ _ ?_)
 rw[show({s with heap:=s.heap.push {cls:=.type "dict",data:=.dict #[]}}:Shared).heap.objs.size=s.heap.objs.size+1 from Zr ..]
 exact Qq (by rw[List.forIn_nil];exact Qk (Qk h))
end
def a0r(X:Cx)(ifs:List Expr)(t:TT):Prop:=
 ∀(pins:OX) (s:Shared) (σ:St) (H:Hp) (Q:Bool->Hp->Prop),Inv X pins σ H s->t σ H Q->
  wpAny (model X.prog X.w) X.A (forIn ifs true fun c r=>if r=true then do let ok←isTrue c X.env (eval c X.env);pure (ForInStep.yield ok)else pure (ForInStep.yield r)) (TP X pins σ Q) X.xe s
theorem b8A:a0r X [] (fun _ H Q=>Q true H):=fun _ _ _ H _ I h=>wpAny_tests_nil ⟨H,I,h⟩
theorem b8B{t:TT}(h:PT X c t):a0r X [c] t:=fun pins s σ H Q I q=>wpAny_tests_one (h pins s σ H Q I q)
def b1U(J:It)(g:TG)(tt:TT)(te:TE)(p:Addr)(σ₀:St)(H₀:Hp)(Q:Hp->Prop):Prop:=
 ∃W:Nat->Nat->St->Hp->Prop,(∃m,W 0 m σ₀ (upd H₀ p (.lst [])))/\∀i m σ H,W i m σ H->
  (J.stop i H/\Q H)∨(J.go i H/\∀x H',J.yld i H x H'->g x σ H' fun σ2 H2=>tt σ2 H2 fun b H3=>
   if b=true then te σ2 H3 fun y H4=>∃ys,H4 p=some (.lst ys)/\ys.length<sizeLine/\∃m',m'<m/\W (i+1) m' σ2 (upd H4 p (.lst (ys++[y])))
   else∃m',m'<m/\W (i+1) m' σ2 H3)
section
variable{g:TG}{tt:TT}{te:TE}
theorem b1V{it:Addr}{tn:Nat->Heap->Prop}{J:It}{Qf:Addr->Hp->Prop}{RR:Value->Addr->Result->Shared->Prop}
  (ok:CompOk X N' scope keep more)(hc:X.calm=true)(hg:∀s H fp,PG (x1_ X N' scope s H fp) tg g)(ht:∀s H fp,a0r (x1_ X N' scope s H fp) ifs tt)(he:∀s H fp,PE (x1_ X N' scope s H fp) elt te)
  (I:Inv X pins σ H s)(T:Turn X.prog X.w X.K tg J fp it tn)(st:tn 0 s.heap)(hf:∀b∈fp,u9_ X pins H b)
  (run:∀p,H p=none->b1U J g tt te p (w4_ keep more σ) H (Qf p))
  (hRR:∀p C s' H' m,Inv X pins σ H' s'->Qf p H'->s'.heap.Ns C m->C≠X.env.locals->(∀x c,X.env.cells.lookup x=some c->c≠C)->H' C=none->(∀σ'' H'' s'' h',Inv X pins σ'' H'' s''->H'' C=none->Heap.SameBut C s''.heap h'->Inv X pins σ'' H'' {s'' with heap:=h'})->RR (.ref p) C (.ok .next) s'):
  wpAny (model X.prog X.w) X.A (newList []) (fun acc s₃=>wpAny (model X.prog X.w) X.A (newFunctionEnv scope X.env.globals (u7_ X.env.cells scope.names []) [] X.env.qual none .none (some X.env)) (fun cenv s₄=>
   codeAny (model X.prog X.w) X.A (.compStart (.ListComp elt [⟨tg,iter,ifs,0⟩] scope pos) 0 (.ref it) acc {cenv with scope:=relabel scope X.env}) (RR acc cenv.locals) s₄) E s₃) E s:=by
 have hp0:H s.heap.objs.size=none:=I.hok.fresh (Qy _)
 refine Zd ?_
 have I3:Inv X pins σ (upd H s.heap.objs.size (.lst [])) {s with heap:=s.heap.push {cls:=.type "list",dict:=none,data:=.seq ([]:List Value).toArray}}:=
  I.laid (t':=s.toks) (fun b u e=>Qx _ e) (Qy _) ⟨Ub _,[],0,.nil,Qg _ rfl⟩
 have fpOld:∀b∈fp,b<s.heap.objs.size:=fun b hb=>by
  obtain⟨o,e,_⟩:=T.obj 0 _ st b hb;exact Qp e
 have hf3:∀b∈fp,u9_ X pins (upd H s.heap.objs.size (.lst [])) b/\b<(s.heap.push {cls:=.type "list",dict:=none,data:=.seq ([]:List Value).toArray}).objs.size:=fun b hb=>by
  refine⟨⟨by rw[q7_ (Qi (fpOld b hb))];exact(hf b hb).1,(hf b hb).2⟩,?_⟩
  rw[Zr];exact Vh (fpOld b hb)
 have st3:tn 0 (s.heap.push {cls:=.type "list",dict:=none,data:=.seq ([]:List Value).toArray}):=T.keep 0 _ _ st fun b hb o e=>Qx _ e
 generalize hs3:({s with heap:=s.heap.push {cls:=.type "list",dict:=none,data:=.seq ([]:List Value).toArray}}:Shared)=s3 at I3 ⊢
 have hs3h:s3.heap=s.heap.push {cls:=.type "list",dict:=none,data:=.seq ([]:List Value).toArray}:=by rw[←hs3]
 rw[←hs3h]at hf3 st3;generalize hp:s.heap.objs.size=p at hp0 I3 hf3 ⊢;generalize hH3:upd H p (.lst [])=H3 at I3 hf3;refine b1T _ ?_
 have I4:=b1S ok I3 hf3
 generalize hs4:({s3 with heap:=pushCells (s3.heap.push {cls:=.type "dict",data:=.dict #[]}) scope.names}:Shared)=s4 at I4 ⊢
 have st4:tn 0 s4.heap:=T.keep 0 _ _ st3 fun b hb o e=>by rw[←hs4];exact Ut _ _ _ _ (Qx _ e)
 obtain⟨W,⟨m0,w0⟩,turn⟩:=run p hp0;have stat:∀{H':Hp},(∀b∈fp,H' b=none)->∀b∈fp,u9_ (x1_ X N' scope s3 H3 fp) [] H' b:=fun hn b hb=>by
  have z:=I4.ok.exf b hb
  exact⟨hn b hb,z.1,I4.ok.exfs b hb,.inl hb,z.2,fun p hp=>absurd (show p∈([]:OX)from hp) (by simp)⟩
 have loop:codeAny (model X.prog X.w) X.A (.compLoop (.ListComp elt [⟨tg,iter,ifs,0⟩] scope pos) 0 (.ref it) (.ref p) (a3m scope X.env s3.heap.objs.size)) (RR (.ref p) s3.heap.objs.size) s4:=by
  refine b8z (fun n s'=>∃i σ' H',Inv (x1_ X N' scope s3 H3 fp) [] σ' H' s'/\tn i s'.heap/\(∀b∈fp,H' b=none)/\W i n σ' H') ?_ m0 ⟨0,_,H3,I4,st4,fun b hb=>(hf3 b hb).1.1,by rw[←hH3];exact w0⟩
  rintro n s5 ⟨i,σ5,H5,I5,st5,fr5,w5⟩
  rcases turn i n σ5 H5 w5 with⟨stop,qf⟩|⟨go,step⟩
  ·refine thn (T.done (x1_ X N' scope s3 H3 fp) rfl rfl rfl hc i [] s5 σ5 H5 (fun _ _=>False) I5 (stat fr5) st5 stop) fun r s6 ⟨hr,I6⟩=>?_
   subst hr;obtain⟨m6,hn6,_⟩:=I6.loc;have hch:∀b∈fp,(b∈X.ex∨X.s₀.heap.objs.size≤b)/\b≠X.env.locals/\(∀x c,X.env.cells.lookup x=some c->c≠b)/\∀p∈X.pn++pins,p.1≠b:=fun b hb=>by
    obtain⟨_,f1,_,f3,f4,f5⟩:=hf b hb;exact⟨f3,f1,f4,f5⟩
   have IX:Inv X pins σ H5 s6:=I3.call' (s':=s6) (I6.os) (I6.base) I6.hok I6.bare hch
   have szC:X.s₀.heap.objs.size≤s3.heap.objs.size:=I3.sz
   have hCL:s3.heap.objs.size≠X.env.locals:=Ue I3.lt
   have hCc:∀x c,X.env.cells.lookup x=some c->c≠s3.heap.objs.size:=fun x c e=>by
    obtain⟨v,q⟩:=I3.cell x c e;exact Qi q.lt
   have hCp:∀q∈X.pn++pins,q.1≠s3.heap.objs.size:=fun q hq=>Qi (Qp (I3.pin q hq).1)
   refine hRR p s3.heap.objs.size s6 H5 m6 IX qf hn6 hCL hCc I6.free fun σ'' H'' s'' h' I'' hn hs=>?_
   exact I''.turned (t':=s''.toks) (it:=s3.heap.objs.size) (fun b o hb e=>(hs.2 b hb).trans e) hn hCL (.inr szC) hCc hCp
  ·refine thn (T.item (x1_ X N' scope s3 H3 fp) rfl rfl rfl hc i [] s5 σ5 H5 (fun _ _=>False) I5 (stat fr5) st5 go) fun r s6 ⟨u,hr,h6⟩=>?_
   subst hr;refine thn h6 fun _ s7 ⟨x,H7,I7,r7,y7,st7,fr7⟩=>?_
   have I7':=I7.pinned (stat fr7) (T.obj _ _ st7)
   have back:∀{σ8:St}{H8:Hp}{s8:Shared}{m':Nat},Inv (x1_ X N' scope s3 H3 fp) ([]++a3f fp s7.heap) σ8 H8 s8->m'<n->W (i+1) m' σ8 H8->∃m,m<n/\∃i σ' H',Inv (x1_ X N' scope s3 H3 fp) [] σ' H' s8/\tn i s8.heap/\(∀b∈fp,H' b=none)/\W i m σ' H':=fun{σ8 H8 s8 m'} I8 hm w8=>by
    refine⟨m',hm,i+1,σ8,H8,I8.unpinned,T.keep _ _ _ st7 fun b hb o e=>(I8.pin (b,o) (Qo _ (Qo _ (a2z hb e)))).1,fun b hb=>?_,w8⟩
    obtain⟨o,e,d⟩:=T.obj _ _ st7 b hb;exact(I8.pin (b,o) (Qo _ (Qo _ (a2z hb e)))).2.1
   refine thn (hg s3 H3 fp _ s7 σ5 H7 x u _ I7' r7 (step x H7 y7)) fun _ s8 ⟨σ8,H8,I8,q8⟩=>?_
   refine thn (ht s3 H3 fp _ s8 σ8 H8 _ I8 q8) fun b s9 ⟨H9,I9,q9⟩=>?_
   cases b with
   |false=>
    simp only[Zq,Yj]at q9 ⊢;obtain⟨m',hm,w9⟩:=q9;exact back I9 hm w9
   |true=>
    simp only[Zy]at q9 ⊢;refine thn (he s3 H3 fp _ s9 σ8 H9 _ I9 q9) fun v s10 ⟨y,H10,I10,r10,ys,hys,hl,m',hm,w10⟩=>?_
    exact thn (a7G (X:=x1_ X N' scope s3 H3 fp) _ s10 σ8 H10 (.ref p) [y] (.ref p) [v] (fun _ H11=>W (i+1) m' σ8 H11) I10 rfl (.cons r10 .nil) ⟨p,ys,y,rfl,rfl,hys,hl,w10⟩) fun _ s11 ⟨_,H11,I11,_,w11⟩=>back I11 hm w11
 refine codeAny_compStart_list loop ?_
 exact Qt (T.self X.A 0 s4 _ (fun _ _=>False) st4 loop) (fun _ _ q=>q) fun _ _ q=>q.elim
def a6m(wi:TI)(keep:List Bool)(more:Nat)(g:TG)(tt:TT)(te:TE):TE:=fun σ H Q=>wi σ H fun J H1=>∀p,H1 p=none->b1U J g tt te p (w4_ keep more σ) H1 (Q (.ref p))
theorem b8C(ok:CompOk X N' scope keep more)(hc:X.calm=true)(hi:PI X tg iter wi)(hg:∀s H fp,PG (x1_ X N' scope s H fp) tg g)(ht:∀s H fp,a0r (x1_ X N' scope s H fp) ifs tt)(he:∀s H fp,PE (x1_ X N' scope s H fp) elt te)
  (hs:∀x,foldedSetIterable iter X.env x=pure x:=by intro _;rfl):PE X (.ListComp elt [⟨tg,iter,ifs,0⟩] scope pos) (a6m wi keep more g tt te):=by
 intro pins s σ H Q I h;rw[eval_ListComp];refine Vx (use:=none) rfl hs ok.clos ok.kind (fun x hx hl=>by have:=ok.uniq x hx;rwa [hl]at this) (thn (hi pins s σ H _ I h) fun v s1 h1=>thn h1 fun itv s2 h2=>?_)
 obtain⟨it,fp,tn,J,H2,e,I2,T,st2,f2,run⟩:=h2;subst e;refine b1V (Qf:=fun p H'=>Q (.ref p) H') (RR:=fun acc C=>compPost (model X.prog X.w) X.A X.xe none (EP X pins σ Q) acc C) ok hc hg ht he I2 T st2 f2 run ?_
 intro p C s' H' m IX qf hn hCL hCc hCn turn;exact⟨m,hn,fun h' hs'=>⟨.ref p,H',turn σ H' s' h' IX hCn hs',rfl,qf⟩⟩
theorem b1W(ok:CompOk X N' scope keep more)(hc:X.calm=true)(hN:X.N.Nodup)(hy:X.N[i]? =some y)(hyl:X.env.scope.names.lookup y=some .local)
  (hsw:swapsWith (.ListComp elt [⟨tg,iter,ifs,0⟩] scope pos) (some (.Name y py)) spos.line X.env=pure true)
  (hi:PI X tg iter wi)(hg:∀s H fp,PG (x1_ X N' scope s H fp) tg g)(ht:∀s H fp,a0r (x1_ X N' scope s H fp) ifs tt)(he:∀s H fp,PE (x1_ X N' scope s H fp) elt te)
  (hs:∀x,foldedSetIterable iter X.env x=pure x:=by intro _;rfl):PS X (.Assign [.Name y py] (.ListComp elt [⟨tg,iter,ifs,0⟩] scope pos) spos) (a7q (a6m wi keep more g tt te) (a7p i)):=by
 intro pins s σ H D I h;rw[exec_Assign_Name_used _ _ _ _ hsw];refine Qq (Jr (Qq ?_));show wpAny _ X.A (do let _←comprehension (.ListComp elt [⟨tg,iter,ifs,0⟩] scope pos) scope X.env _ (newList []) false (eval iter X.env) (some (assign (.Name y py) X.env))) _ _ s
 refine Qq (Qt (Vx (use:=some (assign (.Name y py) X.env)) (Q:=fun _ s'=>SP X pins D .next s') rfl hs ok.clos ok.kind (fun x hx hl=>by have:=ok.uniq x hx;rwa [hl]at this) (thn (hi pins s σ H _ I h) fun v s1 h1=>thn h1 fun itv s2 h2=>?_)) (fun _ s' hq=>Qk (Qk hq)) fun _ _ e=>e)
 obtain⟨it,fp,tn,J,H2,e,I2,T,st2,f2,run⟩:=h2;subst e;refine b1V (Qf:=fun p H'=>D.nx (σ.set i (some (.ref p))) H') (RR:=fun acc C=>compPost (model X.prog X.w) X.A X.xe (some (assign (.Name y py) X.env)) (fun _ s'=>SP X pins D .next s') acc C) ok hc hg ht he I2 T st2 f2 run ?_
 intro p C s' H' m IX qf hn hCL hCc hCn turn;refine wpAny_assign_Name (b0M (v:=.ref p) (u:=.ref p) IX hN hy (.inl hyl) rfl (fun s'' I'' hs''=>?_) (.inr hyl))
 obtain⟨a,hsb,ha⟩:=hs'';have hCa:C≠a:=by
  rcases ha with z|z
  ·rw[z];exact hCL
  ·exact fun q=>hCc y a z q.symm
 exact⟨m,hn.sameBut hsb hCa,fun h' hs'=>⟨_,H',turn _ H' s'' h' I'' hCn hs',qf⟩⟩
end
def k5_(keep:List Bool)(more:Nat)(env:Env'):Env':=List.zipWith (fun k w=>if k then w else .nil) keep env++List.replicate more .nil
def a1c:Bool->W->W->Option W
 |false,w,_=>some w
 |true,.nil,_=>some .nil
 |true,.dat d,_=>some (.dat d)
 |true,.own _,.own ds=>some (.own ds)
 |true,.own _,.dat d=>some (.dat d)
 |true,.par _,.par ds=>some (.par ds)
 |true,.ownD _ _,.ownD ks vs=>some (.ownD ks vs)
 |true,.ownD _ _,.dat d=>some (.dat d)
 |true,.parD _ _,.parD ks vs=>some (.parD ks vs)
 |_,_,_=>none
theorem b1X{w':W}(h:a1c true w w2=some w')(e:w'.mut=some m):w2=w'/\∃d0,w.mut=some d0/\w.isOwn=w'.isOwn/\w.isPar=w'.isPar:=by
 cases w<;>cases w2<;>first
  |(simp only[a1c,Zt]at h;subst h;exact⟨rfl,_,rfl,rfl,rfl⟩)
  |(simp only[a1c,Zt]at h;subst h;cases e;done)
  |(simp[a1c]at h;done)
theorem b8D(h:a1c true w w2=some (.dat d)):w=.dat d∨(w2=.dat d/\∃d0,w.mut=some d0):=by
 cases w<;>cases w2<;>first
  |(simp only[a1c,Zt]at h;exact .inl h)
  |(simp only[a1c,Zt]at h;exact .inr ⟨h,_,rfl⟩)
  |(simp[a1c]at h;done)
def j2_:List Bool->Env'->Env'->Option Env'
 |[],[],_=>some []
 |k::ks,w::ws,w2::ws2=>(a1c k w w2).bind fun x=>(j2_ ks ws ws2).map fun r=>x::r
 |_,_,_=>none
theorem a6n:∀{keep:List Bool}{env env2 env':Env'}{i:Nat}{w':W},j2_ keep env env2=some env'->env'[i]? =some w'->∃k w w2,keep[i]? =some k/\env[i]? =some w/\env2[i]? =some w2/\a1c k w w2=some w'
 |[],[],_,env',i,w',h,e=>by simp only[j2_,Zt]at h;subst h;simp at e
 |[],_::_,_,env',i,w',h,e=>by simp[j2_]at h
 |k::ks,[],_,env',i,w',h,e=>by simp[j2_]at h
 |k::ks,w::ws,[],env',i,w',h,e=>by simp[j2_]at h
 |k::ks,w::ws,w2::ws2,env',i,w',h,e=>by
  unfold j2_ at h;obtain⟨x,h1,h2⟩:=q2_ h;obtain⟨r,h3,h4⟩:=x3_ h2;subst h4;cases i with
  |zero=>simp at e;subst e;exact⟨k,w,w2,rfl,rfl,rfl,h1⟩
  |succ i=>simpa using a6n (i:=i) h3 (by simpa using e)
theorem b1Y:∀{keep:List Bool}{env env2 env':Env'},j2_ keep env env2=some env'->env'.length=env.length
 |[],[],_,env',h=>by simp only[j2_,Zt]at h;subst h;rfl
 |[],_::_,_,env',h=>by simp[j2_]at h
 |k::ks,[],_,env',h=>by simp[j2_]at h
 |k::ks,w::ws,[],env',h=>by simp[j2_]at h
 |k::ks,w::ws,w2::ws2,env',h=>by
  unfold j2_ at h;obtain⟨x,h1,h2⟩:=q2_ h;obtain⟨r,h3,h4⟩:=x3_ h2;subst h4
  simp[b1Y h3]
theorem a3o(h:(k5_ keep more env)[i]? =some w)(hw:w≠.nil):keep[i]? =some true/\env[i]? =some w:=by
 unfold k5_ at h
 rcases a2G h with⟨_,h⟩|⟨_,h⟩
 ·rw[Jz]at h
  cases e1:keep[i]? with
  |none=>rw[e1]at h;cases h
  |some k=>
   cases e2:env[i]? with
   |none=>rw[e1,e2]at h;cases h
   |some u=>
    rw[e1,e2]at h;cases k with
    |true=>simp at h;exact⟨rfl,by rw[h]⟩
    |false=>simp at h;exact absurd h.symm hw
 ·exact absurd h hw
theorem a4U{v:Option V}(hk:keep[i]? =some true)(h:σ[i]? =some v):(w4_ keep more σ)[i]? =some v:=by
 unfold w4_;have h1:i<keep.length:=(Qh.mp hk).1;have h2:i<σ.length:=(Qh.mp h).1;rw[Jx (by rw[Yg];omega),Jz,hk,h]
 rfl
theorem a4V{ds:Mu}(h:w.mut=some ds):w≠.nil:=fun z=>by rw[z]at h;cases h
section
variable{K:Qz}{env2:Env'}
theorem a4W(h:Owned (w4_ keep more σ) (k5_ keep more env) a):Owned σ env a:=by
 obtain⟨i,w,ds,e1,e2,e3⟩:=h;exact⟨i,w,ds,(a3o e1 (a4V e2)).2,e2,(a3n e3).2⟩
theorem Rel.ext(r:Rel K B G σ env H)(hk:keep.length=σ.length):Rel K B G (w4_ keep more σ) (k5_ keep more env) H:=by
 refine⟨r.sub,?_,fun i d e=>?_,fun i w ds e1 e2=>?_,fun i j w w' ds es a q1 q2 q3 q4 q5 q6=>?_,fun i w a q1 qo q2=>?_,r.old,r.tabs,r.gnt⟩
 ·unfold k5_ w4_
  rw[Qs,Qs,Yg,Yg,Yz,Yz,r.len]
 ·obtain⟨k1,k2⟩:=a3o e (by simp)
  obtain⟨v,e1,e2⟩:=r.dat i d k2;exact⟨v,a4U k1 e1,e2⟩
 ·obtain⟨k1,k2⟩:=a3o e1 (a4V e2)
  obtain⟨a,xs,e3,e4⟩:=r.own i w ds k2 e2;exact⟨a,xs,a4U k1 e3,e4⟩
 ·exact r.inj i j w w' ds es a (a3o q1 (a4V q2)).2 q2 (a3o q3 (a4V q4)).2 q4 (a3n q5).2 (a3n q6).2
 ·exact r.fresh i w a (a3o q1 (by rintro rfl;cases qo)).2 qo (a3n q2).2
theorem Ev.out(r:Rel K B G σ env H)(hk:keep.length=σ.length)(ev:Ev K B G (w4_ keep more σ) (k5_ keep more env) H G' σ' env2 H')(hσ:∀j,j<σ.length->σ'[j]? =(w4_ keep more σ)[j]?)(ho:j2_ keep env env2=some env'):
  Ev K B G σ env H G' σ env' H':=by
 have mutO:∀(i:Nat) (w':W) (ds:Mu),env'[i]? =some w'->w'.mut=some ds->∃w0 d0,env[i]? =some w0/\w0.mut=some d0/\w0.isOwn=w'.isOwn/\w0.isPar=w'.isPar/\
   ∃a o,σ[i]? =some (some (V.ref a))/\H' a=some o/\RepM K G' o ds/\G' a=none:=fun i w' ds e1 e2=>by
  obtain⟨k,w,w2,h1,h2,h3,h4⟩:=a6n ho e1;have hi:i<σ.length:=by have:=(Qh.mp h2).1;rw[←r.len];exact this
  cases k with
  |false=>
   simp only[a1c,Zt]at h4;subst h4;obtain⟨a,xs,q1,q2,q3,q4⟩:=r.own i w ds h2 e2;have no:¬ Owned (w4_ keep more σ) (k5_ keep more env) a:=by
    rintro⟨j,v,es,y1,y2,y3⟩;obtain⟨z1,z2⟩:=a3o y1 (a4V y2);have:=r.inj j i v w es ds a z2 y2 h2 e2 (a3n y3).2 q1;subst this;rw[h1]at z1;cases z1
   exact⟨w,ds,h2,e2,rfl,rfl,a,xs,q1,ev.keep a _ no q3.nt q2,q3.mono ev.same,ev.stay a (by rw[q2];simp) no q4⟩
  |true=>
   obtain⟨z,d0,z1,z2,z3⟩:=b1X h4 e2;subst z;refine⟨w,d0,h2,z1,z2,z3,?_⟩;obtain⟨a,xs,q1,q2,q3,q4⟩:=ev.rel.own i w2 ds h3 e2;obtain⟨a0,xs0,p1,_⟩:=r.own i w d0 h2 z1;rw[hσ i hi,a4U h1 p1]at q1;cases q1;exact⟨a,xs,p1,q2,q3,q4⟩
 refine⟨⟨ev.rel.sub,by rw[b1Y ho];exact r.len,fun i d e=>?_,fun i w ds e1 e2=>?_,fun i j w w' ds es a q1 q2 q3 q4 q5 q6=>?_,fun i w a q1 qo q2=>?_,ev.rel.old,ev.rel.tabs,ev.rel.gnt⟩,ev.same,fun b o n t e=>ev.keep b o (fun z=>n (a4W z)) t e,ev.live,fun b e n g=>ev.stay b e (fun z=>n (a4W z)) g,fun a z=>.inl ?_,fun i w e hp=>⟨rfl,?_⟩,rfl⟩
 ·obtain⟨k,w,w2,h1,h2,h3,h4⟩:=a6n ho e
  have hi:i<σ.length:=by have:=(Qh.mp h2).1;rw[←r.len];exact this
  have old:w=.dat d->∃v,σ[i]? =some (some v)/\Rep K G' v d:=fun z=>by
   subst z;obtain⟨v,e1,e2⟩:=r.dat i d h2;exact⟨v,e1,Rep.mono ev.same d e2⟩
  cases k with
  |false=>simp only[a1c,Zt]at h4;exact old h4
  |true=>
   rcases b8D h4 with z|⟨z,d0,z0⟩
   ·exact old z
   ·subst z
    obtain⟨v,q1,q2⟩:=ev.rel.dat i d h3;obtain⟨a0,xs0,p1,_⟩:=r.own i _ d0 h2 z0;rw[hσ i hi,a4U h1 p1]at q1;cases q1;exact⟨_,p1,q2⟩
 ·obtain⟨w0,d0,_,_,_,_,q⟩:=mutO i w ds e1 e2
  exact q
 ·obtain⟨w0,d0,y1,y2,_⟩:=mutO i w ds q1 q2
  obtain⟨w1,d1,y3,y4,_⟩:=mutO j w' es q3 q4;exact r.inj i j w0 w1 d0 d1 a y1 y2 y3 y4 q5 q6
 ·obtain⟨m,hm⟩:=own_mut qo
  obtain⟨w0,d0,y1,_,y3,_⟩:=mutO i _ m q1 hm;exact r.fresh i w0 a y1 (y3.trans qo) q2
 ·obtain⟨i,w,ds,e1,e2,e3⟩:=z
  obtain⟨w0,d0,y1,y2,_⟩:=mutO i w ds e1 e2;exact⟨i,w0,d0,y1,y2,e3⟩
 ·obtain⟨m,hm⟩:=par_mut hp
  obtain⟨w0,d0,y1,_,_,y4,_⟩:=mutO i _ m e hm;exact⟨w0,y1,y4.trans hp⟩
theorem Ev.swapAt(ev:Ev K B G σ env H G' σ' env' H')(no:¬ Owned σ env p)(hp:H p≠none)(gp:G p=none)(nt:NT o)(nx:∀φ,H' p≠some (.ext φ)):Ev K B G σ env (upd H p o) G' σ' env' (upd H' p o):=by
 have np:∀(i:Nat) (w:W) (ds:Mu) (a:Addr),env'[i]? =some w->w.mut=some ds->σ'[i]? =some (some (V.ref a))->a≠p:=fun i w ds a e1 e2 e3 z=>by
  rcases ev.sub a ⟨i,w,ds,e1,e2,e3⟩with q|q
  ·exact no (z ▸ q)
  ·exact hp (z ▸ q)
 have gp':G' p=none:=ev.stay p hp no gp
 have live':∀b,H' b≠none->(upd H' p o) b≠none:=fun b h=>by
  by_cases hb:b=p
  ·subst hb;rw[y8_];simp
  ·rw[q7_ hb];exact h
 refine⟨⟨fun b u e=>?_,ev.rel.len,ev.rel.dat,fun i w ds e1 e2=>?_,ev.rel.inj,ev.rel.fresh,fun b h=>live' b (ev.rel.old b h),ev.rel.tabs.upd nt nx,ev.rel.gnt⟩,ev.same,fun b u n t e=>?_,fun b e=>?_,fun b e n g=>?_,fun a z=>?_,ev.par,ev.slen⟩
 ·have hb:b≠p:=fun z=>by rw[z,gp']at e;cases e
  rw[q7_ hb];exact ev.rel.sub b u e
 ·obtain⟨a,xs,e3,e4,e5,e6⟩:=ev.rel.own i w ds e1 e2
  exact⟨a,xs,e3,by rw[q7_ (np i w ds a e1 e2 e3)];exact e4,e5,e6⟩
 ·by_cases hb:b=p
  ·subst hb;rw[y8_]at e ⊢;exact e
  ·rw[q7_ hb]at e ⊢;exact ev.keep b u n t e
 ·by_cases hb:b=p
  ·subst hb;rw[y8_];simp
  ·rw[q7_ hb]at e ⊢;exact ev.live b e
 ·by_cases hb:b=p
  ·subst hb;exact gp'
  ·rw[q7_ hb]at e;exact ev.stay b e n g
 ·obtain⟨i,w,ds,e1,e2,e3⟩:=id z
  rw[q7_ (np i w ds a e1 e2 e3)];exact ev.sub a z
end
def g6_(g:OZ)(t:Mo Bool)(m:Mo D):List D->Mo (List D)
 |[],env=>some ([],env)
 |d::ds,env=>(g d env).bind fun e1=>(t e1).bind fun p=>if p.1 then(m p.2).bind fun q=>(g6_ g t m ds q.2).map fun r=>(q.1::r.1,r.2)else g6_ g t m ds p.2
def v1_(mi:Mo (List D))(keep:List Bool)(more:Nat)(g:OZ)(t:Mo Bool)(m:Mo D):Mo (List D):=fun env=>(mi env).bind fun p=>if p.1.length≤100000 then
 (g6_ g t m p.1 (k5_ keep more p.2)).bind fun q=>(j2_ keep p.2 q.2).map fun e=>(q.1,e)else none
def v3_:Mo Bool:=fun env=>some (true,env)
theorem k9_:a0r X [] (TTm X.K B v3_):=fun pins s σ H Q I h=>by
 obtain⟨G,env,b,env',rl,e,k⟩:=h;cases e;exact b8A pins s σ H Q I (k G H (.refl rl))
theorem a3T{t:Mo Bool}(h:ET X B c t):a0r X [c] (TTm X.K B t):=b8B h
theorem b1Z{K:Qz}{g:OZ}{t:Mo Bool}{m:Mo D}(hkl:keep.length=n):
  ∀(σ:St) H Q,σ.length=n->TL K B (v1_ mi keep more g t m) σ H Q->a6m (TIm K B mi) keep more (TGm K B n g) (TTm K B t) (TD K B m) σ H Q:=by
 rintro σ H Q hσn ⟨G,env,total,env',rl,e,k⟩;obtain⟨⟨items,env1⟩,e1,e2⟩:=q2_ e;dsimp only at e2;split at e2
 ·rename_i hlen
  obtain⟨⟨total',envF⟩,e3,e4⟩:=q2_ e2;obtain⟨env'',e5,e6⟩:=x3_ e4;cases e6;refine⟨G,env,items,env1,rl,e1,fun J G1 H1 ev1 itd p hp=>?_⟩
  have hk:keep.length=σ.length:=by rw[hkl,hσn]
  have gp:G1 p=none:=ev1.rel.gnone hp
  have no1:¬ Owned σ env1 p:=ev1.rel.unowned hp
  have no:¬ Owned (w4_ keep more σ) (k5_ keep more env1) p:=fun z=>no1 (a4W z)
  have relS:∀ys,Rel K B G1 σ env1 (upd H1 p (.lst ys)):=fun ys=>(ev1.rel.allocM hp).rel
  refine⟨fun i m' σ2 H2=>m'=items.length-i/\i≤items.length/\∃G2 env2 ys acc rest,Ev K B G1 (w4_ keep more σ) (k5_ keep more env1) (upd H1 p (.lst ys)) G2 σ2 env2 H2/\(∀j,j<n->σ2[j]? =(w4_ keep more σ)[j]?)/\
   z9_ K G2 ys acc/\g6_ g t m (items.drop i) env2=some (rest,envF)/\acc++rest=total'/\acc.length≤i,⟨_,rfl,Ub _,G1,_,[],[],total',.refl ((relS []).ext hk),fun _ _=>rfl,repL_nil,by simpa using e3,by simp,Qy _⟩,?_⟩
  rintro i m' σ2 H2 ⟨rfl,hi,G2,env2,ys,acc,rest,ev2,y2,r2,c2,t2,l2⟩;have hpS:(upd H1 p (.lst ys)) p=some (.lst ys):=y8_;have hp2:H2 p=some (.lst ys):=ev2.keep p _ no nt_lst hpS;have lH:Le G1 H2:=ev2.same.trans ev2.rel.sub
  by_cases hlt:i<items.length
  ·refine .inr ⟨itd.go i H2 lH hlt,fun x H3 y=>?_⟩
   have ed:items.drop i=items[i]::items.drop (i+1):=Ja hlt
   rw[ed]at c2;obtain⟨env4,e7,e8⟩:=q2_ c2;obtain⟨⟨b,env5⟩,e9,e10⟩:=q2_ e8;have hget:items[i]? =some items[i]:=by simp[hlt]
   have st:∃G3,Ev K B G1 (w4_ keep more σ) (k5_ keep more env1) (upd H1 p (.lst ys)) G3 σ2 env2 H3/\Le G2 G3/\Rep K G3 x items[i]:=by
    rcases itd.yld i H2 x H3 items[i] lH y hget with⟨rfl,r⟩|⟨q,o,hno,hq,rfl,r⟩
    ·exact⟨G2,ev2,Le.refl,Rep.mono ev2.same _ r⟩
    ·have gq:=ev2.rel.gnone hq
     refine⟨upd G2 q o,ev2.trans (ev2.rel.alloc hq hno),Le.upd gq,Rep.mono (fun b u z=>?_) _ r⟩
     by_cases hb2:b=q
     ·subst hb2;rw[y8_]at z ⊢;exact z
     ·rw[q7_ hb2]at z ⊢;exact ev2.same b u z
   obtain⟨G3,ev3,l3,r3⟩:=st;refine⟨G3,env2,items[i],env4,ev3.rel,r3,e7,fun σ4 G4 H4 ev4 y4=>?_⟩
   refine⟨G4,env4,b,env5,ev4.rel,e9,fun G5 H5 ev5=>?_⟩
   have ev6:=(ev3.trans ev4).trans ev5
   have r5:z9_ K G5 ys acc:=z9_.mono ((l3.trans ev4.same).trans ev5.same) acc r2
   have y5:∀j,j<n->σ4[j]? =(w4_ keep more σ)[j]?:=fun j hj=>(y4 j hj).trans (y2 j hj)
   cases b with
   |true=>
    simp only[Zy]at e10 ⊢;obtain⟨⟨d7,env7⟩,e11,e12⟩:=q2_ e10;obtain⟨⟨rest8,env8⟩,e13,e14⟩:=x3_ e12;cases e14;refine .bind ev5.rel e11 fun v G7 H7 ev7 r7=>?_
    have ev8:=ev6.trans ev7
    have hp7:H7 p=some (.lst ys):=ev8.keep p _ no nt_lst hpS
    refine⟨ys,hp7,by rw[r2.length];exact Vq l2 (Qd hlt (Zp hlen (by decide))),items.length-(i+1),by omega,rfl,hlt,G7,env7,ys++[v],acc++[d7],rest8,?_,y5,(z9_.mono ev7.same acc r5).append (repL_cons r7 repL_nil),e13,by rw[Yb];exact t2,by rw[Qs];simp;omega⟩
    have:=ev8.swapAt (o:=.lst (ys++[v])) no (by rw[hpS];simp) gp nt_lst (fun φ z=>by rw[ev8.keep p _ no nt_lst hpS]at z;cases z)
    rwa [a4C]at this
   |false=>
    simp only[Zq,Yj]at e10 ⊢;exact⟨items.length-(i+1),by omega,rfl,hlt,G5,env5,ys,acc,rest,ev6,y5,r5,e10,t2,by omega⟩
  ·have ei:i=items.length:=by omega
   subst ei;rw[Vi]at c2;cases c2;rw[Yh]at t2;subst t2;refine .inl ⟨itd.stop _ H2 lH (Qy _),?_⟩;have evO:=Ev.out (relS ys) hk ev2 (fun j hj=>y2 j (by omega)) e5
   have evA:=ev1.trans ((ev1.rel.allocM (o:=.lst ys) hp).trans evO)
   have hpn:H p=none:=by
    cases q:H p with
    |none=>rfl
    |some o=>exact absurd hp (ev1.live p (by rw[q];simp))
   refine k p ys G2 H2 evA hpn (fun z=>?_) hp2 (ev2.stay p (by rw[hpS];simp) no gp) r2
   rcases evO.sub p z with q|q
   ·exact no1 q
   ·rw[hpS]at q;cases q
 ·cases e2
section
variable{g:OZ}{t:Mo Bool}{m:Mo D}
theorem j6_(ok:CompOk X N' scope keep more)(hc:X.calm=true)(hi:EI X B tg iter mi)(hg:∀s H fp,EG (x1_ X N' scope s H fp) B X.N.length tg g)(ht:∀s H fp,a0r (x1_ X N' scope s H fp) ifs (TTm X.K B t))(he:∀s H fp,ED (x1_ X N' scope s H fp) B elt m)
  (hs:∀x,foldedSetIterable iter X.env x=pure x:=by intro _;rfl):EL X B (.ListComp elt [⟨tg,iter,ifs,0⟩] scope pos) (v1_ mi keep more g t m):=by
 intro pins s σ H Q I h;exact b8C ok hc hi hg ht he hs pins s σ H Q I (b1Z ok.klen σ H Q I.len h)
theorem a3U(ok:CompOk X N' scope keep more)(hc:X.calm=true)(hN:X.N.Nodup)(hy:X.N[i]? =some y)(hyl:X.env.scope.names.lookup y=some .local)
  (hsw:swapsWith (.ListComp elt [⟨tg,iter,ifs,0⟩] scope pos) (some (.Name y py)) spos.line X.env=pure true)
  (hi:EI X B tg iter mi)(hg:∀s H fp,EG (x1_ X N' scope s H fp) B X.N.length tg g)(ht:∀s H fp,a0r (x1_ X N' scope s H fp) ifs (TTm X.K B t))(he:∀s H fp,ED (x1_ X N' scope s H fp) B elt m)
  (hs:∀x,foldedSetIterable iter X.env x=pure x:=by intro _;rfl):ES X B (.Assign [.Name y py] (.ListComp elt [⟨tg,iter,ifs,0⟩] scope pos) spos) (j5_ i (v1_ mi keep more g t m)):=by
 intro pins s σ H D I h;obtain⟨G,env,fl,env',rl,e,k⟩:=h;obtain⟨⟨d,env1⟩,e1,e2⟩:=x3_ e;cases e2;exact b1W ok hc hN hy hyl hsw hi hg ht he hs pins s σ H D I (b1Z ok.klen σ H _ I.len ⟨G,env,d,_,rl,e1,fun a xs G' H' ev ha no h' g' r=>k _ G' H' (ev.setOwn (fun z=>rl.old a z ha) ha no h' g' r)⟩)
end
section
variable{a:Expr}
def tyD:D->String
 |.non=>"NoneType"|.bl _=>"bool"|.int _=>"int"|.str _=>"str"|.tup _=>"tuple"|.lst _=>"list"|.emp=>"dict"|.obj _=>"object"|.dct _ _=>"dict"
def u3_(K:Qz)(T:String):Prop:=T∈(["tuple","list","int","bool","str"]:List String)
def a0F(t T:String):Bool:=t==T||(t=="bool"&&T=="int")
theorem a8f{K:Qz}(h:u3_ K T):∀d,(∀o,d≠.obj o)->PySem.W.kitOne K (.type (tyD d)) (.type T)=some (a0F (tyD d) T):=by
 intro d hd;unfold u3_ at h;simp only[Qr,Zi,Js]at h
 rcases h with rfl|rfl|rfl|rfl|rfl<;>cases d<;>first|rfl|exact absurd rfl (hd _)
theorem b8E{A:Around}{Q:OE}{x:V}{u:Value}(I:Inv X pins σ H s)(l:Le G H)(rx:y1_ x u)(rp:Rep X.K G x d)
  (kt:u3_ X.K T)(h:∀tk,Q (.bool (a0F (tyD d) T)) {s with toks:=tk}):wpAny (model X.prog X.w) A (call (.builtin "isinstance") [u,.type T]) Q E s:=by
 have e:=a8f kt d
 cases d with
 |non=>simp only[Rep]at rp;subst rp;exact a3M I rx (.non) (e nofun) h
 |bl b=>simp only[Rep]at rp;subst rp;exact a3M I rx (.bl b) (e nofun) h
 |int i=>simp only[Rep]at rp;subst rp;exact a3M I rx (.int i) (e nofun) h
 |str z=>simp only[Rep]at rp;obtain⟨rp,_⟩:=rp;subst rp;exact a3M I rx (.str z) (e nofun) h
 |tup ds=>
  simp only[Rep]at rp;obtain⟨a,xs,rfl,q,_⟩:=rp;cases rx;obtain⟨its,_,⟨o,h1,h2,_⟩,_⟩:=I.tuple (l.sqT q);exact Zm Xy I.kIn ⟨o,h1,h2⟩ (e nofun) (fun z=>nomatch z) h
 |lst ds=>
  simp only[Rep]at rp;obtain⟨a,xs,rfl,q,_⟩:=rp;cases rx;obtain⟨its,_,⟨o,n,h1,h2,_⟩,_⟩:=I.list (l.sqL q);exact Zm Vg I.kIn ⟨o,h1,h2⟩ (e nofun) (fun z=>nomatch z) h
 |emp=>
  simp only[Rep]at rp;obtain⟨a,kvs,rfl,q⟩:=rp;exact a3M I rx (.dK (l _ _ q)) (e nofun) h
 |dct ks vs=>
  simp only[Rep]at rp;obtain⟨a,kvs,rfl,q,_⟩:=rp;exact a3M I rx (.dT (l _ _ q)) (e nofun) h
 |obj o=>
  have h0:a0F "object" T=false:=by
   unfold u3_ at kt;simp only[Qr,Zi,Js]at kt
   rcases kt with rfl|rfl|rfl|rfl|rfl<;>rfl
  have h':∀tk,Q (.bool false) {s with toks:=tk}:=fun tk=>by have:=h tk;rwa [show a0F (tyD (.obj o)) T=false from h0]at this
  simp only[Rep]at rp;cases o with
  |exc n=>
   obtain⟨a,C,HP,rfl,_,h3,h4,h5⟩:=rp;cases rx;exact Zm h4 I.kIn (I.hok a _ (l _ _ h3)).1 (h5 T kt) (fun z=>nomatch z) h'
  |fn n=>
   obtain⟨f,rfl,_,h4⟩:=rp;cases rx;refine Zm h4 I.kIn True.intro ?_ (fun z=>nomatch z) h'
   unfold u3_ at kt;simp only[Qr,Zi,Js]at kt
   rcases kt with rfl|rfl|rfl|rfl|rfl<;>rfl
theorem b8F{K:Qz}:u3_ K "tuple":=by simp[u3_]
theorem b8G{K:Qz}:u3_ K "list":=by simp[u3_]
theorem b8H{K:Qz}:u3_ K "int":=by simp[u3_]
theorem b8I{K:Qz}:u3_ K "bool":=by simp[u3_]
def mIs(T:String)(m:Mo D):Mo D:=fun env=>(m env).map fun p=>(.bl (a0F (tyD p.1) T),p.2)
theorem a0s{p p2:Pos}(kt:u3_ X.K T)(ha:ED X B a ma)(hg:Gl X "isinstance")(hm:X.mg "isinstance"=none)(hgT:Gl X y)(hmT:X.mg y=none)(hvT:bootBuiltins y=some (.type T))
  (hnT:y≠"__name__":=by decide)(hdT:(y==("__debug__":Str))=false:=by decide)
  (he:starEach [a,.Name y p2] X.env=[(false,eval a X.env),(false,eval (.Name y p2) X.env)]:=by rfl):ED X B (.Call (.Name "isinstance" p) [a,.Name y p2] [] pos) (mIs T ma):=by
 have hT:PE X (.Name y p2) (tC (.ty T)):=a5L hgT hmT hvT rfl hnT hdT
 have hc:j8_ X (.builtin "isinstance") (fun xs H Q=>∃x G d,xs=[x,.ty T]/\Le G H/\Rep X.K G x d/\Q (.bl (a0F (tyD d) T)) H):=by
  intro pins s σ H xs us Q I r h;obtain⟨x,G,d,rfl,l,rp,q⟩:=h;obtain⟨u,w',rfl,r1,r2⟩:=a2e r;cases r2;exact b8E I l r1 rp kt fun tk=>⟨.bl _,H,I.tok _,rfl,q⟩
 have h1:starEach [Expr.Name y p2] X.env=[(false,eval (.Name y p2) X.env)]:=rfl
 refine pe_imp (a4H (pos:=pos) (p:=p) hc hg hm (by decide+kernel) (a0g ha (a0g hT a1l) he) (he:=he)) ?_
 rintro σ H Q ⟨G,env,d,env',rl,e,k⟩;obtain⟨⟨d1,env1⟩,e1,e2⟩:=x3_ e;cases e2;exact .bind rl e1 fun v G1 H1 ev r=>⟨v,G1,d1,rfl,ev.rel.sub,r,k _ G1 H1 ev (by simp only[Rep])⟩
def a0t:List D->Option Bool
 |[]=>some true
 |.bl b::r=>(a0t r).map fun k=>b&&k
 |_::_=>none
def a1C:List D->Option D
 |[.lst ds]=>(a0t ds).map fun k=>.bl k
 |_=>none
theorem b2a{K:Qz}{G:Hp}:∀{ds:List D}{xs:List V}{us:List Value}{k:Bool},z9_ K G xs ds->v4_ xs us->a0t ds=some k->∃bs,LSm.BoolsAre us bs/\bs.all id=k
 |[],_,us,k,r,v,e=>by
  simp only[z9_]at r;subst r;cases v;cases e;exact⟨[],.nil,rfl⟩
 |d::ds,_,us,k,r,v,e=>by
  simp only[z9_]at r;obtain⟨x,t,rfl,q,r⟩:=r;cases d<;>first|(exact absurd (show(none:Option Bool)=some k from e) (by simp))|skip
  obtain⟨k',e1,e2⟩:=x3_ (show(a0t ds).map _=some k from e)
  simp only[Rep]at q;subst q;cases v with
  |cons v1 v2=>
   cases v1;obtain⟨bs,h1,h2⟩:=b2a r v2 e1;exact⟨_::bs,.cons _ h1,by rw[←e2,←h2];rfl⟩
theorem a3p(hc:X.calm=true):j8_ X (.builtin "all") (fun xs H Q=>∃p G ys ds k,xs=[.ref p]/\Le G H/\SqL X.K G p ys/\z9_ X.K G ys ds/\a0t ds=some k/\Q (.bl k) H):=by
 intro pins s σ H xs us Q I r h;obtain⟨p,G,ys,ds,k,rfl,l,hq,rp,ek,q⟩:=h;obtain⟨u,rfl,rx⟩:=a1O r;cases rx;obtain⟨its,r',pl,hz⟩:=I.list (l.sqL hq);obtain⟨bs,hb,hk⟩:=b2a rp r' ek;have hh:X.A.handled=none:=I.ok.hd hc;have hl:=pl.isList;have hlt:p<s.heap.objs.size:=by obtain⟨_,e,_⟩:=hl;exact Qp e
 refine call_all_walk (Ji hl ?_);refine⟨s.heap.objs.size,[s.heap.objs.size,p],[s.heap.objs.size],its.toArray.size,_,_,fun i=>(bs[i]?).getD true,rfl,Walks.list (A:=X.A.in1) hh _ p (Qi hlt) its.toArray,
  ⟨⟨_,Qg _ rfl,rfl,rfl⟩,hl.push _⟩,fun i v s' Q' E' hP hQ=>?_,fun h' tk hk'=>?_⟩
 ·obtain⟨b,e,rfl⟩:=hb.get i v (by simpa using hP)
  simp only[e,Option.getD_some]at hQ;exact Yp hQ
 ·have e:((List.range its.toArray.size).all fun i=>(bs[i]?).getD true)=bs.all id:=by
   rw[Qm,hb.length];exact LSm.range_all bs
  rw[e,hk];exact⟨.bl k,H,I.kept (t':=tk) (LSm.kept_iter hk'),rfl,q⟩
theorem b8J:a1q X B (fun xs H Q=>∃p G ys ds k,xs=[.ref p]/\Le G H/\SqL X.K G p ys/\z9_ X.K G ys ds/\a0t ds=some k/\Q (.bl k) H) a1C:=by
 intro G σ env H xs ds c Q rl r e k;unfold a1C at e;split at e
 ·rename_i ds
  obtain⟨x,rfl,q⟩:=a0C r;obtain⟨k',e1,e2⟩:=x3_ e;subst e2;simp only[Rep]at q;obtain⟨a,ys,rfl,h1,h2⟩:=q;exact⟨a,G,ys,ds,k',rfl,rl.sub,h1,h2,e1,k _ G H (.refl rl) (by simp only[Rep])⟩
 ·cases e
def a3V:List D->Option D
 |[.int i,.int j]=>some (.int (if j>i then j else i))
 |_=>none
def a3q:List D->Option D
 |[.int i,.int j]=>some (.int (if j<i then j else i))
 |_=>none
def a3W:List D->Option D
 |[.int i]=>some (.int i)
 |[.bl k]=>some (.int (if k then 1 else 0))
 |_=>none
theorem b8K:a1q X B (fun xs H Q=>∃i j,xs=[.int i,.int j]/\Q (.int (if j>i then j else i)) H) a3V:=by
 intro G σ env H xs ds c Q rl r e k;unfold a3V at e;split at e
 ·rename_i i j
  cases e;obtain⟨x,y,rfl,q1,q2⟩:=a3P r;simp only[Rep]at q1 q2;subst q1 q2;exact⟨i,j,rfl,k _ G H (.refl rl) (by simp only[Rep])⟩
 ·cases e
theorem b8L:a1q X B (fun xs H Q=>∃i j,xs=[.int i,.int j]/\Q (.int (if j<i then j else i)) H) a3q:=by
 intro G σ env H xs ds c Q rl r e k;unfold a3q at e;split at e
 ·rename_i i j
  cases e;obtain⟨x,y,rfl,q1,q2⟩:=a3P r;simp only[Rep]at q1 q2;subst q1 q2;exact⟨i,j,rfl,k _ G H (.refl rl) (by simp only[Rep])⟩
 ·cases e
theorem b8M:a1q X B (fun xs H Q=>(∃i,xs=[.int i]/\Q (.int i) H)∨ ∃k,xs=[.bl k]/\Q (.int (if k then 1 else 0)) H) a3W:=by
 intro G σ env H xs ds c Q rl r e k;unfold a3W at e;split at e
 ·rename_i i
  cases e;obtain⟨x,rfl,q1⟩:=a0C r;simp only[Rep]at q1;subst q1;exact .inl ⟨i,rfl,k _ G H (.refl rl) (by simp only[Rep])⟩
 ·rename_i b
  cases e;obtain⟨x,rfl,q1⟩:=a0C r;simp only[Rep]at q1;subst q1;exact .inr ⟨b,rfl,k _ G H (.refl rl) (by simp only[Rep])⟩
 ·cases e
def ints?:List D->Option (List Int)
 |[]=>some []
 |.int i::r=>(ints? r).map fun l=>i::l
 |_::_=>none
theorem a2K{K:Qz}{G:Hp}:∀{ds:List D}{xs:List V}{ns:List Int},z9_ K G xs ds->ints? ds=some ns->xs=ns.map V.int
 |[],_,ns,r,e=>by simp only[z9_]at r;subst r;cases e;rfl
 |d::ds,_,ns,r,e=>by
  simp only[z9_]at r;obtain⟨x,t,rfl,q,r⟩:=r;cases d<;>first|(exact absurd (show(none:Option (List Int))=some ns from e) (by simp))|skip
  obtain⟨l,e1,e2⟩:=x3_ (show(ints? ds).map _=some ns from e)
  subst e2;simp only[Rep]at q;subst q;rw[a2K r e1];rfl
def dIn(neg:Bool):D->D->Option D
 |.int i,d=>d.items.bind fun ds=>(ints? ds).map fun ns=>.bl (if neg then !ns.contains i else ns.contains i)
 |_,_=>none
theorem b8N(ns:List Int):(ns.map V.int).all a1m=true:=by
 induction ns with
 |nil=>rfl
 |cons n ns ih=>simp[a1m,ih]
theorem b8O(i:Int)(ns:List Int):inV (.int i) (ns.map V.int)=ns.contains i:=by
 unfold inV
 induction ns with
 |nil=>rfl
 |cons n ns ih=>
  rw[Qu,Xp,ih,Vk]
  congr 1
  show(n==i)=(i==n);exact Bool.beq_comm ..
theorem b8P:OpD X B (rIn X.K neg) (dIn neg):=by
 intro G σ env H x y a b d Q rl ra rb e k;cases a<;>first|(exact absurd (show(none:Option D)=some d from e) (by simp))|skip
 rename_i i;obtain⟨ds,e1,e2⟩:=q2_ (show b.items.bind _=some d from e)
 obtain⟨ns,e3,e4⟩:=x3_ e2;subst e4;simp only[Rep]at ra;subst ra;obtain⟨p,xs,rfl,h1,h2⟩:=a7S rl.sub rb e1;have hx:=a2K h2 e3;subst hx;exact⟨p,_,rfl,h1,rfl,b8N ns,k _ G H (.refl rl) (by rw[b8O];simp only[Rep])⟩
end
mutual
def toP:D->PyData
 |.non=>.none
 |.bl b=>.bool b
 |.int i=>.int i
 |.str x=>.str x
 |.tup ds=>.tuple (x0_ ds)
 |.lst ds=>.list (x0_ ds)
 |.emp=>.dict []
 |.obj _=>.dict []
 |.dct _ _=>.dict []
def x0_:List D->List PyData
 |[]=>[]
 |d::ds=>toP d::x0_ ds
end
def shp(d:D):Bool:=SeqAt.shaped (toP d)
mutual
theorem reads_of(I:Inv X pins σ H s)(l:Le G H):∀(d:D) (x:V) (u:Value),(toP d).canLay0=true->y1_ x u->Rep X.K G x d->∃as,Reads s.heap u (toP d) as
 |.non,x,u,c,r,p=>by simp only[Rep]at p;subst p;cases r;exact⟨_,.none⟩
 |.bl b,x,u,c,r,p=>by simp only[Rep]at p;subst p;cases r;exact⟨_,.bool b⟩
 |.int i,x,u,c,r,p=>by simp only[Rep]at p;subst p;obtain⟨t,rfl⟩:=r;exact⟨_,.int i t⟩
 |.str z,x,u,c,r,p=>by simp only[Rep]at p;obtain⟨p,_⟩:=p;subst p;obtain⟨t,rfl⟩:=r;exact⟨_,.str z t⟩
 |.tup ds,x,u,c,r,p=>by
  simp only[Rep]at p;obtain⟨a,xs,rfl,q,rp⟩:=p;cases r;obtain⟨its,rv,⟨o,h1,h2,n,h3⟩,_⟩:=I.tuple (l.sqT q);have hc:PyData.canLayAll0 (x0_ ds)=true:=by simpa [toP,PyData.canLay0]using c
  obtain⟨as,h⟩:=readsAll_of I l ds xs its hc rv rp;exact⟨_,.tuple h1 h2 h3 (by simpa using h)⟩
 |.lst ds,x,u,c,r,p=>by
  simp only[Rep]at p;obtain⟨a,xs,rfl,q,rp⟩:=p;cases r;obtain⟨its,rv,⟨o,n,h1,h2,_,h3⟩,_⟩:=I.list (l.sqL q);have hc:PyData.canLayAll0 (x0_ ds)=true:=by simpa [toP,PyData.canLay0]using c
  obtain⟨as,h⟩:=readsAll_of I l ds xs its hc rv rp;exact⟨_,.list h1 h2 h3 (by simpa using h)⟩
 |.emp,x,u,c,r,p=>by simp[toP,PyData.canLay0]at c
 |.obj _,x,u,c,r,p=>by simp[toP,PyData.canLay0]at c
 |.dct _ _,x,u,c,r,p=>by simp[toP,PyData.canLay0]at c
theorem readsAll_of(I:Inv X pins σ H s)(l:Le G H):∀(ds:List D) (xs:List V) (us:List Value),PyData.canLayAll0 (x0_ ds)=true->v4_ xs us->z9_ X.K G xs ds->∃as,ReadsAll s.heap us (x0_ ds) as
 |[],xs,us,c,v,p=>by simp only[z9_]at p;subst p;cases v;exact⟨_,.nil⟩
 |d::ds,xs,us,c,v,p=>by
  simp only[z9_]at p;obtain⟨x,r,rfl,q,t⟩:=p;have hc:(toP d).canLay0=true/\PyData.canLayAll0 (x0_ ds)=true:=by simpa [x0_,PyData.canLayAll0]using c
  cases v with
  |cons v1 v2=>
   obtain⟨as,h1⟩:=reads_of I l d x _ hc.1 v1 q;obtain⟨bs,h2⟩:=readsAll_of I l ds r _ hc.2 v2 t;exact⟨_,.cons h1 h2⟩
end
def rEqD(K:Qz)(neg:Bool):R2:=fun x y H Q=>∃G a b,Le G H/\Rep K G x a/\Rep K G y b/\shp a=true/\shp b=true/\Q (.bl (if neg then !PyData.eqv (toP a) (toP b)else PyData.eqv (toP a) (toP b))) H
theorem op_eqD(hu:X.A.units+64<cLine):OpR X (compareOp .Eq) (rEqD X.K false):=by
 intro pins s σ H x y v u Q I rx ry h;obtain⟨G,a,b,l,ra,rb,ha,hb,q⟩:=h;obtain⟨as,h1⟩:=reads_of I l a x v (Yi ha) rx ra;obtain⟨bs,h2⟩:=reads_of I l b y u (Yi hb) ry rb;exact eq_dataH h1 h2 ha hb hu ⟨.bl _,H,I,rfl,q⟩
theorem op_neD(hu:X.A.units+64<cLine):OpR X (compareOp .NotEq) (rEqD X.K true):=by
 intro pins s σ H x y v u Q I rx ry h;obtain⟨G,a,b,l,ra,rb,ha,hb,q⟩:=h;obtain⟨as,h1⟩:=reads_of I l a x v (Yi ha) rx ra;obtain⟨bs,h2⟩:=reads_of I l b y u (Yi hb) ry rb;exact ne_dataH h1 h2 ha hb hu ⟨.bl _,H,I,rfl,q⟩
def dEq(neg:Bool):D->D->Option D:=fun a b=>if shp a&&shp b then some (.bl (if neg then !PyData.eqv (toP a) (toP b)else PyData.eqv (toP a) (toP b)))else none
theorem opd_eq:OpD X B (rEqD X.K neg) (dEq neg):=by
 intro G σ env H x y a b d Q rl ra rb e k;unfold dEq at e;split at e
 ·rename_i h
  rw[Qw]at h;cases e;exact⟨G,a,b,rl.sub,ra,rb,h.1,h.2,k _ G H (.refl rl) (by simp only[Rep])⟩
 ·cases e
def rCatT'(K:Qz):R2:=fun x y H Q=>∃a b xs ys,x=.ref a/\y=.ref b/\SqT K H a xs/\SqT K H b ys/\xs.length+ys.length≤sizeLine/\
 (xs=[]->Q (.ref b) H)/\(ys=[]->Q (.ref a) H)/\(∀p,H p=none->Q (.ref p) (upd H p (.tup (xs++ys))))
theorem op_catT':OpR X (binaryOp .Add) (rCatT' X.K):=by
 intro pins s σ H x y v u Q I rx ry h;obtain⟨a,b,xs,ys,rfl,rfl,ha,hb,hz,q0,q1,q2⟩:=h;cases rx;cases ry;obtain⟨vs,r1,p1,_⟩:=I.tuple ha;obtain⟨ws,r2,p2,_⟩:=I.tuple hb;have hsz:vs.length+ws.length≤sizeLine:=by rw[←r1.length,←r2.length];exact hz
 obtain⟨⟨cls,dd,data,sl⟩,ho,hc,n,hd⟩:=id p1;obtain⟨⟨cls2,dd2,data2,sl2⟩,ho2,hc2,n2,hd2⟩:=id p2;simp only at hc hd hc2 hd2;subst hc hd hc2 hd2;have e:vs.toArray++ws.toArray=(vs++ws).toArray:=by simp
 by_cases hv:vs=[]
 ·exact concat_meets ⟨_,ho,rfl⟩ ⟨_,ho2,rfl⟩ noFill_tuple_add seq_tuple_add Vn Vb (Vv _ _)
   (tuple_addW0 a b vs.toArray ws.toArray n n2 dd dd2 sl sl2 (by simp[hv])) ⟨ho,ho2,⟨.ref b,H,I,rfl,q0 (r1.nil_iff.mp hv)⟩⟩
 ·by_cases hw:ws=[]
  ·exact concat_meets ⟨_,ho,rfl⟩ ⟨_,ho2,rfl⟩ noFill_tuple_add seq_tuple_add Vn Vb (Vv _ _)
    (tuple_addW1 a b vs.toArray ws.toArray n n2 dd dd2 sl sl2 (by simpa using hv) (by simp[hw])) ⟨ho,ho2,⟨.ref a,H,I,rfl,q1 (r2.nil_iff.mp hw)⟩⟩
  ·refine concat_meets ⟨_,ho,rfl⟩ ⟨_,ho2,rfl⟩ noFill_tuple_add seq_tuple_add Vn Vb (Vv _ _)
    (tuple_addW2 a b vs.toArray ws.toArray n n2 dd dd2 sl sl2 (by simpa using hv) (by simpa using hw) (by rw[Qm,Qm];exact hsz)) ⟨ho,ho2,?_⟩
   rw[e];refine⟨.ref s.heap.objs.size,_,I.laid (t':=s.toks) (o:=.tup (xs++ys)) (fun b ob q=>Qx _ q) (Qy _) ?_,rfl,q2 _ (I.hok.fresh (Qy _))⟩
   exact⟨by rw[Qs];exact hz,_,r1.append r2,a0Y.new _ _⟩
def rCatL'(K:Qz):R2:=fun x y H Q=>∃a b xs ys,x=.ref a/\y=.ref b/\SqL K H a xs/\SqL K H b ys/\xs.length+ys.length≤sizeLine/\
 (∀p,H p=none->Q (.ref p) (upd H p (.lst (xs++ys))))
theorem op_catL':OpR X (binaryOp .Add) (rCatL' X.K):=by
 intro pins s σ H x y v u Q I rx ry h;obtain⟨a,b,xs,ys,rfl,rfl,ha,hb,hz,q2⟩:=h;cases rx;cases ry;obtain⟨vs,r1,p1,_⟩:=I.list ha;obtain⟨ws,r2,p2,_⟩:=I.list hb;have hsz:vs.length+ws.length≤sizeLine:=by rw[←r1.length,←r2.length];exact hz
 obtain⟨⟨cls,dd,data,sl⟩,ho,hc,n,hd⟩:=id p1.isList;obtain⟨⟨cls2,dd2,data2,sl2⟩,ho2,hc2,n2,hd2⟩:=id p2.isList;simp only at hc hd hc2 hd2;subst hc hd hc2 hd2;have e:vs.toArray++ws.toArray=(vs++ws).toArray:=by simp
 refine concat_meets ⟨_,ho,rfl⟩ ⟨_,ho2,rfl⟩ noFill_list_add seq_list_add PySem.F.slot_list_add PySem.F.entry_list_add (PySem.F.args_list_add_2 _ _)
    (list_addW a b vs.toArray ws.toArray n n2 dd dd2 sl sl2 (by rw[Qm,Qm];exact hsz)) ⟨ho,ho2,?_⟩
 rw[e];refine⟨.ref s.heap.objs.size,_,I.lnew (t':=s.toks) (r1.append r2) (by rw[Qs];exact hz),rfl,q2 _ I.fresh⟩
end L2.Mir
namespace L2.Mir
open PySem PySem.Spec PyProof.Rows PySem.Builtin
open AutoSeq1 (wpAny_loadPart')
theorem b8Q:fillsNumberSlot (.type "tuple") "mul"=pure false:=
 PySem.fillsNumberSlot_seq (id:="tuple.__mul__") (r:=some (.builtin "tuple.__rmul__")) Vt.lookup (by decide+kernel) F.slot_tuple_rmul.lookup (by decide+kernel)
theorem b8R:seqRepeat? (.type "tuple")=pure (some (.builtin "tuple.__mul__")):=by
 unfold seqRepeat?;rw[PySem.seqSlot_of (T:="tuple") (name:="__mul__") (id:="tuple.__mul__") Vt.lookup (by decide+kernel),PySem.seqSlot_of (T:="tuple") (name:="__rmul__") (id:="tuple.__rmul__") F.slot_tuple_rmul.lookup (by decide+kernel)]
 rfl
theorem b8S(a:Int)(t:Tok)(l:Addr)(items:Array Value)(n:Nat)(dd:Option Addr)(sl:Array (Option Value)):
  Meets (Builtin.«int.__rmul__» ⟨[.int a t,.ref l],[]⟩) (fun _ R s=>s.heap.get? l=some {cls:=.type "tuple",dict:=dd,data:=.seq items n,slots:=sl}/\R (.ok (.ret Value.notImplemented)) s):=
 .of_wp fun prog w A R s h=>by obtain⟨hp,g,d,tk,os⟩:=s;obtain⟨hl,h⟩:=h;wp_walk;exact⟨_,rfl,h⟩
theorem b8T(l:Addr)(items:Array Value)(n:Nat)(dd:Option Addr)(sl:Array (Option Value))(x:Int)(u:Tok)(hx:x=1):
  Meets (Builtin.«tuple.__mul__» ⟨[.ref l,.int x u],[]⟩) (fun _ R s=>s.heap.get? l=some {cls:=.type "tuple",dict:=dd,data:=.seq items n,slots:=sl}/\R (.ok (.ret (.ref l))) s):=
 .of_wp fun prog w A R s h=>by
  obtain⟨hp,g,d,tk,os⟩:=s;obtain⟨hl,h⟩:=h;subst hx;have f1:=AutoSeq1.idx_int
  wp_walk using Jv hl
  exact⟨_,rfl,h⟩
theorem b8U(l:Addr)(its:List Value)(n:Nat)(dd:Option Addr)(sl:Array (Option Value))(x:Int)(u:Tok)(hi:its≠[])(h1:2≤x)(h2:x<2^63)(hz:its.length * x.toNat≤sizeLine):
  Meets (Builtin.«tuple.__mul__» ⟨[.ref l,.int x u],[]⟩) (fun _ R s=>s.heap.get? l=some {cls:=.type "tuple",dict:=dd,data:=.seq its.toArray n,slots:=sl}/\R (.ok (.ret (.ref s.heap.objs.size))) {s with heap:=s.heap.push {cls:=Value.type "tuple",data:=Data.seq (List.replicate x.toNat its).flatten.toArray}}):=
 .of_wp fun prog w A R s h=>by
  obtain⟨hp,g,d,tk,os⟩:=s;obtain⟨hl,h⟩:=h;have f1:=AutoSeq1.idx_int;have hi':its.toArray.isEmpty=false:=by simpa using hi
  have hb:¬ ((decide (x< -(2^63))||decide (x ≥ 2^63))=true):=by simp;omega
  have hc:¬ ((its.toArray.isEmpty||x==1)=true):=by rw[hi'];simp;omega
  have hd:¬ ((decide (x≤0)||its.toArray.isEmpty)=true):=by rw[hi'];simp;omega
  have e1:(its.toArray.size:Int) * x=((its.length * x.toNat:Nat):Int):=by rw[Qm,Int.natCast_mul,Int.toNat_of_nonneg (by omega)]
  have he:¬ ((its.toArray.size:Int) * x>(2^63-1)/8):=by
   have e2:(sizeLine:Nat)≤(2^63-1)/8:=by decide
   rw[e1];omega
  have hf:¬ (Tuple.tupleTooMany ((its.toArray.size:Int) * x)=true):=by
   rw[e1];intro z;have z':=of_decide_eq_true z
   omega
  have hnew:List.foldl (fun x1 x2=>x1++x2) #[] (List.replicate x.toNat its.toArray)=(List.replicate x.toNat its).flatten.toArray:=by
   have:=b1w its x.toNat [];rw[Ua]at this;exact this
  have hsz:sizeOk (.seq (List.replicate x.toNat its).flatten.toArray):=by
   show(List.replicate x.toNat its).flatten.toArray.size≤sizeLine;rw[Qm,b1x,Nat.mul_comm];exact hz
  wp_walk using Jv hl
  refine Uy (Zb hb) ?_
  wp_walk using Jv hl
  refine Uy (Zb hc) ?_
  wp_walk using Jv hl
  refine Uy (Zb hd) ?_
  wp_walk using Jv hl
  refine Uy (Zb he) ?_
  wp_walk using Jv hl
  refine Uy (Zb hf) ?_
  rw[hnew]
  wp_walk using Jv hl
  refine Uy (Zb (Nat.not_lt.mpr hsz)) ?_
  wp_walk using Jv hl
  exact⟨_,rfl,h⟩
section
variable{X:Cx}{B:OA}
def a6o(K:Qz):R2:=fun x y H Q=>∃a k xs,x=.ref a/\y=.int k/\SqT K H a xs/\xs≠[]/\1≤k/\k<2^63/\xs.length * k.toNat≤sizeLine/\
 (k=1->Q (.ref a) H)/\∀p,H p=none->Q (.ref p) (upd H p (.tup (List.replicate k.toNat xs).flatten))
theorem b8V:OpR X (binaryOp .Mult) (a6o X.K):=by
 intro pins s σ H x y v u Q I rx ry h;obtain⟨a,k,xs,rfl,rfl,ha,hne,h1,h2,hz,q1,q2⟩:=h;cases rx;obtain⟨t,rfl⟩:=ry;obtain⟨its,r,⟨⟨cls,dd,data,sl⟩,ho,hc,n,hd⟩,hzz⟩:=I.tuple ha;simp only at hc hd;subst hc hd;refine wpAny_binaryOp_repeat_ref (T:="tuple") (U:="int") (by decide) ⟨_,ho,rfl⟩ (fun s'=>typeIs_int s' k t) b8Q F.fills_int_mul F.slot_int_rmul b8R F.slot_int_index.lookup
  (Vu F.slot_int_rmul (typeIs_int s k t) F.entry_int_rmul (F.args_int_rmul_2 _ _) (b8S k t a its.toArray n dd sl)
   ⟨ho,rfl,⟨_,ho,rfl⟩,?_⟩)
 by_cases hk:k=1
 ·exact Vu Vt ⟨_,ho,rfl⟩ F.entry_tuple_mul (F.args_tuple_mul_2 _ _) (b8T a its.toArray n dd sl k t hk) ⟨ho,⟨.ref a,H,I,rfl,q1 hk⟩⟩
 ·refine Vu Vt ⟨_,ho,rfl⟩ F.entry_tuple_mul (F.args_tuple_mul_2 _ _) (b8U a its n dd sl k t (fun z=>hne (r.nil_iff.mp z)) (by omega) h2 (by rw[←r.length];exact hz)) ⟨ho,?_⟩
  refine⟨.ref s.heap.objs.size,_,I.laid (t':=s.toks) (o:=.tup (List.replicate k.toNat xs).flatten) (fun b ob q=>Qx _ q) (Qy _) ?_,rfl,q2 _ (I.hok.fresh (Qy _))⟩
  exact⟨by rw[b1x,Nat.mul_comm];exact hz,_,r.rep k.toNat,a0Y.new _ _⟩
end
section
variable{X:Cx}{B:OA}{pos:Pos}{a b:Expr}{ma mb:Mo D}
def a8g:D->D->Option D
 |.tup xs,.tup ys=>if xs.length+ys.length≤10000 then some (.tup (xs++ys))else none
 |_,_=>none
theorem a8h{n:Nat}(h:n≤10000):n≤sizeLine:=Zp h (by decide)
theorem b8W:OpD X B (rCatT' X.K) a8g:=by
 intro G σ env H x y a b d Q rl ra rb e k;cases a<;>cases b<;>first|(exact absurd (show(none:Option D)=some d from e) (by simp))|skip
 rename_i ds es;simp only[a8g]at e;split at e
 ·rename_i hl
  cases e;have ra0:=ra;have rb0:=rb;simp only[Rep]at ra rb;obtain⟨p,xs,rfl,q1,r1⟩:=ra;obtain⟨p',ys,rfl,q2,r2⟩:=rb;refine⟨p,p',xs,ys,rfl,rfl,rl.sub.sqT q1,rl.sub.sqT q2,by rw[r1.length,r2.length];exact a8h hl,fun z=>?_,fun z=>?_,fun l hp=>?_⟩
  ·subst z
   have:ds=[]:=List.length_eq_zero_iff.mp r1.length.symm;subst this;exact k _ G H (.refl rl) rb0
  ·subst z
   have:es=[]:=List.length_eq_zero_iff.mp r2.length.symm;subst this;exact k _ G H (.refl rl) (by rw[Yh];exact ra0)
  ·exact k _ _ _ (rl.alloc hp) (a2C y8_ (z9_.mono (Le.upd (rl.gnone hp)) _ (r1.append r2)))
 ·cases e
def a8i:D->D->Option D
 |.tup [d],.int k=>if 1≤k/\k≤1000 then some (.tup (List.replicate k.toNat d))else none
 |_,_=>none
theorem b8X{α:Type}(x:α)(n:Nat):(List.replicate n [x]).flatten=List.replicate n x:=by
 induction n with
 |zero=>rfl
 |succ n ih=>rw[Zs,Jw,ih,Zs];rfl
theorem b2b{K:Qz}{G:Hp}{x:V}{d:D}(h:Rep K G x d):∀n,z9_ K G (List.replicate n x) (List.replicate n d)
 |0=>repL_nil
 |n+1=>by rw[Zs,Zs];exact repL_cons h (b2b h n)
theorem b8Y:OpD X B (a6o X.K) a8i:=by
 intro G σ env H x y a b d Q rl ra rb e k;unfold a8i at e;split at e
 ·rename_i d0 n
  split at e
  ·rename_i hn
   cases e;have ra0:=ra;simp only[Rep]at ra rb;obtain⟨p,xs,rfl,q1,r1⟩:=ra;subst rb;obtain⟨v,rfl,rv⟩:=a0C r1;refine⟨p,n,[v],rfl,rfl,rl.sub.sqT q1,by simp,by omega,by omega,?_,fun z=>?_,fun l hp=>?_⟩
   ·exact a8h (by simp;omega)
   ·subst z
    exact k _ G H (.refl rl) ra0
   ·rw[b8X]
    exact k _ _ _ (rl.alloc hp) (a2C y8_ (z9_.mono (Le.upd (rl.gnone hp)) _ (b2b rv _)))
  ·cases e
 ·cases e
def v7_:=fOr a5Y a8g
def a0c:=fOr a7K a8i
theorem b8Z:OpR X (binaryOp .Add) (fun x y H Q=>rI0 (fun i j=>.int (i+j)) x y H Q∨rCatT' X.K x y H Q):=OpR.or b7g op_catT'
theorem b9a:OpD X B (fun x y H Q=>rI0 (fun i j=>.int (i+j)) x y H Q∨rCatT' X.K x y H Q) v7_:=b1C.or b8W
theorem b9b:OpR X (binaryOp .Mult) (fun x y H Q=>rI a3g (fun i j=>.int (i * j)) x y H Q∨a6o X.K x y H Q):=OpR.or b7i b8V
theorem b9c:OpD X B (fun x y H Q=>rI a3g (fun i j=>.int (i * j)) x y H Q∨a6o X.K x y H Q) a0c:=b8c.or b8Y
def a0P(ma mb:Mo D):Mo (List D):=fun env=>(ma env).bind fun p=>(mb p.2).bind fun q=>match p.1,q.1 with
 |.lst xs,.lst ys=>if xs.length+ys.length≤10000 then some (xs++ys,q.2)else none
 |_,_=>none
theorem a2m(ha:ED X B a ma)(hb:ED X B b mb):EL X B (.BinOp a .Add b pos) (a0P ma mb):=by
 refine pe_imp (a7t op_catL' ha hb) ?_
 rintro σ H Q ⟨G,env,ds,env',rl,e,k⟩;obtain⟨⟨d1,env1⟩,e1,e2⟩:=q2_ e;obtain⟨⟨d2,env2⟩,e3,e4⟩:=q2_ e2;dsimp only at e4 e3;refine .bind rl e1 fun v1 G1 H1 ev1 r1=>.bind ev1.rel e3 fun v2 G2 H2 ev2 r2=>?_
 split at e4
 ·rename_i xs ys
  split at e4
  ·rename_i hl
   cases e4;have r1':=Rep.mono ev2.same _ r1;simp only[Rep]at r1' r2;obtain⟨p,us,rfl,q1,t1⟩:=r1';obtain⟨p',ws,rfl,q2,t2⟩:=r2;exact⟨p,p',us,ws,rfl,rfl,ev2.rel.sub.sqL q1,ev2.rel.sub.sqL q2,by rw[t1.length,t2.length];exact a8h hl,fun l hp=>a4Q (ev1.trans ev2) hp (t1.append t2) k⟩
  ·cases e4
 ·cases e4
end
end L2.Mir
namespace HT
open PySem PySem.Spec PyProof.Rows
variable{Q:OE}{sl:Addr}
section
variable{prog:Program}{w:World}{A:Around}{E:OE}{s:Shared}
theorem getItem_tuple_whole{t:Addr}{items:Array Value}{vl vu:Value}{lo hi:Option Int}(ht:IsTup s.heap t items)(hs:s.heap.IsSliceOf sl vl vu .none)(pl:IsPart vl lo)(pu:IsPart vu hi)
  (hw:sIx items.size 0 lo=0/\sIx items.size items.size hi=items.size)
  (h:Q (.ref t) s):wpAny (model prog w) A (getItem (.ref t) (.ref sl)) Q E s:=by
 obtain⟨os,hos,hcs,hds⟩:=id hs;have hTs:s.TypeIs (.ref sl) "slice":=⟨os,hos,hcs⟩;unfold getItem
 try with_reducible refine Yn ?_
 first|refine Qq (Qk ?_)|skip
 refine Qq (wpAny_sequenceKey ht.typeIs (by decide) ?_)
 refine Qq (Yw (name:=Str.ofString "__getitem__") ht.typeIs Zu
  (Jf Zu ht.typeIs entry_tuple_getitem ?_ (args_tuple_getitem _ _)))
 show wpAny _ _ (Builtin.Tuple.tupleItemsOf (.ref t)>>=_) _ _ s;refine Qq (tupleItemsOf_ ht ?_);refine Qq (Uf hTs ?_);rw[Qn (by decide)]
 refine Qq (sliceApplied_gen hs pl pu ?_);have hno:((((sIx items.size 0 lo:Nat):Int)==0&&(1:Int)==1&&(sIx items.size items.size hi-sIx items.size 0 lo)==items.size)=true):=by
  rw[hw.1,hw.2];simp
 show wpAny _ _ (if(((sIx items.size 0 lo:Nat):Int)==0&&(1:Int)==1&&(sIx items.size items.size hi-sIx items.size 0 lo)==items.size)=true then _ else _) _ _ s
 rw[Qn hno];refine Qq (Qq (m:=typeOf (.ref t)) (Uf ht.typeIs (Qk ?_)));rw[Qn (by decide)]
 refine Qq (Ul ?_)
 first
  |exact Qk ⟨_,rfl,Qk h⟩
  |exact Qq (Qk ⟨_,rfl,Qk h⟩)
  |exact Qq (Qq (Qk ⟨_,rfl,Qk h⟩))
theorem sliceApplied_rev{t:Tok}{n:Nat}{Q:Int×Int×Nat->Shared->Prop}(hs:s.heap.IsSliceOf sl .none .none (.int (-1) t))
  (h:Q ((n:Int)-1,-1,n) s):wpAny (model prog w) A (Builtin.Slice.sliceApplied (.ref sl) (pure (n:Int))) Q E s:=by
 obtain⟨os,hos,hcs,hds⟩:=id hs;unfold Builtin.Slice.sliceApplied Builtin.Slice.sliceFields;refine Qq (Qq (Ze hos hds (x:=.none) rfl (Qq (Ze hos hds (x:=.none) rfl (Qq (Ze hos hds (x:=.int (-1) t) rfl (Qk ?_)))))));refine Qq (slicePart_int ?_);show wpAny _ _ (if((-1:Int)==0)=true then _ else _) _ _ s
 rw[Ql (by decide)]
 refine Qq (slicePart_none (Qq (slicePart_none (Qq (Qk ?_)))));have e:Builtin.Slice.slicePlaces ((n:Int)-1) (-1) (-1)=n:=by
  unfold Builtin.Slice.slicePlaces;have h1:¬ ((-1:Int)>0):=by omega
  simp only[h1,Yj];split
  ·rw[show(- -1:Int)=1 by decide,Int.ediv_one];omega
  ·omega
 show wpAny _ _ (pure ((n:Int)-1,(-1:Int),Builtin.Slice.slicePlaces ((n:Int)-1) (-1) (-1))) _ _ s;rw[e];exact Qk h
theorem filterMap_congr'{α β:Type}{f g:α->Option β}:∀{l:List α},(∀x∈l,f x=g x)->l.filterMap f=l.filterMap g
 |[],_=>rfl
 |a::l,h=>by
  rw[Jg,Jg,h a (by simp),filterMap_congr' (l:=l) fun x hx=>h x (by simp[hx])]
theorem pick_rev(xs:Array Value):((List.range xs.size).filterMap fun(m:Nat)=>xs[(((xs.size:Int)-1)+(m:Int) * (-1)).toNat]?).toArray=xs.toList.reverse.toArray:=by
 have h:=PySem.W.krv_all xs
 have h2:=Zc List.reverse h
 rw[←List.filterMap_reverse,←PySem.W.krv_range,List.filterMap_map]at h2;rw[←h2]
 congr 1
 apply filterMap_congr'
 intro m hm;have:=Zl.mp hm;show xs[_]? =xs[xs.size-1-m]?
 congr 1
 omega
theorem getItem_tuple_rev{t:Addr}{items:Array Value}{tk:Tok}(ht:IsTup s.heap t items)(hs:s.heap.IsSliceOf sl .none .none (.int (-1) tk))
  (h:Q (.ref s.heap.objs.size) {s with heap:=s.heap.push {cls:=.type "tuple",data:=.seq items.toList.reverse.toArray}})
  (hsz:items.size≤sizeLine):wpAny (model prog w) A (getItem (.ref t) (.ref sl)) Q E s:=by
 have htake:sizeOk (.seq items.toList.reverse.toArray):=by
  show items.toList.reverse.toArray.size≤sizeLine
  simpa using hsz
 obtain⟨os,hos,hcs,hds⟩:=id hs;have hTs:s.TypeIs (.ref sl) "slice":=⟨os,hos,hcs⟩;unfold getItem
 try with_reducible refine Yn ?_
 first|refine Qq (Qk ?_)|skip
 refine Qq (wpAny_sequenceKey ht.typeIs (by decide) ?_)
 refine Qq (Yw (name:=Str.ofString "__getitem__") ht.typeIs Zu
  (Jf Zu ht.typeIs entry_tuple_getitem ?_ (args_tuple_getitem _ _)))
 show wpAny _ _ (Builtin.Tuple.tupleItemsOf (.ref t)>>=_) _ _ s;refine Qq (tupleItemsOf_ ht ?_);refine Qq (Uf hTs ?_);rw[Qn (by decide)]
 refine Qq (sliceApplied_rev hs ?_);have hno:¬ ((((items.size:Int)-1)==0&&(-1:Int)==1&&items.size==items.size)=true):=by
  rw[show((-1:Int)==1)=false by decide];simp
 show wpAny _ _ (if(((items.size:Int)-1)==0&&(-1:Int)==1&&items.size==items.size)=true then _ else _) _ _ s
 rw[Ql hno,pick_rev]
 first
  |exact Qq (m:=Builtin.Tuple.tupleExact _) (Zd (Qk ⟨_,rfl,Qk h⟩) htake)
  |exact Qq (m:=Builtin.Tuple.tupleExact _) (Zd (Qq (Qk (Qk ⟨_,rfl,Qk h⟩))) htake)
  |exact Qq (Qq (m:=Builtin.Tuple.tupleExact _) (Zd (Qk (Qk ⟨_,rfl,Qk h⟩)) htake))
  |exact Qq (Qq (m:=Builtin.Tuple.tupleExact _) (Zd (Qk ⟨_,rfl,Qk h⟩) htake))
end
end HT
namespace L2.Mir
open PySem PySem.Spec PyProof.Rows
variable{A:Around}{B:OA}{C i1 i2 it l l1 l2 z:Addr}{E Q:OE}{G H:Hp}{K:Qz}{M:Model}{N ps:List Str}{P prog:Program}{T:String}{X:Cx}{a e:Expr}{as:Mo (List Ar)}{av:List Ar}{b y:Value}{base h h':Heap}{c:Bool}{ch:List Addr}{cpos p p1 p2 pos pos2 tp:Pos}{d:D}{ds:List D}{e1 e2 env:Env'}{elts es:List Expr}{fd:FuncData}{i k k1 k2 kk more n t':Nat}{j:Int}{keep:List Bool}{m ma:Mo D}{mb:Mo Fl}{mg:OU}{mi ms:Mo (List D)}{pins:OX}{qual x:Str}{r:Rr}{s:Shared}{scope:Scope}{tk:Tok}{w:World}{ws ws':List W}{xs ys:Array Value}{σ:St}
section
variable{lo hi st:Expr}{ml mh:Mo D}
def b9d(K:Qz):V->Option Int->Option Int->Hp->VK->Prop:=fun x lo hi H Q=>∃a xs,x=.ref a/\SqT K H a xs/\
 ((HT.sIx xs.length 0 lo=0/\HT.sIx xs.length xs.length hi=xs.length)->Q (.ref a) H)/\∀p,H p=none->Q (.ref p) (upd H p (.tup (a2f xs lo hi)))
theorem b2c:SlR X (b9d X.K):=by
 intro pins s σ H x v vl vu lo hi sl Q I rx hs pl pu h;obtain⟨a,xs,rfl,hx,qw,q⟩:=h
 by_cases hw:HT.sIx xs.length 0 lo=0/\HT.sIx xs.length xs.length hi=xs.length
 ·cases rx
  obtain⟨its,r,ht,hz⟩:=I.tuple hx;have hlen:its.toArray.size=xs.length:=by rw[Qm];exact r.length.symm
  refine⟨"tuple",_,Zu.lookup,ht.typeIs,?_⟩;exact HT.getItem_tuple_whole ht hs pl pu (by rw[hlen];exact hw) ⟨.ref a,H,I,rfl,qw hw⟩
 ·exact a2A pins s σ H (.ref a) v vl vu lo hi sl Q I rx hs pl pu ⟨a,xs,rfl,hx,hw,q⟩
def g7_(xs:List D)(lo hi:Option Int):List D:=(xs.drop (HT.sIx xs.length 0 lo)).take (HT.sIx xs.length xs.length hi-HT.sIx xs.length 0 lo)
def x8_:Mo (Option Int):=fun env=>some (none,env)
def x9_(m:Mo D):Mo (Option Int):=fun env=>(m env).bind fun p=>match p.1 with
 |.int i=>some (some i,p.2)
 |_=>none
def TOm(K:Qz)(B:OA)(m:Mo (Option Int)):TO:=fun σ H Q=>∃G env o env',Rel K B G σ env H/\m env=some (o,env')/\∀G' H',Ev K B G σ env H G' σ env' H'->Q o H'
abbrev EO(X:Cx)(B:OA)(e:Option Expr)(m:Mo (Option Int)):Prop:=PO X e (TOm X.K B m)
theorem b2d{e:Option Expr}{t t':TO}(h:PO X e t)(i:∀σ H Q,t' σ H Q->t σ H Q):PO X e t':=fun pins s σ H Q I q=>h pins s σ H Q I (i σ H Q q)
theorem g8_:EO X B none x8_:=by
 refine b2d b7C ?_
 rintro σ H Q ⟨G,env,o,env',rl,e,k⟩;cases e;exact k G H (.refl rl)
theorem g9_(h:ED X B e ma):EO X B (some e) (x9_ ma):=by
 refine b2d (b7D h) ?_
 rintro σ H Q ⟨G,env,o,env',rl,e,k⟩;obtain⟨⟨d,env1⟩,e1,e2⟩:=q2_ e;dsimp only at e2;split at e2
 ·rename_i i
  cases e2;refine .bind rl e1 fun v G1 H1 ev r=>?_
  simp only[Rep]at r;exact⟨i,r,k G1 H1 ev⟩
 ·cases e2
def mSl(m:Mo D)(ml mh:Mo (Option Int)):Mo D:=fun env=>(m env).bind fun p=>(ml p.2).bind fun q=>(mh q.2).bind fun r=>match p.1 with
 |.tup ds=>some (.tup (g7_ ds q.1 r.1),r.2)
 |_=>none
theorem z9_.cut{xs:List V}(r:z9_ K G xs ds)(lo hi:Option Int):z9_ K G (a2f xs lo hi) (g7_ ds lo hi):=by
 unfold a2f g7_;rw[r.length];exact(r.drop _).take _
theorem b2e{lo hi:Option Int}(h:HT.sIx ds.length 0 lo=0/\HT.sIx ds.length ds.length hi=ds.length):g7_ ds lo hi=ds:=by
 unfold g7_;rw[h.1,h.2];simp
theorem u8_{lo hi:Option Expr}{ml mh:Mo (Option Int)}(he:ED X B e ma)(hl:EO X B lo ml)(hh:EO X B hi mh):ED X B (.Subscript e (.Slice lo hi none p2) pos) (mSl ma ml mh):=by
 refine pe_imp (b1n b2c he hl hh) ?_
 rintro σ H Q ⟨G,env,d,env',rl,e,k⟩;obtain⟨⟨d1,env1⟩,e1,e2⟩:=q2_ e;obtain⟨⟨l,env2⟩,e3,e4⟩:=q2_ e2;obtain⟨⟨u,env3⟩,e5,e6⟩:=q2_ e4;dsimp only at e3 e5 e6;split at e6
 ·rename_i ds
  cases e6;refine .bind rl e1 fun v G1 H1 ev1 r1=>⟨G1,env1,l,env2,ev1.rel,e3,fun G2 H2 ev2=>⟨G2,env2,u,_,ev2.rel,e5,fun G3 H3 ev3=>?_⟩⟩
  have r3:=Rep.mono (ev2.same.trans ev3.same) _ r1
  have r30:=r3
  simp only[Rep]at r3;obtain⟨p,xs,rfl,q,t⟩:=r3;refine⟨p,xs,rfl,ev3.rel.sub.sqT q,fun hw=>?_,fun l' hp=>?_⟩
  ·rw[t.length]at hw
   exact k _ G3 H3 ((ev1.trans ev2).trans ev3) (by rw[b2e hw];exact r30)
  ·exact k _ _ _ (((ev1.trans ev2).trans ev3).trans (ev3.rel.alloc hp)) (a2C y8_ (z9_.mono (Le.upd (ev3.rel.gnone hp)) _ (t.cut l u)))
 ·cases e6
theorem b9e{te:TE}(he:PE X e te)(hst:PE X st (tC (.int (-1)))):PE X (.Subscript e (.Slice none none (some st) p2) pos) (fun σ H Q=>te σ H fun x H1=>∃a xs,x=.ref a/\SqT X.K H1 a xs/\∀p,H1 p=none->Q (.ref p) (upd H1 p (.tup xs.reverse))):=by
 intro pins s σ H Q I h;refine Subscript_ (thn (he pins s σ H _ I h) fun v s1 ⟨x,H1,I1,r1,q1⟩=>?_)
 refine wpAny_Slice ?_
 rw[evalPart_none];refine Qk (Qk ?_);rw[evalPart_some];refine thn (hst pins s1 σ H1 (fun x H2=>x=.int (-1)/\H2=H1) I1 ⟨rfl,rfl⟩) fun vst s3 ⟨y,H3,I3,r3,q3⟩=>?_
 obtain⟨rfl,rfl⟩:=q3;obtain⟨tk,rfl⟩:=r3;obtain⟨a,xs,rfl,hx,q⟩:=q1;cases r1;have I4:Inv X pins σ H3 {s3 with heap:=s3.heap.push {cls:=.type "slice",data:=.fields #[.none,.none,.int (-1) tk]}}:=I3.kept (t':=s3.toks) fun b ob q=>Qx _ q
 obtain⟨its,r,ht,hz⟩:=I4.tuple hx;have hlen:its.toArray.size=xs.length:=by rw[Qm];exact r.length.symm
 show wpAny (model X.prog X.w) X.A (subscriptTail e (.Slice none none (some st) p2) (.ref a) (.ref s3.heap.objs.size)) (EP X pins σ Q) X.xe {s3 with heap:=s3.heap.push {cls:=.type "slice",data:=.fields #[.none,.none,.int (-1) tk]}}
 refine tail_any (ops:=[.ref a,.ref s3.heap.objs.size]) ht.typeIs Zu.lookup ?_ (by with_unfolding_all rfl)
 refine HT.getItem_tuple_rev (tk:=tk) ht (Heap.IsSliceOf.new ..) ?_ (by rw[hlen];exact hz)
 refine⟨.ref _,_,I4.laid (t':=s3.toks) (o:=.tup xs.reverse) (fun b ob q=>Qx _ q) (Qy _) ?_,rfl,q _ (I4.hok.fresh (Qy _))⟩
 exact⟨by rw[List.length_reverse];exact hz,_,r.reverse,a0Y.new _ _⟩
def a1V(m:Mo D):Mo D:=fun env=>(m env).bind fun p=>match p.1 with
 |.tup ds=>some (.tup ds.reverse,p.2)
 |_=>none
theorem a6p(he:ED X B e ma)(hst:PE X st (tC (.int (-1)))):ED X B (.Subscript e (.Slice none none (some st) p2) pos) (a1V ma):=by
 refine pe_imp (b9e he hst) ?_
 rintro σ H Q ⟨G,env,d,env',rl,e,k⟩;obtain⟨⟨d1,env1⟩,e1,e2⟩:=q2_ e;dsimp only at e2;split at e2
 ·rename_i ds
  cases e2;refine .bind rl e1 fun v G1 H1 ev1 r1=>?_
  simp only[Rep]at r1;obtain⟨p,xs,rfl,q,t⟩:=r1;exact⟨p,xs,rfl,ev1.rel.sub.sqT q,fun l' hp=>k _ _ _ (ev1.trans (ev1.rel.alloc hp)) (a2C y8_ (z9_.mono (Le.upd (ev1.rel.gnone hp)) _ t.reverse))⟩
 ·cases e2
theorem b2f{j:Nat}:PE X (.UnaryOp .USub (.Constant (.int 1) j p) pos) (tC (.int (-1))):=pe_imp (b0Y b0Z b0N) fun σ H Q q=>⟨1,rfl,q⟩
end
theorem b2g(I:Inv X pins σ H s)(k:∀b o,b∉ch->s.heap.get? b=some o->h'.get? b=some o)(hf:∀b∈ch,u9_ X pins H b):Inv X pins σ H {s with heap:=h',toks:=t'}:=by
 have nit:∀b u,H b=some u->b∉ch:=fun b u e z=>by rw[(hf b z).1]at e;cases e
 refine I.step (g':=s.gens) (d':=s.drawn) (ch:=ch) (fun b hb=>⟨(hf b hb).2.2.2.1,(hf b hb).2.1,(hf b hb).2.2.2.2.1,(hf b hb).2.2.2.2.2⟩) (fun b o _ _ hc e _=>k b o hc e) (fun b o _ _ hc e _=>⟨o.slots,k b o hc e⟩) (fun _ _ _ _ n=>n)
  (fun b o hc e=>⟨o,k b o hc e⟩) (fun _ _ e=>e) (fun _ _ _ e=>e) (fun b ps e=>⟨#[],by rw[e];simp⟩) (fun m hm=>?_) (fun b u e=>?_) I.bare
 ·obtain⟨o,es,ep,ho,r⟩:=hm
  exact⟨o,es,ep,k _ o (fun z=>(hf _ z).2.1 rfl) ho,r⟩
 ·refine(I.hok b u e).stay (fun c v hc q=>k c v ?_ q) (fun _ q=>q) fun _ _ q=>q
  rcases hc with z|z
  ·rw[z];exact nit b u e
  ·exact nit c _ z
theorem b9f{p:Addr}{o:HO}(I:Inv X pins σ H s)(k:∀b o,b∉ch->s.heap.get? b=some o->h'.get? b=some o)(hf:∀b∈ch,u9_ X pins H b)
  (hp:s.heap.objs.size≤p)(new:w6_ X.prog X.w (upd H p o) h' p o):Inv X pins σ (upd H p o) {s with heap:=h',toks:=t'}:=by
 have nit:∀b u,H b=some u->b∉ch:=fun b u e z=>by rw[(hf b z).1]at e;cases e
 have hn:H p=none:=I.hok.fresh hp
 have np:∀b u,s.heap.get? b=some u->b≠p:=fun b u q=>Qi (Qd (Qp q) hp)
 refine I.step (g':=s.gens) (d':=s.drawn) (ch:=ch) (fun b hb=>⟨(hf b hb).2.2.2.1,(hf b hb).2.1,(hf b hb).2.2.2.2.1,(hf b hb).2.2.2.2.2⟩) (fun b o _ _ hc e _=>k b o hc e) (fun b o _ _ hc e _=>⟨o.slots,k b o hc e⟩) (fun b o _ e n=>by rw[q7_ (np b o e)];exact n)
  (fun b o hc e=>⟨o,k b o hc e⟩) (fun b xs q=>by rw[q7_ (a0l q hn)];exact q) (fun b u xs q=>by rw[q7_ (a0l q hn)];exact q) (fun b ps e=>⟨#[],by rw[q7_ (a0l e hn),e];simp⟩) (fun m hm=>?_) (fun b u e=>?_) I.bare
 ·obtain⟨o,es,ep,ho,r⟩:=hm
  exact⟨o,es,ep,k _ o (fun z=>(hf _ z).2.1 rfl) ho,r⟩
 ·by_cases hb:b=p
  ·subst hb;rw[y8_]at e;cases e;exact new
  ·rw[q7_ hb]at e
   refine(I.hok b u e).stay (fun c v hc q=>k c v ?_ q) (fun c q=>by rw[q7_ (a0l q hn)];exact q) fun c xs q=>by rw[q7_ (a0l q hn)];exact q
   rcases hc with z|z
   ·rw[z];exact nit b u e
   ·exact nit c _ z
def Sq1(k:Bool)(h:Heap)(l:Addr)(xs:Array Value):Prop:=if k then h.IsTuple l xs else h.IsList l xs
def It1(k:Bool)(h:Heap)(i l:Addr)(n:Nat):Prop:=if k then h.IsTupleIter i l n else h.IsListIter i l n
section
variable{k:Bool}{i b:Addr}
theorem Sq1.at'(x:Sq1 k h l xs)(e:∀o,h.get? l=some o->h'.get? l=some o):Sq1 k h' l xs:=by
 cases k
 ·exact Heap.IsList.at (show h.IsList l xs from x) e
 ·obtain⟨o,ho,r⟩:=(show h.IsTuple l xs from x)
  exact(⟨o,e _ ho,r⟩:h'.IsTuple l xs)
theorem It1.at'(x:It1 k h i l n)(e:∀o,h.get? i=some o->h'.get? i=some o):It1 k h' i l n:=by
 cases k
 ·exact Heap.IsListIter.at (show h.IsListIter i l n from x) e
 ·exact Heap.IsTupleIter.at (show h.IsTupleIter i l n from x) e
theorem It1.get(x:It1 k h i l n):∃o,h.get? i=some o/\∀v,o.data≠.cell v:=by
 cases k
 ·obtain⟨o,ho,_,d⟩:=(show h.IsListIter i l n from x);exact⟨o,ho,fun v z=>by rw[d]at z;cases z⟩
 ·obtain⟨o,ho,_,d⟩:=(show h.IsTupleIter i l n from x);exact⟨o,ho,fun v z=>by rw[d]at z;cases z⟩
theorem It1.but(x:It1 k h i l n)(hs:Heap.ExtBut b h h')(hb:i≠b):It1 k h' i l n:=x.at' fun o e=>hs i o hb e
theorem Sq1.but(x:Sq1 k h l xs)(hs:Heap.ExtBut b h h')(hb:l≠b):Sq1 k h' l xs:=x.at' fun o e=>hs l o hb e
end
theorem b9g{items:Array Value}{x:Value}(hit:s.heap.IsTupleIter it l i)(hl:s.heap.IsTuple l items)(hx:items[i]? =some x)
  (hQ:∀h',h'.IsTupleIter it l (i+1)->Heap.SameBut it s.heap h'->Q x {s with heap:=h'}):wpAny (model prog w) A (Builtin.SmallTypes.nextOf (.ref it)) Q E s:=by
 obtain⟨o,ho,hc,hd⟩:=id hit;obtain⟨ol,hol,_,nl,hdl⟩:=hl;unfold Builtin.SmallTypes.nextOf;refine Qq (Yw (name:=Str.ofString "__next__") hit.typeIs Yo (Jf Yo hit.typeIs Vc ?_ (Vm _)));show wpAny _ _ (field (.ref it) 0>>=_) _ _ s;refine Qq (Ze ho hd (x:=.ref l) rfl ?_);rw[Ql (show ¬ ((Value.ref l==Value.none)=true)from Yx)]
 refine Qq (Ze ho hd (x:=.int i 0) rfl ?_);refine Qq (Jj hol hdl ?_);simp only[Yd,hx];refine Qq (wpAny_setField ho hd (by simp) (Qk ⟨x,rfl,Qk (hQ _ ⟨_,Heap.get?_update_self _ ho (Obj.isFreed_of_fields (Obj.data_mapFields hd _)),(Obj.cls_mapFields ..).trans hc,?_⟩ (Heap.SameBut.update ..))⟩))
 rw[Obj.data_mapFields hd];simp[rawInt]
theorem b9h{items:Array Value}(hh:A.handled=none)(hit:s.heap.IsTupleIter it l i)(hl:s.heap.IsTuple l items)(hx:items[i]? =none)
  (hE:∀h' e,Heap.ExtBut it s.heap h'->(∃o,h'.get? e=some o/\o.cls=.type "StopIteration")->E (.ref e) {s with heap:=h'}):wpAny (model prog w) A (Builtin.SmallTypes.nextOf (.ref it)) Q E s:=by
 obtain⟨o,ho,hc,hd⟩:=id hit;obtain⟨ol,hol,_,nl,hdl⟩:=hl;unfold Builtin.SmallTypes.nextOf;refine Qq (Yw (name:=Str.ofString "__next__") hit.typeIs Yo (Jf Yo hit.typeIs Vc ?_ (Vm _)));show wpAny _ _ (field (.ref it) 0>>=_) _ _ s;refine Qq (Ze ho hd (x:=.ref l) rfl ?_);rw[Ql (show ¬ ((Value.ref l==Value.none)=true)from Yx)]
 refine Qq (Ze ho hd (x:=.int i 0) rfl ?_);refine Qq (Jj hol hdl ?_);simp only[Yd,hx];refine Qq (Ul (Qq (wpAny_setField ho hd (by simp) ?_)))
 refine Qq ?_
 simp only[newExc,newTuple];refine Qq (Zd ?_ (by size_fits))
 refine Qq (m:=firstArgMember _ _) (wpAny_of_eq (a:=Value.none) (by first|rfl|(simp only[firstArgMember];rfl)) ?_)
 refine Zd ?_ (by size_fits)
 simp only[raiseNew];refine Qq (wpAny_handled ?_)
 first|rw[show A.in1.handled=none from hh]|rw[hh]
 refine Qq (Qk (wpAny_throw ?_));exact hE _ _ (((Heap.SameBut.update ..).extBut.push _).push _) ⟨_,Qg _ rfl,rfl⟩
theorem a8j{k:Bool}{items:Array Value}{x:Value}(hit:It1 k s.heap it l i)(hl:Sq1 k s.heap l items)(hx:items[i]? =some x)
  (hQ:∀h',It1 k h' it l (i+1)->Heap.SameBut it s.heap h'->Q x {s with heap:=h'}):wpAny (model prog w) A (Builtin.SmallTypes.nextOf (.ref it)) Q E s:=by
 cases k
 ·exact wpAny_nextOf_list_item hit hl hx hQ
 ·exact b9g hit hl hx hQ
theorem b2h{k:Bool}{items:Array Value}(hh:A.handled=none)(hit:It1 k s.heap it l i)(hl:Sq1 k s.heap l items)(hx:items[i]? =none)
  (hE:∀h' e,Heap.ExtBut it s.heap h'->(∃o,h'.get? e=some o/\o.cls=.type "StopIteration")->E (.ref e) {s with heap:=h'}):wpAny (model prog w) A (Builtin.SmallTypes.nextOf (.ref it)) Q E s:=by
 cases k
 ·exact wpAny_nextOf_list_end hh hit hl hx hE
 ·exact b9h hh hit hl hx hE
section
variable{c1 c2:Bool}
theorem b9i{TI TO:Addr}{x a:Value}(D:ZipApart z TI TO i1 i2 l1 l2)
  (hz:IsZip s.heap z TI TO .none)(hTI:IsPair s.heap TI (.ref i1) (.ref i2))(hTO:IsPair s.heap TO a b)
  (h1:It1 c1 s.heap i1 l1 k1)(h2:It1 c2 s.heap i2 l2 k2)(hl1:Sq1 c1 s.heap l1 xs)(hl2:Sq1 c2 s.heap l2 ys)(hx:xs[k1]? =some x)(hy:ys[k2]? =some y)
  (hQ:∀h',IsZip h' z TI TO (rawInt s.heap.objs.size)->IsPair h' TO x y->It1 c1 h' i1 l1 (k1+1)->It1 c2 h' i2 l2 (k2+1)->IsPair h' s.heap.objs.size x y->h'.objs.size=s.heap.objs.size+1->
   (∀c o,c≠z->c≠TO->c≠i1->c≠i2->s.heap.get? c=some o->h'.get? c=some o)->Q (.ref s.heap.objs.size) {s with heap:=h'}):
  wpAny (model prog w) A (Builtin.«zip.__next__» ⟨[.ref z],[]⟩) (fun fin s'=>∃v,fin=.done (.ret v)/\Q v s') E s:=by
 show wpAny _ _ (field (.ref z) 2>>=_) _ _ _;refine Qq (Ze hz rfl (x:=.bool false) rfl (Qq (Ze hz rfl (x:=.ref TI) rfl ?_)));refine Qq (Jj hTI rfl (Qq ?_));unfold Builtin.SmallTypes.ownedTupleIsFree;refine Qq (Ze hz rfl (x:=.none) rfl (Qk ?_));simp only[Zy];refine Qq (Ul (Qq (Ze hz rfl (x:=.ref TO) rfl ?_)));refine Qq (Jl hz (by simp) fun g1 (z1:IsZip g1 z TI TO .ellipsis) s1=>Qq ?_)
 simp only[List.zipIdx_cons,List.zipIdx_nil,List.forIn_cons,List.forIn_nil];refine Qq (Qq (Vr (Qq (m:=Builtin.SmallTypes.nextOf (.ref i1)) ?_)));refine a8j (h1.but s1.extBut D.i1z) (hl1.but s1.extBut D.l1z) hx fun g2 a2 s2=>Qk ?_
 have p2:IsPair g2 TO a b:=s2.extBut _ _ D.TOi1 (s1.extBut _ _ D.TOz hTO)
 refine Qq (Jj p2 rfl (Qq (Xj p2 fun g3 (p3:IsPair g3 TO x b) s3=>?_)))
 refine Qq (wpAny_letGo (Qk (Qq (Qq (Vr (Qq (m:=Builtin.SmallTypes.nextOf (.ref i2)) ?_))))));refine a8j (((h2.but s1.extBut D.i2z).but s2.extBut D.i12.symm).but s3.extBut D.TOi2.symm) (((hl2.but s1.extBut D.l2z).but s2.extBut D.l2i1).but s3.extBut D.l2TO) hy fun g4 a4 s4=>Qk ?_
 have p4:IsPair g4 TO x b:=s4.extBut _ _ D.TOi2 p3
 refine Qq (Jj p4 rfl (Qq (Xj p4 fun g5 (p5:IsPair g5 TO x y) s5=>?_)))
 refine Qq (wpAny_letGo (Qk (Qk (Qq (Jj p5 rfl (Qq (wpAny_newTuple ?_)))))));have hsz:g5.objs.size=s.heap.objs.size:=by rw[s5.1,s4.1,s3.1,s2.1,s1.1]
 have z5:IsZip g5 z TI TO .ellipsis:=s5.extBut _ _ D.TOz.symm (s4.extBut _ _ D.i2z.symm (s3.extBut _ _ D.TOz.symm (s2.extBut _ _ D.i1z.symm z1)))
 have k5:∀c o,c≠z->c≠TO->c≠i1->c≠i2->s.heap.get? c=some o->g5.get? c=some o:=fun c o n1 n2 n3 n4 e=>
  s5.extBut _ _ n2 (s4.extBut _ _ n4 (s3.extBut _ _ n2 (s2.extBut _ _ n3 (s1.extBut _ _ n1 e))))
 have b1:It1 c1 g5 i1 l1 (k1+1):=((a2.but s3.extBut D.TOi1.symm).but s4.extBut D.i12).but s5.extBut D.TOi1.symm
 have b2:It1 c2 g5 i2 l2 (k2+1):=a4.but s5.extBut D.TOi2.symm
 refine Qq (m:=Builtin.SmallTypes.ownedTupleHandOut (.ref z) (.ref g5.objs.size)) ?_
 unfold Builtin.SmallTypes.ownedTupleHandOut;have z6:IsZip (g5.push {cls:=.type "tuple",data:=.seq #[x,y]}) z TI TO .ellipsis:=Qx _ z5;refine Qq (Jl z6 (by simp) fun g7 (z7:IsZip g7 z TI TO (rawInt g5.objs.size)) s7=>?_)
 refine Jl z7 (by simp) fun g8 (z8:IsZip g8 z TI TO (rawInt g5.objs.size)) s8=>?_
 have up:∀c o,c≠z->g5.get? c=some o->g8.get? c=some o:=fun c o n1 e=>s8.extBut _ _ n1 (s7.extBut _ _ n1 (Qx _ e))
 have t8:IsPair g8 g5.objs.size x y:=s8.extBut _ _ (Ue (Qp z5)) (s7.extBut _ _ (Ue (Qp z5)) (Qg _ rfl))
 have e8:g8.objs.size=g5.objs.size+1:=by rw[s8.1,s7.1,Zr]
 rw[hsz]at z8 t8 e8;refine Qk ⟨_,rfl,?_⟩;show Q (.ref g5.objs.size) _;rw[hsz];exact hQ g8 z8 (up _ _ D.TOz p5) (b1.at' fun o e=>up _ o D.i1z e) (b2.at' fun o e=>up _ o D.i2z e) t8 e8 fun c o n1 n2 n3 n4 e=>up c o n1 (k5 c o n1 n2 n3 n4 e)
theorem b9j{TI TO:Addr}{a:Value}{Q:PySem.Fin->Shared->Prop}(hh:A.handled=none)(D:ZipApart z TI TO i1 i2 l1 l2)
  (hz:IsZip s.heap z TI TO .none)(hTI:IsPair s.heap TI (.ref i1) (.ref i2))(hTO:IsPair s.heap TO a b)
  (h1:It1 c1 s.heap i1 l1 k1)(h2:It1 c2 s.heap i2 l2 k2)(hl1:Sq1 c1 s.heap l1 xs)(hl2:Sq1 c2 s.heap l2 ys)(hend:xs[k1]? =none∨ys[k2]? =none)
  (hE:∀h' e,(∀c o,c≠z->c≠TO->c≠i1->c≠i2->s.heap.get? c=some o->h'.get? c=some o)->(∃o,h'.get? e=some o/\o.cls=.type "StopIteration")->E (.ref e) {s with heap:=h'}):
  wpAny (model prog w) A (Builtin.«zip.__next__» ⟨[.ref z],[]⟩) Q E s:=by
 show wpAny _ _ (field (.ref z) 2>>=_) _ _ _;refine Qq (Ze hz rfl (x:=.bool false) rfl (Qq (Ze hz rfl (x:=.ref TI) rfl ?_)));refine Qq (Jj hTI rfl (Qq ?_));unfold Builtin.SmallTypes.ownedTupleIsFree;refine Qq (Ze hz rfl (x:=.none) rfl (Qk ?_));simp only[Zy];refine Qq (Ul (Qq (Ze hz rfl (x:=.ref TO) rfl ?_)));refine Qq (Jl hz (by simp) fun g1 (z1:IsZip g1 z TI TO .ellipsis) s1=>Qq ?_)
 simp only[List.zipIdx_cons,List.zipIdx_nil,List.forIn_cons,List.forIn_nil];refine Qq (Qq (Vr (Qq (m:=Builtin.SmallTypes.nextOf (.ref i1)) ?_)));cases hx:xs[k1]? with
 |none=>
  refine b2h hh (h1.but s1.extBut D.i1z) (hl1.but s1.extBut D.l1z) hx fun g2 e s2 he=>?_
  obtain⟨oe,q1,q2⟩:=he;have z2:IsZip g2 z TI TO .ellipsis:=s2 _ _ D.i1z.symm z1;have ne:e≠z:=fun x=>by subst x;rw[z2]at q1;cases q1;simp at q2
  exact Jl z2 (by simp) fun g3 _ s3=>hE g3 e (fun c o n1 _ n3 _ x=>s3.extBut _ _ n1 (s2 _ _ n3 (s1.extBut _ _ n1 x))) ⟨oe,s3.extBut _ _ ne q1,q2⟩
 |some x=>
  have hy:ys[k2]? =none:=by
   rcases hend with h|h
   ·rw[hx]at h;cases h
   ·exact h
  refine a8j (h1.but s1.extBut D.i1z) (hl1.but s1.extBut D.l1z) hx fun g2 a2 s2=>Qk ?_
  have p2:IsPair g2 TO a b:=s2.extBut _ _ D.TOi1 (s1.extBut _ _ D.TOz hTO)
  refine Qq (Jj p2 rfl (Qq (Xj p2 fun g3 p3 s3=>?_)))
  refine Qq (wpAny_letGo (Qk (Qq (Qq (Vr (Qq (m:=Builtin.SmallTypes.nextOf (.ref i2)) ?_))))));refine b2h hh (((h2.but s1.extBut D.i2z).but s2.extBut D.i12.symm).but s3.extBut D.TOi2.symm) (((hl2.but s1.extBut D.l2z).but s2.extBut D.l2i1).but s3.extBut D.l2TO) hy fun g4 e s4 he=>?_
  obtain⟨oe,q1,q2⟩:=he;have z4:IsZip g4 z TI TO .ellipsis:=s4 _ _ D.i2z.symm (s3.extBut _ _ D.TOz.symm (s2.extBut _ _ D.i1z.symm z1));have ne:e≠z:=fun x=>by subst x;rw[z4]at q1;cases q1;simp at q2
  exact Jl z4 (by simp) fun g5 _ s5=>hE g5 e (fun c o n1 n2 n3 n4 x=>s5.extBut _ _ n1 (s4 _ _ n4 (s3.extBut _ _ n2 (s2.extBut _ _ n3 (s1.extBut _ _ n1 x))))) ⟨oe,s5.extBut _ _ ne q1,q2⟩
theorem b9k{TI TO:Addr}{x a:Value}{Q:Option Value->Shared->Prop}(D:ZipApart z TI TO i1 i2 l1 l2)
  (hz:IsZip s.heap z TI TO .none)(hTI:IsPair s.heap TI (.ref i1) (.ref i2))(hTO:IsPair s.heap TO a b)
  (h1:It1 c1 s.heap i1 l1 k1)(h2:It1 c2 s.heap i2 l2 k2)(hl1:Sq1 c1 s.heap l1 xs)(hl2:Sq1 c2 s.heap l2 ys)(hx:xs[k1]? =some x)(hy:ys[k2]? =some y)
  (hQ:∀h',IsZip h' z TI TO (rawInt s.heap.objs.size)->IsPair h' TO x y->It1 c1 h' i1 l1 (k1+1)->It1 c2 h' i2 l2 (k2+1)->IsPair h' s.heap.objs.size x y->h'.objs.size=s.heap.objs.size+1->
   (∀c o,c≠z->c≠TO->c≠i1->c≠i2->s.heap.get? c=some o->h'.get? c=some o)->Q (some (.ref s.heap.objs.size)) {s with heap:=h'}):
  wpAny (model prog w) A (pyNext (.ref z)) Q E s:=by
 have hT:s.TypeIs (.ref z) "zip":=⟨_,hz,rfl⟩
 unfold pyNext;exact Qq (Xg (Yw (name:=Str.ofString "__next__") hT Uh (Jf Uh hT PySem.F.entry_zip_next
  (b9i D hz hTI hTO h1 h2 hl1 hl2 hx hy fun h' a1 a2 a3 a4 a5 a6 a7=>Qk (hQ h' a1 a2 a3 a4 a5 a6 a7)) (PySem.F.args_zip_next_1 _))))
theorem b9l{TI TO:Addr}{a:Value}{Q:Option Value->Shared->Prop}(hh:A.handled=none)(D:ZipApart z TI TO i1 i2 l1 l2)
  (hz:IsZip s.heap z TI TO .none)(hTI:IsPair s.heap TI (.ref i1) (.ref i2))(hTO:IsPair s.heap TO a b)
  (h1:It1 c1 s.heap i1 l1 k1)(h2:It1 c2 s.heap i2 l2 k2)(hl1:Sq1 c1 s.heap l1 xs)(hl2:Sq1 c2 s.heap l2 ys)(hend:xs[k1]? =none∨ys[k2]? =none)
  (hQ:∀h',(∀c o,c≠z->c≠TO->c≠i1->c≠i2->s.heap.get? c=some o->h'.get? c=some o)->Q none {s with heap:=h'}):wpAny (model prog w) A (pyNext (.ref z)) Q E s:=by
 have hT:s.TypeIs (.ref z) "zip":=⟨_,hz,rfl⟩
 unfold pyNext;refine Qq (Xg (Yw (name:=Str.ofString "__next__") hT Uh (Jf Uh hT PySem.F.entry_zip_next
  (b9j hh D hz hTI hTO h1 h2 hl1 hl2 hend fun h' e hk he=>?_) (PySem.F.args_zip_next_1 _))))
 obtain⟨o,ho,hc⟩:=he;exact Qq (wpAny_isInstance (T:="StopIteration") (b:=true) ⟨o,ho,hc⟩ isSubtype_stop (Qk (hQ _ hk)))
end
def b2i(c:Bool):String:=if c then "tuple_iterator" else "list_iterator"
abbrev zh1(c1:Bool)(h:Heap)(l1:Addr):Heap:=h.push {cls:=.type (b2i c1),data:=.fields #[.ref l1,.int 0 0]}
abbrev zh2(c1 c2:Bool)(h:Heap)(l1 l2:Addr):Heap:=(zh1 c1 h l1).push {cls:=.type (b2i c2),data:=.fields #[.ref l2,.int 0 0]}
abbrev zh3(c1 c2:Bool)(h:Heap)(l1 l2:Addr):Heap:=(zh2 c1 c2 h l1 l2).push {cls:=.type "tuple",data:=.seq #[.ref h.objs.size,.ref (zh1 c1 h l1).objs.size]}
abbrev zh4(c1 c2:Bool)(h:Heap)(l1 l2:Addr):Heap:=(zh3 c1 c2 h l1 l2).push {cls:=.type "tuple",data:=.seq #[.none,.none]}
abbrev zh5(c1 c2:Bool)(h:Heap)(l1 l2:Addr):Heap:=(zh4 c1 c2 h l1 l2).push {cls:=.type "zip",data:=.fields #[.none,.bool false,.bool false,.ref (zh2 c1 c2 h l1 l2).objs.size,.ref (zh3 c1 c2 h l1 l2).objs.size]}
theorem b2j{items:Array Value}(hl:Sq1 c s.heap l items)(hQ:Q (.ref s.heap.objs.size) {s with heap:=zh1 c s.heap l}):wpAny (model prog w) A (pyIter (.ref l)) Q E s:=by
 cases c
 ·exact Ji hl hQ
 ·exact Vj hl hQ
theorem b9m(c1 c2:Bool)(l1 l2:Addr)(xs ys:Array Value):
  Meets (Builtin.«zip.__new__» ⟨[.type "zip",.ref l1,.ref l2],[]⟩) (fun _ R s=>Sq1 c1 s.heap l1 xs/\Sq1 c2 s.heap l2 ys/\R (.ok (.ret (.ref (zh4 c1 c2 s.heap l1 l2).objs.size))) {s with heap:=zh5 c1 c2 s.heap l1 l2}):=
 .of_wp fun prog w A R s h=>by
  obtain⟨hp,g,d,tk,os⟩:=s;obtain⟨hl1,hl2,h⟩:=h;have hsub:=sub_zip;have hL1:Sq1 c1 (Shared.heap ⟨hp,g,d,tk,os⟩) l1 xs:=hl1;have hL2:Sq1 c2 (Shared.heap ⟨zh1 c1 hp l1,g,d,tk,os⟩) l2 ys:=Sq1.at' hl2 fun o e=>Qx _ e
  wp_walk using b2j hL1,b2j hL2
  exact⟨_,rfl,h⟩
theorem b9n{c1 c2:Bool}(hl1:Sq1 c1 s.heap l1 xs)(hl2:Sq1 c2 s.heap l2 ys)
  (h:∀h',IsZip h' (s.heap.objs.size+4) (s.heap.objs.size+2) (s.heap.objs.size+3) .none->IsPair h' (s.heap.objs.size+2) (.ref s.heap.objs.size) (.ref (s.heap.objs.size+1))->
   IsPair h' (s.heap.objs.size+3) .none .none->It1 c1 h' s.heap.objs.size l1 0->It1 c2 h' (s.heap.objs.size+1) l2 0->h'.objs.size=s.heap.objs.size+5->
   (∀c o,s.heap.get? c=some o->h'.get? c=some o)->Q (.ref (s.heap.objs.size+4)) {s with heap:=h'}):
  wpAny (model prog w) A (call (.type "zip") [.ref l1,.ref l2]) Q E s:=by
 refine callType_new PySem.F.called_zip (by decide) (PySem.F.typeCall_zip_2 _ _) (PySem.F.newCall_zip_2 _ _) (fun obj=>PySem.F.args_object_init_3 obj _ _) PySem.F.entry_zip_new (b9m c1 c2 l1 l2 xs ys) ⟨hl1,hl2,?_⟩
 have z1:(zh1 c1 s.heap l1).objs.size=s.heap.objs.size+1:=Zr ..
 have z2:(zh2 c1 c2 s.heap l1 l2).objs.size=s.heap.objs.size+2:=by rw[Zr,z1]
 have z3:(zh3 c1 c2 s.heap l1 l2).objs.size=s.heap.objs.size+3:=by rw[Zr,z2]
 have z4:(zh4 c1 c2 s.heap l1 l2).objs.size=s.heap.objs.size+4:=by rw[Zr,z3]
 have z5:(zh5 c1 c2 s.heap l1 l2).objs.size=s.heap.objs.size+5:=by rw[Zr,z4]
 have g5:(zh5 c1 c2 s.heap l1 l2).get? (zh4 c1 c2 s.heap l1 l2).objs.size=some _:=Qg _ rfl
 have g4:(zh5 c1 c2 s.heap l1 l2).get? (zh3 c1 c2 s.heap l1 l2).objs.size=some _:=Qx _ (Qg _ rfl)
 have g3:(zh5 c1 c2 s.heap l1 l2).get? (zh2 c1 c2 s.heap l1 l2).objs.size=some _:=Qx _ (Qx _ (Qg _ rfl))
 have g2:(zh5 c1 c2 s.heap l1 l2).get? (zh1 c1 s.heap l1).objs.size=some _:=Qx _ (Qx _ (Qx _ (Qg _ rfl)))
 have g1:(zh5 c1 c2 s.heap l1 l2).get? s.heap.objs.size=some _:=Qx _ (Qx _ (Qx _ (Qx _ (Qg _ rfl))))
 show _/\_;rw[z2,z3,z4]at g5;rw[z1,z2]at g3;rw[z3]at g4;rw[z1]at g2;rw[z4];refine⟨⟨_,g5,rfl⟩,h _ g5 g3 g4 ?_ ?_ z5 fun c o x=>Qx _ (Qx _ (Qx _ (Qx _ (Qx _ x))))⟩
 ·cases c1
  ·exact(⟨_,g1,rfl,rfl⟩:Heap.IsListIter _ _ _ _)
  ·exact(⟨_,g1,rfl,rfl⟩:Heap.IsTupleIter _ _ _ _)
 ·cases c2
  ·exact(⟨_,g2,rfl,rfl⟩:Heap.IsListIter _ _ _ _)
  ·exact(⟨_,g2,rfl,rfl⟩:Heap.IsTupleIter _ _ _ _)
def SqA(c:Bool)(K:Qz)(H:Hp)(a:Addr)(xs:List V):Prop:=if c then SqT K H a xs else SqL K H a xs
theorem Le.sqA{G':Hp}(l:Le G G'){a:Addr}{xs:List V}(h:SqA c K G a xs):SqA c K G' a xs:=by
 cases c
 ·exact l.sqL h
 ·exact l.sqT' h
section
variable{a b:Addr}{xs:List V}
theorem a3X(I:Inv X pins σ H s)(h:SqA c X.K H a xs):∃its:List Value,v4_ xs its/\Sq1 c s.heap a its.toArray/\xs.length≤sizeLine:=by
 cases c
 ·obtain⟨its,r,p,z⟩:=I.list h
  exact⟨its,r,p.isList,z⟩
 ·obtain⟨its,r,p,z⟩:=I.tuple h
  exact⟨its,r,p,z⟩
theorem a6q(I:Inv X pins σ H s)(f:u9_ X pins H b)(h:SqA c X.K H a xs):a≠b:=by
 have k:∀{u:HO},Rd H a u->a≠b:=fun r z=>by
  subst z
  rcases r with r|⟨_,r⟩
  ·rw[f.1]at r;cases r
  ·rw[f.1]at r;cases r
 have m:∀{o:Obj},X.K.lookup a=some o->a≠b:=fun{o} q z=>by
  subst z;have e:X.base.get? a=some o:=I.mod.kin a o q
  rcases f.2.2.2.1 with z|z
  ·exact I.ok.noex a o e z
  ·exact absurd (Qd (Qp e) (Zp I.ok.bsz z)) (Yt _)
 cases c
 ·rcases h with h|⟨o,_,_,q,_⟩
  ·exact k h
  ·exact m q
 ·rcases h with h|⟨o,_,_,q,_⟩
  ·exact k h
  ·exact m q
end
def Itz(K:Qz)(c1 c2:Bool)(l1 l2:Addr)(xs ys:List V):It:=
 ⟨fun i H=>i<min xs.length ys.length/\SqA c1 K H l1 xs/\SqA c2 K H l2 ys,
  fun i H x H'=>∃p a b,H p=none/\x=.ref p/\H'=upd H p (.tup [a,b])/\xs[i]? =some a/\ys[i]? =some b,
  fun i H=>min xs.length ys.length≤i/\SqA c1 K H l1 xs/\SqA c2 K H l2 ys⟩
def b9o(c1 c2:Bool)(n:Nat)(l1 l2:Addr)(i:Nat)(h:Heap):Prop:=
 IsZip h (n+4) (n+2) (n+3) .none/\IsPair h (n+2) (.ref n) (.ref (n+1))/\(∃a b,IsPair h (n+3) a b)/\It1 c1 h n l1 i/\It1 c2 h (n+1) l2 i
theorem apart{n:Addr}(h1:∀j,j<5->l1≠n+j)(h2:∀j,j<5->l2≠n+j):ZipApart (n+4) (n+2) (n+3) n (n+1) l1 l2:=by
 constructor<;>first
  |(show(_:Nat)≠_;omega)
  |exact h1 4 (by decide)
  |exact h1 3 (by decide)
  |exact h1 1 (by decide)
  |exact h1 0 (by decide)
  |exact h2 4 (by decide)
  |exact h2 3 (by decide)
  |exact h2 1 (by decide)
  |exact h2 0 (by decide)
abbrev fp5(n:Nat):List Addr:=[n+4,n+2,n+3,n,n+1]
abbrev fp4(n:Nat):List Addr:=[n+4,n+3,n,n+1]
theorem a6r(n:Nat):∀{j:Nat},j<5->(n+j:Nat)∈fp5 n
 |0,_=>by simp[fp5]
 |1,_=>by simp[fp5]
 |2,_=>by simp[fp5]
 |3,_=>by simp[fp5]
 |4,_=>by simp[fp5]
 |j+5,h=>by omega
theorem b2k{c:Addr}(h:c∈fp4 n):c∈fp5 n:=by
 simp only[fp4,fp5,Qr,Zi,Js]at h ⊢
 rcases h with h|h|h|h<;>simp[h]
theorem b9p{c:Addr}(h:c∈[n+4]):c∈fp5 n:=by
 simp only[Qr,Zi,Js]at h;rw[h];simp
theorem le5{c:Addr}(h:c∈fp5 n):n≤c:=by
 simp only[fp5,Qr,Zi,Js]at h
 rcases h with rfl|rfl|rfl|rfl|rfl
 ·exact Va _ _
 ·exact Va _ _
 ·exact Va _ _
 ·exact Qy _
 ·exact Va _ _
theorem b9q(c1 c2:Bool)(n l1 l2:Addr)(xs ys:List V):
  Turn P w K (.Tuple elts kk tp) (Itz K c1 c2 l1 l2 xs ys) [n+4,n+2,n+3,n,n+1] (n+4) (b9o c1 c2 n l1 l2)where
 mem:=by simp
 obj:=fun i h st b hb=>by
  obtain⟨hz,hI,⟨a,b',hO⟩,h1,h2⟩:=st;simp only[Qr,Zi,Js]at hb
  rcases hb with rfl|rfl|rfl|rfl|rfl
  ·exact⟨_,hz,fun v z=>by cases z⟩
  ·exact⟨_,hI,fun v z=>by cases z⟩
  ·exact⟨_,hO,fun v z=>by cases z⟩
  ·exact h1.get
  ·exact h2.get
 keep:=fun i h h' st k=>by
  obtain⟨hz,hI,⟨a,b',hO⟩,h1,h2⟩:=st;exact⟨k _ (by simp) _ hz,k _ (by simp) _ hI,⟨a,b',k _ (by simp) _ hO⟩,h1.at' fun o e=>k _ (by simp) o e,h2.at' fun o e=>k _ (by simp) o e⟩
 item:=by
  intro X hP hw hK hc i pins s σ H E I hf st hg;subst hP hw hK;obtain⟨hi,q1,q2⟩:=hg;obtain⟨hz,hI,⟨a,b,hO⟩,h1,h2⟩:=st;obtain⟨its,r1,p1,_⟩:=a3X I q1;obtain⟨jts,r2,p2,_⟩:=a3X I q2;have ex:xs[i]? =some (xs[i]'(by omega)):=by simp
  have ey:ys[i]? =some (ys[i]'(by omega)):=by simp
  obtain⟨u,hu,ru⟩:=r1.get ex;obtain⟨v,hv,rv⟩:=r2.get ey;have D:ZipApart (n+4) (n+2) (n+3) n (n+1) l1 l2:=apart
   (fun j hj=>a6q I (hf _ (a6r n hj)) q1)
   (fun j hj=>a6q I (hf _ (a6r n hj)) q2)
  refine b9k D hz hI hO h1 h2 p1 p2 (x:=u) (y:=v) (by simpa using hu) (by simpa using hv) fun h' a1 a2 a3 a4 a5 a6 a7=>?_
  have hn:H s.heap.objs.size=none:=I.fresh
  have I1:Inv X pins σ (upd H s.heap.objs.size (.tup [xs[i]'(by omega),ys[i]'(by omega)])) {s with heap:=h'}:=b9f (ch:=[n+4,n+3,n,n+1]) (t':=s.toks) I
   (fun c o hc e=>a7 c o (fun z=>hc (by simp[z])) (fun z=>hc (by simp[z])) (fun z=>hc (by simp[z])) (fun z=>hc (by simp[z])) e)
   (fun c hc=>hf c (b2k hc)) (Qy _)
   ⟨by show 2≤sizeLine;decide,[u,v],.cons ru (.cons rv .nil),_,a5,rfl,rfl,0,rfl⟩
  have lt5:∀c∈[n+4,n+2,n+3,n,n+1],c≠s.heap.objs.size:=fun c hc=>by
   have:∃o,s.heap.get? c=some o:=by
    simp only[Qr,Zi,Js]at hc
    rcases hc with rfl|rfl|rfl|rfl|rfl
    ·exact⟨_,hz⟩
    ·exact⟨_,hI⟩
    ·exact⟨_,hO⟩
    ·obtain⟨o,e,_⟩:=h1.get;exact⟨o,e⟩
    ·obtain⟨o,e,_⟩:=h2.get;exact⟨o,e⟩
   obtain⟨o,e⟩:=this;exact Qi (Qp e)
  have hf2:∀c∈[n+4,n+2,n+3,n,n+1],u9_ X pins (upd H s.heap.objs.size (.tup [xs[i]'(by omega),ys[i]'(by omega)])) c:=fun c hc=>⟨by rw[q7_ (lt5 c hc)];exact(hf c hc).1,(hf c hc).2⟩
  have hI':IsPair h' (n+2) (.ref n) (.ref (n+1)):=a7 _ _ D.TIz D.TITO D.TIi1 D.TIi2 hI
  refine⟨.ref s.heap.objs.size,rfl,wpAny_letOwnedTupleGo_zip (s:={s with heap:=h'}) a1 fun h2' b1 b2=>?_⟩
  have I2:Inv X pins σ (upd H s.heap.objs.size (.tup [xs[i]'(by omega),ys[i]'(by omega)])) {s with heap:=h2'}:=b2g (s:={s with heap:=h'}) (ch:=[n+4]) (t':=s.toks) I1
   (fun c o hc e=>b2.extBut _ _ (fun z=>hc (by simp[z])) e) (fun c hc=>hf2 c (b9p hc))
  exact⟨.ref s.heap.objs.size,_,I2,rfl,⟨_,_,_,hn,rfl,rfl,ex,ey⟩,
   ⟨b1,b2.extBut _ _ D.TIz hI',⟨_,_,b2.extBut _ _ D.TOz a2⟩,a3.but b2.extBut D.i1z,a4.but b2.extBut D.i2z⟩,fun c hc=>(hf2 c hc).1⟩
 done:=by
  intro X hP hw hK hc i pins s σ H E I hf st hg;subst hP hw hK;obtain⟨hi,q1,q2⟩:=hg;obtain⟨hz,hI,⟨a,b,hO⟩,h1,h2⟩:=st;obtain⟨its,r1,p1,_⟩:=a3X I q1;obtain⟨jts,r2,p2,_⟩:=a3X I q2;have D:ZipApart (n+4) (n+2) (n+3) n (n+1) l1 l2:=apart
   (fun j hj=>a6q I (hf _ (a6r n hj)) q1)
   (fun j hj=>a6q I (hf _ (a6r n hj)) q2)
  have e1:=r1.length
  have e2:=r2.length
  have hend:its.toArray[i]? =none∨jts.toArray[i]? =none:=by
   by_cases h:its.length≤i
   ·exact .inl (by simp;omega)
   ·exact .inr (by simp;omega)
  exact b9l (I.ok.hd hc) D hz hI hO h1 h2 p1 p2 hend fun h' hk=>⟨rfl,b2g (ch:=[n+4,n+3,n,n+1]) (t':=s.toks) I
   (fun c o hc e=>hk c o (fun z=>hc (by simp[z])) (fun z=>hc (by simp[z])) (fun z=>hc (by simp[z])) (fun z=>hc (by simp[z])) e)
   (fun c hc=>hf c (b2k hc))⟩
 self:=fun _ _ _ _ _ st h=>wpAny_pyIter_zip st.1 h
theorem b9r:bootBuiltins "zip"=some (.type "zip"):=by decide+kernel
section
variable{b:Expr}
def b9s(K:Qz)(ta:TA):TI:=fun σ H R=>ta σ H fun vs H1=>∃c1 c2 l1 l2 xs ys,vs=[.ref l1,.ref l2]/\SqA c1 K H1 l1 xs/\SqA c2 K H1 l2 ys/\R (Itz K c1 c2 l1 l2 xs ys) H1
theorem b9t{ta:TA}(hg:Gl X "zip")(hm:X.mg "zip"=none)(ha:PA X [a,b] ta)(hs:starEach [a,b] X.env=[(false,eval a X.env),(false,eval b X.env)]:=by rfl)(hs2:starEach [b] X.env=[(false,eval b X.env)]:=by rfl):
  PI X (.Tuple elts kk tp) (.Call (.Name "zip" p) [a,b] [] pos) (b9s X.K ta):=by
 intro pins s σ H R I h;refine Call_ (a3L I hg hm b9r (Jn (thn (ha pos pins s σ H _ I h) fun us s1 ⟨vs,H1,I1,r1,q1⟩=>?_) (by rw[hs,hs2]) (by rw[hs2];rfl)))
 obtain⟨c1,c2,l1,l2,xs,ys,rfl,h1,h2,q⟩:=q1;obtain⟨u,v,rfl,ru,rv⟩:=a2e r1;cases ru;cases rv;obtain⟨its,r1,p1,_⟩:=a3X I1 h1;obtain⟨jts,r2,p2,_⟩:=a3X I1 h2;refine b9n p1 p2 fun h' a1 a2 a3 a4 a5 a6 a7=>?_
 refine wpAny_pyIter_zip a1 ?_
 refine⟨s1.heap.objs.size+4,_,_,_,H1,rfl,I1.kept (t':=s1.toks) a7,b9q c1 c2 s1.heap.objs.size l1 l2 xs ys,⟨a1,a2,⟨_,_,a3⟩,a4,a5⟩,fun c hc=>?_,q⟩
 have hle:s1.heap.objs.size≤c:=le5 hc
 exact I1.fpOk hle (I1.hok.fresh hle)
def a1d(xs ys:List D):List D:=(xs.zip ys).map fun p=>.tup [p.1,p.2]
def a0Q(ms:Mo (List D)):Mo (List D):=fun env=>(ms env).bind fun p=>match p.1 with
 |[d,e]=>d.items.bind fun xs=>e.items.map fun ys=>(a1d xs ys,p.2)
 |_=>none
theorem b2l{v:V}(r:Rep K G v d)(h:d.items=some ds):∃c a xs,v=.ref a/\SqA c K G a xs/\z9_ K G xs ds:=by
 cases d<;>first|(exact absurd (show(none:Option (List D))=some ds from h) (by simp))|skip
 ·cases h;simp only[Rep]at r;obtain⟨a,xs,e,q,t⟩:=r;exact⟨true,a,xs,e,q.t,t⟩
 ·cases h;simp only[Rep]at r;obtain⟨a,xs,e,q,t⟩:=r;exact⟨false,a,xs,e,q,t⟩
theorem b9u{c1 c2:Bool}{xs ys:List V}{es:List D}(h1:SqA c1 K G l1 xs)(h2:SqA c2 K G l2 ys)(r1:z9_ K G xs ds)(r2:z9_ K G ys es):ItD K (Itz K c1 c2 l1 l2 xs ys) G (a1d ds es)where
 go:=fun i H l hi=>⟨by rw[r1.length,r2.length];simpa [a1d]using hi,l.sqA h1,l.sqA h2⟩
 stop:=fun i H l hi=>⟨by rw[r1.length,r2.length];simpa [a1d]using hi,l.sqA h1,l.sqA h2⟩
 yld:=fun i H x H' d l y e=>by
  obtain⟨p,a,b,hp,rfl,rfl,ea,eb⟩:=y;obtain⟨da,e1,ra⟩:=r1.get' ea;obtain⟨db,e2,rb⟩:=r2.get' eb;have ed:d=.tup [da,db]:=by
   unfold a1d at e;rw[Qa,List.getElem?_zip_eq_some.mpr (⟨e1,e2⟩:ds[i]? =some (da,db).1/\es[i]? =some (da,db).2)]at e;cases e;rfl
  subst ed;have gp:G p=none:=by
   cases q:G p with
   |none=>rfl
   |some o=>rw[l p o q]at hp;cases hp
  exact .inr ⟨p,_,nt_tup,hp,rfl,a2C y8_ (repL_cons (Rep.mono (Le.upd gp) _ ra) (repL_cons (Rep.mono (Le.upd gp) _ rb) repL_nil))⟩
theorem a3Y(hg:Gl X "zip")(hm:X.mg "zip"=none)(ha:EDs X B [a,b] ms)(hs:starEach [a,b] X.env=[(false,eval a X.env),(false,eval b X.env)]:=by rfl)(hs2:starEach [b] X.env=[(false,eval b X.env)]:=by rfl):
  EI X B (.Tuple elts kk tp) (.Call (.Name "zip" p) [a,b] [] pos) (a0Q ms):=by
 refine a6f (b9t hg hm ha hs hs2) ?_
 rintro σ H R ⟨G,env,ds,env',rl,e,k⟩;obtain⟨⟨ds',env1⟩,e1,e2⟩:=q2_ e;dsimp only at e2;split at e2
 ·rename_i d1 d2
  obtain⟨xs,e3,e4⟩:=q2_ e2;obtain⟨ys,e5,e6⟩:=x3_ e4;cases e6;refine⟨G,env,_,_,rl,e1,fun vs G1 H1 ev r=>?_⟩
  obtain⟨v,w,rfl,r1,r2⟩:=a3P r;obtain⟨c1,l1,us,rfl,q1,t1⟩:=b2l r1 e3;obtain⟨c2,l2,ws,rfl,q2,t2⟩:=b2l r2 e5;exact⟨c1,c2,l1,l2,us,ws,rfl,ev.rel.sub.sqA q1,ev.rel.sub.sqA q2,k _ G1 H1 ev (b9u q1 q2 t1 t2)⟩
 ·cases e2
end
def a1D(h:Heap):List Value->OI->Prop
 |[],[]=>True
 |v::vs,k::ks=>(∃a its,v=.ref a/\IsTup h a its.toArray/\IntsAre its k/\k≠[])/\a1D h vs ks
 |_,_=>False
theorem a1D.mono{h h':Heap}:∀{vs:List Value}{ks:OI},a1D h vs ks->(∀a its,IsTup h a its->IsTup h' a its)->a1D h' vs ks
 |[],[],_,_=>trivial
 |v::vs,k::ks,⟨⟨a,its,e,t,i,n⟩,r⟩,f=>⟨⟨a,its,e,f _ _ t,i,n⟩,a1D.mono r f⟩
 |[],_::_,h,_=>h.elim
 |_::_,[],h,_=>h.elim
theorem a1D.len{h:Heap}:∀{vs:List Value}{ks:OI},a1D h vs ks->vs.length=ks.length
 |[],[],_=>rfl
 |v::vs,k::ks,h=>by simp[a1D.len h.2]
 |[],_::_,h=>h.elim
 |_::_,[],h=>h.elim
theorem a1D.get{h:Heap}:∀{vs:List Value}{ks:OI}{i:Nat},a1D h vs ks->i<vs.length->∃a its,vs.getD i Value.none=.ref a/\IsTup h a its.toArray/\IntsAre its (ks.getD i [])
 |v::vs,k::ks,0,⟨⟨a,its,e,t,i,n⟩,r⟩,_=>⟨a,its,by simpa using e,t,by simpa using i⟩
 |v::vs,k::ks,i+1,⟨_,r⟩,hi=>by
  obtain⟨a,its,e,t,j⟩:=a1D.get (i:=i) r (by simpa using hi)
  exact⟨a,its,by simpa using e,t,by simpa using j⟩
 |[],_,_,_,hi=>by simp at hi
 |_::_,[],_,h,_=>h.elim
section
variable{fin:Bool}{Q:Bool->Shared->Prop}
end
def keys(ds:List D):Option (OI):=ds.mapM fun d=>match d with
 |.tup es=>(ints? es).bind fun ns=>if ns.isEmpty then none else some ns
 |_=>none
theorem b9v(I:Inv X pins σ H s):sysModules<s.heap.objs.size:=by
 have h:mainGlobals<s.heap.objs.size:=(I.mod.glob.keeps I.bk).lt
 exact Vz (by decide) h
section
variable{fn:Fn}{f:Addr}
structure Def(P:Program)(w:World)(K:Qz)(mg:OU)(base:Heap)(x:Str)(k n:Nat)(fn:Fn):Prop where
 ex:∃(f:Addr) (fd:FuncData) (ps:List Str),FnOk P w K mg base CX0 k f fd ps (SpF K n fn)/\ps.length=n/\mg x=some (.ref f)/\PySem.W.keepIn K (.ref f)=true/\a0M K fd ps []
theorem v9_(D:Def X.prog X.w X.K X.mg X.base x k n fn)(hr:Room k X.A)(hg:Gl X x)(ha:EAr X B (e::es) as)(hdb:(x==("__debug__":Str))=false:=by decide)
  (he:starEach (e::es) X.env=(false,eval e X.env)::starEach es X.env:=by rfl)(hpl:(backTo pos (starEach es X.env)).any (·.1)=false:=by rfl):
  ED X B (.Call (.Name x p) (e::es) [] pos) (mCD n fn as):=by
 obtain⟨f,fd,ps,F,rfl,hm,hk,hb⟩:=D.ex;exact b8x F hr hg hm hk hb ha hdb he hpl
theorem a2n(D:Def X.prog X.w X.K X.mg X.base x k n fn)(hr:Room k X.A)(hg:Gl X x)(ha:EAr X B (e::es) as)(hdb:(x==("__debug__":Str))=false:=by decide)
  (he:starEach (e::es) X.env=(false,eval e X.env)::starEach es X.env:=by rfl)(hpl:(backTo pos (starEach es X.env)).any (·.1)=false:=by rfl):
  EL X B (.Call (.Name x p) (e::es) [] pos) (a0e n fn as):=by
 obtain⟨f,fd,ps,F,rfl,hm,hk,hb⟩:=D.ex;exact b8y F hr hg hm hk hb ha hdb he hpl
def a2L:Option NameKind->Option NameKind->Bool:=fun a b=>decide (a=b)
def b2m(outN N':List Str)(outNames:List (Str×NameKind))(cells:List (Str×Addr))(scope:Scope)(keep:List Bool)(more:Nat):Bool:=
 (decide (scope.kind=.function)&&(scope.names.all (fun y=>a2L (scope.names.lookup y.1) (some y.2))&&(scope.names.all (fun y=>!a2L (some y.2) (some .free)||(cells.lookup y.1).isSome)&&(decide (keep.length=outN.length)&&(decide (N'.length=outN.length+more)&&
  (List.range keep.length).all fun i=>!(keep.getD i false)||match N'[i]?,outN[i]? with
   |some x,some y=>decide (x=y)&&(!a2L (scope.names.lookup x) (some .local)&&(!a2L (scope.names.lookup x) (some .cell)&&(!a2L (scope.names.lookup x) (some .free)||(a2L (outNames.lookup x) (some .cell)||a2L (outNames.lookup x) (some .free)))))
   |_,_=>false)))))
theorem b9w{N':List Str}(c:closureFor scope X.env=pure (u7_ X.env.cells scope.names []))(h:b2m X.N N' X.env.scope.names X.env.cells scope keep more=true):CompOk X N' scope keep more:=by
 unfold b2m at h;simp only[Qw,Zz,Qb,a2L]at h;obtain⟨h1,h2,h3,h4,h5,h6⟩:=h;have gt:∀(i:Nat) (x:Str),keep[i]? =some true->N'[i]? =some x->∃y,X.N[i]? =some y/\x=y/\ ¬ (scope.names.lookup x=some .local)/\ ¬ (scope.names.lookup x=some .cell)/\(scope.names.lookup x=some .free->X.env.scope.names.lookup x=some .cell∨X.env.scope.names.lookup x=some .free):=fun i x e1 e2=>by
  have hi:i<keep.length:=(Qh.mp e1).1
  have q:=h6 i (Zl.mpr hi)
  have e3:keep.getD i false=true:=by simp[e1]
  rw[e3,e2]at q;cases e4:X.N[i]? with
  |none=>rw[e4]at q;simp at q
  |some y=>
   rw[e4]at q;simp only[Bool.not_true,Xb,Qw,Zz,Xm,decide_eq_false_iff_not,Xe]at q;obtain⟨q1,q2,q3,q4⟩:=q;exact⟨y,rfl,q1,q2,q3,fun z=>q4.elim (fun n=>absurd z n) id⟩
 refine⟨h1,h2,c,fun y hy hf=>?_,h4,h5,fun i x e1 e2=>?_,fun i x e1 e2 e3=>?_⟩
 ·have q:=h3 y hy
  rw[hf]at q
  simpa using q
 ·obtain⟨y,g1,g2,g3,g4,_⟩:=gt i x e1 e2
  exact⟨by rw[g1,g2],g3,g4⟩
 ·have hi:i<keep.length:=(Qh.mp e1).1
  have hN:i<N'.length:=by omega
  obtain⟨y,g1,g2,g3,g4,g5⟩:=gt i _ e1 (Zv hN);rw[e2]at g1;cases g1;rw[g2]at g5;exact g5 e3
end
theorem b2n{i:Int}(hg:Gl X x)(hm:∃t,X.mg x=some (.int i t))(hd:(x==("__debug__":Str))=false:=by decide):ED X B (.Name x pos) (mC (.int i)):=by
 obtain⟨t,hm⟩:=hm;exact b8a hg hm hd
def Kp(i:Nat)(m:Mo D):Prop:=∀env d env' w ds,m env=some (d,env')->env'[i]? =some w->w.mut=some ds->∃w0 ds0,env[i]? =some w0/\w0.mut=some ds0
theorem a8k:Kp i (mC d):=fun env d' env' w ds e h1 h2=>by cases e;exact⟨w,ds,h1,h2⟩
theorem b9x(h:Kp i m):Kp i (u5_ m):=fun env d' env' w ds e h1 h2=>by
 obtain⟨⟨d,env1⟩,e1,e2⟩:=q2_ e;dsimp only at e2;split at e2
 ·cases e2;exact h env _ _ w ds e1 h1 h2
 ·cases e2
theorem b9y:bootBuiltins "int"=some (.type "int"):=by decide+kernel
theorem b9z:bootBuiltins "bool"=some (.type "bool"):=by decide+kernel
theorem b9A:bootBuiltins "tuple"=some (.type "tuple"):=by decide+kernel
theorem a8l:bootBuiltins "list"=some (.type "list"):=by decide+kernel
theorem b9B:bootBuiltins "all"=some (.builtin "all"):=by decide+kernel
theorem b9C:bootBuiltins "max"=some (.builtin "max"):=by decide+kernel
theorem b9D:bootBuiltins "min"=some (.builtin "min"):=by decide+kernel
theorem b2o{K:Qz}{G:Hp}:∀ns:List Int,z9_ K G (ns.map V.int) (ns.map D.int)
 |[]=>repL_nil
 |n::ns=>repL_cons (by simp only[Rep]) (b2o ns)
def a4X:Expr->Bool
 |.Starred _ _=>true
 |_=>false
theorem a6s{env:Env}(h:a4X e=false):starEach (e::es) env=(false,eval e env)::starEach es env:=by
 cases e<;>first|rfl|cases h
theorem se1{env:Env}(h:a4X a=false):starEach [a] env=[(false,eval a env)]:=by rw[a6s h];rfl
theorem se2{b:Expr}{env:Env}(h:a4X a=false)(h2:a4X b=false):starEach [a,b] env=[(false,eval a env),(false,eval b env)]:=by rw[a6s h,se1 h2]
theorem b2p{pos:Pos}{env:Env}:∀{es:List Expr},es.all (fun e=>!a4X e)=true->(backTo pos (starEach es env)).any (·.1)=false
 |[],_=>rfl
 |e::es,h=>by
  rw[Ux,Qw,Xm]at h;rw[a6s h.1];show(false||(backTo pos (starEach es env)).any (·.1))=false
  rw[b2p h.2];rfl
theorem j3_{m n:Mo Fl}{e:Env'}(h:m e=some (.nx,e1)):q1_ m n e=n e1:=by unfold q1_;rw[h];rfl
theorem a1u{m n:Mo Fl}{e:Env'}(h:m e=some (.ret d,e1)):q1_ m n e=some (.ret d,e1):=by unfold q1_;rw[h];rfl
theorem a1v{t:Mo Bool}{m n:Mo Fl}{e:Env'}(h:t e=some (true,e1)):y4_ t m n e=m e1:=by unfold y4_;rw[h];rfl
theorem a1e{t:Mo Bool}{m n:Mo Fl}{e:Env'}(h:t e=some (false,e1)):y4_ t m n e=n e1:=by unfold y4_;rw[h];rfl
theorem b2q(neg:Bool)(i j:Int):dEq neg (.int i) (.int j)=some (.bl (if neg then !(i==j)else(i==j))):=rfl
theorem a8m{g:OZ}{m:Mo D}{P:Env'->Prop}{f:D->D}:∀{ds:List D}{env:Env'},(∀d∈ds,∀e,P e->∃e1 e2,g d e=some e1/\m e1=some (f d,e2)/\P e2)->P env->
  ∃env',g6_ g v3_ m ds env=some (ds.map f,env')/\P env'
 |[],env,_,p=>⟨env,rfl,p⟩
 |d::ds,env,h,p=>by
  obtain⟨e1,e2,h1,h2,h3⟩:=h d (by simp) env p
  obtain⟨e3,h4,h5⟩:=a8m (ds:=ds) (fun x hx=>h x (by simp[hx])) h3
  refine⟨e3,?_,h5⟩;unfold g6_;rw[h1];simp only[Qj,v3_,Zy];rw[h2];simp only[Qj];rw[h4];rfl
theorem a4Y{g:OZ}{b:Mo Fl}{P:Env'->Prop}:∀{ds:List D}{env:Env'},(∀d∈ds,∀e,P e->∃e1 e2,g d e=some e1/\b e1=some (.nx,e2)/\P e2)->P env->∃env',loop g b ds env=some (.nx,env')/\P env'
 |[],env,_,p=>⟨env,rfl,p⟩
 |d::ds,env,h,p=>by
  obtain⟨e1,e2,h1,h2,h3⟩:=h d (by simp) env p
  obtain⟨e3,h4,h5⟩:=a4Y (ds:=ds) (fun x hx=>h x (by simp[hx])) h3
  refine⟨e3,?_,h5⟩;unfold loop;rw[h1];simp only[Qj];rw[h2];exact h4
theorem a2M{α:Type}(f:α->Bool):∀l:List α,a0t (l.map fun x=>D.bl (f x))=some (l.all f)
 |[]=>rfl
 |x::l=>by simp[a0t,a2M f l]
theorem w0_{N:Nat}{env:List W}(h:mb (ws++List.replicate (N-ws.length) .nil)=some (.ret d,env)):fnM N mb ws=some (.d d,a1b ws env):=by unfold fnM;rw[h]
theorem a6t{N:Nat}{env:List W}{d:List D}(h:mb (ws++List.replicate (N-ws.length) .nil)=some (.retL d,env)):fnM N mb ws=some (.l d,a1b ws env):=by unfold fnM;rw[h]
def stop(b:Bool)(d:D):Fl:=if b then .nx else .ret d
theorem b2r{g:OZ}{b:Mo Fl}{P:Env'->Prop}{ok:D->Bool}{r:D}:∀{ds:List D}{env:Env'},(∀d∈ds,∀e,P e->∃e1 e2,g d e=some e1/\b e1=some (stop (ok d) r,e2)/\P e2)->P env->∃env',loop g b ds env=some (stop (ds.all ok) r,env')/\P env'
 |[],env,_,p=>⟨env,rfl,p⟩
 |d::ds,env,h,p=>by
  obtain⟨e1,e2,h1,h2,h3⟩:=h d (by simp) env p
  by_cases hk:ok d=true
  ·obtain⟨e3,h4,h5⟩:=b2r (ds:=ds) (fun x hx=>h x (by simp[hx])) h3
   refine⟨e3,?_,h5⟩;unfold loop;rw[h1];simp only[Qj];rw[h2,hk,Ux,hk,Yu];exact h4
  ·have hk':ok d=false:=by simpa using hk
   refine⟨e2,?_,h3⟩;unfold loop;rw[h1];simp only[Qj];rw[h2,hk',Ux,hk',Jo];rfl
theorem b9E{es:List D}{f:D->Bool}:a0t (es.map fun d=>.bl (f d))=some (es.all f):=a2M f es
theorem a2N{g:OZ}{t:Mo Bool}{e3:Env'}{r:List D}(h:mi env=some (ds,e1))(hl:ds.length≤100000)(hc:g6_ g t m ds (k5_ keep more e1)=some (r,e2))(ho:j2_ keep e1 e2=some e3):
  v1_ mi keep more g t m env=some (r,e3):=by
 unfold v1_;rw[h];show(if ds.length≤100000 then(g6_ g t m ds (k5_ keep more e1)).bind _ else none)=_
 rw[Qn hl,hc];show(j2_ keep e1 e2).map _=_;rw[ho];rfl
theorem a6u(h:ms env=some ([.int j],e1))(h1: -1000000<j)(h2:j<1000000):j1_ ms env=some (a0i 0 j.toNat,e1):=by
 unfold j1_;rw[h];exact Qn ⟨h1,h2⟩
theorem b9F{i:Int}(h:ms env=some ([.int i,.int j],e1))(h1: -1000000<i)(h2:i<1000000)(h3: -1000000<j)(h4:j<1000000):a1s ms env=some (a0i i (j-i).toNat,e1):=by
 unfold a1s;rw[h];exact Qn ⟨h1,h2,h3,h4⟩
theorem k2_{f:List D->Option D}(h:ms env=some (ds,e1))(hf:f ds=some d):mCB f ms env=some (d,e1):=by unfold mCB;rw[h];show(f ds).map _=_;rw[hf];rfl
theorem q3_(h:m env=some (d,e1))(h2:ms e1=some (ds,e2)):z1_ m ms env=some (d::ds,e2):=by unfold z1_;rw[h];show(ms e1).map _=_;rw[h2];rfl
theorem a1E{ms:Mo (List Ar)}{ds:List Ar}(h:m env=some (d,e1))(h2:ms e1=some (ds,e2)):z6_ m ms env=some (.d d::ds,e2):=by unfold z6_;rw[h];show(ms e1).map _=_;rw[h2];rfl
theorem k3_{m:Mo (List D)}(h:m env=some (ds,e1)):mF m env=some (.lst ds,e1):=by unfold mF;rw[h];rfl
theorem a0R(h:m env=some (d,e1))(hd:d.items=some ds):y0_ m env=some (ds,e1):=by unfold y0_;rw[h];show d.items.map _=_;rw[hd];rfl
theorem q5_{f:D->D->Option D}{mb:Mo D}{a b c:D}(h1:ma env=some (a,e1))(h2:mb e1=some (b,e2))(hf:f a b=some c):z4_ f ma mb env=some (c,e2):=by
 unfold z4_;rw[h1];show(mb e1).bind _=_;rw[h2];show(f a b).map _=_;rw[hf];rfl
theorem u0_(h:m env=some (d,e1)):v0_ m env=some (.ret d,e1):=by unfold v0_;rw[h];rfl
theorem a8n{m:Mo (List D)}{d:List D}(h:m env=some (d,e1)):a2h m env=some (.retL d,e1):=by unfold a2h;rw[h];rfl
theorem a1w(h:m env=some (d,e1)):v2_ i m env=some (.nx,e1.set i (.dat d)):=by unfold v2_;rw[h];rfl
theorem b2s{m:Mo (List D)}{d:List D}(h:m env=some (d,e1)):j5_ i m env=some (.nx,e1.set i (.own d)):=by unfold j5_;rw[h];rfl
theorem j4_{b:Bool}(h:m env=some (.bl b,e1)):mT m env=some (b,e1):=by unfold mT;rw[h];rfl
theorem a0G{m:Mo Bool}{b:Bool}(h:m env=some (b,e1)):x2_ m env=some (!b,e1):=by unfold x2_;rw[h];rfl
theorem a1F{g:OZ}{b:Mo Fl}(h:mi env=some (ds,e1)):u2_ mi g b env=loop g b ds e1:=by unfold u2_;rw[h];rfl
theorem a0S{f:Fn}(h:as env=some (av,e1))(hn:av.length=n)(hs:slots av=[])(hf:f (av.map (a0d (.l [])))=some (r,ws')):a2l n f as env=some (r,e1):=by
 unfold a2l;rw[h];show(if av.length=n then _ else none)=_
 rw[Qn hn];simp only[hs];rw[hf];rfl
theorem a4Z{f:Fn}{w:W}{c c':List D}(h:as env=some (av,e1))(hn:av.length=n)(hs:slots av=[i])(hw:e1[i]? =some w)(hm:w.mutL=some c)(hf:f (av.map (a0d (.l c)))=some (r,ws'))(hp:a2H ws'=some (.l c')):
  a2l n f as env=some (r,e1.set i (w.put c')):=by
 unfold a2l;rw[h];show(if av.length=n then _ else none)=_
 rw[Qn hn];simp only[hs];rw[hw];simp only[Qj];rw[W.mutL_of hm];simp only[Qj];rw[hf];simp only[Qj];rw[hp,W.put_eq hm];rfl
theorem a1f{f:Fn}(h:a2l n f as env=some (.d d,e1)):mCD n f as env=some (d,e1):=by unfold mCD;rw[h];rfl
theorem a3Z{f:Fn}{d:List D}(h:a2l n f as env=some (.l d,e1)):a0e n f as env=some (d,e1):=by unfold a0e;rw[h];rfl
def a2o(m:Mo D):Mo Fl:=fun env=>(m env).map fun p=>(.nx,p.2)
theorem a3r(h:ED X B e ma)(hsw:swapsWith e none pos.line X.env=pure false:=by rfl):ES X B (.Expr e pos) (a2o ma):=by
 refine ps_imp (a5M (te:=TD X.K B ma) h hsw) ?_
 rintro D σ H ⟨G,env,fl,env',rl,e,k⟩;obtain⟨⟨d,env1⟩,e1,e2⟩:=x3_ e;cases e2;exact .bind rl e1 fun v G' H' ev r=>k σ G' H' ev
theorem a6v(h:m env=some (d,e1)):a2o m env=some (.nx,e1):=by unfold a2o;rw[h];rfl
theorem b9G{N:Nat}{env:List W}(h:mb (ws++List.replicate (N-ws.length) .nil)=some (.nx,env)):fnM N mb ws=some (.d .non,a1b ws env):=by unfold fnM;rw[h]
section
variable{b c:Expr}{mb mc:Mo D}
theorem a8o{t:Value}{U:String}{b c:Bool}(h1:PySem.W.kitOne K t (.type T)=some b)(h2:PySem.W.kitOne K t (.type U)=some c):PySem.W.kitAny K t [.type T,.type U]=some (b||c):=by
 unfold PySem.W.kitAny;rw[h1];cases b with
 |true=>rfl
 |false=>
  dsimp only;unfold PySem.W.kitAny;rw[h2];cases c<;>rfl
theorem b9H{tp:Addr}{U:String}{x:V}{u:Value}(I:Inv X pins σ H s)(l:Le G H)(rx:y1_ x u)(rp:Rep X.K G x d)
  (ht:IsTup s.heap tp [Value.type T,.type U].toArray)(kt:u3_ X.K T)(ku:u3_ X.K U)(h:∀tk,Q (.bool (a0F (tyD d) T||a0F (tyD d) U)) {s with toks:=tk}):wpAny (model X.prog X.w) A (call (.builtin "isinstance") [u,.ref tp]) Q E s:=by
 obtain⟨⟨oc,od,odt,os⟩,t1,t2,n,t3⟩:=ht;dsimp only at t2 t3;subst t2 t3;have e:(∀o,d≠.obj o)->_:=fun hd=>a8o (a8f kt d hd) (a8f ku d hd)
 cases d with
 |non=>simp only[Rep]at rp;subst rp;cases (show u=Value.none from rx);exact Ym PySem.W.kitx_none I.kIn True.intro t1 (e nofun) (fun z=>nomatch z) h
 |bl b=>simp only[Rep]at rp;subst rp;cases (show u=Value.bool b from rx);exact Ym PySem.W.kitx_bool I.kIn True.intro t1 (e nofun) (fun z=>nomatch z) h
 |int i=>simp only[Rep]at rp;subst rp;obtain⟨t,q⟩:=(show∃t,u=Value.int i t from rx);cases q;exact Ym PySem.W.kitx_int I.kIn True.intro t1 (e nofun) (fun z=>nomatch z) h
 |str z=>simp only[Rep]at rp;obtain⟨rp,_⟩:=rp;subst rp;obtain⟨t,q⟩:=(show∃t,u=Value.str z t from rx);cases q;exact Ym PySem.W.kitx_str I.kIn True.intro t1 (e nofun) (fun z=>nomatch z) h
 |tup ds=>
  simp only[Rep]at rp;obtain⟨a,xs,rfl,q,_⟩:=rp;cases rx;obtain⟨its,_,⟨o,h1,h2,_⟩,_⟩:=I.tuple (l.sqT q);exact Ym Xy I.kIn ⟨o,h1,h2⟩ t1 (e nofun) (fun z=>nomatch z) h
 |lst ds=>
  simp only[Rep]at rp;obtain⟨a,xs,rfl,q,_⟩:=rp;cases rx;obtain⟨its,_,⟨o,n,h1,h2,_⟩,_⟩:=I.list (l.sqL q);exact Ym Vg I.kIn ⟨o,h1,h2⟩ t1 (e nofun) (fun z=>nomatch z) h
 |emp=>
  simp only[Rep]at rp;obtain⟨a,kvs,rfl,q⟩:=rp;cases rx;obtain⟨_,_,vs,_,dd⟩:=(show w6_ X.prog X.w H s.heap a (.dK _)from I.hok a _ (l _ _ q))
  obtain⟨o,h1,h2⟩:∃o,s.heap.get? a=some o/\o.cls=.type "dict":=by
   obtain⟨o,es,ep,g1,g2,_⟩:=dd;exact⟨o,g1,g2.1⟩
  exact Ym Vf I.kIn ⟨o,h1,h2⟩ t1 (e nofun) (fun z=>nomatch z) h
 |dct ks vs=>
  simp only[Rep]at rp;obtain⟨a,kvs,rfl,q,_⟩:=rp;cases rx;obtain⟨_,_,_,_,o,_,_,h1,h2,_⟩:=(show w6_ X.prog X.w H s.heap a (.dT _ _)from I.hok a _ (l _ _ q))
  exact Ym Vf I.kIn ⟨o,h1,h2.1⟩ t1 (e nofun) (fun z=>nomatch z) h
 |obj o=>
  have h0:∀{T:String},u3_ X.K T->a0F "object" T=false:=fun{T} kt=>by
   unfold u3_ at kt;simp only[Qr,Zi,Js]at kt
   rcases kt with rfl|rfl|rfl|rfl|rfl<;>rfl
  have hf:∀{T:String},u3_ X.K T->PySem.W.kitOne X.K (.type "function") (.type T)=some false:=fun{T} kt=>by
   unfold u3_ at kt;simp only[Qr,Zi,Js]at kt
   rcases kt with rfl|rfl|rfl|rfl|rfl<;>rfl
  have h':∀tk,Q (.bool false) {s with toks:=tk}:=fun tk=>by have:=h tk;rwa [show a0F (tyD (.obj o)) T=false from h0 kt,show a0F (tyD (.obj o)) U=false from h0 ku]at this
  simp only[Rep]at rp;cases o with
  |exc n=>
   obtain⟨a,C,HP,rfl,_,h3,h4,h5⟩:=rp;cases rx;exact Ym h4 I.kIn (I.hok a _ (l _ _ h3)).1 t1 (a8o (h5 T kt) (h5 U ku)) (fun z=>nomatch z) h'
  |fn n=>
   obtain⟨f,rfl,_,h4⟩:=rp;cases rx;exact Ym h4 I.kIn True.intro t1 (a8o (hf kt) (hf ku)) (fun z=>nomatch z) h'
def b2t(T U:String)(m:Mo D):Mo D:=fun env=>(m env).map fun p=>(.bl (a0F (tyD p.1) T||a0F (tyD p.1) U),p.2)
theorem b2u{U:String}{y z:Str}{p3 p4:Pos}{x1:Nat}(kt:u3_ X.K T)(ku:u3_ X.K U)(ha:ED X B a ma)(hg:Gl X "isinstance")(hm:X.mg "isinstance"=none)(hgT:Gl X y)(hmT:X.mg y=none)(hvT:bootBuiltins y=some (.type T))(hgU:Gl X z)(hmU:X.mg z=none)(hvU:bootBuiltins z=some (.type U))
  (hnT:y≠"__name__":=by decide)(hdT:(y==("__debug__":Str))=false:=by decide)(hnU:z≠"__name__":=by decide)(hdU:(z==("__debug__":Str))=false:=by decide)
  (he:starEach [a,.Tuple [.Name y p2,.Name z p3] x1 p4] X.env=[(false,eval a X.env),(false,eval (.Tuple [.Name y p2,.Name z p3] x1 p4) X.env)]:=by rfl):ED X B (.Call (.Name "isinstance" p) [a,.Tuple [.Name y p2,.Name z p3] x1 p4] [] pos) (b2t T U ma):=by
 have hT:PE X (.Name y p2) (tC (.ty T)):=a5L hgT hmT hvT rfl hnT hdT
 have hU:PE X (.Name z p3) (tC (.ty U)):=a5L hgU hmU hvU rfl hnU hdU
 have htup:PE X (.Tuple [.Name y p2,.Name z p3] x1 p4) (b1e (a7A (tC (.ty T)) (a7A (tC (.ty U)) b1d))):=b1f (a0g hT (a0g hU a1l))
 have hc:j8_ X (.builtin "isinstance") (fun xs H Q=>∃x q G d,xs=[x,.ref q]/\H q=some (.tup [.ty T,.ty U])/\Le G H/\Rep X.K G x d/\Q (.bl (a0F (tyD d) T||a0F (tyD d) U)) H):=by
  intro pins s σ H xs us Q I r h;obtain⟨x,q,G,d,rfl,hq,l,rp,qq⟩:=h;obtain⟨u,w',rfl,r1,r2⟩:=a2e r;cases r2;obtain⟨_,its,v,ht⟩:=(show w6_ X.prog X.w H s.heap q (.tup [.ty T,.ty U])from I.hok q _ hq)
  obtain⟨v1,v2,rfl,e1,e2⟩:=a2e v;cases e1;cases e2;exact b9H I l r1 rp ht.tup kt ku fun tk=>⟨.bl _,H,I.tok _,rfl,qq⟩
 refine pe_imp (a4H (pos:=pos) (p:=p) hc hg hm (by decide+kernel) (a0g ha (a0g htup a1l) he) (he:=he)) ?_
 rintro σ H Q ⟨G,env,d,env',rl,e,k⟩;obtain⟨⟨d1,env1⟩,e1,e2⟩:=x3_ e;cases e2;refine .bind rl e1 fun v G1 H1 ev r=>⟨(by decide:2≤sizeLine),fun q hq=>?_⟩
 have al:=ev.rel.allocM (o:=.tup [.ty T,.ty U]) hq
 exact⟨v,q,G1,d1,rfl,y8_,al.rel.sub,r,k _ G1 _ (ev.trans al) (by simp only[Rep])⟩
end
def b2v:List D->Option Bool
 |[]=>some false
 |.bl b::r=>(b2v r).map fun k=>b||k
 |_::_=>none
def dAny:List D->Option D
 |[.lst ds]=>(b2v ds).map fun k=>.bl k
 |_=>none
def g5_:List D->Option D
 |[.lst ds]=>(ints? ds).map fun ns=>.int ns.sum
 |[.tup ds]=>(ints? ds).map fun ns=>.int ns.sum
 |_=>none
theorem a6w:∀{us:List Value}{ns:List Int},IntsAre us ns->∀(i:Nat) (v:Value),us[i]? =some v->∃t,v=.int (ns.getD i 0) t
 |_,_,.nil,i,v,h=>by simp at h
 |_,_,.cons n t r,i,v,h=>by
  cases i with
  |zero=>simp at h;exact⟨t,by simp[←h]⟩
  |succ i=>exact a6w r i v (by simpa using h)
def b2w(X:Cx):List V->Hp->VK->Prop:=fun xs H Q=>∃(p:Addr) (ns:List Int),xs=[.ref p]/\(SqL X.K H p (ns.map V.int)∨SqT X.K H p (ns.map V.int))/\Q (.int ns.sum) H
theorem a1G(hc:X.calm=true):j8_ X (.builtin "sum") (b2w X):=by
 intro pins s σ H xs us Q I r h;obtain⟨p,ns,rfl,hq,q⟩:=h;obtain⟨u,rfl,rx⟩:=a1O r;cases rx;have hh:X.A.handled=none:=I.ok.hd hc
 rcases hq with hq|hq
 ·obtain⟨its,r',pl,hz⟩:=I.list hq
  have hi:IntsAre its ns:=a5O r'
  have hl:=pl.isList
  have hlt:p<s.heap.objs.size:=by obtain⟨_,e,_⟩:=hl;exact Qp e
  refine call_sum_walkG (Ji hl ?_);refine⟨s.heap.objs.size,[s.heap.objs.size,p],[s.heap.objs.size],its.toArray.size,_,_,fun i=>ns.getD i 0,rfl,Walks.list (A:=X.A.in1) hh _ p (Qi hlt) its.toArray,
   ⟨⟨_,Qg _ rfl,rfl,rfl⟩,hl.push _⟩,fun b hb=>?_,fun i v hP=>a6w hi i v (by simpa using hP),fun h' tk t' hk'=>?_⟩
  ·have hs:=Qp (Qg s.heap (o:={cls:=.type "list_iterator",data:=.fields #[.ref p,.int 0 0]}) rfl)
   rcases Qr.mp hb with rfl|hb
   ·exact hs
   ·rcases Qr.mp hb with rfl|hb
    ·exact Vz hlt hs
    ·cases hb
  ·rw[Qm,hi.length,PyProof.Rows.preSum_getD,Jh (Qy _)]
   exact⟨.int ns.sum,H,I.kept (t':=tk) (LSm.kept_iter hk'),⟨t',rfl⟩,q⟩
 ·obtain⟨its,r',pl,hz⟩:=I.tuple hq
  have hi:IntsAre its ns:=a5O r'
  have hl:s.heap.IsTuple p its.toArray:=pl
  have hlt:p<s.heap.objs.size:=by obtain⟨_,e,_⟩:=hl;exact Qp e
  refine call_sum_walkG (Vj hl ?_);refine⟨s.heap.objs.size,[s.heap.objs.size,p],[s.heap.objs.size],its.toArray.size,_,_,fun i=>ns.getD i 0,rfl,Walks.tuple (A:=X.A.in1) hh _ p (Qi hlt) its.toArray,
   ⟨⟨_,Qg _ rfl,rfl,rfl⟩,hl.push _⟩,fun b hb=>?_,fun i v hP=>a6w hi i v (by simpa using hP),fun h' tk t' hk'=>?_⟩
  ·have hs:=Qp (Qg s.heap (o:={cls:=.type "tuple_iterator",data:=.fields #[.ref p,.int 0 0]}) rfl)
   rcases Qr.mp hb with rfl|hb
   ·exact hs
   ·rcases Qr.mp hb with rfl|hb
    ·exact Vz hlt hs
    ·cases hb
  ·rw[Qm,hi.length,PyProof.Rows.preSum_getD,Jh (Qy _)]
   exact⟨.int ns.sum,H,I.kept (t':=tk) (LSm.kept_iter hk'),⟨t',rfl⟩,q⟩
theorem b9I:a1q X B (b2w X) g5_:=by
 intro G σ env H xs ds c Q rl r e k;unfold g5_ at e;split at e
 ·rename_i ds
  obtain⟨x,rfl,q⟩:=a0C r;obtain⟨ns,e1,e2⟩:=x3_ e;subst e2;simp only[Rep]at q;obtain⟨a,ys,rfl,h1,h2⟩:=q;have:=a2K h2 e1;subst this;exact⟨a,ns,rfl,.inl (rl.sub.sqL h1),k _ G H (.refl rl) (by simp only[Rep])⟩
 ·rename_i ds
  obtain⟨x,rfl,q⟩:=a0C r;obtain⟨ns,e1,e2⟩:=x3_ e;subst e2;simp only[Rep]at q;obtain⟨a,ys,rfl,h1,h2⟩:=q;have:=a2K h2 e1;subst this;exact⟨a,ns,rfl,.inr (rl.sub.sqT h1),k _ G H (.refl rl) (by simp only[Rep])⟩
 ·cases e
theorem b9J:bootBuiltins "sum"=some (.builtin "sum"):=by decide+kernel
theorem b9K{f:Addr}:FnOk P w K mg base CX0 k f fd ps (SpF K n fun _=>none):=
 ⟨fun _ _ _ _ h=>(by obtain⟨_,_,_,_,_,_,_,e,_⟩:=h;cases e),fun _ _ _ _ _ _ _ _ _ _ _ _ _ h=>(by obtain⟨_,_,_,_,_,_,_,e,_⟩:=h;cases e)⟩
theorem b9L{p:Addr}{ns:List Int}(I:Inv X pins σ H s)(hh:X.A.in1.handled=none)(hq:SqL X.K H p (ns.map V.int)∨SqT X.K H p (ns.map V.int))
  (h:∀(o:Obj) (P:Nat->Value->Prop) (T:Nat->Heap->Prop),Walks X.prog X.w X.A.in1 s.heap.objs.size [s.heap.objs.size,p] [s.heap.objs.size] ns.length P T->T 0 (s.heap.push o)->(∀b∈[s.heap.objs.size,p],b<(s.heap.push o).objs.size)->
   (∀i v,P i v->i<ns.length/\∃t,v=.int (ns.getD i 0) t)->Q (.ref s.heap.objs.size) {s with heap:=s.heap.push o}):wpAny (model X.prog X.w) A (pyIter (.ref p)) Q E s:=by
 have key:∀(its:List Value),IntsAre its ns->∀i v,its.toArray[i]? =some v->i<ns.length/\∃t,v=.int (ns.getD i 0) t:=fun its hi i v hv=>by
  have hv':its[i]? =some v:=by simpa using hv
  refine⟨?_,a6w hi i v hv'⟩;have:=(Qh.mp hv').1;rw[hi.length]at this;exact this
 have low:∀(o:Obj),p<s.heap.objs.size->∀b∈[s.heap.objs.size,p],b<(s.heap.push o).objs.size:=fun o hlt b hb=>by
  have hs:s.heap.objs.size<(s.heap.push o).objs.size:=by rw[Zr];exact Xl _
  rcases Qr.mp hb with rfl|hb
  ·exact hs
  ·rcases Qr.mp hb with rfl|hb
   ·exact Vz hlt hs
   ·cases hb
 rcases hq with hq|hq
 ·obtain⟨its,r',pl,hz⟩:=I.list hq
  have hi:IntsAre its ns:=a5O r'
  have hl:=pl.isList
  have hlt:p<s.heap.objs.size:=by obtain⟨_,e,_⟩:=hl;exact Qp e
  have W:=Walks.list (prog:=X.prog) (w:=X.w) (A:=X.A.in1) hh s.heap.objs.size p (Qi hlt) its.toArray
  have es:its.toArray.size=ns.length:=by rw[Qm,hi.length]
  rw[es]at W;exact Ji hl (h _ _ _ W ⟨⟨_,Qg _ rfl,rfl,rfl⟩,hl.push _⟩ (low _ hlt) (key its hi))
 ·obtain⟨its,r',pl,hz⟩:=I.tuple hq
  have hi:IntsAre its ns:=a5O r'
  have hl:s.heap.IsTuple p its.toArray:=pl
  have hlt:p<s.heap.objs.size:=by obtain⟨_,e,_⟩:=hl;exact Qp e
  have W:=Walks.tuple (prog:=X.prog) (w:=X.w) (A:=X.A.in1) hh s.heap.objs.size p (Qi hlt) its.toArray
  have es:its.toArray.size=ns.length:=by rw[Qm,hi.length]
  rw[es]at W;exact Vj hl (h _ _ _ W ⟨⟨_,Qg _ rfl,rfl,rfl⟩,hl.push _⟩ (low _ hlt) (key its hi))
def a0o(gt:Bool)(ns:List Int):Int:=ns.getD (argBest (fun i j=>if gt then decide (ns.getD i 0>ns.getD j 0)else decide (ns.getD i 0<ns.getD j 0)) (ns.length-1)) 0
def b2x(X:Cx)(gt:Bool):List V->Hp->VK->Prop:=fun xs H Q=>∃(p:Addr) (ns:List Int),xs=[.ref p]/\(SqL X.K H p (ns.map V.int)∨SqT X.K H p (ns.map V.int))/\0<ns.length/\Q (.int (a0o gt ns)) H
theorem a6x(hc:X.calm=true):j8_ X (.builtin "min") (b2x X false):=by
 intro pins s σ H xs us Q I r h;obtain⟨p,ns,rfl,hq,h0,q⟩:=h;obtain⟨u,rfl,rx⟩:=a1O r;cases rx;have hh:X.A.handled=none:=I.ok.hd hc;refine call_min_walk (b9L I hh hq fun o P T W st low key=>?_)
 refine⟨_,_,_,_,_,_,_,rfl,W,st,low,h0,CmpOf.ints_lt (fun i=>ns.getD i 0) (fun i v hv=>(key i v hv).2),fun v h' tk hP hk=>?_⟩
 obtain⟨_,t,rfl⟩:=key _ v hP;exact⟨.int _,H,I.kept (t':=tk) (LSm.kept_iter hk),⟨t,rfl⟩,q⟩
def a0p(gt:Bool):List D->Option D
 |[.lst ds]=>(ints? ds).bind fun ns=>if ns.isEmpty then none else some (.int (a0o gt ns))
 |[.tup ds]=>(ints? ds).bind fun ns=>if ns.isEmpty then none else some (.int (a0o gt ns))
 |_=>none
theorem b9M{gt:Bool}:a1q X B (b2x X gt) (a0p gt):=by
 intro G σ env H xs ds c Q rl r e k;unfold a0p at e;split at e
 ·rename_i ds
  obtain⟨x,rfl,q⟩:=a0C r;obtain⟨ns,e1,e2⟩:=q2_ e;split at e2
  ·cases e2
  ·rename_i h0
   cases e2;simp only[Rep]at q;obtain⟨a,ys,rfl,h1,h2⟩:=q;have:=a2K h2 e1;subst this;exact⟨a,ns,rfl,.inl (rl.sub.sqL h1),by cases ns with|nil=>simp at h0|cons _ _=>simp,k _ G H (.refl rl) (by simp only[Rep])⟩
 ·rename_i ds
  obtain⟨x,rfl,q⟩:=a0C r;obtain⟨ns,e1,e2⟩:=q2_ e;split at e2
  ·cases e2
  ·rename_i h0
   cases e2;simp only[Rep]at q;obtain⟨a,ys,rfl,h1,h2⟩:=q;have:=a2K h2 e1;subst this;exact⟨a,ns,rfl,.inr (rl.sub.sqT h1),by cases ns with|nil=>simp at h0|cons _ _=>simp,k _ G H (.refl rl) (by simp only[Rep])⟩
 ·cases e
section
variable{b c:Expr}
def b9N:List V->Hp->VK->Prop:=fun xs H Q=>∃i j:Int,(xs=[.int i,.int j]∨(i=0/\xs=[.int j]))/\∀r,H r=none->Q (.ref r) (upd H r (.rng i j))
theorem b2y:j8_ X (.type "range") b9N:=by
 intro pins s σ H xs us Q I r h;obtain⟨i,j,hx,q⟩:=h
 rcases hx with rfl|⟨rfl,rfl⟩
 ·obtain⟨u,v,rfl,r1,r2⟩:=a2e r
  obtain⟨t,rfl⟩:=r1;obtain⟨t',rfl⟩:=r2;exact call_range_2 ⟨.ref s.heap.objs.size,upd H s.heap.objs.size (.rng i j),I.laid (t':=s.toks+1) (fun b u e=>Qx _ e) (Qy _) ⟨t,t',s.toks,Qg _ rfl⟩,rfl,q _ (I.hok.fresh (Qy _))⟩
 ·obtain⟨u,rfl,r1⟩:=a1O r
  obtain⟨t,rfl⟩:=r1;exact call_range_1 ⟨.ref s.heap.objs.size,upd H s.heap.objs.size (.rng 0 j),I.laid (t':=s.toks+1+1) (fun b u e=>Qx _ e) (Qy _) ⟨s.toks,t,s.toks+1,Qg _ rfl⟩,rfl,q _ (I.hok.fresh (Qy _))⟩
theorem b2z:∀(l:List Value) (f:Nat->Int),(∀(j:Nat) (v:Value),l[j]? =some v->∃t,v=Value.int (f j) t)->v4_ ((List.range l.length).map fun k=>V.int (f k)) l
 |[],_,_=>.nil
 |x::l,f,h=>by
  rw[Yy,Vl,Qu,Qe];exact .cons (h 0 x rfl) (b2z l (fun k=>f (k+1)) fun j v hv=>h (j+1) v (by simpa using hv))
def a6y(i:Int)(n:Nat):List V:=(List.range n).map fun(k:Nat)=>V.int (i+k)
def b9O:List V->Hp->VK->Prop:=fun xs H Q=>∃(r:Addr) (i j:Int),xs=[.ref r]/\H r=some (.rng i j)/\(-1000000<i/\i<1000000/\ -1000000<j/\j<1000000)/\∀l,H l=none->Q (.ref l) (upd H l (.lst (a6y i (j-i).toNat)))
theorem b2A(hc:X.calm=true):j8_ X (.type "list") b9O:=by
 intro pins s σ H xs us Q I r h;obtain⟨p,i,j,rfl,hp,⟨b1,b2,b3,b4⟩,q⟩:=h;obtain⟨u,rfl,rx⟩:=a1O r;cases rx;have hh:X.A.handled=none:=I.ok.hd hc;obtain⟨t,u,v,hr⟩:=(show w6_ X.prog X.w H s.heap p (.rng i j)from I.hok p _ hp)
 have hn:Builtin.Range.rangeSize i j 1=((j-i).toNat:Nat):=by rw[rangeSize_one];split<;>omega
 refine call_list_range hh (show IsRange s.heap p i j 1 t u v from hr) (small_one (by omega) (by omega) (by omega) (by omega)) hn (by omega) fun h' tk acc' c' hk hl hacc=>?_
 have hs:acc'.toList.length=(j-i).toNat:=by rw[Ud];exact hacc.1
 have hv:=b2z acc'.toList (fun k=>i+k) (fun k v e=>by
  obtain⟨t,ht⟩:=hacc.2 k v (by simpa using e)
  exact⟨t,by rw[ht];congr 1;omega⟩)
 rw[hs]at hv;refine⟨.ref s.heap.objs.size,_,I.laid (t':=tk) (a:=s.heap.objs.size) (o:=.lst (a6y i (j-i).toNat)) hk (Qy _) ⟨?_,acc'.toList,c',hv,by simpa using hl⟩,rfl,q _ (I.hok.fresh (Qy _))⟩
 show(a6y i (j-i).toNat).length≤sizeLine;unfold a6y;rw[Qv,Xn];have:(2000000:Nat)≤sizeLine:=by decide
 omega
theorem a8p{K:Qz}{G:Hp}(i:Int):∀l:List Nat,z9_ K G (l.map fun(k:Nat)=>V.int (i+k)) (l.map fun(k:Nat)=>D.int (i+k))
 |[]=>by simp only[Uo,z9_]
 |k::l=>by
  simp only[Qu,z9_];exact⟨_,_,rfl,by simp only[Rep],a8p i l⟩
theorem b2B(hc:X.calm=true)(hgl:Gl X "list")(hml:X.mg "list"=none)(hg:Gl X "range")(hm:X.mg "range"=none)(ha:EDs X B [a,b] ms)
  (hs:starEach [a,b] X.env=[(false,eval a X.env),(false,eval b X.env)]:=by rfl)(hs2:starEach [b] X.env=[(false,eval b X.env)]:=by rfl):EL X B (.Call (.Name "list" p1) [.Call (.Name "range" p2) [a,b] [] pos2] [] pos) (a1s ms):=by
 have h0:=a3N (p:=p2) (pos:=pos2) b2y hg hm boot_range ha (by decide) (by decide) (by rw[hs,hs2]) (by rw[hs2];rfl)
 refine pe_imp (a3N (p:=p1) (pos:=pos) (b2A hc) hgl hml a8l (a0g h0 a1l)) ?_
 rintro σ H Q ⟨G,env,ds,env',rl,e,k⟩;obtain⟨⟨ds',env1⟩,e1,e2⟩:=q2_ e;dsimp only at e2;split at e2
 ·rename_i i j
  split at e2
  ·rename_i hj
   cases e2;refine⟨G,env,_,_,rl,e1,fun vs G1 H1 ev r=>?_⟩
   obtain⟨v,w,rfl,r1,r2⟩:=a3P r;simp only[Rep]at r1 r2;subst r1 r2;refine⟨i,j,.inl rfl,fun q hq=>⟨q,i,j,rfl,y8_,hj,fun l hl=>?_⟩⟩
   exact a4Q (ev.trans (ev.rel.allocM hq)) hl (a8p i _) k
  ·cases e2
 ·cases e2
theorem b2C(hc:X.calm=true)(hgl:Gl X "list")(hml:X.mg "list"=none)(hg:Gl X "range")(hm:X.mg "range"=none)(ha:EDs X B [a] ms)
  (hs:starEach [a] X.env=[(false,eval a X.env)]:=by rfl):EL X B (.Call (.Name "list" p1) [.Call (.Name "range" p2) [a] [] pos2] [] pos) (j1_ ms):=by
 have h0:=a3N (p:=p2) (pos:=pos2) b2y hg hm boot_range ha (by decide) (by decide) hs rfl
 refine pe_imp (a3N (p:=p1) (pos:=pos) (b2A hc) hgl hml a8l (a0g h0 a1l)) ?_
 rintro σ H Q ⟨G,env,ds,env',rl,e,k⟩;obtain⟨⟨ds',env1⟩,e1,e2⟩:=q2_ e;dsimp only at e2;split at e2
 ·rename_i j
  split at e2
  ·rename_i hj
   cases e2;refine⟨G,env,_,_,rl,e1,fun vs G1 H1 ev r=>?_⟩
   obtain⟨v,rfl,r1⟩:=a0C r;simp only[Rep]at r1;subst r1;refine⟨0,j,.inr ⟨rfl,rfl⟩,fun q hq=>⟨q,0,j,rfl,y8_,⟨by omega,by omega,hj.1,hj.2⟩,fun l hl=>?_⟩⟩
   rw[Int.sub_zero];exact a4Q (ev.trans (ev.rel.allocM hq)) hl (a8p 0 _) k
  ·cases e2
 ·cases e2
end
section
variable{c:Expr}{t:Mo Bool}
end
section
variable{ml:Mo (List D)}
def a5a(i:Nat)(m:Mo (List D)):Mo Fl:=fun env=>((env[i]?).bind W.mutL).bind fun _=>(m env).bind fun p=>(p.2[i]?).bind fun w=>w.mutL.bind fun ds=>if ds.length+p.1.length≤100000 then some (.nx,p.2.set i (w.put (ds++p.1)))else none
theorem b2D{apos:Pos}(ho:PE X (.Name x p) (a0L i))(ha:EL X B e ml)
  (hbase:attributeBase (.Name x p) "extend" X.env (eval (.Name x p) X.env)=eval (.Name x p) X.env:=by rfl)
  (hfew:((backTo cpos (starEach [e] X.env)).all (fun x=>!x.1)&&(backToKw cpos (keywordEach [] X.env)).all (fun x=>x.1.isSome)
   &&decide ([e].length+([]:List Keyword).length+(if([]:List Keyword).isEmpty then 0 else 1)<30))=true:=by rfl)
  (hline:(apos.endLine==cpos.line)=true:=by rfl)(hs:starEach [e] X.env=(false,eval e X.env)::starEach [] X.env:=by rfl)(hplain:(backTo cpos (starEach [] X.env)).any (·.1)=false:=by rfl)
  (hsw:swapsWith (.Call (.Attribute (.Name x p) "extend" apos) [e] [] cpos) none pos.line X.env=pure false:=by rfl):
  ES X B (.Expr (.Call (.Attribute (.Name x p) "extend" apos) [e] [] cpos) pos) (a5a i ml):=by
 refine ps_imp (a5M (a7F Vp PySem.F.slot_list_extend PySem.F.type_list_extend b7U ho (a0g ha a1l hs) hbase hfew hline hs hplain) hsw) ?_
 rintro D σ H ⟨G,env,fl,env',rl,e,k⟩;obtain⟨ds0,e0,e⟩:=q2_ e;obtain⟨w0,e00,em0⟩:=q2_ e0;obtain⟨⟨es,env1⟩,e1,e2⟩:=q2_ e;obtain⟨w,e3,e4⟩:=q2_ e2;obtain⟨ds,e5,e6⟩:=q2_ e4;dsimp only at e3 e6;split at e6
 ·rename_i hl
  cases e6;obtain⟨q,xs0,h1,h2,h3,h4⟩:=rl.ownL i w0 ds0 e00 em0;refine⟨_,h1,.inl ⟨rfl,xs0,.inl (.inl h2)⟩,G,env,es,env1,rl,e1,fun a zs G1 H1 ev ha0 hno hla hga rz=>?_⟩
  obtain⟨q',xs,g1,g2,g3,g4⟩:=ev.rel.ownL i w ds e3 e5;rw[h1]at g1;cases g1;have hz:xs.length+zs.length≤sizeLine:=by
   rw[g3.length,rz.length];exact Zp hl (by decide)
  exact⟨q,a,xs,zs,rfl,rfl,g2,hla,hz,k _ G1 _ (ev.write e3 e5 h1 (g3.append rz))⟩
 ·cases e6
end
theorem b2E(x:HOk P w H h)(k:∀b u o,H b=some u->h.get? b=some o->h'.get? b=some o):HOk P w H h':=fun a o e=>
 (x a o e).stay (fun b u hb q=>by
  rcases hb with rfl|hb
  ·exact k _ _ _ e q
  ·exact k _ _ _ hb q) (fun _ q=>q) fun _ _ q=>q
def CXE(P:Program)(w:World):CXT:=fun outer H s E ev s'=>
 ∃(e t C:Addr) (H':Hp) (Bh:Heap),ev=.ref e/\s'.os=s.os/\AllBare s'.gens/\Heap.FlyingW Bh outer e (.ref C) (.ref t) s'.heap/\
  Un (frs outer) [] H H' s.heap s'.heap/\HOk P w H' Bh/\(∀b o,s.heap.get? b=some o->H b=none->b∉frs outer->Bh.get? b=some o)/\
  (∀b o,s.heap.get? b=some o->b∉frs outer->∃o',Bh.get? b=some o')/\E (.ref C) none H'
section
variable{H':Hp}{s':Shared}{E:XK}{e t:Addr}{Bh:Heap}
theorem a6z(hst:X.stack=X.env::X.outer)(hfr:X.env.frame=some X.env.locals)(hex:X.ex=[])(I:Inv X pins σ H s)(os:s'.os=s.os)(bare:AllBare s'.gens)(fly:Heap.FlyingW Bh X.outer e (.ref C) (.ref t) s'.heap)
  (kept:∀b o,s.heap.get? b=some o->H b=none->b∉frs X.stack->Bh.get? b=some o)
  (thr:∀b o,s.heap.get? b=some o->b∉frs X.stack->∃o',Bh.get? b=some o')
  (slots:∀b o,s.heap.get? b=some o->H b=none->b∈X.fs->∃sl,s'.heap.get? b=some {o with slots:=sl})
  (free:∀b o,s.heap.get? b=some o->H b=none->H' b=none)(tups:∀b xs,H b=some (.tup xs)->H' b=some (.tup xs))(frzs:∀b o u,H b=some (.frz o u)->H' b=some (.frz o u))
  (tbls:∀b ps,H b=some (.tbl ps)->∃more,H' b=some (.tbl (ps++more)))(hok:HOk X.prog X.w H' Bh)(hE:E (.ref C) none H'):
  CXE X.prog X.w X.outer X.H₀ X.s₀ E (.ref e) s':=by
 have nb:∀b o,X.s₀.heap.get? b=some o->b∉X.fs->b∉frs X.stack:=fun b o q n z=>by
  rw[hst]at z;unfold frs at z;rw[Jg,hfr]at z
  rcases Qr.mp z with z|z
  ·exact absurd (Qp q) (Nat.not_lt.mpr (by rw[z];exact I.ok.above))
  ·exact n z
 have nx:∀b,b∉X.ex:=fun b z=>by rw[hex]at z;cases z
 refine⟨e,t,C,H',Bh,rfl,os.trans I.os,bare,fly,⟨fun b o q n hb _=>?_,fun b o q n hb _=>?_,fun b o q n _=>?_,fun b o q _=>?_,fun b xs q=>tups b xs (I.base.tups b xs q),fun b o u q=>frzs b o u (I.base.frzs b o u q),fun b ps q=>?_⟩,hok,fun b o q n hb=>?_,fun b o q hb=>?_,hE⟩
 ·exact fly.1 b o (kept b o (I.base.keep b o q n hb (nx b)) (I.base.free b o q n (nx b)) (nb b o q hb))
 ·obtain⟨sl,q1⟩:=I.base.slot b o q n hb (nx b)
  obtain⟨sl',q2⟩:=slots b _ q1 (I.base.free b o q n (nx b)) hb;exact⟨sl',q2⟩
 ·obtain⟨o',q1⟩:=I.base.there b o q (nx b)
  exact free b o' q1 (I.base.free b o q n (nx b))
 ·obtain⟨o',q1⟩:=I.base.there b o q (nx b)
  by_cases hb:b∈X.fs
  ·obtain⟨sl,q2⟩:=slots b _ q1 (I.base.free b o q (I.ok.frf b hb) (nx b)) hb
   exact⟨_,q2⟩
  ·obtain⟨o2,q2⟩:=thr b o' q1 (nb b o q hb)
   exact⟨o2,fly.1 b o2 q2⟩
 ·obtain⟨m1,e1⟩:=I.base.tbls b ps q
  obtain⟨m2,e2⟩:=tbls b _ e1;exact⟨m1++m2,by rw[e2,Xk]⟩
 ·exact kept b o (I.base.keep b o q n hb (nx b)) (I.base.free b o q n (nx b)) (nb b o q hb)
 ·obtain⟨o',q1⟩:=I.base.there b o q (nx b)
  exact thr b o' q1 (nb b o q hb)
structure XOk(X:Cx)(E:XK):Prop where
 pass:a4F (CXE X.prog X.w) X E
 made:∀(pins:OX) (σ:St) (H:Hp) (s:Shared) (h':Heap) (e C:Addr) (vs:List Value),Inv X pins σ H s->Heap.MadeExcOf s.heap h' e (.ref C) vs->E (.ref C) none H->X.xe (.ref e) {s with heap:=h'}
end
theorem b9P{f:Addr}{cd:Value}{outer:List Env}{s₀:Shared}{H₀:Hp}{E:XK}:
  XOk (u4_ (CXE P w) P w K mg base N qual scope f cd A outer s₀ H₀ E) E:=by
 refine⟨fun pins σ H s ev s' I h=>?_,fun pins σ H s h' e C vs I hm hE=>?_⟩
 ·obtain⟨e,t,C,H',Bh,rfl,os,bare,fly,un,hok,kept,thr,hE⟩:=h
  refine wpAny_leaves_onW (L:=s₀.heap.objs.size) I.ok.frames rfl fly fun h2 fly2 ups=>?_
  refine a6z (X:=u4_ (CXE P w) P w K mg base N qual scope f cd A outer s₀ H₀ E) rfl rfl rfl I os bare fly2 kept thr (fun b o q n hb=>?_) (fun b o q n=>un.free b o q n (by simp)) un.tups un.frzs un.tbls hok hE
  obtain⟨sl,q1⟩:=un.any q n (by simp)
  obtain⟨_,o1,g1,g2⟩:=I.funs.mem hb;rw[q]at g1;cases g1;obtain⟨sl2,q2⟩:=ups b _ q1 g2;exact⟨sl2,q2⟩
 ·have hst:=I.stack
  have hmem:∀{b:Addr},b∈frs (u4_ (CXE P w) P w K mg base N qual scope f cd A outer s₀ H₀ E).stack->H b=none:=fun{b} hb=>I.stkFree b hb
  refine wpAny_leaves_madeW (L:=s₀.heap.objs.size) (base:=PySem.W.hideAll s.heap (frs (u4_ (CXE P w) P w K mg base N qual scope f cd A outer s₀ H₀ E).stack)) (h:=s.heap) I.ok.frames rfl (fun b o q=>PySem.W.of_hideAll _ q)
   (PySem.W.funFrames_hide hst fun env he b hb=>Xw.mpr ⟨env,he,hb⟩) hm fun h2 t fly _ hn ups=>?_
  refine a6z (X:=u4_ (CXE P w) P w K mg base N qual scope f cd A outer s₀ H₀ E) (s:=s) (s':={s with heap:=h2}) rfl rfl rfl I rfl I.bare fly (fun b o q _ hb=>Jm _ q hb) (fun b o q hb=>⟨o,Jm _ q hb⟩) (fun b o q n hb=>?_) (fun b o q n=>n) (fun _ _ q=>q) (fun _ _ _ q=>q) (fun b ps q=>⟨#[],by rw[q];simp⟩) ?_ hE
  ·obtain⟨_,o1,g1,g2⟩:=I.funs.mem hb
   rw[q]at g1;cases g1;obtain⟨sl2,q2⟩:=ups b _ (hm.keeps b o q) g2;exact⟨sl2,q2⟩
  ·exact b2E (P:=P) (w:=w) I.hok fun b u o q1 q2=>Jm _ q2 fun z=>by rw[hmem z]at q1;cases q1
theorem PS.nox{st:Stmt}{t:TS}(h:PS X.nox st t):PS X st t:=fun pins s σ H D I hw=>
 Qt (h pins s σ H D (I.wish _) hw) (fun _ _ q=>q.unwish) fun _ _ z=>False.elim z
theorem PA.nox{t:TA}(h:PA X.nox es t):PA X es t:=fun pos pins s σ H Q I hw=>
 Qt (h pos pins s σ H Q (I.wish _) hw) (fun _ _ ⟨v,H',I',r,q⟩=>⟨v,H',I'.unwish,r,q⟩) fun _ _ z=>False.elim z
def vmro:List Value:=[.type "ValueError",.type "Exception",.type "BaseException",.type "object"]
def a2O(K:Qz)(n:Str):Bool:=match PySem.W.nsIn K mainGlobals n with
 |some (some (.ref C))=>PySem.W.excIn K C vmro "ValueError.__new__"
 |_=>false
theorem b2F{n:Str}(h:a2O K n=true):∃C,PySem.W.nsIn K mainGlobals n=some (some (.ref C))/\PySem.W.excIn K C vmro "ValueError.__new__"=true:=by
 unfold a2O at h;split at h
 ·rename_i C hC;exact⟨C,hC,h⟩
 ·cases h
theorem b9Q{h₀:Heap}{bmB:List Value}{newId:String}(X:K.In h₀)(G:h₀.Ns mainGlobals mg)(e:PySem.W.nsIn K mainGlobals x=some (some (.ref C)))(q:PySem.W.excIn K C bmB newId=true):OwnCls x C bmB newId mg h₀:=by
 refine⟨Xf X G e,?_⟩;unfold PySem.W.excIn at q;split at q
 ·rename_i dd cd sl ho
  split at q
  ·rename_i C' bm k0 k1 k2 k3 n k5 hm hs
   simp only[Qw,Ye,Xm]at q;obtain⟨⟨⟨⟨⟨rfl,rfl⟩,hdel⟩,ht⟩,hok⟩,hni⟩:=q;obtain⟨nm,bs,mro,ns,qn,hd,sn,sub,ab,col,del⟩:=cd;dsimp only at hm hdel hok hni;subst hm hdel;have hsl:sl= #[k0,k1,k2,k3,some (.builtin n),k5]:=by
    obtain⟨l⟩:=sl;simp only at hs;rw[hs]
   subst hsl;exact⟨bm,ns,nm,qn,bs,hd,sn,sub,ab,col,dd,k0,k1,k2,k3,k5,_,X _ _ ho,.of_isNs (PySem.W.isNs_of_in X hok),PySem.W.nsMap_none_of_in X hok hni,PySem.W.tail_of_in X ht⟩
  ·cases q
 ·cases q
abbrev Mx:=Env'->Option Str
section
variable(K:Qz)(B:OA)(E:XK)
def XW(G:Hp)(σ:St)(env:Env')(H:Hp)(n:Str):Prop:=∃C,PySem.W.nsIn K mainGlobals n=some (some (.ref C))/\∀σ' G' env' H',Ev K B G σ env H G' σ' env' H'->E (.ref C) none H'
def TX(m:Mx)(σ:St)(H:Hp):Prop:=∃G env n,Rel K B G σ env H/\m env=some n/\XW K B E G σ env H n
end
theorem XW.after{E:XK}{G1:Hp}{σ1:St}{env1:Env'}{H1:Hp}{n:Str}(w:XW K B E G σ env H n)(ev:Ev K B G σ env H G1 σ1 env1 H1):XW K B E G1 σ1 env1 H1 n:=by
 obtain⟨C,h,k⟩:=w;exact⟨C,h,fun σ' G' env' H' ev2=>k σ' G' env' H' (ev.trans ev2)⟩
def EDx(X:Cx)(B:OA)(E:XK)(e:Expr)(m:Mx):Prop:=PE X e fun σ H _=>TX X.K B E m σ H
def ETx(X:Cx)(B:OA)(E:XK)(e:Expr)(m:Mx):Prop:=PT X e fun σ H _=>TX X.K B E m σ H
def EAx(X:Cx)(B:OA)(E:XK)(es:List Expr)(m:Mx):Prop:=PA X es fun σ H _=>TX X.K B E m σ H
def ESx(X:Cx)(B:OA)(E:XK)(st:Stmt)(m:Mx):Prop:=PS X st fun _ σ H=>TX X.K B E m σ H
def a2P(X:Cx)(B:OA)(E:XK)(st:List Stmt)(m:Mx):Prop:=PSs X st fun _ σ H=>TX X.K B E m σ H
def xNo:Mx:=fun _=>none
def xOr(x y:Mx):Mx:=fun env=>match x env with
 |some n=>some n
 |none=>y env
def a1H(x:Mx)(s:Mo Fl)(y:Mx):Mx:=fun env=>match x env with
 |some n=>some n
 |none=>match s env with
  |some (.nx,env1)=>y env1
  |_=>none
def xIf(t:Mo Bool)(x y:Mx):Mx:=fun env=>(t env).bind fun p=>if p.1 then x p.2 else y p.2
section
variable{E:XK}{st:Stmt}{rest:List Stmt}{x1 x2:Mx}{s1:Mo Fl}
theorem a5b:ESx X B E st xNo:=fun _ _ _ _ _ _ ⟨_,_,_,_,e,_⟩=>nomatch e
theorem a8q:a2P X B E [] xNo:=fun _ _ _ _ _ _ ⟨_,_,_,_,e,_⟩=>nomatch e
theorem a4a(h1:ESx X B E st x1)(n1:ES X B st s1)(h2:a2P X B E rest x2):a2P X B E (st::rest) (a1H x1 s1 x2):=by
 intro pins s σ H D I ⟨G,env,n,rl,e,w⟩;unfold a1H at e;cases q:x1 env with
 |some m=>
  rw[q]at e;cases e;exact a3e h1 b0T pins s σ H D I ⟨G,env,_,rl,q,w⟩
 |none=>
  rw[q]at e;dsimp only at e;split at e
  ·rename_i env1 q1
   exact a3e n1 h2 pins s σ H D I ⟨G,env,.nx,env1,rl,q1,fun σ1 G1 H1 ev=>⟨G1,env1,n,ev.rel,e,w.after ev⟩⟩
  ·cases e
theorem a3s(h1:ESx X B E st x1):a2P X B E [st] x1:=by
 intro pins s σ H D I h;exact a3e h1 b0T pins s σ H D I h
theorem a8r{c:Expr}{s t:List Stmt}{tc:Mo Bool}(hc:ET X B c tc)(h1:a2P X B E s x1)(h2:a2P X B E t x2):ESx X B E (.If c s t pos) (xIf tc x1 x2):=by
 intro pins sh σ H D I ⟨G,env,n,rl,e,w⟩;obtain⟨⟨b1,env1⟩,e1,e2⟩:=q2_ e;dsimp only at e2;refine b0R hc h1 h2 pins sh σ H D I ⟨G,env,b1,env1,rl,e1,fun G1 H1 ev=>?_⟩
 cases b1 with
 |true=>simp only[Zy]at e2 ⊢;exact⟨G1,env1,n,ev.rel,e2,w.after ev⟩
 |false=>simp only[Zq,Yj]at e2 ⊢;exact⟨G1,env1,n,ev.rel,e2,w.after ev⟩
theorem a6A(h:EDx X B E e x1)(hsw:swapsWith e none pos.line X.env=pure false:=by rfl):ESx X B E (.Expr e pos) x1:=fun pins s σ H D I q=>a5M h hsw pins s σ H D I q
def a8s(n:Str)(ms:Mo (List D)):Mx:=fun env=>(ms env).bind fun p=>if p.1.length≤1000 then some n else none
theorem a8t{n:Str}{np:Pos}(hx:XOk X E)(hc:X.calm=true)(ho:a2O X.K n=true)(hg:Gl X n)(ha:EDs X B (e::es) ms)
  (he:starEach (e::es) X.env=(false,eval e X.env)::starEach es X.env:=by rfl)(hpl:(backTo cpos (starEach es X.env)).any (·.1)=false:=by rfl)(hd:(n==("__debug__":Str))=false:=by decide):
  ESx X B E (.Raise (some (.Call (.Name n np) (e::es) [] cpos)) none pos) (a8s n ms):=by
 intro pins s σ H D I ⟨G,env,c,rl,em,w⟩;obtain⟨⟨ds,env1⟩,e1,e2⟩:=q2_ em;dsimp only at e2;split at e2
 ·rename_i hl
  cases e2;obtain⟨C,hC,hw⟩:=w;obtain⟨C',hC',hex⟩:=b2F ho;rw[hC]at hC';cases hC';have O:=b9Q I.mod.kin I.mod.glob hC hex;obtain⟨tl,N,nm,q,bs,hdct,sn,sub,ab,col,dd,k0,k1,k2,k3,k5,mN,hCo,hN,hni,T⟩:=O.obj;refine wpAny_Raise_call_subU (C:=C) (nm:=nm) (q:=q) (N:=N) (bs:=bs) (bm:=tl) (hdct:=hdct) (sn:=sn) (sub:=sub) (ab:=ab) (col:=col) (dd:=dd) (k0:=k0) (k1:=k1) (k2:=k2) (k3:=k3) (k5:=k5)
   PySem.F.excBase_ValueError (by decide+kernel) PySem.F.excBase_ValueError (mN:=mN) (T.hasType PySem.F.excBase_ValueError.hasBase) (I.ok.hd hc) (by rw[he];show(false||(backTo cpos (starEach es X.env)).any (·.1))=false;rw[hpl];rfl) hni (a3K I hg O.bound ⟨rfl,?_⟩ hd)
  have h1:=ha cpos pins s σ H (fun vs H1=>vs.length≤sizeLine/\E (.ref C) none H1) I ⟨G,env,ds,env1,rl,e1,fun vs G1 H1 ev r=>⟨by rw[r.length];exact Uz (a5Q hl),hw σ G1 env1 H1 ev⟩⟩
  rw[he]at h1 ⊢;refine Calls.evalArgs_plain (Qt h1 (fun us s2 ⟨vs,H2,I2,r2,q1,q2⟩=>⟨rfl,by rw[←r2.length];exact q1,I2.bk _ _ hCo,hN.keeps I2.bk,T.keeps I2.bk,fun h' e hm=>?_⟩) fun _ _ y=>y)
  exact hx.made pins σ H2 s2 h' e C us I2 hm q2
 ·cases e2
def SpX(K:Qz)(n:Nat)(g:List W->Option Str):Sp:=fun vs H _ E=>∃G ws c C,ws.length=n/\a4S ws/\Rel K u6_ G (vs.map some) ws H/\g ws=some c/\PySem.W.nsIn K mainGlobals c=some (some (.ref C))/\
 ∀G' ws' H',Ev K u6_ G (vs.map some) ws H G' (vs.map some) ws' H'->E (.ref C) none H'
structure DefX(P:Program)(w:World)(K:Qz)(mg:OU)(base:Heap)(x:Str)(k n:Nat)(g:List W->Option Str):Prop where
 ex:∃(f:Addr) (fd:FuncData) (ps:List Str),FnOk P w K mg base (CXE P w) k f fd ps (SpX K n g)/\ps.length=n/\mg x=some (.ref f)/\PySem.W.keepIn K (.ref f)=true/\a0M K fd ps []
def a0f(n:Nat)(g:List W->Option Str)(as:Mo (List Ar)):Mx:=fun env=>(as env).bind fun p=>if p.1.length=n then(match slots p.1 with
 |[]=>g (p.1.map (a0d (.l [])))
 |_=>none)else none
theorem a2p{g:List W->Option Str}(hx:XOk X E)(Df:DefX X.prog X.w X.K X.mg X.base x k n g)(hr:Room k X.A)(hg:Gl X x)(ha:EAr X B (e::es) as)(hdb:(x==("__debug__":Str))=false:=by decide)
  (he:starEach (e::es) X.env=(false,eval e X.env)::starEach es X.env:=by rfl)(hpl:(backTo pos (starEach es X.env)).any (·.1)=false:=by rfl):
  EDx X B E (.Call (.Name x p) (e::es) [] pos) (a0f n g as):=by
 obtain⟨f,fd,ps,F,rfl,hm,hk,hb⟩:=Df.ex;intro pins s σ H Q I ⟨G,env,c,rl,em,C,hC,w⟩;refine a4G F hr hg hm hk hb .nil hx.pass ha hdb he hpl pins s σ H Q I ?_
 obtain⟨⟨av,env1⟩,e1,e2⟩:=q2_ em;dsimp only at e2;split at e2
 ·rename_i hn
  split at e2
  ·rename_i hs
   refine⟨G,env,av,env1,rl,e1,fun vs G1 H1 ev ra=>?_⟩
   show SpX X.K ps.length g (vs++[]) H1 Q E;rw[Yh];exact⟨G1,av.map (a0d (.l [])),c,C,by rw[Qv];exact hn,a7Y,a7Z (i:=0) (w:=.nil) ev.rel ra (fun k j e=>absurd e (a2I hs k j)) (fun k k' j j' e=>absurd e (a2I hs k j)),e2,hC,
    fun G2 ws' H2 ev2=>w σ G2 env1 H2 (ev.trans (a8a ev.rel ra hs ev2))⟩
  ·cases e2
 ·cases e2
end
def fnX(N:Nat)(mx:Mx):List W->Option Str:=fun ws=>mx (ws++List.replicate (N-ws.length) .nil)
theorem a6B{st:Stmt}{f:Addr}{mx:Mx}(F:Fun K x qual st f fd)(S:FnScope N ps (y2_ st))
  (hb:∀(cdv:Value) (A:Around) (outer:List Env) (s:Shared) (H:Hp) (E:XK),Room k (A.deeper (envOfC qual (y2_ st) s.heap.objs.size f cdv))->
   a2P (u4_ (CXE P w) P w K mg base N qual (y2_ st) f cdv A outer s H E) (fun b=>H b≠none) E (a1n st) mx):FnOk P w K mg base (CXE P w) (k+1) f fd ps (SpX K ps.length (fnX N.length mx)):=by
 have hpl:ps.length≤N.length:=by have:=Zc List.length S.pre;rw[Yk]at this;omega
 obtain⟨oc,od,kV,doc,pm,an,cdv,ct,osl,rfl,lk,hcd⟩:=F.ex;refine a7C lk hcd S (fun vs H Q E h=>?_) fun A outer s H vs Q E hr h=>?_
 ·obtain⟨G,ws,c,C,hl,ok,rl,_⟩:=h
  have:=rl.len;rw[Qv]at this;omega
 ·obtain⟨G,ws,c,C,hl,ok,rl,e,hC,k⟩:=h
  have hv:ws.length=vs.length:=by have:=rl.len;rwa [Qv]at this
  exact⟨_,hb cdv A outer s H E hr,G,_,c,a7V (N:=N) rl ok (by omega),e,C,hC,fun σ' G' env' H' ev=>k G' (a1b ws env') H' (a3j rl ok (by omega) ev)⟩
open PySem.W Builtin Builtin.ObjectAttr Builtin.Getset_descriptor PySem.Calls
def a0H(e C:Addr)(h:Heap):Prop:=∃o,h.get? e=some o/\o.cls=.ref C
theorem a0H.type{e:Addr}(p:a0H e C h):Looks M h (typeOf (.ref e)) (.ref C):=by
 obtain⟨o,h1,h2⟩:=p;exact h2 ▸ (Looks.ld h1).andThen .now
section
variable{K:Frag}{x:Addr}{g:Array GenState}{d:Drawn}{t:Nat}{os:OsState}
theorem b9R{R:Result->Shared->Prop}{tp:Value}(X:K.In h)(I:a0H x C h)(hm:mroIn K C (.type "object")=some true)
  (hq:R (.ok (.ret (.ref C))) ⟨h,g,d,t,os⟩):codeAny (model prog w) A (.call (.builtin "getset_descriptor.__get__") ⟨[.builtin "object.__class__",.ref x,tp],[]⟩) R ⟨h,g,d,t,os⟩:=by
 have L0:=I.type (M:=model prog w)
 have L1:=looks_mroIn (M:=model prog w) X hm
 refine codeAny_call_builtin KF.slot_gs.plain KF.entry_gs (KF.slot_gs.check _ _ _ _ _ _ _ _ KF.type_class (KF.args_gs _ _ _) ?_);unfold Builtin.«getset_descriptor.__get__» descrGet;rw[dga_obj];refine Qq (Qk ?_);unfold descrGetter descrCheckInstance descrNameAndClass isInstance;simp only[KF.owner_class]
 repeat (first|with_reducible refine L0.at ?_|with_reducible refine L1.at ?_|wp_step)
 refine⟨Code.quiet_builtin _ (by decide+kernel),codeAny_builtin KF.entry_class ?_⟩
 unfold Builtin.«object.__class__» shownTypeOf
 repeat (first|with_reducible refine L0.at ?_|with_reducible refine L1.at ?_|wp_step)
 exact hq
theorem b9S(X:K.In h)(I:a0H x C h)(ha:findIn K (.ref C) "__class__"=some (some (.builtin "object.__class__")))
  (hn:specialIn K (.builtin "object.__class__") "__get__"=some (some (.builtin "getset_descriptor.__get__")))(htk:takesIn K (.builtin "object.__class__")=some true)(M:Model):
  Looks M h (find (.ref x) (.ref C) "__class__") (.bind (.builtin "getset_descriptor.__get__") (.builtin "object.__class__")):=by
 have L1:=looks_findIn (M:=M) X ha
 have L2:Looks M h (getOf (some (.builtin "object.__class__"))) (some (.builtin "getset_descriptor.__get__")):=looks_specialIn X hn
 have L3:=looks_takesIn (M:=M) X htk
 exact L1.andThen (L2.andThen ((show Looks M h (dataDescriptor? (some (.builtin "object.__class__")) (some (.builtin "getset_descriptor.__get__"))) (some (.builtin "getset_descriptor.__get__",.builtin "object.__class__"))from L3.andThen .now).andThen (Looks.tag .now)))
theorem b9T{Q:Fin->Shared->Prop}(X:K.In h)(I:a0H x C h)(hm:mroIn K C (.type "object")=some true)(ha:findIn K (.ref C) "__class__"=some (some (.builtin "object.__class__")))
  (hn:specialIn K (.builtin "object.__class__") "__get__"=some (some (.builtin "getset_descriptor.__get__")))(htk:takesIn K (.builtin "object.__class__")=some true)(hq:Q (.done (.ret (.ref C))) ⟨h,g,d,t,os⟩):
  wpAny (model prog w) A (Builtin.«object.__getattribute__» ⟨[.ref x,.str "__class__" tk],[]⟩) Q E ⟨h,g,d,t,os⟩:=by
 have L0:=I.type (M:=model prog w)
 have L1:=b9S X I ha hn htk (model prog w)
 unfold Builtin.«object.__getattribute__»
 repeat (any_goals (first|assumption|with_reducible refine L0.at ?_|with_reducible refine L1.at ?_|wp_step))
 refine b9R X I hm ?_
 repeat (any_goals (first|assumption|wp_step))
theorem b9U{nameV:Value}{Q:Unit->Shared->Prop}(X:K.In h)(I:a0H x C h)(hm:mroIn K C (.type "BaseException")=some true)(hq:Q () ⟨h,g,d,t,os⟩):
  wpAny M A (checkBuiltinCall "BaseException.__getattribute__" ⟨[.ref x,nameV],[]⟩) Q E ⟨h,g,d,t,os⟩:=by
 have hk:builtinKind "BaseException.__getattribute__"=some .slot:=by decide+kernel
 have hsplit:splitId "BaseException.__getattribute__"=some ("BaseException","__getattribute__"):=by decide+kernel
 have L0:=I.type (M:=M)
 have L1:=looks_mroIn (M:=M) X hm
 have ha:=F.args_bexc_ga (.ref x) nameV
 simp only[checkBuiltinCall,hk,hsplit];refine Qq ?_
 unfold isInstance
 repeat (first|with_reducible refine L0.at ?_|with_reducible refine L1.at ?_|wp_step)
 exact hq
theorem b9V{fill expr:Bool}(X:K.In h)(I:a0H x C h)(hmB:mroIn K C (.type "BaseException")=some true)(hm:mroIn K C (.type "object")=some true)(ha:findIn K (.ref C) "__class__"=some (some (.builtin "object.__class__")))
  (hn:specialIn K (.builtin "object.__class__") "__get__"=some (some (.builtin "getset_descriptor.__get__")))(htk:takesIn K (.builtin "object.__class__")=some true)
  (hga:findIn K (.ref C) "__getattribute__"=some (some (.builtin "BaseException.__getattribute__")))(hno:findIn K (.ref C) "__getattr__"=some none)(hq:Q (.ref C) ⟨h,g,d,t,os⟩):
  wpAny (model prog w) A (getAttrBy (.ref x) (.str "__class__" tk) fill expr) Q E ⟨h,g,d,t,os⟩:=by
 have L0:=I.type (M:=model prog w)
 have L1:=looks_findIn (M:=model prog w) X hga
 have L2:=looks_findIn (M:=model prog w) X hno
 have f3:=F.attrBase_ValueError.ga.bind (.ref x)
 have hx0:(expr&&onTheHeap (Value.builtin "BaseException.__getattribute__"))=false:=by cases expr<;>rfl
 have hx2:(Value.builtin "BaseException.__getattribute__"==Value.builtin "object.__getattribute__")=false:=by decide+kernel
 have hx1:(onTheHeap (Value.ref C)&&Value.builtin "BaseException.__getattribute__"==Value.builtin "object.__getattribute__")=false:=by rw[hx2];rfl
 repeat (any_goals (first|assumption|with_reducible refine L0.at ?_|with_reducible refine L1.at ?_|with_reducible refine L2.at ?_|wp_step))
 refine codeAny_call_builtin F.attrBase_ValueError.ga.plain F.entry_bexc_ga (b9U X I hmB (b9T X I hm ha hn htk ?_))
 repeat (any_goals (first|assumption|wp_step))
theorem b9W{Q:Option Value->Shared->Prop}(X:K.In h)(I:a0H x C h)(hmB:mroIn K C (.type "BaseException")=some true)(hm:mroIn K C (.type "object")=some true)(ha:findIn K (.ref C) "__class__"=some (some (.builtin "object.__class__")))
  (hn:specialIn K (.builtin "object.__class__") "__get__"=some (some (.builtin "getset_descriptor.__get__")))(htk:takesIn K (.builtin "object.__class__")=some true)
  (hga:findIn K (.ref C) "__getattribute__"=some (some (.builtin "BaseException.__getattribute__")))(hno:findIn K (.ref C) "__getattr__"=some none)(hq:Q (some (.ref C)) ⟨h,g,d,t+1,os⟩):
  wpAny (model prog w) A (getAttr? (.ref x) "__class__") Q E ⟨h,g,d,t,os⟩:=by
 unfold getAttr? getAttrBy?
 repeat (any_goals (first|assumption|with_reducible apply b9V X I hmB hm ha hn htk hga hno|wp_step))
end
def b9X:List String:=["tuple","list","int","bool","str"]
def a1x(K:Frag)(C:Addr):Bool:=
 (mroIn K C (.type "BaseException")==some true)&&((mroIn K C (.type "object")==some true)&&((findIn K (.ref C) "__class__"==some (some (.builtin "object.__class__")))&&((specialIn K (.builtin "object.__class__") "__get__"==some (some (.builtin "getset_descriptor.__get__")))&&
 ((takesIn K (.builtin "object.__class__")==some true)&&((findIn K (.ref C) "__getattribute__"==some (some (.builtin "BaseException.__getattribute__")))&&((findIn K (.ref C) "__getattr__"==some none)&&((clsIn K C).isSome&&((kitOne K (.ref C) (.type "ValueError")==some true)&&b9X.all fun T=>kitOne K (.ref C) (.type T)==some false))))))))
theorem b9Y{K:Frag}{e:Addr}(h:a1x K C=true):KitX K (.ref e) (.ref C) (a0H e C):=by
 unfold a1x at h;simp only[Qw,Ye]at h;obtain⟨h1,h2,h3,h4,h5,h6,h7,h8,_,_⟩:=h;obtain⟨cdD,hcD⟩:=Yq.mp h8;refine⟨fun _ _ _ p=>p.type,fun _ _ X _=>?_,fun h tp dd its n sl X htp=>?_,fun{prog w A E Q s} X I k=>?_⟩
 ·unfold clsIn at hcD
  split at hcD
  ·rename_i c' d' cd' sl' ho
   intro A' Q' E' s' k q;unfold isType loadHead;exact Qq (wpAny_loadPart (k _ _ (X _ _ ho)) (Qk q))
  ·cases hcD
 ·refine Bool.eq_false_iff.mpr fun q=>?_
  have e:C=tp:=Value.ref.inj (Ye.mp q)
  subst e;unfold clsIn at hcD;split at hcD
  ·rename_i c' d' cd' sl' ho
   have z:=(X _ _ ho).symm.trans htp
   cases z
  ·cases hcD
 ·obtain⟨hh,g,d,t,os⟩:=s
  exact b9W X I h1 h2 h3 h4 h5 h6 h7 k
theorem b9Z{K:Frag}(h:a1x K C=true):b1B K (.ref C):=by
 unfold a1x at h;simp only[Qw]at h;obtain⟨_,_,_,_,_,_,_,_,_,h9⟩:=h;intro T hT;have:=Qb.mp h9 T hT
 simpa using this
theorem c0a{K:Frag}(h:a1x K C=true):kitOne K (.ref C) (.type "ValueError")=some true:=by
 unfold a1x at h;simp only[Qw]at h;obtain⟨_,_,_,_,_,_,_,_,h9,_⟩:=h
 simpa using h9
def a1W(K:Frag)(S:Str)(names:List Str):Bool:=names.all fun n=>a2O K n&&match nsIn K mainGlobals n with
 |some (some (.ref C))=>a1x K C&&((match nsIn K mainGlobals S with
   |some (some (.ref D))=>mroIn K C (.ref D)==some true&&(a2O K S&&a1x K D)
   |_=>false)&&names.all fun m=>match nsIn K mainGlobals m with
   |some (some (.ref D))=>kitOne K (.ref C) (.ref D)==some (n==m)
   |_=>false)
 |_=>false
structure ExcF(K:Frag)(S:Str)(names:List Str)(n:Str)(C:Addr):Prop where
 nm:nsIn K mainGlobals n=some (some (.ref C))
 one:a2O K n=true
 kit:a1x K C=true
 sub:∃D,nsIn K mainGlobals S=some (some (.ref D))/\mroIn K C (.ref D)=some true/\a2O K S=true/\a1x K D=true
 pair:∀m∈names,∃D,nsIn K mainGlobals m=some (some (.ref D))/\kitOne K (.ref C) (.ref D)=some (n==m)
theorem a4b{K:Frag}{S:Str}{names:List Str}(h:a1W K S names=true){n:Str}(hn:n∈names):∃C,ExcF K S names n C:=by
 have q:=Qb.mp h n hn
 simp only[Qw]at q;obtain⟨h1,h2⟩:=q;split at h2
 ·rename_i C hC
  simp only[Qw]at h2;obtain⟨h3,h4,h5⟩:=h2;split at h4
  ·rename_i D hD
   simp only[Qw,Ye]at h4;refine⟨C,hC,h1,h3,⟨D,hD,h4.1,h4.2.1,h4.2.2⟩,fun m hm=>?_⟩
   have:=Qb.mp h5 m hm;split at this
   ·rename_i D' hD'
    exact⟨D',hD',by simpa using this⟩
   ·cases this
  ·cases h4
 ·cases h2
def a0T(names:List Str)(m:Str)(ma:Mo D):Mo D:=fun env=>(ma env).bind fun p=>match p.1 with
 |.obj (.exc n)=>if names.contains n then some (.bl (n==m),p.2)else none
 |_=>none
def b2G(names:List Str)(ma:Mo D):Mo D:=fun env=>(ma env).bind fun p=>match p.1 with
 |.obj (.exc n)=>if names.contains n then some (.bl true,p.2)else none
 |_=>none
section
variable{S m:Str}{names:List Str}
theorem a0U(hx:a1W X.K S names=true)(hm:m∈names)(ha:ED X B a ma)(hg:Gl X "isinstance")(hi:X.mg "isinstance"=none)(hgm:Gl X m)(hdm:(m==("__debug__":Str))=false:=by decide)
  (he:starEach [a,.Name m p2] X.env=[(false,eval a X.env),(false,eval (.Name m p2) X.env)]:=by rfl):ED X B (.Call (.Name "isinstance" p) [a,.Name m p2] [] pos) (a0T names m ma):=by
 obtain⟨C0,F0⟩:=a4b hx hm;intro pins0 s0 σ0 H0 Q0 I0;have hT:PE X (.Name m p2) (tC (.ref C0)):=b0P hgm (Xf I0.mod.kin I0.mod.glob F0.nm) rfl hdm;have hc:j8_ X (.builtin "isinstance") (fun xs H Q=>∃x G n,xs=[x,.ref C0]/\Le G H/\Rep X.K G x (.obj (.exc n))/\n∈names/\Q (.bl (n==m)) H):=by
  intro pins s σ H xs us Q I r h;obtain⟨x,G,n,rfl,l,rp,hn,q⟩:=h;obtain⟨u,w',rfl,r1,r2⟩:=a2e r;cases r2;simp only[Rep]at rp;obtain⟨e,C,HP,rfl,h2,h3,h4,h5⟩:=rp;cases r1;obtain⟨C',F⟩:=a4b hx hn;have:=F.nm;rw[h2]at this;cases this;obtain⟨D,hD,hk⟩:=F.pair m hm;have:=F0.nm;rw[hD]at this;cases this;exact Zm h4 I.kIn (I.hok e _ (l _ _ h3)).1 hk (fun z=>nomatch z) fun tk=>⟨.bl _,H,I.tok _,rfl,q⟩
 refine pe_imp (a4H (pos:=pos) (p:=p) hc hg hi (by decide+kernel) (a0g ha (a0g hT a1l) he) (he:=he)) ?_ pins0 s0 σ0 H0 Q0 I0
 rintro σ H Q ⟨G,env,d,env',rl,e,k⟩;obtain⟨⟨d1,env1⟩,e1,e2⟩:=q2_ e;dsimp only at e2;split at e2
 ·rename_i n
  split at e2
  ·rename_i hn
   cases e2;exact .bind rl e1 fun v G1 H1 ev r=>⟨v,G1,n,rfl,ev.rel.sub,r,by simpa using hn,k _ G1 H1 ev (by simp only[Rep])⟩
  ·cases e2
 ·cases e2
theorem b2H(hx:a1W X.K S names=true)(ha:ED X B a ma)(hg:Gl X "isinstance")(hi:X.mg "isinstance"=none)(hgm:Gl X "ValueError")(hmv:X.mg "ValueError"=none)
  (he:starEach [a,.Name "ValueError" p2] X.env=[(false,eval a X.env),(false,eval (.Name "ValueError" p2) X.env)]:=by rfl):ED X B (.Call (.Name "isinstance" p) [a,.Name "ValueError" p2] [] pos) (b2G names ma):=by
 have hT:PE X (.Name "ValueError" p2) (tC (.ty "ValueError")):=a5L hgm hmv PyProof.Rows.Boot.«ValueError» rfl
 have hc:j8_ X (.builtin "isinstance") (fun xs H Q=>∃x G n,xs=[x,.ty "ValueError"]/\Le G H/\Rep X.K G x (.obj (.exc n))/\n∈names/\Q (.bl true) H):=by
  intro pins s σ H xs us Q I r h;obtain⟨x,G,n,rfl,l,rp,hn,q⟩:=h;obtain⟨u,w',rfl,r1,r2⟩:=a2e r;cases r2;simp only[Rep]at rp;obtain⟨e,C,HP,rfl,h2,h3,h4,h5⟩:=rp;cases r1;obtain⟨C',F⟩:=a4b hx hn;have:=F.nm;rw[h2]at this;cases this;exact Zm h4 I.kIn (I.hok e _ (l _ _ h3)).1 (c0a F.kit) (fun z=>nomatch z) fun tk=>⟨.bl _,H,I.tok _,rfl,q⟩
 refine pe_imp (a4H (pos:=pos) (p:=p) hc hg hi (by decide+kernel) (a0g ha (a0g hT a1l) he) (he:=he)) ?_
 rintro σ H Q ⟨G,env,d,env',rl,e,k⟩;obtain⟨⟨d1,env1⟩,e1,e2⟩:=q2_ e;dsimp only at e2;split at e2
 ·rename_i n
  split at e2
  ·rename_i hn
   cases e2;exact .bind rl e1 fun v G1 H1 ev r=>⟨v,G1,n,rfl,ev.rel.sub,r,by simpa using hn,k _ G1 H1 ev (by simp only[Rep])⟩
  ·cases e2
 ·cases e2
def a4c:D->Bool
 |.non=>true
 |_=>false
def a4d:D->D->Option D
 |a,.non=>some (.bl (a4c a))
 |_,_=>none
def a6C:D->D->Option D
 |a,.non=>some (.bl (!a4c a))
 |_,_=>none
theorem b2I{K:Frag}{x:V}{a:D}(r:Rep K G x a):decide (x=.non)=a4c a:=by
 cases a with
 |non=>simp only[Rep]at r;subst r;rfl
 |bl _=>simp only[Rep]at r;subst r;rfl
 |int _=>simp only[Rep]at r;subst r;rfl
 |str _=>simp only[Rep]at r;obtain⟨r,_⟩:=r;subst r;rfl
 |tup _=>simp only[Rep]at r;obtain⟨_,_,r,_⟩:=r;subst r;rfl
 |lst _=>simp only[Rep]at r;obtain⟨_,_,r,_⟩:=r;subst r;rfl
 |emp=>simp only[Rep]at r;obtain⟨_,_,r,_⟩:=r;subst r;rfl
 |dct _ _=>simp only[Rep]at r;obtain⟨_,_,r,_⟩:=r;subst r;rfl
 |obj o=>
  simp only[Rep]at r;cases o with
  |exc n=>obtain⟨_,_,_,r,_⟩:=r;subst r;rfl
  |fn n=>obtain⟨_,r,_⟩:=r;subst r;rfl
theorem c0b:OpD X B (fun x y H Q=>y=.non/\Q (.bl (decide (x=.non))) H) a4d:=by
 intro G σ env H x y a b d Q rl ra rb e k;unfold a4d at e;split at e
 ·cases e
  simp only[Rep]at rb;subst rb;rw[b2I ra];exact⟨rfl,k _ G H (.refl rl) (by simp only[Rep])⟩
 ·cases e
theorem c0c:OpD X B (fun x y H Q=>y=.non/\Q (.bl (!decide (x=.non))) H) a6C:=by
 intro G σ env H x y a b d Q rl ra rb e k;unfold a6C at e;split at e
 ·cases e
  simp only[Rep]at rb;subst rb;rw[b2I ra];exact⟨rfl,k _ G H (.refl rl) (by simp only[Rep])⟩
 ·cases e
end
end L2.Mir
namespace L2.Mir
open PySem PySem.Spec PyProof.Rows PySem.W
variable{A:Around}{B:OA}{C a:Addr}{E:OE}{G H H':Hp}{K:Frag}{M:Model}{N N' names ps:List Str}{P:Program}{X:Cx}{base:Heap}{body:Expr}{c cd:Value}{cl:List (Str×Addr)}{env env1:Env'}{fd:FuncData}{i k kc tk:Nat}{keep:List Bool}{mg:OU}{n qual x:Str}{o:Option Str}{params:Arguments}{pins:OX}{pos:Pos}{s s₁:Shared}{scope:Scope}{ts:List Addr}{w:World}{σ σ1:St}
section
variable{σ':St}{e:Addr}{φ:Heap->Prop}
theorem c0d(I:Inv X pins σ H s)(hn:H e=none)(h0:X.s₀.heap.get? e=none)(hL:e≠X.env.locals)(hc:∀x c,X.env.cells.lookup x=some c->c≠e)(hp:∀p∈X.pn++pins,p.1≠e)
  (ph:φ s.heap)(po:∃o,s.heap.get? e=some o)(ps:∀h1 h2:Heap,φ h1->(∀o,h1.get? e=some o->h2.get? e=some o)->φ h2):Inv X pins σ (upd H e (.ext φ)) s:=by
 have ne:∀{b u},H b=some u->b≠e:=fun q z=>by rw[z,hn]at q;cases q
 refine⟨I.ok,I.os,I.bare,⟨I.base.keep,I.base.slot,fun b o q n hx=>?_,I.base.there,fun b xs q=>?_,fun b o u q=>?_,fun b ps q=>?_⟩,I.loc,I.cell,?_,fun x c q=>?_,fun p q=>?_,fun b u q=>?_,I.len⟩
 ·have hb:b≠e:=fun z=>by rw[z,h0]at q;cases q
  rw[q7_ hb];exact I.base.free b o q n hx
 ·have:=I.base.tups b xs q;rw[q7_ (ne this)];exact this
 ·have:=I.base.frzs b o u q;rw[q7_ (ne this)];exact this
 ·obtain⟨m,q'⟩:=I.base.tbls b ps q;exact⟨m,by rw[q7_ (ne q')];exact q'⟩
 ·rw[q7_ (Zn hL)];exact I.free
 ·rw[q7_ (hc x c q)];exact I.freeC x c q
 ·obtain⟨h1,h2,h3,h4,h5⟩:=I.pin p q
  exact⟨h1,by rw[q7_ (hp p q)];exact h2,h3,h4,h5⟩
 ·by_cases hb:b=e
  ·subst hb;rw[y8_]at q;cases q;exact⟨ph,po,ps⟩
  ·rw[q7_ hb]at q
   exact(I.hok b u q).stay (fun _ _ _ z=>z) (fun c z=>by rw[q7_ (ne z)];exact z) fun c xs z=>by rw[q7_ (ne z)];exact z
theorem c0e{h':Heap}{m':OU}(I:Inv X pins σ H s)(hn':h'.Ns X.env.locals m')(hs:Heap.SameBut X.env.locals s.heap h')(hl:σ'.length=σ.length)
  (hσ:∀(i:Nat) (x:Str) (v:V),X.N[i]? =some x->σ'[i]? =some (some v)->Vis X.env.scope x->∃u,y1_ v u/\b0L X.env h' m' x u):Inv X pins σ' H {s with heap:=h',toks:=tk}:=by
 have cne:=I.cne
 refine⟨I.ok,I.os,I.bare,⟨fun b o e n hb hx=>?_,fun b o e n hb hx=>?_,I.base.free,fun b o e hx=>?_,I.base.tups,I.base.frzs,I.base.tbls⟩,⟨_,hn',hσ⟩,fun y c e=>?_,I.free,I.freeC,fun p hp=>?_,fun b ob e=>?_,hl.trans I.len⟩
 ·exact(hs.2 b (Qi (Qd (Qp e) I.ok.above))).trans (I.base.keep b o e n hb hx)
 ·obtain⟨sl,e1⟩:=I.base.slot b o e n hb hx
  exact⟨sl,(hs.2 b (Qi (Qd (Qp e) I.ok.above))).trans e1⟩
 ·obtain⟨o',e1⟩:=I.base.there b o e hx
  exact⟨o',(hs.2 b (Qi (Qd (Qp e) I.ok.above))).trans e1⟩
 ·obtain⟨w',z⟩:=I.cell y c e
  exact⟨w',z.sameBut hs (cne y c e)⟩
 ·obtain⟨e,n,ne,nf,d⟩:=I.pin p hp
  exact⟨(hs.2 p.1 ne).trans e,n,ne,nf,d⟩
 ·refine(I.hok b ob e).stay (fun c w' hc q=>(hs.2 c ?_).trans q) (fun _ q=>q) fun _ _ q=>q
  rintro rfl
  rcases hc with rfl|hc
  ·rw[I.free]at e;cases e
  ·rw[I.free]at hc;cases hc
theorem c0f{Q:Unit->Shared->Prop}(I:Inv X pins σ H s)(hN:X.N.Nodup)(hi:X.N[i]? =some n)(hk:X.env.scope.names.lookup n=some .local)
  (h:∀s',Inv X pins (σ.set i none) H s'->Q () s'):wpAny M A (do bindName X.env n .none;unbindBehindTheSuite X.env n pos) Q E s:=by
 have hcls:(X.env.scope.kind==.class||(X.env.scope.kind==.module&&X.env.locals !=X.env.globals))=false:=by rw[I.ok.kind];rfl
 have hiσ:i<σ.length:=by rw[I.len];exact(Qh.mp hi).1
 refine Qq (wpAny_bindName (a3d (v:=.non) (u:=.none) I hN hi (.inl hk) rfl (fun s1 I1=>?_) (.inr hk)))
 unfold unbindBehindTheSuite;refine Vr ?_
 obtain⟨m,hn,hl⟩:=I1.loc;obtain⟨u,ru,lk⟩:=hl i n .non hi (Za hiσ) (.inl hk);have hm:m n=some u:=by
  rcases lk with⟨_,z⟩|⟨z,_⟩
  ·exact z
  ·have:X.env.kindOf n=some .local:=hk
   rcases z with z|z<;>(rw[this]at z;cases z)
 refine wpAny_unbindName_local hk hn hm hcls fun h' u' hn' hs=>?_
 obtain⟨hh,g,d,t,o⟩:=s1;refine h _ (c0e (tk:=t) I1 hn' hs (by simp) fun j y v e1 e2 e3=>?_)
 by_cases hj:j=i
 ·subst hj;rw[Za hiσ]at e2;cases e2
 ·rw[Qc (Zn hj)]at e2
  obtain⟨w,rw',q⟩:=hl j y v e1 (by rw[Qc (Zn hj)];exact e2) e3
  refine⟨w,rw',?_⟩
  rcases q with⟨k,e⟩|⟨k,c,e,z⟩
  ·refine .inl ⟨k,?_⟩
   have:y≠n:=fun e=>hj (a7k hN e1 (e ▸ hi))
   simp[this,e]
  ·exact .inr ⟨k,c,e,z.sameBut hs (I1.cne y c e)⟩
end
theorem Ev.setNone{G1:Hp}{H1:Hp}(ev:Ev K B G σ env H G1 σ1 env1 H1):Ev K B G σ env H G1 (σ1.set i none) (env1.set i .nil) H1:=by
 have e0:=ev.setNil (i:=i)
 have rl:=e0.rel
 have ne:∀(j:Nat) (w:W),(env1.set i .nil)[j]? =some w->w≠.nil->(σ1.set i none)[j]? =σ1[j]?:=fun j w q1 q2=>by
  rcases g3_ q1 with⟨_,z⟩|z
  ·exact absurd z q2
  ·exact Qc (Zn z.1)
 have nm:∀(w:W) (es:Mu),w.mut=some es->w≠.nil:=fun w es h z=>by rw[z]at h;cases h
 refine⟨⟨rl.sub,by rw[rl.len];simp,fun j d q=>?_,fun j w es q1 q2=>?_,fun j k w w' es fs b q1 q2 q3 q4 q5 q6=>?_,fun j w b q1 qo q2=>?_,rl.old,rl.tabs,rl.gnt⟩,e0.same,e0.keep,e0.live,e0.stay,fun b z=>?_,fun j w q qp=>?_,by rw[Zh];exact e0.slen⟩
 ·rw[ne j _ q (by simp)];exact rl.dat j d q
 ·rw[ne j _ q1 (nm w es q2)];exact rl.own j w es q1 q2
 ·rw[ne j _ q1 (nm w es q2)]at q5;rw[ne k _ q3 (nm w' fs q4)]at q6;exact rl.inj j k w w' es fs b q1 q2 q3 q4 q5 q6
 ·rw[ne j _ q1 (by rintro rfl;cases qo)]at q2;exact rl.fresh j w b q1 qo q2
 ·obtain⟨j,w,es,q1,q2,q3⟩:=z
  rw[ne j _ q1 (nm w es q2)]at q3;exact e0.sub b ⟨j,w,es,q1,q2,q3⟩
 ·rw[ne j _ q (by rintro rfl;cases qp)];exact e0.par j w q qp
theorem c0g{l:List Env}{h h1 h2 Bh:Heap}(un:Un (frs l) [] H H' h h1)(kept:∀b o,h.get? b=some o->H b=none->b∉frs l->Bh.get? b=some o)(thr:∀b o,h.get? b=some o->b∉frs l->∃o',Bh.get? b=some o')
  (stay:Bh.StaysIn h2)(ups:h1.UpToSlots h2)(fr:∀b∈frs l,H b=none/\∃o,h.get? b=some o/\∀vs,o.data≠.fields vs):Un (frs l) [] H H' h h2:=by
 have sl:∀b o,h.get? b=some o->b∈frs l->∃sl,h2.get? b=some {o with slots:=sl}:=fun b o q hb=>by
  obtain⟨n,o1,g1,g2⟩:=fr b hb;rw[q]at g1;cases g1;obtain⟨s1,q1⟩:=un.slot b o q n hb (by simp)
  obtain⟨s2,q2⟩:=ups b _ q1 g2;exact⟨s2,q2⟩
 exact⟨fun b o q n hb _=>stay b o (kept b o q n hb),fun b o q n hb _=>sl b o q hb,un.free,fun b o q _=>by
  by_cases hb:b∈frs l
  ·obtain⟨s1,q1⟩:=sl b o q hb;exact⟨_,q1⟩
  ·obtain⟨o',q1⟩:=thr b o q hb;exact⟨o',stay b o' q1⟩,un.tups,un.frzs,un.tbls⟩
section
variable{e Dd:Addr}{h:Heap}{g:Array GenState}{d:Drawn}{t:Nat}{os:OsState}
theorem c0h{Q:Bool->Shared->Prop}{od:Option Addr}{cd:ClassData}{sl:Array (Option Value)}(X:K.In h)(I:a0H e C h)(hsub:mroIn K C (.ref Dd)=some true)(hD:mroIn K Dd (.type "BaseException")=some true)(hk:K.lookup Dd=some ⟨.type "type",od,.cls cd,sl⟩)
  (hq:Q true ⟨h,g,d,t,os⟩):wpAny M A (excMatches (.ref e) (.ref Dd)) Q E ⟨h,g,d,t,os⟩:=by
 have L0:=I.type (M:=M)
 have L1:=looks_mroIn (M:=M) X hsub
 have L2:=looks_mroIn (M:=M) X hD
 have f:=tc_notTuple
 have hC:=X _ _ hk
 unfold excMatches
 repeat (first|with_reducible refine L0.at ?_|with_reducible refine L1.at ?_|with_reducible refine L2.at ?_|with_reducible refine wpAny_loadPart_at hC ?_|wp_step)
 exact hq
end
theorem c0i{bm:List Value}{nid:String}(h:excIn K C bm nid=true):∃od cd sl,K.lookup C=some ⟨.type "type",od,.cls cd,sl⟩:=by
 unfold excIn at h;split at h
 ·rename_i dd cd sl ho;exact⟨dd,cd,sl,ho⟩
 ·cases h
theorem c0j(h:a1x K C=true):mroIn K C (.type "BaseException")=some true:=by
 unfold a1x at h;simp only[Qw,Ye]at h;exact h.1
def a4e(a:Addr)(h:Heap):Prop:=∃o fd,h.get? a=some o/\o.data=.func fd
theorem c0k(h:Heap)(p:a4e a h):∃k,(k=Keeper.frame∨k=Keeper.machine∨k=Keeper.boundFrame)/\Looks M h (keeperOf (.ref a)) k:=by
 obtain⟨o,fd,h1,h2⟩:=p;refine⟨.frame,.inl rfl,(Looks.ld (part:=none) h1).andThen ?_⟩;rw[h2];exact .now
def a8u(X:Cx)(B:OA)(fl:Addr)(o:Option Str)(G:Hp):Prop:=
 ∀(pins:OX) (s:Shared) (σ:St) (env:Env') (Q:VK) (E:XK),Inv X pins σ X.H₀ s->Rel X.K B G σ env X.H₀->
  (o=none->∀v G' H',Ev X.K B G σ env X.H₀ G' σ env H'->Q v H')->
  (∀n C,o=some n->nsIn X.K mainGlobals n=some (some (.ref C))->∀G' H',Ev X.K B G σ env X.H₀ G' σ env H'->E (.ref C) none H')->
  codeAny (model X.prog X.w) X.A (.call (.ref fl) ⟨[],[]⟩) (CR (CXE X.prog X.w) X.stack X.prog X.w X.H₀ s Q E) s
section
variable{S y:Str}{i0 j:Nat}{fl:Addr}{G₀:Hp}{cp cpos epos sp yp np apos hpos tpos:Pos}
abbrev exD(n:Str):D:=.obj (.exc n)
def c0l(X:Cx)(B:OA)(names:List Str)(fl:Addr)(i0 i j:Nat)(o:Option Str)(G:Hp):TS:=fun D σ H=>σ[i0]? =some (some (.ref fl))/\H=X.H₀/\∃env,Rel X.K B G σ env H/\
 (o=none->∀G' H',Ev X.K B G σ env H G' σ env H'->D.nx σ H')/\∀c,o=some c->c∈names/\∀σ' G' H',Ev X.K B G σ env H G' σ' (((env.set i (.dat (exD c))).set j (.dat (exD c))).set i .nil) H'->D.nx σ' H'
theorem caught{s':Shared}{D:Ends}{ev:Value}(hst:X.stack=X.env::X.outer)(hfr:X.env.frame=some X.env.locals)(hex:X.ex=[])(hx:a1W X.K S names=true)(hN:X.N.Nodup)
  (hi:X.N[i]? =some n)(hil:X.env.scope.names.lookup n=some .local)(hj:X.N[j]? =some y)(hjl:X.env.scope.names.lookup y=some .local)(hgS:Gl X S)
  (I:Inv X pins σ H s)(rl:Rel X.K B G σ env H)(hX:∀c,o=some c->c∈names/\∀σ' G' H',Ev X.K B G σ env H G' σ' (((env.set i (.dat (exD c))).set j (.dat (exD c))).set i .nil) H'->D.nx σ' H')
  (cx:CXE X.prog X.w X.stack H s (fun cls _ H'=>∃c C G',o=some c/\nsIn X.K mainGlobals c=some (some (.ref C))/\cls=.ref C/\Ev X.K B G σ env H G' σ env H') ev s')
  (hdS:(S==("__debug__":Str))=false)(hdn:(n==("__debug__":Str))=false)(hcdn:(n==("__classdict__":Str))=false)(hsw:swapsWith (.Name n np) (some (.Name y yp)) apos.line X.env=pure false):
  wpAny (model X.prog X.w) X.A (noteFrame ev X.env) (fun _ s₂=>wpAny (model X.prog X.w) X.A (setFlight ev none) (fun _ s₃=>
   wpAny (model X.prog X.w) X.A (handleBy ev X.env [.ExceptHandler (some (.Name S sp)) (some n) [.Assign [.Name y yp] (.Name n np) apos] hpos]) (SP X pins D) X.xe s₃) X.xe s₂) X.xe s':=by
 obtain⟨e,t,C,H',Bh,rfl,os,bare,fly,un,hok,kept,thr,c,C',G',ho,hC,hcc,evx⟩:=cx;cases hcc;obtain⟨hcn,hD⟩:=hX c ho;obtain⟨C2,F⟩:=a4b hx hcn;have:=F.nm;rw[hC]at this;cases this;obtain⟨Sd,hS,hsub,hoS,hkS⟩:=F.sub;have frF:∀b∈frs X.stack,H b=none/\∃o,s.heap.get? b=some o/\∀vs,o.data≠.fields vs:=fun b hb=>⟨I.stkFree b hb,(I.stack.mem hb).2⟩
 have eB:Bh.get? e=none:=fly.2.1
 obtain⟨oe0,vs0,he0,_,hd0,_⟩:=fly.first
 have eS:s.heap.get? e=none:=by
  cases q:s.heap.get? e with
  |none=>rfl
  |some o0=>
   by_cases hb:e∈frs X.stack
   ·obtain⟨_,o1,g1,g2⟩:=fly.2.2.1.mem hb
    rw[he0]at g1;cases g1;exact absurd hd0 (g2 vs0)
   ·obtain⟨o',q'⟩:=thr e o0 q hb
    rw[eB]at q';cases q'
 have e0:X.s₀.heap.get? e=none∨e∈X.ex:=by
  by_cases hx:e∈X.ex
  ·exact .inr hx
  ·refine .inl ?_
   cases q:X.s₀.heap.get? e with
   |none=>rfl
   |some o0=>obtain⟨o',q'⟩:=I.base.there e o0 q hx;rw[eS]at q';cases q'
 have eH:H' e=none:=by
  cases q:H' e with
  |none=>rfl
  |some u=>
   have ok:=hok e u q
   have:∃o,Bh.get? e=some o:=by
    cases u with
    |lst xs=>obtain⟨_,_,_,_,z⟩:=ok;exact⟨_,z⟩
    |tup xs=>obtain⟨_,_,_,ob,z,_⟩:=ok;exact⟨_,z⟩
    |dK kvs=>obtain⟨_,_,_,_,o,_,_,z,_⟩:=ok;exact⟨_,z⟩
    |dT C kvs=>obtain⟨_,_,_,_,o,_,_,z,_⟩:=ok;exact⟨_,z⟩
    |set S n=>obtain⟨o,_,_,_,z,_⟩:=ok;exact⟨_,z⟩
    |ins C dx fs=>obtain⟨_,_,_,z,_⟩:=ok;exact⟨_,z⟩
    |own y=>obtain⟨_,z⟩:=ok;exact⟨_,z⟩
    |xd fs=>obtain⟨_,⟨_,_,_,z,_⟩,_⟩:=ok;exact⟨_,z⟩
    |rng lo hi=>obtain⟨_,_,_,z⟩:=ok;exact⟨_,z⟩
    |frz ob u=>obtain⟨z,_⟩:=ok;exact⟨_,z⟩
    |tbl ps=>exact⟨_,(show Bh.get? e=some _ from ok)⟩
    |met f y=>exact⟨_,(show Bh.get? e=some _ from ok)⟩
    |ext φ=>obtain⟨_,z,_⟩:=ok;exact z
   rw[eB]at this;obtain⟨_,z⟩:=this;cases z
 have invAt:∀h2:Heap,Bh.StaysIn h2->s'.heap.UpToSlots h2->Inv X pins σ H' {s' with heap:=h2}:=fun h2 st ups=>
  I.call' (s':={s' with heap:=h2}) (ch:=[]) os (c0g un kept thr st ups frF) (hok.kept fun b u q=>st b u q) bare (fun b z=>absurd z (by simp))
 rw[hst]at fly;have frames:X.A.frames=some (X.env::X.outer):=by rw[I.ok.frames,hst]
 refine wpAny_looks_onW (L:=X.env.locals) frames hfr fly fun h4 held4 ups4=>?_
 refine wpAny_landsW held4 fun h5 fly5 ups5=>?_
 have I5:=invAt h5 fly5.1 (ups4.trans ups5)
 refine wpAny_handleBy_cons (codeAny_handlers_test ?_) (by intro q;cases q)
 have markI:∀{σ:St}{H:Hp}{s:Shared},Inv X pins σ H s->Inv ({X with A:=X.A.mark (some (.ref e)),calm:=false,xe:=fun _ _=>False}:Cx) pins σ H s:=fun J=>
  ⟨⟨J.ok.mod,J.ok.kind,J.ok.glob,J.ok.blt,J.ok.above,J.ok.inj,J.ok.has,J.ok.cab,(fun z=>nomatch z),J.ok.frames,J.ok.stk,J.ok.exf,J.ok.bs,J.ok.bsz,J.ok.noex,J.ok.exfs,J.ok.funs,J.ok.frf⟩,J.os,J.bare,J.base,J.loc,J.cell,J.free,J.freeC,J.pin,J.hok,J.len⟩
 have unmark:∀{σ:St}{H:Hp}{s:Shared},Inv ({X with A:=X.A.mark (some (.ref e)),calm:=false,xe:=fun _ _=>False}:Cx) pins σ H s->Inv X pins σ H s:=fun J=>⟨I.ok,J.os,J.bare,J.base,J.loc,J.cell,J.free,J.freeC,J.pin,J.hok,J.len⟩
 refine a3K (X:=({X with A:=X.A.mark (some (.ref e)),calm:=false,xe:=fun _ _=>False}:Cx)) (markI I5) hgS (mg_of I.mod.kin I.mod.glob hS) ?_ hdS
 obtain⟨od,cd,sl,hlk⟩:=c0i (let ⟨Z,z1,z2⟩:=b2F hoS;by rw[hS]at z1;cases z1;exact z2)
 obtain⟨oe5,vs5,he5,hc5,_,_⟩:=fly5.first
 refine c0h I5.kIn ⟨oe5,he5,hc5⟩ hsub (c0j hkS) hlk ?_
 dsimp only[if_true];refine codeAny_handlers_suite_as ?_
 refine lands_againW fly5 fun h6 fly6 ups6=>?_
 have I6:=invAt h6 fly6.1 ((ups4.trans ups5).trans ups6)
 obtain⟨oe6,vs6,he6,hc6,_,_⟩:=fly6.first
 have hexN:e∉X.ex:=fun z=>by rw[hex]at z;cases z
 have I7:Inv X pins σ (upd H' e (.ext (a0H e C))) {s' with heap:=h6}:=by
  refine c0d I6 eH (e0.elim id fun z=>absurd z hexN) (fun z=>?_) (fun x c q z=>?_) (fun p q z=>?_) ⟨oe6,he6,hc6⟩ ⟨_,he6⟩ fun h1 h2 p k=>?_
  ·obtain⟨m,⟨o1,_,_,g,_⟩,_⟩:=I.loc
   rw[←z,eS]at g;cases g
  ·obtain⟨v,o1,g,_⟩:=I.cell x c q
   rw[z,eS]at g;cases g
  ·obtain⟨g,_⟩:=I.pin p q
   rw[z,eS]at g;cases g
  ·obtain⟨o1,g1,g2⟩:=p
   exact⟨o1,k o1 g1,g2⟩
 refine a3d I7 hN hi (.inl hil) (show y1_ (.ref e) (.ref e)from rfl) (fun s8 I8=>?_) (.inr hil)
 have hiσ:i<σ.length:=by rw[I.len];exact(Qh.mp hi).1
 refine Qt (a7m (a4D (X:=({X with A:=X.A.mark (some (.ref e)),calm:=false,xe:=fun _ _=>False}:Cx)) (pos:=apos) (pos':=yp) hN hj (.inl hjl) (a7l (pos:=np) hi (.inl hil) hdn hcdn) hsw (.inr hjl)) pins s8 (σ.set i (some (.ref e))) (upd H' e (.ext (a0H e C)))
  {nx:=fun σ' H2=>σ'=(σ.set i (some (.ref e))).set j (some (.ref e))/\H2=upd H' e (.ext (a0H e C)),rt:=fun _ _=>False} (markI I8) ⟨_,Za hiσ,rfl,rfl⟩) (fun f s9 q=>?_) fun _ _ z=>z.elim
 cases f with
 |ret u=>obtain⟨_,_,_,_,_,z⟩:=q;exact z.elim
 |brk=>obtain⟨_,_,_,z⟩:=q;exact z.elim
 |cont=>obtain⟨_,_,_,z⟩:=q;exact z.elim
 |next=>
  obtain⟨σ9,H9,I9,rfl,rfl⟩:=q;refine c0f (unmark I9) hN hi hil fun s10 I10=>?_
  refine⟨_,_,I10,?_⟩;have ev2:=evx.trans (evx.rel.alloc (o:=.ext (a0H e C)) eH);have rp:Rep X.K (upd G' e (.ext (a0H e C))) (.ref e) (exD c):=by
   simp only[Rep];exact⟨e,C,_,rfl,hC,y8_,b9Y F.kit,b9Z F.kit⟩
  exact hD _ _ _ (((ev2.setDat (i:=i) rp).setDat (i:=j) rp).setNone (i:=i))
theorem c0m(hst:X.stack=X.env::X.outer)(hfr:X.env.frame=some X.env.locals)(hex:X.ex=[])(hx:a1W X.K S names=true)(hN:X.N.Nodup)(h0:X.N[i0]? =some x)(hv:Vis X.env.scope x)
  (hi:X.N[i]? =some n)(hil:X.env.scope.names.lookup n=some .local)(hj:X.N[j]? =some y)(hjl:X.env.scope.names.lookup y=some .local)(hgS:Gl X S)
  (fn:∀pins σ H s,Inv X pins σ H s->a4e fl s.heap)(clo:a8u X B fl o G₀)
  (hdx:(x==("__debug__":Str))=false:=by decide)(hcdx:(x==("__classdict__":Str))=false:=by decide)(hdS:(S==("__debug__":Str))=false:=by decide)(hdn:(n==("__debug__":Str))=false:=by decide)(hcdn:(n==("__classdict__":Str))=false:=by decide)
  (hsw:swapsWith (.Name n np) (some (.Name y yp)) apos.line X.env=pure false:=by rfl)(hsw2:swapsWith (.Call (.Name x cp) [] [] cpos) none epos.line X.env=pure false:=by rfl):
  PS X (.Try [.Expr (.Call (.Name x cp) [] [] cpos) epos] [.ExceptHandler (some (.Name S sp)) (some n) [.Assign [.Name y yp] (.Name n np) apos] hpos] [] [] tpos) (c0l X B names fl i0 i j o G₀):=by
 intro pins s σ H D I ⟨hσ,hH,env,rl,hN0,hX0⟩;subst hH;refine wpAny_Try_except ?_
 refine wpAny_execs_cons (wpAny_Expr_any ?_ I.quiet hsw2);refine Jc ?_
 have name:=fun(W:OE)=>a7l (X:=X.wish W) (pos:=cp) h0 hv hdx hcdx pins s σ X.H₀ (fun v H'=>v=.ref fl/\H'=X.H₀) (I.wish W) ⟨_,hσ,rfl,rfl⟩
 refine Qt (name fun _ _=>False) (fun u s1 ⟨v,H1,I1,r1,q1,q2⟩=>?_) fun _ _ z=>False.elim z
 subst q1;subst q2;cases (show u=Value.ref fl from r1)
 have I1:=I1.unwish
 refine callWith_of (P:=a4e fl) rfl (fun h p=>c0k h p) (evalArgs_nil3 ⟨fn pins σ _ s1 I1,?_⟩)
 refine wpAny_call (Xq (clo pins s1 σ env (fun _ H'=>D.nx σ H') (fun cls _ H'=>∃c C G',o=some c/\nsIn X.K mainGlobals c=some (some (.ref C))/\cls=.ref C/\Ev X.K B G₀ σ env _ G' σ env H') I1 rl (fun z v G' H' ev=>hN0 z G' H' ev) (fun c C z hC G' H' ev=>⟨c,C,G',z,hC,rfl,ev⟩)) fun r s' hq=>?_)
 cases r with
 |error ev=>exact caught hst hfr hex hx hN hi hil hj hjl hgS I1 rl hX0 hq hdS hdn hcdn hsw
 |ok f=>
  cases f with
  |next=>exact False.elim hq
  |brk=>exact False.elim hq
  |cont=>exact False.elim hq
  |ret u=>
   obtain⟨v,H',I',_,q⟩:=I1.after hq;exact Us (Us ⟨σ,H',I',q⟩)
end
def a8v(names:List Str)(i j:Nat)(o:Option Str):Mo Fl:=fun env=>match o with
 |none=>some (.nx,env)
 |some c=>if names.contains c then some (.nx,((env.set i (.dat (exD c))).set j (.dat (exD c))).set i .nil)else none
section
variable{S y:Str}{i0 j:Nat}{fl:Addr}{G₀:Hp}{cp cpos epos sp yp np apos hpos tpos yp0 spos0 npos0:Pos}{rest:List Stmt}{m:Mo Fl}{kk:Nat}
theorem c0n(hst:X.stack=X.env::X.outer)(hfr:X.env.frame=some X.env.locals)(hex:X.ex=[])(hx:a1W X.K S names=true)(hN:X.N.Nodup)(h0:X.N[i0]? =some x)(hv:Vis X.env.scope x)
  (hi:X.N[i]? =some n)(hil:X.env.scope.names.lookup n=some .local)(hj:X.N[j]? =some y)(hjl:X.env.scope.names.lookup y=some .local)(hij:i0≠j)(hgS:Gl X S)
  (fn:∀pins σ H s,Inv X pins σ H s->a4e fl s.heap)(clo:a8u X B fl o G₀)(hr:ESs X B rest m)
  (hdx:(x==("__debug__":Str))=false:=by decide)(hcdx:(x==("__classdict__":Str))=false:=by decide)(hdS:(S==("__debug__":Str))=false:=by decide)(hdn:(n==("__debug__":Str))=false:=by decide)(hcdn:(n==("__classdict__":Str))=false:=by decide)
  (hsw:swapsWith (.Name n np) (some (.Name y yp)) apos.line X.env=pure false:=by rfl)(hsw2:swapsWith (.Call (.Name x cp) [] [] cpos) none epos.line X.env=pure false:=by rfl)
  (hsw3:swapsWith (.Constant .none kk npos0) (some (.Name y yp0)) spos0.line X.env=pure false:=by rfl):
  PSs X (.Assign [.Name y yp0] (.Constant .none kk npos0) spos0::.Try [.Expr (.Call (.Name x cp) [] [] cpos) epos] [.ExceptHandler (some (.Name S sp)) (some n) [.Assign [.Name y yp] (.Name n np) apos] hpos] [] [] tpos::rest)
   (fun D σ H=>σ[i0]? =some (some (.ref fl))/\H=X.H₀/\∃env f env',Rel X.K B G₀ σ env H/\(q1_ (v2_ j (mC .non)) (q1_ (a8v names i j o) m)) env=some (f,env')/\Post X.K B G₀ σ env H env' D f):=by
 refine pss_imp (a3e (a4D hN hj (.inl hjl) b0O hsw3 (.inr hjl)) (a3e (c0m hst hfr hex hx hN h0 hv hi hil hj hjl hgS fn clo hdx hcdx hdS hdn hcdn hsw hsw2) hr)) ?_
 rintro D σ H ⟨hσ,hH,env,f,env',rl,e,k⟩;obtain⟨⟨f1,env1⟩,e1,e2⟩:=q2_ e;cases e1;dsimp only at e2;obtain⟨⟨f2,env2⟩,e3,e4⟩:=q2_ e2;have ev1:Ev X.K B G₀ σ env H G₀ (σ.set j (some .non)) (env.set j (.dat .non)) H:=(Ev.refl rl).setDat (i:=j) (v:=.non) (d:=.non) (by simp only[Rep])
 refine⟨by rw[Qc (Zn hij)];exact hσ,hH,_,ev1.rel,fun z G' H' ev=>?_,fun c z=>?_⟩
 ·subst z
  cases e3;exact⟨G',_,f,env',ev.rel,e4,Post.after _ _ k (ev1.trans ev)⟩
 ·subst z
  unfold a8v at e3;dsimp only at e3;split at e3
  ·rename_i hc
   cases e3;exact⟨by simpa using hc,fun σ' G' H' ev=>⟨G',_,f,env',ev.rel,e4,Post.after _ _ k (ev1.trans ev)⟩⟩
  ·cases e3
end
theorem c0o{E:XK}(hst:X.stack=X.env::X.outer)(hfr:X.env.frame=some X.env.locals)(hex:X.ex=[])
  (hxe:∀e s',wpAny (model X.prog X.w) X.A (leaving X.env e) (fun _ s''=>CXE X.prog X.w X.outer X.H₀ X.s₀ E e s'') (fun e' s''=>CXE X.prog X.w X.outer X.H₀ X.s₀ E e' s'') s'->X.xe e s'):XOk X E:=by
 refine⟨fun pins σ H s ev s' I h=>hxe _ _ ?_,fun pins σ H s h' e C vs I hm hE=>hxe _ _ ?_⟩
 ·obtain⟨e,t,C,H',Bh,rfl,os,bare,fly,un,hok,kept,thr,hE⟩:=h
  rw[hst]at fly;refine wpAny_leaves_onW (L:=X.env.locals) (by rw[I.ok.frames,hst]) hfr fly fun h2 fly2 ups=>?_
  refine a6z hst hfr hex I os bare fly2 kept thr (fun b o q n hb=>?_) (fun b o q n=>un.free b o q n (by simp)) un.tups un.frzs un.tbls hok hE
  obtain⟨sl,q1⟩:=un.any q n (by simp)
  obtain⟨_,o1,g1,g2⟩:=I.funs.mem hb;rw[q]at g1;cases g1;obtain⟨sl2,q2⟩:=ups b _ q1 g2;exact⟨sl2,q2⟩
 ·have hs:=I.stack
  rw[hst]at hs;refine wpAny_leaves_madeW (L:=X.env.locals) (base:=hideAll s.heap (frs X.stack)) (h:=s.heap) (by rw[I.ok.frames,hst]) hfr (fun b o q=>of_hideAll _ q)
   (funFrames_hide hs fun env he b hb=>by rw[hst];exact Xw.mpr ⟨env,he,hb⟩) hm fun h2 t fly _ hn ups=>?_
  refine a6z (s:=s) (s':={s with heap:=h2}) hst hfr hex I rfl I.bare fly (fun b o q _ hb=>Jm _ q hb) (fun b o q hb=>⟨o,Jm _ q hb⟩) (fun b o q n hb=>?_) (fun b o q n=>n) (fun _ _ q=>q) (fun _ _ _ q=>q) (fun b ps q=>⟨#[],by rw[q];simp⟩) ?_ hE
  ·obtain⟨_,o1,g1,g2⟩:=I.funs.mem hb
   rw[q]at g1;cases g1;obtain⟨sl2,q2⟩:=ups b _ (hm.keeps b o q) g2;exact⟨sl2,q2⟩
  ·exact b2E (P:=X.prog) (w:=X.w) I.hok fun b u o q1 q2=>Jm _ q2 fun z=>by rw[I.stkFree b z]at q1;cases q1
theorem a5c{B1 B2:OA}{G':Hp}{σ1' σ2:St}{env1' env2:Env'}(ev:Ev K B1 G σ1 env1 H G' σ1' env1' H')(no:∀a,¬ Owned σ1 env1 a)(rl:Rel K B2 G σ2 env2 H):Ev K B2 G σ2 env2 H G' σ2 env2 H':=by
 refine⟨⟨ev.rel.sub,rl.len,fun i d e=>?_,fun i w ds e1 e2=>?_,rl.inj,rl.fresh,fun b h=>ev.live b (rl.old b h),ev.rel.tabs,ev.rel.gnt⟩,ev.same,fun b o _ t e=>ev.keep b o (no b) t e,ev.live,fun b e _ g=>ev.stay b e (no b) g,fun a z=>.inl z,fun i w e hp=>⟨rfl,w,e,hp⟩,rfl⟩
 ·obtain⟨v,q1,q2⟩:=rl.dat i d e
  exact⟨v,q1,Rep.mono ev.same d q2⟩
 ·obtain⟨a,xs,q1,q2,q3,q4⟩:=rl.own i w ds e1 e2
  exact⟨a,xs,q1,ev.keep a _ (no a) q3.nt q2,q3.mono ev.same,ev.stay a (by rw[q2];simp) (no a) q4⟩
theorem b2J(rl:Rel K B G σ env H):Rel K u6_ G [] [] H:=
 ⟨rl.sub,rfl,fun i d e=>by simp at e,fun i w ds e=>by simp at e,fun i j w w' ds es a e=>by simp at e,fun i ds a e=>by simp at e,fun b h=>h.elim,rl.tabs,rl.gnt⟩
theorem a8w:¬ Owned [] [] a:=fun⟨i,w,ds,e,_⟩=>by simp at e
def a2Q(P:Program)(w:World)(K:Frag)(mg:OU)(base:Heap)(N':List Str)(q:Str)(scope:Scope)(fl:Addr)(cd:Value)(cl:List (Str×Addr))(A:Around)(outer:List Env)(s:Shared)(H:Hp)(E:XK):Cx where
 prog:=P
 w:=w
 K:=K
 mg:=mg
 base:=base
 A:=A.deeper (envX q scope s.heap.objs.size fl cd cl)
 N:=N'
 s₀:=s
 H₀:=H
 env:=envX q scope s.heap.objs.size fl cd cl
 outer:=outer
 stack:=envX q scope s.heap.objs.size fl cd cl::outer
 ex:=[]
 fn:=fun _=>false
 calm:=true
 pn:=[]
 xe:=fun e s'=>wpAny (model P w) (A.deeper (envX q scope s.heap.objs.size fl cd cl)) (leaving (envX q scope s.heap.objs.size fl cd cl) e) (fun _ s''=>CXE P w outer H s E e s'') (fun e' s''=>CXE P w outer H s E e' s'') s'
section
variable{q:Str}{fl:Addr}{outer:List Env}{E:XK}
theorem c0p:XOk (a2Q P w K mg base N' q scope fl cd cl A outer s H E) E:=c0o rfl rfl rfl fun _ _ h=>h
theorem c0q{h₁:Heap}{m:OU}(e0:Env0 P w K mg base A outer s H)(hd:A.handled=none)(hk:scope.kind=.function)(hnc:∀x,scope.names.lookup x≠some .cell)
  (inj:∀x y c,cl.lookup x=some c->cl.lookup y=some c->x=y)(has:∀x,scope.names.lookup x=some .free->∃c,cl.lookup x=some c)
  (cell:∀x c,cl.lookup x=some c->(∃v,s.heap.IsCell c v)/\H c=none)
  (val:∀(i:Nat) (x:Str) (v:V),N'[i]? =some x->σ[i]? =some (some v)->Vis scope x->scope.names.lookup x=some .free/\∃c u,cl.lookup x=some c/\y1_ v u/\s.heap.IsCell c (some u))
  (hl:σ.length=N'.length)(hns:h₁.Ns s.heap.objs.size m)(kp:∀b o,s.heap.get? b=some o->h₁.get? b=some o):
  Inv (a2Q P w K mg base N' q scope fl cd cl A outer s H E) [] σ H {s with heap:=h₁,toks:=tk}:=by
 have noA:∀b:Addr,b∉(a2Q P w K mg base N' q scope fl cd cl A outer s H E).ex:=fun b z=>absurd (show b∈([]:List Addr)from z) (by simp)
 refine⟨⟨e0.mod,hk,rfl,rfl,Qy _,inj,fun y hy=>?_,fun y c z=>absurd (show(false:Bool)=true from z) (by decide),fun _=>hd,Around.frames_deeper e0.frames,.inr ⟨rfl,rfl⟩,fun b z=>absurd z (noA b),e0.bs,e0.bsz,fun b _ _=>noA b,fun b z=>absurd z (noA b),e0.funs,e0.frf⟩,
  rfl,e0.bare,Un.kept kp,⟨_,hns,fun i x v h1 h2 h3=>?_⟩,fun x c e=>?_,e0.hok.fresh (Qy _),fun x c e=>(cell x c e).2,fun p hp=>absurd (show p∈([]:OX)from hp) (by simp),e0.hok.kept kp,hl⟩
 ·rcases hy with hy|hy
  ·exact absurd hy (hnc y)
  ·exact has y hy
 ·obtain⟨k,c,u,g1,g2,g3⟩:=val i x v h1 h2 h3
  exact⟨u,g2,.inr ⟨.inr k,c,g1,g3.keeps kp⟩⟩
 ·obtain⟨⟨v,z⟩,_⟩:=cell x c e
  exact⟨v,z.keeps kp⟩
end
structure LamAt(K:Frag)(params:Arguments)(body:Expr)(scope:Scope)(N':List Str)(lq:Str)(fl c':Addr)(cl:List (Str×Addr))(σ:St)(s₁:Shared)(H₁:Hp)(outer₁:List Env):Prop where
 obj:∃pm ctv,s₁.heap.get? fl=some (kla_obj "<lambda>" lq params body scope cl pm c' ctv)
 free:H₁ fl=none
 nfr:fl∉frs outer₁
 code:∃φ,H₁ c'=some (.ext φ)/\∀h:Heap,φ h->h.CodeRec (.ref c') lq
 inj:∀x y c,cl.lookup x=some c->cl.lookup y=some c->x=y
 has:∀x,scope.names.lookup x=some .free->∃c,cl.lookup x=some c
 cell:∀x c,cl.lookup x=some c->(∃v,s₁.heap.IsCell c v)/\H₁ c=none/\c∉frs outer₁
 val:∀(i:Nat) (x:Str) (v:V),N'[i]? =some x->σ[i]? =some (some v)->Vis scope x->scope.names.lookup x=some .free/\∃c u,cl.lookup x=some c/\y1_ v u/\s₁.heap.IsCell c (some u)
 len:σ.length=N'.length
def a8x(P:Program)(w:World)(K:Frag)(mg:OU)(base:Heap)(kc:Nat)(fl:Addr)(s₁:Shared)(H₁:Hp)(outer₁:List Env)(o:Option Str)(G:Hp):Prop:=
 (∀(H':Hp) (s:Shared),Un (frs outer₁) [] H₁ H' s₁.heap s.heap->a4e fl s.heap)/\
 ∀(A:Around) (outer:List Env) (s:Shared) (Q:VK) (E:XK),Room kc A->Env0 P w K mg base A outer s H₁->Un (frs outer₁) [] H₁ H₁ s₁.heap s.heap->
  (o=none->∀v G' H',Ev K u6_ G [] [] H₁ G' [] [] H'->Q v H')->
  (∀n C,o=some n->nsIn K mainGlobals n=some (some (.ref C))->∀G' H',Ev K u6_ G [] [] H₁ G' [] [] H'->E (.ref C) none H')->
  codeAny (model P w) A (.call (.ref fl) ⟨[],[]⟩) (CR (CXE P w) outer P w H₁ s Q E) s
def outcome(names:List Str)(mb:Mo D)(xb:Mx)(env:Env'):Option (Option Str):=match xb env with
 |some n=>if names.contains n then some (some n)else none
 |none=>(mb env).map fun _=>none
theorem c0r{lq:Str}{fl c':Addr}{H₁:Hp}{outer₁:List Env}{lw:Env'}{mb:Mo D}{xb:Mx}
  (L:LamAt K params body scope N' lq fl c' cl σ s₁ H₁ outer₁)(hk:scope.kind=.function)(hco:scope.isCoroutine=false)(hgen:scope.isGenerator=false)(hnc:∀x∈scope.names,x.2≠.cell)
  (hbind:∀pm ctv,bindArgs (kla_fn "<lambda>" lq params body scope cl pm (.ref c') ctv) ⟨[],[]⟩=pure [])
  (rl:Rel K (fun b=>H₁ b≠none) G σ lw H₁)(no:∀a,¬ Owned σ lw a){S:Str}(hex:a1W K S names=true)(ho:outcome names mb xb lw=some o)
  (hb:∀(A:Around) (outer:List Env) (s:Shared) (E:XK),Room kc (A.deeper (envX lq scope s.heap.objs.size fl (.ref c') cl))->ED (a2Q P w K mg base N' lq scope fl (.ref c') cl A outer s H₁ E) (fun b=>H₁ b≠none) body mb)
  (hx:∀(A:Around) (outer:List Env) (s:Shared) (E:XK),Room kc (A.deeper (envX lq scope s.heap.objs.size fl (.ref c') cl))->EDx (a2Q P w K mg base N' lq scope fl (.ref c') cl A outer s H₁ E) (fun b=>H₁ b≠none) E body xb):
  a8x P w K mg base (kc+1) fl s₁ H₁ outer₁ o G:=by
 obtain⟨pm,ctv,hobj⟩:=L.obj;have hnc':∀x,scope.names.lookup x≠some .cell:=fun x z=>hnc _ (Zk z) rfl
 refine⟨fun H' s un=>⟨_,_,un.keep fl _ hobj L.free L.nfr (by simp),rfl⟩,fun A outer s Q E hr e0 un hN hX=>?_⟩
 have cellK:∀x c v,cl.lookup x=some c->s₁.heap.IsCell c v->s.heap.IsCell c v:=fun x c v e ⟨oc,h1,h2⟩=>⟨oc,un.keep c oc h1 (L.cell x c e).2.1 (L.cell x c e).2.2 (by simp),h2⟩
 have hcd:s.heap.CodeRec (.ref c') lq:=by
  obtain⟨φ,h1,h2⟩:=L.code;exact h2 _ (e0.hok c' _ h1).1
 have lim:s.heap.NoLimit:=e0.mod.nolimit.keeps fun b o e=>(e0.bs b o e).1
 refine kla_callFunE hr.depth (un.keep fl _ hobj L.free L.nfr (by simp)) rfl hco hgen rfl hcd ?_
 rw[hbind];refine Qk (wpAny_newFunctionEnv hnc (fun x z=>by simp at z) (fun h₁ hns hsb=>⟨lim.fresh _ hsb,?_⟩) hk)
 show codeAny _ _ (.expr body (envX lq scope s.heap.objs.size fl (.ref c') cl)) _ _;have kp:∀b o,s.heap.get? b=some o->h₁.get? b=some o:=fun b o e=>hsb.extBut b o (Qi (Qp e)) (Qx _ e)
 have I:Inv (a2Q P w K mg base N' lq scope fl (.ref c') cl A outer s H₁ E) [] σ H₁ {s with heap:=h₁,toks:=s.toks+([]:List (Str×Value)).length}:=by
  refine c0q e0 hr.hd hk hnc' L.inj L.has (fun x c e=>?_) (fun i x v h1 h2 h3=>?_) L.len hns kp
  ·obtain⟨⟨v,z⟩,z2,_⟩:=L.cell x c e
   exact⟨⟨v,cellK x c v e z⟩,z2⟩
  ·obtain⟨k,c,u,g1,g2,g3⟩:=L.val i x v h1 h2 h3
   exact⟨k,c,u,g1,g2,cellK x c _ g1 g3⟩
 have side:∀{G' H':Hp}{σ':St}{lw':Env'},Ev K (fun b=>H₁ b≠none) G σ lw H₁ G' σ' lw' H'->Ev K u6_ G [] [] H₁ G' [] [] H':=fun ev=>a5c ev no (b2J rl)
 refine kla_codeExpr ?_
 unfold outcome at ho;cases hxb:xb lw with
 |some n=>
  rw[hxb]at ho;dsimp only at ho;split at ho
  ·rename_i hn
   cases ho;obtain⟨C,F⟩:=a4b hex (by simpa using hn)
   exact Qt (hx A outer s E (hr.deeper _) [] _ σ H₁ (fun _ _=>False) I ⟨G,lw,n,rl,hxb,C,F.nm,fun σ' G' env' H' ev=>hX n C rfl F.nm G' H' (side ev)⟩) (fun v s' ⟨_,_,_,_,z⟩=>z.elim) fun _ _ z=>z
  ·cases ho
 |none=>
  rw[hxb]at ho;obtain⟨⟨d,lw'⟩,e1,e2⟩:=x3_ ho;cases e2;refine Qt (hb A outer s E (hr.deeper _) [] _ σ H₁ Q I ⟨G,lw,d,lw',rl,e1,fun v G' H' ev rp=>hN rfl v G' H' (side ev)⟩) (fun v s' ⟨x,H',J,rv,z⟩=>?_) fun _ _ z=>z
  exact⟨x,H',J.os,J.bare,J.base,J.hok,rv,z⟩
theorem c0s{c P:Addr}{q:Str}(h1:codeHdIn K c P=true)(h2:codeIn K (.ref c) qual=true)(h3:tabQ K P q=true):q=qual:=by
 unfold codeHdIn at h1;unfold codeIn at h2;split at h1
 ·rename_i vs _ hk
  have m:=Qb.mp h3 _ (mem_of_lookupK hk)
  simp only[hk]at h2;simp only[Qw]at h1;obtain⟨⟨⟨⟨⟨e1,_⟩,_⟩,_⟩,_⟩,_⟩:=h1
  replace m:((match (vs[11]? :Option Value)with|some (.ref P')=>P' !=P|_=>true)||(match vs.toList with|_::.str n _::_=>n==q|_=>false))=true:=by
   split at m
   ·rename_i heq;cases heq;exact m
   ·rename_i hne;exact absurd rfl (hne _ _ _)
  split at e1
  ·rename_i P' h11
   have hP:P'=P:=Ye.mp e1
   subst hP;rw[h11]at m;simp only[bne_self_eq_false,Xb]at m;split at h2
   ·rename_i n t r hl
    simp only[hl]at m;rw[←Ye.mp m,←Ye.mp h2]
   ·cases h2
  ·cases e1
 ·cases h1
def a2q(mg:OU)(base:Heap):Prop:=∃bm o,mg "__builtins__"=some (.ref bm)/\bm≠builtinsNs/\bm≠mainGlobals/\base.get? bm=some o/\o.cls=.type "module"/\o.dict=some builtinsNs/\o.data=.plain
theorem c0t{l:List Value}(h:TriplesOk l):l=[]∨ ∃a t b u d rest,l=.int a t::.int b u::d::rest/\TriplesOk rest:=by
 cases l with
 |nil=>exact .inl rfl
 |cons x l=>
  cases x<;>first|exact False.elim h|skip
  cases l with
  |nil=>exact False.elim h
  |cons y l=>
   cases y<;>first|exact False.elim h|skip
   cases l with
   |nil=>exact False.elim h
   |cons d rest=>exact .inr ⟨_,_,_,_,_,_,rfl,h⟩
theorem b2K{M:List Value->Prop}(h0:M [])(h1:∀a t b u d rest,TriplesOk rest->M rest->M (.int a t::.int b u::d::rest))(l:List Value)(h:TriplesOk l):M l:=by
 have:∀(n:Nat) (l:List Value),l.length≤n->TriplesOk l->M l:=by
  intro n
  induction n with
  |zero=>
   intro l hl h;cases l with
   |nil=>exact h0
   |cons x l=>exact absurd hl (Nat.not_succ_le_zero _)
  |succ n ih=>
   intro l hl h
   rcases c0t h with rfl|⟨a,t,b,u,d,rest,rfl,hr⟩
   ·exact h0
   ·exact h1 _ _ _ _ _ _ hr (ih rest (by simp only[Yy]at hl;omega) hr)
 exact this l.length l (Qy _) h
theorem c0u(l:List Value){a b:Int}{t u:Tok}(h:TriplesOk l):TriplesOk (l++[.int a t,.int b u,c]):=
 b2K (M:=fun l=>TriplesOk (l++[.int a t,.int b u,c])) trivial (fun _ _ _ _ _ _ _ ih=>ih) l h
theorem c0v(l:List Value){pos':Pos}{v:Value}(hk:TriplesOk l):codeAmong pos' (l++[rawInt pos.line,rawInt pos.col,c])=some v->codeAmong pos' l=some v∨v=c:=by
 refine b2K (M:=fun l=>codeAmong pos' (l++[rawInt pos.line,rawInt pos.col,c])=some v->codeAmong pos' l=some v∨v=c) (fun h=>?_) (fun a t b u d rest _ ih h=>?_) l hk
 ·change (if(pos.line:Int)==pos'.line&&(pos.col:Int)==pos'.col then some c else none)=some v at h
  split at h
  ·cases h;exact .inr rfl
  ·cases h
 ·change (if a==pos'.line&&b==pos'.col then some d else codeAmong pos' (rest++[rawInt pos.line,rawInt pos.col,c]))=some v at h
  show(if a==pos'.line&&b==pos'.col then some d else codeAmong pos' rest)=some v∨v=c
  split at h
  ·rename_i z;rw[Qn z];exact .inl h
  ·rename_i z;rw[Ql z];exact ih h
section
variable{P c:Addr}{ps:Array Value}
structure Made(X:Cx)(pins:OX)(σ:St)(H:Hp)(s:Shared)(P:Addr)(qual:Str)(params:Arguments)(body:Expr)(scope:Scope)(cl:List (Str×Addr))(fl c':Addr)(H1:Hp)(s1:Shared):Prop where
 inv:Inv X pins σ H1 s1
 ev:∀(B:OA) (G:Hp) (env:Env'),Rel X.K B G σ env H->Ev X.K B G σ env H G σ env H1
 obj:∃pm ctv,s1.heap.get? fl=some (kla_obj "<lambda>" (lamQ qual) params body scope cl pm c' ctv)
 new:s.heap.objs.size≤fl
 free:H1 fl=none
 code:H1 c'=some (LamC X.K P c')
 keep:∀b o,H b=none->s.heap.get? b=some o->s1.heap.get? b=some o/\H1 b=none
theorem c0w{Q:OE}(I:Inv X pins σ H s)(hcode:X.env.code=.ref c)(hc:codeHdIn X.K c P=true)(hq:codeIn X.K (.ref c) qual=true)(htq:tabQ X.K P qual=true)(henv:X.env.qual=qual++".<locals>.")
  (bm:a2q X.mg X.base)(hP:H P=some (.tbl ps))(tabs:TabsOk X.K H)(hcl:closureFor scope X.env=pure cl)(hdef:defaultsOf params X.env=([],[]))
  (h:∀fl c' H1 s1,Made X pins σ H s P qual params body scope cl fl c' H1 s1->Q (.ref fl) s1):wpAny M A (eval (.Lambda params body scope pos) X.env) Q E s:=by
 obtain⟨ht,hent⟩:=tabs P ps hP;have hPo:s.heap.get? P=some (tabObj ps):=I.hok P _ hP;have C:=codeHd_of_K I.kIn hc;have nbase:∀{b o},X.base.get? b=some o->b≠P:=fun{b o} e z=>by rw[z]at e;have:=(I.bs P o e).2;rw[hP]at this;cases this
 have hgs:s.heap.Ns mainGlobals X.mg:=I.mod.glob.keeps I.bk
 have hgP:mainGlobals≠P:=by
  obtain⟨o,_,_,e,_⟩:=I.mod.glob;exact nbase e
 obtain⟨b,ob,b1,b2,b3,b4,b5,b6,b7⟩:=bm;have hB:s.heap.BuiltinsAt X.mg P:=⟨b,ob,b1,b2,b3,nbase b4,I.bk _ _ b4,b5,b6,b7⟩;have hlq:X.env.qual++"<lambda>"=lamQ qual:=by rw[henv];rfl
 refine kla_eval hdef ?_
 rw[hlq];cases hca:codeAmong pos ps.toList with
 |some cv=>
  obtain⟨c',rfl,hc'⟩:=hent pos cv hca;refine kla_makeFunctionHit hcl I.ok.glob hgs hcode C hPo ht hca hB fun ctv h' tk hk hsz=>?_
  have kp:∀b o,s.heap.get? b=some o->(h'.push ({cls:=.type "function",data:=.func (kla_fn "<lambda>" (lamQ qual) params body scope cl ((X.mg "__name__").getD .none) (.ref c') ctv)}:Obj)).get? b=some o:=fun b o e=>Qx _ (hk b o e)
  refine h h'.objs.size c' H _ ⟨?_,fun B G env rl=>.refl rl,⟨_,_,Qg _ rfl⟩,hsz,I.hok.fresh hsz,hc',fun b o n e=>⟨kp b o e,n⟩⟩
  exact I.kept kp
 |none=>
  refine kla_makeFunction hcl I.ok.glob hgs hcode C hPo ht hca hgP hB fun c' ctv h' tk hx hge hlt hrec htb=>?_
  have hfsz:s.heap.objs.size≤h'.objs.size:=Uz (Vq hge hlt)
  have hPc:P≠c':=Qi (Qd (Qp hPo) hge)
  have hnc:H c'=none:=I.hok.fresh hge
  have hcf:c'≠h'.objs.size:=Qi hlt
  have hPf:P≠h'.objs.size:=Qi (Qd (Qp hPo) hfsz)
  have get1:∀{b},(upd (upd H P (.tbl (ps++ #[rawInt pos.line,rawInt pos.col,.ref c']))) c' (LamC X.K P c')) b=if b=c' then some (LamC X.K P c')else if b=P then some (.tbl (ps++ #[rawInt pos.line,rawInt pos.col,.ref c']))else H b:=fun{b}=>rfl
  have kp:∀b o,b≠P->s.heap.get? b=some o->(h'.push (kla_obj "<lambda>" (lamQ qual) params body scope cl ((X.mg "__name__").getD .none) c' ctv)).get? b=some o:=fun b o n e=>Qx _ (hx b o n e)
  have other:∀{b u},H b=some u->b≠P->(upd (upd H P (.tbl (ps++ #[rawInt pos.line,rawInt pos.col,.ref c']))) c' (LamC X.K P c')) b=some u:=fun{b u} e n=>by
   rw[q7_ (a0l e hnc),q7_ n];exact e
  have free1:∀{b o},H b=none->s.heap.get? b=some o->(upd (upd H P (.tbl (ps++ #[rawInt pos.line,rawInt pos.col,.ref c']))) c' (LamC X.K P c')) b=none:=fun{b o} n e=>by
   rw[q7_ (Qi (Qd (Qp e) hge)),q7_ (fun z=>by rw[z,hP]at n;cases n)];exact n
  have tab1:TabsOk X.K (upd (upd H P (.tbl (ps++ #[rawInt pos.line,rawInt pos.col,.ref c']))) c' (LamC X.K P c')):=by
   intro P2 ps2 e2;rw[get1]at e2;split at e2
   ·cases e2
   ·split at e2
    ·rename_i z
     subst z;cases e2;refine⟨by rw[Array.toList_append];exact c0u _ ht,fun p v e=>?_⟩
     rw[Array.toList_append]at e
     rcases c0v _ ht e with q|q
     ·obtain⟨a,q1,q2⟩:=hent p v q
      exact⟨a,q1,other q2 (fun z=>by rw[z,hP]at q2;cases q2)⟩
     ·exact⟨c',q,y8_⟩
    ·obtain⟨q1,q2⟩:=tabs P2 ps2 e2
     refine⟨q1,fun p v e=>?_⟩
     obtain⟨a,q3,q4⟩:=q2 p v e;exact⟨a,q3,other q4 (fun z=>by rw[z,hP]at q4;cases q4)⟩
  have live1:∀b,H b≠none->(upd (upd H P (.tbl (ps++ #[rawInt pos.line,rawInt pos.col,.ref c']))) c' (LamC X.K P c')) b≠none:=fun b e=>by
   rw[get1];split
   ·simp
   ·split
    ·simp
    ·exact e
  refine h h'.objs.size c' _ _ ⟨?_,fun B G env rl=>?_,⟨_,_,Qg _ rfl⟩,hfsz,?_,y8_,fun b o n e=>⟨kp b o (fun z=>by rw[z,hP]at n;cases n) e,free1 n e⟩⟩
  ·refine I.un (h':=h'.push (kla_obj "<lambda>" (lamQ qual) params body scope cl ((X.mg "__name__").getD .none) c' ctv)) (t':=tk) ⟨fun b o e n _ _=>?_,fun b o e n _ _=>⟨o.slots,?_⟩,fun b o e n _=>free1 n e,fun b o e _=>?_,fun b xs e=>?_,fun b o u e=>?_,fun b ps2 e=>?_⟩ fun b u e=>?_
   ·exact kp b o (fun z=>by rw[z,hP]at n;cases n) e
   ·exact kp b o (fun z=>by rw[z,hP]at n;cases n) e
   ·by_cases z:b=P
    ·subst z;exact⟨_,Qx _ htb⟩
    ·exact⟨o,kp b o z e⟩
   ·exact other e (fun z=>by rw[z,hP]at e;cases e)
   ·exact other e (fun z=>by rw[z,hP]at e;cases e)
   ·by_cases z:b=P
    ·subst z
     rw[hP]at e;cases e;exact⟨#[rawInt pos.line,rawInt pos.col,.ref c'],by rw[q7_ hPc,y8_]⟩
    ·exact⟨#[],by rw[other e z];simp⟩
   ·rw[get1]at e
    split at e
    ·rename_i z
     subst z;cases e;have hrec2:=hrec.push (kla_obj "<lambda>" (lamQ qual) params body scope cl ((X.mg "__name__").getD .none) b ctv);obtain⟨c2,oc,vs,t,e2,hoc,hd,hv⟩:=id hrec2;cases e2;refine⟨fun q hq2=>?_,⟨oc,hoc⟩,fun h1 h2 p k q hq2=>?_⟩
     ·rw[c0s hc hq hq2];exact hrec2
     ·obtain⟨c3,oc3,vs3,t3,e3,g1,g2⟩:=p q hq2
      cases e3;exact⟨_,oc3,vs3,t3,rfl,k oc3 g1,g2⟩
    ·split at e
     ·rename_i z
      subst z;cases e;exact Qx _ htb
     ·rename_i z1 z2
      refine(I.hok b u e).stay (fun b2 o2 hb q=>kp b2 o2 (fun z=>?_) q) (fun b2 q=>other q (fun z=>by rw[z,hP]at q;cases q)) fun b2 xs q=>other q (fun z=>by rw[z,hP]at q;cases q)
      rcases hb with hb|hb
      ·exact z2 (hb.symm.trans z)
      ·rw[z,hP]at hb;cases hb
  ·refine⟨⟨fun b o e=>?_,rl.len,rl.dat,fun i wv ds e1 e2=>?_,rl.inj,rl.fresh,fun b hb=>live1 b (rl.old b hb),tab1,rl.gnt⟩,Le.refl,fun b o _ nt e=>?_,live1,fun b e _ g=>g,fun a z=>.inl z,fun i w e hp=>⟨rfl,w,e,hp⟩,rfl⟩
   ·exact other (rl.sub b o e) (fun z=>by have q:=rl.sub b o e;rw[z,hP]at q;cases q;exact rl.gnt b _ e _ rfl)
   ·obtain⟨a,xs,q1,q2,q3,q4⟩:=rl.own i wv ds e1 e2
    exact⟨a,xs,q1,other q2 (fun z=>by rw[z,hP]at q2;cases q2;exact q3.nt _ rfl),q3,q4⟩
   ·exact other e (fun z=>by rw[z,hP]at e;cases e;exact nt _ rfl)
  ·rw[q7_ (Zn hcf),q7_ (Zn hPf)];exact I.hok.fresh hfsz
end
theorem c0x{CX:CXT}{f:Addr}{name:Str}{body:List Stmt}{dV kV doc pm cdv ct oc:Value}{an od:Option Addr}
  {osl:Array (Option Value)}(lk:K.lookup f=some ⟨oc,od,.func (fnOf name qual params body scope dV kV doc pm an cdv ct),osl⟩)(hcd:codeIn K cdv qual=true)(S:FnScope N ps scope)
  {outer:List Env}{args:Args}{us:List Value}{vs:List V}{Q:VK}{E:XK}(hr:Room (k+1) A)(e0:Env0 P w K mg base A outer s H)(hb:BindsTo s (fnOf name qual params body scope dV kV doc pm an cdv ct) args (ps.zip us))(r:v4_ vs us)(hl:vs.length=ps.length)
  (hbody:Room k (A.deeper (envOfC qual scope s.heap.objs.size f cdv))->∃t,PSs (u4_ CX P w K mg base N qual scope f cdv A outer s H E) body t/\t {nx:=fun _ H'=>Q .non H',rt:=Q} (start N vs) H):
  codeAny (model P w) A (.call (.ref f) args) (CR CX outer P w H s Q E) s:=by
 have KX:K.In s.heap:=e0.mod.kin.keeps fun b o e=>(e0.bs b o e).1
 have lim:s.heap.NoLimit:=e0.mod.nolimit.keeps fun b o e=>(e0.bs b o e).1
 have hkind:∀y∈ps.zip us,scope.names.lookup y.1=some .local∨(scope.names.lookup y.1=some .cell/\((cellsFrom (s.heap.objs.size+1) scope.names []).lookup y.1).isSome=true):=fun⟨n,v⟩ hy=>by
  rcases S.par n (Uv hy).1 with q|q
  ·exact .inl q
  ·exact .inr ⟨q,cellsFrom_some _ _ _ (.inl q)⟩
 refine codeAny_call_function hr.depth (KX _ _ lk) rfl S.co S.gen rfl (codeRec_of KX hcd) (hb _ _ _ _ ?_);refine wpAny_newFunctionEnv_cells S.kind hkind fun env he s1 x=>?_
 subst he;refine⟨lim.keeps x.toInCall.keep,codeAny_func ?_⟩;obtain⟨t,ht,hq⟩:=hbody (hr.deeper _);have I:Inv (u4_ CX P w K mg base N qual scope f cdv A outer s H E) [] (start N vs) H s1:=b1m S hr.hd e0 hl r x;refine Qt (ht [] s1 (start N vs) H _ I hq) (fun fl s' hs=>?_) fun e s' hs=>hs
 have fin:∀{σ':St}{H':Hp}{v:V}{u:Value},Inv (u4_ CX P w K mg base N qual scope f cdv A outer s H E) [] σ' H' s'->y1_ v u->Q v H'->CE outer P w H s Q u s':=
  fun{σ' H' v u} J rv q=>⟨v,H',J.os,J.bare,J.base,J.hok,rv,q⟩
 cases fl with
 |ret u=>
  obtain⟨v,σ',H',J,rv,q⟩:=hs;exact fin J rv q
 |next=>
  obtain⟨σ',H',J,q⟩:=hs;exact fin (v:=V.non) (u:=Value.none) J rfl q
 |brk=>
  obtain⟨_,_,_,q⟩:=hs;exact False.elim q
 |cont=>
  obtain⟨_,_,_,q⟩:=hs;exact False.elim q
structure RefDef(P:Program)(w:World)(K:Frag)(mg:OU)(base:Heap)(x:Str)(k kc:Nat)(fr:Option Str->Option D):Prop where
 ex:∃f:Addr,mg x=some (.ref f)/\keepIn K (.ref f)=true/\∀(A:Around) (outer:List Env) (s:Shared) (H:Hp) (fl:Addr) (o:Option Str) (G:Hp) (Q:VK),Room k A->Env0 P w K mg base A outer s H->a8x P w K mg base kc fl s H outer o G->Rel K u6_ G [] [] H->
  (∃d,fr o=some d/\∀v G' H',Ev K u6_ G [] [] H G' [] [] H'->Rep K G' v d->Q v H')->codeAny (model P w) A (.call (.ref f) ⟨[.ref fl],[]⟩) (CR CX0 outer P w H s Q E0) s
def a8y(N:Nat)(mb:Option Str->Mo Fl)(o:Option Str):Option D:=match mb o (List.replicate N .nil)with
 |some (.ret d,_)=>some d
 |some (.nx,_)=>some .non
 |_=>none
theorem c0y{B':OA}{σ':St}(rl:Rel K B G σ env H)(old:∀b,B' b->H b≠none):Rel K B' G σ' (List.replicate σ'.length .nil) H:=by
 have nn:∀{i:Nat}{w:W},(List.replicate σ'.length W.nil)[i]? =some w->w=.nil:=fun{i w} e=>by
  rw[Ju]at e;split at e
  ·cases e;rfl
  ·cases e
 exact⟨rl.sub,by simp,(fun i d e=>by cases nn e),(fun i w ds e1 e2=>by rw[nn e1]at e2;cases e2),(fun i j w w' ds es a e1 e2=>by rw[nn e1]at e2;cases e2),(fun i w a e eo=>by rw[nn e]at eo;cases eo),old,rl.tabs,rl.gnt⟩
theorem c0z{n:Nat}:¬ Owned σ (List.replicate n .nil) a:=fun⟨i,w,ds,e1,e2,_⟩=>by
 rw[Ju]at e1;split at e1
 ·cases e1;cases e2
 ·cases e1
theorem c0A{v:V}(h:1≤N.length):(start N [v]).length=N.length:=by
 unfold start;simp only[Qs,Qv,Yz,Yy,Xi]
 omega
theorem c0B{p1:Str}{st:Stmt}{f:Addr}{mb:Option Str->Mo Fl}(F:Fun K x qual st f fd)(S:FnScope N [p1] (y2_ st))(hm:mg x=some (.ref f))(hbi:a0M K fd [p1] [])(hkc:kc≤k)
  (hb:∀(cdv:Value) (A:Around) (outer:List Env) (s:Shared) (H:Hp) (E:XK) (fl:Addr) (o:Option Str) (G:Hp),Room k (A.deeper (envOfC qual (y2_ st) s.heap.objs.size f cdv))->
   (∀pins σ H' s',Inv (u4_ CX0 P w K mg base N qual (y2_ st) f cdv A outer s H E).nox pins σ H' s'->a4e fl s'.heap)->a8u (u4_ CX0 P w K mg base N qual (y2_ st) f cdv A outer s H E).nox (fun b=>H b≠none) fl o G->
   PSs (u4_ CX0 P w K mg base N qual (y2_ st) f cdv A outer s H E).nox (a1n st) (fun D σ H'=>σ[0]? =some (some (.ref fl))/\H'=H/\∃env fw env',Rel K (fun b=>H b≠none) G σ env H'/\mb o env=some (fw,env')/\Post K (fun b=>H b≠none) G σ env H' env' D fw)):
  RefDef P w K mg base x (k+1) kc (a8y N.length mb):=by
 have hN:1≤N.length:=by have:=Zc List.length S.pre;rw[Yk]at this;simp only[Yy,Xi]at this;omega
 refine⟨f,hm,F.kp,fun A outer s H fl o G Q hr e0 clo rl hfr=>?_⟩
 obtain⟨oc,od,kV,doc,pm,an,cdv,ct,osl,rfl,lk,hcd⟩:=F.ex;obtain⟨d,hd,hQ⟩:=hfr;have KX:K.In s.heap:=e0.mod.kin.keeps fun b o e=>(e0.bs b o e).1
 refine c0x (us:=[.ref fl]) (vs:=[.ref fl]) lk hcd S hr e0 ?_ (.cons rfl .nil) rfl fun hr'=>?_
 ·have:=hbi s [.ref fl] KX rfl
  simpa using this
 ·have un0:∀{pins:OX}{σ:St}{H':Hp}{s':Shared},Inv (u4_ CX0 P w K mg base N qual (y2_ st) f cdv A outer s H E0).nox pins σ H' s'->Un (frs outer) [] H H' s.heap s'.heap:=fun I=>I.base
  have q:=hb cdv A outer s H E0 fl o G hr' (fun pins σ H' s' I=>clo.1 H' s' (un0 I)) (fun pins s' σ env Q' E' I rl' hN' hX'=>?_)
  ·refine⟨_,q.nox,?_⟩
   have rl0:Rel K (fun b=>H b≠none) G (start N [.ref fl]) (List.replicate N.length .nil) H:=by
    have:=c0y (B':=fun b=>H b≠none) (σ':=start N [.ref fl]) rl (fun b h=>h)
    rwa [c0A hN]at this
   have side:∀{G' H':Hp}{σ':St}{env':Env'},Ev K (fun b=>H b≠none) G (start N [.ref fl]) (List.replicate N.length .nil) H G' σ' env' H'->Ev K u6_ G [] [] H G' [] [] H':=fun ev=>a5c ev (fun a=>c0z) rl
   unfold a8y at hd;split at hd
   ·rename_i d' env' em
    cases hd;exact⟨by rw[a1U (by simp)];rfl,rfl,_,_,env',rl0,em,fun v σ' G' H' ev rp=>hQ v G' H' (side ev) rp⟩
   ·rename_i env' em
    cases hd;exact⟨by rw[a1U (by simp)];rfl,rfl,_,_,env',rl0,em,fun σ' G' H' ev=>hQ .non G' H' (side ev) (by simp only[Rep])⟩
   ·cases hd
  ·exact clo.2 _ _ s' Q' E' (hr'.mono hkc) I.env0 (un0 I) (fun z v G' H' ev=>hN' z v G' H' (a5c ev (fun a=>a8w) rl')) fun n C z hC G' H' ev=>hX' n C z hC G' H' (a5c ev (fun a=>a8w) rl')
def c0C(k:Bool)(w:W):W:=if k then(match w with|.dat d=>.dat d|_=>.nil)else .nil
def a2R(keep:List Bool)(env:Env'):Env':=List.zipWith c0C keep env
theorem a8z{w:W}(h:(a2R keep env)[i]? =some w)(hw:w≠.nil):∃d,w=.dat d/\keep[i]? =some true/\env[i]? =some (.dat d):=by
 unfold a2R at h;rw[Jz]at h;cases e1:keep[i]? with
 |none=>rw[e1]at h;cases h
 |some k=>
  cases e2:env[i]? with
  |none=>rw[e1,e2]at h;cases h
  |some w0=>
   rw[e1,e2]at h;cases k with
   |false=>cases h;exact absurd rfl hw
   |true=>
    cases w0 with
    |dat d=>cases h;exact⟨d,rfl,rfl,rfl⟩
    |nil=>cases h;exact absurd rfl hw
    |own _=>cases h;exact absurd rfl hw
    |par _=>cases h;exact absurd rfl hw
    |ownD _ _=>cases h;exact absurd rfl hw
    |parD _ _=>cases h;exact absurd rfl hw
theorem c0D(rl:Rel K B G σ env H)(hk:keep.length=σ.length):Rel K (fun b=>H b≠none) G (w4_ keep 0 σ) (a2R keep env) H:=by
 have nm:∀(w:W) (es:Mu),w.mut=some es->w≠.nil:=fun w es h z=>by rw[z]at h;cases h
 have no:∀(i:Nat) (w:W) (ds:Mu),(a2R keep env)[i]? =some w->w.mut=some ds->False:=fun i w ds e1 e2=>by
  obtain⟨d,z,_⟩:=a8z e1 (nm w ds e2);rw[z]at e2;cases e2
 refine⟨rl.sub,?_,fun i d e=>?_,fun i w ds e1 e2=>(no i w ds e1 e2).elim,fun i j w w' ds es a e1 e2=>(no i w ds e1 e2).elim,fun i w a e eo=>(let ⟨m,q⟩:=own_mut eo;no i _ m e q).elim,fun b h=>h,rl.tabs,rl.gnt⟩
 ·unfold a2R w4_
  rw[Qs,Yg,Yg,Yz,rl.len];rfl
 ·obtain⟨d',z,k1,k2⟩:=a8z e (by simp)
  cases z;obtain⟨v,e1,e2⟩:=rl.dat i d k2;exact⟨v,a4U k1 e1,e2⟩
theorem c0E:¬ Owned σ (a2R keep env) a:=fun⟨i,w,ds,e1,e2,_⟩=>by
 have:w≠.nil:=fun z=>by rw[z]at e2;cases e2
 obtain⟨d,z,_⟩:=a8z e1 this;rw[z]at e2;cases e2
def a0u(names:List Str)(keep:List Bool)(mb:Mo D)(xb:Mx)(fr:Option Str->Option D):Mo D:=fun env=>(outcome names mb xb (a2R keep env)).bind fun o=>(fr o).map fun d=>(d,env)
structure TabF(K:Frag)(mg:OU)(base:Heap)(cd:Value)(qual:Str)(P:Addr):Prop where
 ex:∃c,cd=.ref c/\codeHdIn K c P=true/\codeIn K (.ref c) qual=true
 tq:tabQ K P qual=true
 bm:a2q mg base
section
variable{S:Str}{fr:Option Str->Option D}{P:Addr}{mb:Mo D}{xb:Mx}{p lpos:Pos}{ps0:Array Value}
theorem a5d(Rd:RefDef X.prog X.w X.K X.mg X.base x k (kc+1) fr)(hr:Room k X.A)(hg:Gl X x)(T:TabF X.K X.mg X.base X.env.code qual P)(hq:X.env.qual=qual++".<locals>.")(hP:X.H₀ P=some (.tbl ps0))(hfn:∀y,X.fn y=true)(hx:a1W X.K S names=true)
  (ok:CompOk X N' scope keep 0)(hco:scope.isCoroutine=false)(hgen:scope.isGenerator=false)(hnc:∀x∈scope.names,x.2≠.cell)(hdef:defaultsOf params X.env=([],[]))
  (hbind:∀cl pm c' ctv,bindArgs (kla_fn "<lambda>" (lamQ qual) params body scope cl pm (.ref c') ctv) ⟨[],[]⟩=pure [])
  (hb:∀(fl c':Addr) (cl:List (Str×Addr)) (H₁:Hp) (A:Around) (outer:List Env) (s:Shared) (E:XK),Room kc (A.deeper (envX (lamQ qual) scope s.heap.objs.size fl (.ref c') cl))->ED (a2Q X.prog X.w X.K X.mg X.base N' (lamQ qual) scope fl (.ref c') cl A outer s H₁ E).nox (fun b=>H₁ b≠none) body mb)
  (hxb:∀(fl c':Addr) (cl:List (Str×Addr)) (H₁:Hp) (A:Around) (outer:List Env) (s:Shared) (E:XK),Room kc (A.deeper (envX (lamQ qual) scope s.heap.objs.size fl (.ref c') cl))->EDx (a2Q X.prog X.w X.K X.mg X.base N' (lamQ qual) scope fl (.ref c') cl A outer s H₁ E) (fun b=>H₁ b≠none) E body xb)
  (hdb:(x==("__debug__":Str))=false:=by decide)(he:starEach [.Lambda params body scope lpos] X.env=(false,eval (.Lambda params body scope lpos) X.env)::starEach [] X.env:=by rfl)(hpl:(backTo pos (starEach [] X.env)).any (·.1)=false:=by rfl):
  ED X B (.Call (.Name x p) [.Lambda params body scope lpos] [] pos) (a0u names keep mb xb fr):=by
 intro pins s σ H Q I ⟨G,env,d,env',rl,em,k⟩;obtain⟨o,eo,e2⟩:=q2_ em;obtain⟨d',ed,e3⟩:=x3_ e2;cases e3;obtain⟨f,hm,hkp,hrun⟩:=Rd.ex;obtain⟨more,hPs⟩:=I.base.tbls P ps0 hP;obtain⟨c,hcd,hc1,hc2⟩:=T.ex;refine Jc (a3K I hg hm ?_ hdb);refine callWith_K (h₀:=X.base) I.ok.mod.kin hkp ?_ he hpl;rw[he];show wpAny _ _ (spliced ((false,eval (.Lambda params body scope lpos) X.env)::backTo pos (starEach [] X.env))) _ _ s;refine Calls.spliced_cons (c0w I hcd hc1 hc2 T.tq hq T.bm hPs rl.tabs ok.clos hdef fun fl c' H1 s1 Md=>?_)
 refine Calls.spliced_nil ⟨Md.inv.kIn,?_⟩;have ev1:=Md.ev B G env rl;have kl:keep.length=σ.length:=by rw[ok.klen,I.len]
 have stk:∀{b},b∈frs X.stack->b<s.heap.objs.size:=fun{b} hb=>by obtain⟨_,o,g,_⟩:=I.stack.mem hb;exact Qp g
 have L:LamAt X.K params body scope N' (lamQ qual) fl c' (u7_ X.env.cells scope.names []) (w4_ keep 0 σ) s1 H1 X.stack:=by
  have sub:∀{y c},(u7_ X.env.cells scope.names []).lookup y=some c->X.env.cells.lookup y=some c:=fun{y c} z=>(a2J z).elim (fun q=>by cases q) id
  refine⟨Md.obj,Md.free,fun z=>absurd (stk z) (Nat.not_lt.mpr Md.new),⟨_,Md.code,fun h p=>p qual T.tq⟩,fun y z c q1 q2=>I.ok.inj y z c (sub q1) (sub q2),fun y z=>Yq.mp (a3l (Zk z) (ok.free _ (Zk z) rfl)),fun y c q=>?_,fun i y v q1 q2 q3=>?_,?_⟩
  ·obtain⟨v,oc,g1,g2⟩:=I.cell y c (sub q)
   have g:=Md.keep c oc (I.freeC y c (sub q)) g1
   refine⟨⟨v,oc,g.1,g2⟩,g.2,fun z=>?_⟩
   rcases Qr.mp (I.stkSub c z)with z|z
   ·exact I.cne y c (sub q) z
   ·obtain⟨_,o2,g3,_⟩:=I.ok.funs.mem z
    exact absurd (Qp g3) (Nat.not_lt.mpr (I.ok.cab y c (hfn y) (sub q)))
  ·obtain⟨k1,k2⟩:=a3n q2
   obtain⟨h1,h2,h3⟩:=ok.kept i y k1 q1;have hfree:scope.names.lookup y=some .free:=by
    rcases q3 with z|z|z
    ·exact absurd z h2
    ·exact absurd z h3
    ·exact z
   obtain⟨m,hn,hl⟩:=I.loc;have ov:=ok.outVis i y k1 h1 hfree;obtain⟨u,r,l⟩:=hl i y v h1 k2 (.inr ov);obtain⟨c0,hc0⟩:=Yq.mp (a3l (acc:=[]) (Zk hfree) (ok.free _ (Zk hfree) rfl));refine⟨hfree,c0,u,hc0,r,?_⟩
   rcases l with⟨kl,_⟩|⟨_,c1,hc1,oc,g1,g2⟩
   ·have kl':X.env.scope.names.lookup y=some .local:=kl
    rcases ov with z|z<;>(rw[z]at kl';cases kl')
   ·have hc0':=sub hc0
    rw[hc1]at hc0';cases hc0';exact⟨oc,(Md.keep c0 oc (I.freeC y c0 (sub hc0)) g1).1,g2⟩
  ·unfold w4_
   rw[Qs,Yg,Yz,ok.len,ok.klen,I.len];omega
 have clo:a8x X.prog X.w X.K X.mg X.base (kc+1) fl s1 H1 X.stack o G:=
  c0r L ok.kind hco hgen hnc (fun pm ctv=>hbind _ pm c' ctv) (c0D ev1.rel kl) (fun a=>c0E) hx eo (fun A outer s E hr=>(hb fl c' _ H1 A outer s E hr).nox) (fun A outer s E hr=>hxb fl c' _ H1 A outer s E hr)
 refine wpAny_call (Xq (hrun X.A X.stack s1 H1 fl o G Q hr Md.inv.env0 clo (b2J ev1.rel) ⟨_,ed,fun v G' H' ev rp=>k v G' H' (ev1.trans (a5c ev (fun a=>a8w) ev1.rel)) rp⟩) fun r s' hq=>?_)
 cases r with
 |error e=>exact False.elim hq
 |ok fw=>
  cases fw with
  |ret u=>exact Md.inv.after hq
  |next=>exact False.elim hq
  |brk=>exact False.elim hq
  |cont=>exact False.elim hq
end
def a5e(ts:List Addr)(H:Hp):Prop:=∀P∈ts,∃ps,H P=some (.tbl ps)
def SpT(K:Frag)(ts:List Addr)(n:Nat)(f:Fn):Sp:=fun vs H Q E=>a5e ts H/\SpF K n f vs H Q E
theorem b2L{st:Stmt}{f:Addr}{mb:Mo Fl}{cdv0:Value}(F:Fun K x qual st f fd)(hcd0:fd.code=cdv0)(S:FnScope N ps (y2_ st))
  (hb:∀(A:Around) (outer:List Env) (s:Shared) (H:Hp) (E:XK),a5e ts H->Room k (A.deeper (envOfC qual (y2_ st) s.heap.objs.size f cdv0))->
   ESs (u4_ CX0 P w K mg base N qual (y2_ st) f cdv0 A outer s H E).nox (fun b=>H b≠none) (a1n st) mb):FnOk P w K mg base CX0 (k+1) f fd ps (SpT K ts ps.length (fnM N.length mb)):=by
 have hpl:ps.length≤N.length:=by have:=Zc List.length S.pre;rw[Yk]at this;omega
 obtain⟨oc,od,kV,doc,pm,an,cdv,ct,osl,rfl,lk,hcd⟩:=F.ex;obtain rfl:cdv=cdv0:=hcd0;refine a7C lk hcd S (fun vs H Q E h=>?_) (fun A outer s H vs Q E hr h=>?_)
 ·obtain⟨_,G,ws,r,ws',hl,ok,rl,_⟩:=h
  have:=rl.len;rw[Qv]at this;omega
 ·obtain⟨tb,G,ws,r,ws',hl,ok,rl,e,k⟩:=h
  have hv:ws.length=vs.length:=by have:=rl.len;rwa [Qv]at this
  refine⟨_,(hb A outer s H E tb hr).nox,?_⟩;have rl':=a7V (N:=N) rl ok (by omega)
  unfold fnM at e;split at e
  ·rename_i d env em
   cases e;refine⟨G,_,_,env,rl',em,?_⟩;exact fun v σ' G' H' ev rp=>k v G' H' (a3j rl ok (by omega) ev) rp
  ·rename_i ds env em
   cases e;refine⟨G,_,_,env,rl',em,?_⟩;intro a xs σ' G' H' ev nb no h' g' rp;refine k a xs G' H' (a3j rl ok (by omega) ev) (Je nb) ?_ h' g' rp
   rintro⟨i,w',es,e1,e2,e3⟩;obtain⟨w1,w2,q1,q2,q3⟩:=a6i e1;subst q3;obtain⟨q4,q5,q6,q7⟩:=a7W (ok _ (Yl q1)) e2;have hi:i<vs.length:=by have:=(Qh.mp q1).1;omega
   exact no ⟨i,_,es,q2,q4,by rw[(ev.par i w2 q2 q5).1,a1U hi];exact e3⟩
  ·rename_i env em
   cases e;refine⟨G,_,_,env,rl',em,?_⟩;exact fun σ' G' H' ev=>k .non G' H' (a3j rl ok (by omega) ev) (by simp only[Rep])
  ·cases e
theorem c0F{mb:OU}{fa:Addr}{fn:Fn}{vs:List Value}{ns:List Int}
  (KX:K.In s₁.heap)(hnt:noTabs K=true)(hts:∀p∈ts,s₁.heap.get? p=some (tabObj #[]))(hcs:∀p∈ts,∃c,codeHdIn K c p=true)(hns:s₁.heap.Ns mainGlobals mg)(hb:s₁.heap.Ns builtinsNs mb)(hbb:∀x:Str,x≠"__name__"->mb x=bootBuiltins x)(hlim:s₁.heap.NoLimit)(hbm:a2q mg s₁.heap)(hg:s₁.gens= #[])
  (ha:s₁.heap.get? a=some {cls:=.type "list",data:=.seq vs.toArray})(hi:IntsAre vs ns)(hl:ns.length≤sizeLine)(hr:Room k callerA)
  (F:∀base:Heap,K.In base->base.Ns mainGlobals mg->a2q mg base->FnOk P w K mg base CX0 k fa fd [x] (SpT K ts 1 fn))(hbind:∀(s:Shared) (u:Value),BindsTo s fd ⟨[u],[]⟩ [(x,u)])
  (ht:∃ws',fn [.dat (.lst (ns.map D.int))]=some (.d (.bl true),ws')):
  codeAny (model P w) callerA (.call (.ref fa) ⟨[.ref a],[]⟩) (fun r s'=>r=.ok (.ret (.bool true))/\OldK s₁.heap s'.heap/\s'.os=s₁.os/\AllBare s'.gens) s₁:=by
 have rv:=b1y hi
 have lenV:=hi.length
 have nat:a∉ts:=fun z=>by have:=hts a z;rw[ha]at this;cases this
 have kno:∀{b:Addr}{o:Obj},K.lookup b=some o->b∉ts:=fun{b o} e z=>by
  have h2:=Qb.mp hnt (b,o) (mem_of_lookupK e)
  have h3:=KX b o e
  rw[hts b z]at h3;cases h3;cases h2
 have core:∀(H:Hp),(∀b,H b=none∨(b=a/\∃o xs,H b=some (.frz o (.lst xs)))∨(b∈ts/\H b=some (.tbl #[])))->(∀b∈ts,H b=some (.tbl #[]))->SqL K H a (ns.map V.int)->HOk P w H s₁.heap->(H a≠none->K.lookup a=none)->
   codeAny (model P w) callerA (.call (.ref fa) ⟨[.ref a],[]⟩) (fun r s'=>r=.ok (.ret (.bool true))/\OldK s₁.heap s'.heap/\s'.os=s₁.os/\AllBare s'.gens) s₁:=by
  intro H hO hT hS hok hK;have base_of:∀{b:Addr}{o:Obj},s₁.heap.get? b=some o->H b=none->(a1N s₁.heap H).get? b=some o:=fun e n=>b6k e n
  have noA:∀{b:Addr}{o:Obj},s₁.heap.get? b=some o->o.cls≠.type "list"->o.cls≠.none->H b=none:=fun{b o} e d1 d2=>by
   rcases hO b with q|⟨q,_⟩|⟨q,_⟩
   ·exact q
   ·subst q;rw[ha]at e;cases e;exact absurd rfl d1
   ·rw[hts b q]at e;cases e;exact absurd rfl d2
  have noD:∀{b:Addr}{o:Obj}{es:Array DictEntry}{ep:Nat},s₁.heap.get? b=some o->o.data=.dict es ep->H b=none:=fun{b o es ep} e d=>by
   rcases hO b with q|⟨q,_⟩|⟨q,_⟩
   ·exact q
   ·subst q;rw[ha]at e;cases e;cases d
   ·rw[hts b q]at e;cases e;cases d
  have nsK:∀{b:Addr}{m:OU},s₁.heap.Ns b m->(a1N s₁.heap H).Ns b m:=fun{b m} ⟨o,es,ep,e,d,r⟩=>⟨o,es,ep,base_of e (noD e d),d,r⟩
  have hKb:K.In (a1N s₁.heap H):=fun b o e=>base_of (KX b o e) (by
   rcases hO b with q|⟨q,o',xs,z⟩|⟨q,_⟩
   ·exact q
   ·subst q;rw[hK (by rw[z];simp)]at e;cases e
   ·exact absurd q (kno e))
  have hM:Mod K mg (a1N s₁.heap H):=⟨hKb,nsK hns,⟨mb,nsK hb,hbb⟩,let ⟨mc,h1,h2⟩:=hlim;⟨mc,nsK h1,h2⟩⟩
  have hBm:a2q mg (a1N s₁.heap H):=by
   obtain⟨bm,o,b1,b2,b3,b4,b5,b6,b7⟩:=hbm;exact⟨bm,o,b1,b2,b3,base_of b4 (noA b4 (by rw[b5];simp) (by rw[b5];simp)),b5,b6,b7⟩
  have e0:Env0 P w K mg (a1N s₁.heap H) callerA [] s₁ H:=⟨rfl,hM,fun b o e=>b6l e,Xc (b6j _ _),trivial,fun b hb=>absurd (show b∈([]:List Addr)from hb) (by simp),hok,.of_eq hg⟩
  have sp:SpT K ts 1 fn [.ref a] H (fun v _=>v=.bl true) (fun _ _ _=>False):=by
   obtain⟨ws',e⟩:=ht;refine⟨fun p hp=>⟨#[],hT p hp⟩,fun b=>if b∈ts then none else H b,[.dat (.lst (ns.map D.int))],.d (.bl true),ws',rfl,fun v hv=>.inl ?_,⟨fun b o z=>?_,rfl,fun i d z=>?_,fun i v ds e1 e2=>?_,fun i j v v' ds es a e1 e2=>?_,fun i w a e1 e2=>?_,fun b h=>h.elim,fun p ps z=>?_,fun b o z ps y=>?_⟩,e,?_⟩
   ·simp at hv;exact⟨_,hv⟩
   ·split at z
    ·cases z
    ·exact z
   ·cases i with
    |zero=>
     simp at z
     subst z;refine⟨.ref a,rfl,?_⟩;simp only[Rep];refine⟨a,_,rfl,?_,b2o ns⟩
     rcases hS with(q|⟨o,q⟩)|q
     ·exact .inl (.inl ((Ql nat).trans q))
     ·exact .inl (.inr ⟨o,(Ql nat).trans q⟩)
     ·exact .inr q
    |succ i=>simp at z
   ·cases i with
    |zero=>simp at e1;subst e1;cases e2
    |succ i=>simp at e1
   ·cases i with
    |zero=>simp at e1;subst e1;cases e2
    |succ i=>simp at e1
   ·cases i with
    |zero=>simp at e1;subst e1;cases e2
    |succ i=>simp at e1
   ·rcases hO p with q|⟨_,o,xs,q⟩|⟨_,q⟩
    ·rw[q]at z;cases z
    ·rw[q]at z;cases z
    ·rw[q]at z;cases z
     exact⟨trivial,fun pos v y=>by cases y⟩
   ·split at z
    ·cases z
    ·rename_i hb
     rcases hO b with q|⟨_,o',xs,q⟩|⟨q,_⟩
     ·rw[q]at z;cases z
     ·rw[q]at z;cases z;cases y
     ·exact hb q
   ·intro v G' H' _ rp
    simpa only[Rep]using rp
  refine Xq ((F _ hKb (nsK hns) hBm).run callerA [] s₁ H ⟨[.ref a],[]⟩ [.ref a] [.ref a] _ _ hr e0 (hbind s₁ (.ref a)) (.cons rfl .nil) sp) fun r s' h=>?_
  cases r with
  |error e=>exact False.elim h
  |ok fl=>
   cases fl with
   |next=>exact False.elim h
   |brk=>exact False.elim h
   |cont=>exact False.elim h
   |ret u=>
    obtain⟨v,H',os,bare,un,hok',r',q⟩:=h;have q':v=.bl true:=q;subst q';obtain rfl:u=Value.bool true:=r';refine⟨rfl,⟨fun b o e=>?_,fun b o e=>un.there b o e (by simp)⟩,os,bare⟩
    rcases hO b with q|⟨_,ob,xs,z⟩|⟨hb,z⟩
    ·exact .inl (un.keep b o e q (by intro z;exact absurd (show b∈([]:List Addr)from z) (by simp)) (by simp))
    ·have z2:=un.frzs b ob _ z
     obtain⟨e1,_⟩:=hok b _ z;obtain⟨e2,_⟩:=hok' b _ z2;rw[e]at e1;cases e1;exact .inl e2
    ·obtain⟨more,z2⟩:=un.tbls b #[] z
     have e2:s'.heap.get? b=some {cls:=.none,data:=.fields (#[]++more)}:=hok' b _ z2
     have e3:=hts b hb
     rw[e]at e3;cases e3;obtain⟨c,hc⟩:=hcs b hb;exact .inr (.inl ⟨((codeHd_of_K KX hc).tab (hts b hb)).isCodeTable,rfl,#[],more,rfl,e2⟩)
 cases hk:K.lookup a with
 |some o=>
  have e:=KX a o hk
  rw[ha]at e;cases e;refine core (fun b=>if b∈ts then some (.tbl #[])else none) (fun b=>?_) (fun b hb=>Qn hb) (.inr ⟨_,vs.toArray,_,hk,rfl,rfl,rfl,by rw[Qm,lenV];exact hl,by simpa using rv⟩) (fun b u z=>?_) fun z=>absurd (Ql nat) z
  ·by_cases hb:b∈ts
   ·exact .inr (.inr ⟨hb,Qn hb⟩)
   ·exact .inl (Ql hb)
  ·dsimp only at z
   split at z
   ·rename_i hb;cases z;exact hts b hb
   ·cases z
 |none=>
  refine core (fun b=>if b=a then some (.frz {cls:=.type "list",data:=.seq vs.toArray} (.lst (ns.map V.int)))else if b∈ts then some (.tbl #[])else none) (fun b=>?_) (fun b hb=>by
   have hne:b≠a:=fun z=>nat (by rw[←z];exact hb)
   show(if b=a then _ else if b∈ts then _ else _)=_
   rw[Ql hne,Qn hb]) (.inl (.inr ⟨{cls:=.type "list",data:=.seq vs.toArray},Qn rfl⟩)) (fun b u z=>?_) fun _=>hk
  ·by_cases hb:b=a
   ·exact .inr (.inl ⟨hb,_,_,Qn hb⟩)
   ·by_cases hb2:b∈ts
    ·exact .inr (.inr ⟨hb2,by rw[Ql hb,Qn hb2]⟩)
    ·exact .inl (by rw[Ql hb,Ql hb2])
  ·dsimp only at z
   split at z
   ·rename_i hb
    cases z;subst hb;exact⟨ha,by rw[Qv];exact hl,vs,_,rv,ha⟩
   ·split at z
    ·rename_i hb;cases z;exact hts b hb
    ·cases z
theorem c0G{l:OpenLaw}{q:Program}{loose:List Str}{XP:(OU)->Heap->Prop}{YP:World->Heap->Prop}{d:DefRec}{K:Params->Frag}{fn:Fn}
  (hn:l.most=some 63)(hdf:d.params.defaults=[])(hr:Room k callerA)(hY:∀(w:World) (h:Heap),YP w h->(K w.params).In h/\∀p∈ts,h.get? p=some (tabObj #[]))
  (F:∀(w:World) (mg:OU) (fa:Addr) (h:Heap),(K w.params).In h->h.Ns mainGlobals mg->mg d.name=some (.ref fa)->
   ∃fd:FuncData,(∀(s:Shared) (u:Value),BindsTo s fd ⟨[u],[]⟩ [(x,u)])/\noTabs (K w.params)=true/\(∀p∈ts,∃c,codeHdIn (K w.params) c p=true)/\∀base:Heap,(K w.params).In base->base.Ns mainGlobals mg->a2q mg base->FnOk l.prog w (K w.params) mg base CX0 k fa fd [x] (SpT (K w.params) ts 1 fn))
  (ht:∀ns:List Int,ns.length≤63->∃ws',fn [.dat (.lst (ns.map D.int))]=some (.d (.bl true),ws')):
  WalkO q loose XP YP l.row.toRowW d [] (fun f vs=>PySem.call f vs):=by
 refine Att.attach_call hn hdf fun w s₀ s₁ mg mb fa o pm cd doc a vs ns G Y ho hd hcd hmg hobj hints hlen hg=>?_
 obtain⟨KX,hT⟩:=hY w _ Y;obtain⟨fd,hb,hnt,hcs,hF⟩:=F w mg fa _ KX G.T.g hmg;have hbm:a2q mg s₁.heap:=by
  obtain⟨bm,ob,b1,b2,b3,b4,b5,b6⟩:=G.T.bmain;refine⟨bm,ob,b1,b2,fun z=>?_,b3,b4,b5,b6⟩
  obtain⟨o,es,ep,e,hd,_⟩:=G.T.g;rw[z,e]at b3;cases b3;rw[hd]at b6;cases b6
 exact c0F KX hnt hT hcs G.T.g G.T.b G.T.builtins G.T.nolimit hbm hg hobj hints (Zp hlen (by decide)) hr hF hb (ht ns hlen)
theorem c0H{S:Str}(h:a1W K S names=true)(hn:n∈names):a2O K n=true:=let ⟨_,F⟩:=a4b h hn;F.one
def a5f(K:Frag)(cd:Value)(P:Addr):Bool:=match cd with
 |.ref c=>codeHdIn K c P
 |_=>false
theorem a8A{P:Addr}(h:a5f K cd P=true):∃c,cd=.ref c/\codeHdIn K c P=true:=by
 unfold a5f at h;split at h
 ·exact⟨_,rfl,h⟩
 ·cases h
theorem b2M{P:Addr}(h1:a5f K cd P=true)(h2:codeIn K cd qual=true)(h3:tabQ K P qual=true)(hb:a2q mg base):TabF K mg base cd qual P:=by
 obtain⟨c,rfl,hc⟩:=a8A h1;exact⟨⟨c,rfl,hc,h2⟩,h3,hb⟩
end L2.Mir
namespace L2.Mir
open PySem PySem.Spec PyProof.Rows PySem.W
variable{A:Around}{B:OA}{E:OE}{H:Hp}{J:It}{K:Qz}{P prog:Program}{X:Cx}{a mi ms:Mo (List D)}{acc it:Value}{b p:Addr}{d more x1 x2:Nat}{e elt iter target tg:Expr}{env:Env}{gens:List Comprehension}{i j:Int}{ifs:List Expr}{k:List Int}{keep:List Bool}{ma:Mo D}{p1 p2 pos:Pos}{pins:OX}{s:Shared}{scope:Scope}{v:V}{w:World}{wi:TI}{σ:St}
def bools?:List D->Option (List Bool)
 |[]=>some []
 |.bl i::r=>(bools? r).map fun l=>i::l
 |_::_=>none
theorem b2N{K:Qz}{G:Hp}:∀{ds:List D}{xs:List V}{ns:List Bool},z9_ K G xs ds->bools? ds=some ns->xs=ns.map V.bl
 |[],_,ns,r,e=>by simp only[z9_]at r;subst r;cases e;rfl
 |d::ds,_,ns,r,e=>by
  simp only[z9_]at r;obtain⟨x,t,rfl,q,r⟩:=r;cases d<;>first|(exact absurd (show(none:Option (List Bool))=some ns from e) (by simp))|skip
  obtain⟨l,e1,e2⟩:=x3_ (show(bools? ds).map _=some ns from e)
  subst e2;simp only[Rep]at q;subst q;rw[b2N r e1];rfl
def a8B:D->D->Option D
 |.lst ds,.bl b=>(bools? ds).bind fun bs=>(bs.findIdx? fun y=>y==b).map fun(j:Nat)=>D.int (j:Int)
 |_,_=>none
section
variable{o:Expr}{mb:Mo D}
theorem c0I(ns:List Bool):(ns.map V.bl).all a1m=true:=by
 induction ns with
 |nil=>rfl
 |cons n ns ih=>simp[a1m,ih]
def c0J(K:Frag):V->List V->Hp->VK->Prop:=fun x vs H Q=>∃(p:Addr) (bs:List Bool) (b:Bool) (j:Nat),x=.ref p/\vs=[.bl b]/\SqL K H p (bs.map V.bl)/\(bs.findIdx? fun y=>y==b)=some j/\Q (.int j) H
theorem c0K:MtM X "list.index" (c0J X.K):=by
 intro pins s σ H x vs v us Q I rx rv h;obtain⟨p,bs,b,j,rfl,rfl,hq,hj,q⟩:=h;cases rx;obtain⟨u,rfl,ru⟩:=rv.one;have ru':=ru;cases ru;obtain⟨its,r,pl,hz⟩:=I.list hq;obtain⟨⟨oc,od,odt,osl⟩,n,e,hc,hd,hdt⟩:=pl;dsimp only at hc hd hdt;subst hc hd hdt;obtain⟨hjl,hj1,hj2⟩:=List.findIdx?_eq_some_iff_getElem.mp hj;have hlen:its.length=bs.length:=by have:=r.length;simpa using this.symm
 have item:∀(m:Nat) (hm:m<its.length),its[m]=.bool (bs[m]'(by omega)):=fun m hm=>by
  obtain⟨u,h1,h2⟩:=r.get (i:=m) (x:=.bl (bs[m]'(by omega))) (by simp[show m<bs.length by omega])
  rw[Zv hm]at h1;cases h1;exact h2
 refine Vu PySem.F.slot_list_index ⟨_,e,rfl⟩ PySem.F.entry_list_index (PySem.F.args_list_index_2 _ _)
  (SeqAt.list_indexAt p its.toArray n none osl (.bool b) (eqU (.bl b)) j (by simpa using (by omega:j<its.length)) ?_ ?_ ?_) ⟨?_,fun w hw=>a5P (x:=.bl b) ru' rfl r (c0I bs) w (by simpa using hw),⟨.int j,H,I.tok _,⟨_,rfl⟩,q⟩⟩
 ·have:its.length≤sizeLine:=by rw[hlen];simpa using hz
  rw[sizeLine_eq]at this
  omega
 ·rw[List.getElem_toArray,item j (by omega)]
  show(bs[j]==b)=true;exact hj1
 ·intro m hm hlt
  rw[List.getElem_toArray,item m (by simpa using hm)]
  show(bs[m]==b)=false;exact Bool.eq_false_iff.mpr (hj2 m hlt)
 ·exact e
theorem b2O{apos cpos:Pos}(ho:ED X B o ma)(he:ED X B e mb)
  (hbase:attributeBase o "index" X.env (eval o X.env)=eval o X.env:=by rfl)
  (hfew:((backTo cpos (starEach [e] X.env)).all (fun x=>!x.1)&&(backToKw cpos (keywordEach [] X.env)).all (fun x=>x.1.isSome)
   &&decide ([e].length+([]:List Keyword).length+(if([]:List Keyword).isEmpty then 0 else 1)<30))=true:=by rfl)
  (hline:(apos.endLine==cpos.line)=true:=by rfl)(hs:starEach [e] X.env=(false,eval e X.env)::starEach [] X.env:=by rfl)(hplain:(backTo cpos (starEach [] X.env)).any (·.1)=false:=by rfl):
  ED X B (.Call (.Attribute o "index" apos) [e] [] cpos) (z4_ a8B ma mb):=by
 refine pe_imp (a7F Vp PySem.F.slot_list_index PySem.F.type_list_index c0K ho (a0g he a1l hs) hbase hfew hline hs hplain) ?_
 rintro σ H Q ⟨G,env,d,env',rl,e,k⟩;obtain⟨⟨d1,env1⟩,e1,e2⟩:=q2_ e;obtain⟨⟨d2,env2⟩,e3,e4⟩:=q2_ e2;obtain⟨d3,e5,e6⟩:=x3_ e4;cases e6;dsimp only at e3 e5;unfold a8B at e5;split at e5
 ·rename_i ds b
  obtain⟨bs,e7,e8⟩:=q2_ e5;obtain⟨j,e9,e10⟩:=x3_ e8;cases e10;refine .bind rl e1 fun v G1 H1 ev1 r1=>?_
  simp only[Rep]at r1;obtain⟨a,xs,rfl,hq,rp⟩:=r1;refine⟨.inl ⟨rfl,xs,ev1.rel.sub.sqL hq⟩,.bind ev1.rel e3 fun v2 G2 H2 ev2 r2=>?_⟩
  simp only[Rep]at r2;subst r2;have hb:=b2N rp e7;subst hb;exact⟨a,bs,b,j,rfl,rfl,(ev2.same.trans ev2.rel.sub).sqL hq,e9,k _ G2 H2 (ev1.trans ev2) (by simp only[Rep])⟩
 ·cases e5
end
open AutoSeq1 (wpAny_loadPart')
section
variable{a b c:Expr}
end
theorem z9_.flat{K:Qz}{G:Hp}{xs:List V}{ds:List D}(h:z9_ K G xs ds):∀n,z9_ K G (List.replicate n xs).flatten (List.replicate n ds).flatten
 |0=>repL_nil
 |n+1=>by rw[Zs,Zs,Jw,Jw];exact h.append (z9_.flat h n)
def a1I(elt:Expr)(gens:List Comprehension)(scope:Scope)(pos:Pos)(d:Nat)(acc:Value)(env:Env):Sem Unit:=match gens[d+1]? with
 |some g'=>do
  let x←eval g'.iter env
  standAt g'.iter.pos
  let x←if g'.is_async !=0 then foldedIterable g'.iter x else foldedSetIterable g'.iter env x
  let _←runOwn (.compStart (.ListComp elt gens scope pos) (d+1) (←holding [x] (if g'.is_async !=0 then asyncIter x else pyIter x)) acc env) env
 |none=>do let _←call (.builtin "list.append") [acc,←eval elt env]
theorem c0L(hd:gens[d]? =some ⟨target,iter,ifs,0⟩):
  compTurn (.ListComp elt gens scope pos) d it acc env=(do
   standAt iter.pos
   match←pyNext it with
   |none=>pure (.done .next)
   |some v=>
    letOwnedTupleGo target it v
    assign target env v
    let mut ok:=true
    for c in ifs do
     if ok then ok←isTrue c env (eval c env)
    if ok then
     a1I elt gens scope pos d acc env
    again (.compLoop (.ListComp elt gens scope pos) d it acc env)):=by
 unfold compTurn a1I;dsimp only;rw[hd];cases gens[d+1]? with
 |none=>rfl
 |some g'=>
  show(standAt iter.pos>>=fun _=>pyNext it>>=fun r=>_)=_
  refine Zc (standAt iter.pos>>= ·) (funext fun _=>Zc (pyNext it>>= ·) (funext fun r=>?_))
  cases r with
  |none=>rfl
  |some v=>
   refine Zc (letOwnedTupleGo target it v>>= ·) (funext fun _=>Zc (assign target env v>>= ·) (funext fun _=>Zc (_>>= ·) (funext fun ok=>?_)))
   cases ok with
   |false=>rfl
   |true=>
    by_cases ha:(g'.is_async !=0)=true
    ·simp only[ha,Zy,bind_assoc,pure_bind]
    ·simp only[ha,Zy,Yj,bind_assoc,pure_bind,Zq]
section
variable{R:Result->Shared->Prop}
theorem b2P(hd:gens[d]? =some ⟨target,iter,ifs,0⟩)(I:Nat->Shared->Prop)
  (turn:∀n s,I n s->wpAny (model prog w) A (pyNext it) (fun r s₁=>match r with
   |none=>R (.ok .next) s₁
   |some v=>wpAny (model prog w) A (letOwnedTupleGo target it v) (fun _ s₁'=>wpAny (model prog w) A (assign target env v) (fun _ s₂=>
     wpAny (model prog w) A (forIn ifs true fun c r=>if r=true then do let ok←isTrue c env (eval c env);pure (ForInStep.yield ok)else pure (ForInStep.yield r)) (fun ok s₃=>
      if ok=true then wpAny (model prog w) A (a1I elt gens scope pos d acc env) (fun _ s₅=>∃m,m<n/\I m s₅) (fun _ _=>False) s₃
      else∃m,m<n/\I m s₃) (fun _ _=>False) s₂) (fun _ _=>False) s₁') (fun _ _=>False) s₁) (fun _ _=>False) s)
  (n:Nat)(h:I n s):
  codeAny (model prog w) A (.compLoop (.ListComp elt gens scope pos) d it acc env) R s:=by
 refine codeAny_loop rfl I (fun n s hI=>?_) n h
 show wpAny _ A ((compTurn (.ListComp elt gens scope pos) d it acc env).onRaise (fun x=>do noteFrame x env;theTreesLotGoes x)) _ _ s
 refine wpAny_noted ?_
 rw[c0L hd];refine Qq (Jr (Qq (Qt (turn n s hI) (fun r s₁ h₁=>?_) fun _ _ h'=>h'.elim)))
 cases r with
 |none=>exact Qk h₁
 |some v=>
  refine Qq (Qt h₁ (fun _ s₁' h₁'=>?_) fun _ _ h'=>h'.elim)
  refine Qq (Qt h₁' (fun _ s₂ h₂=>Qq (Qt h₂ (fun ok s₃ h₃=>?_) fun _ _ h'=>h'.elim)) fun _ _ h'=>h'.elim)
  cases ok with
  |false=>exact Qk ⟨rfl,h₃⟩
  |true=>exact Qq (Qt h₃ (fun _ s₅ h₅=>Qk ⟨rfl,h₅⟩) fun _ _ h'=>h'.elim)
theorem c0M(hd:gens[d]? =some ⟨target,iter,ifs,0⟩)
  (h0:codeAny (model prog w) A (.compLoop (.ListComp elt gens scope pos) d it acc env) R s)
  (h:wpAny (model prog w) A (pyIter it) (fun it' s'=>codeAny (model prog w) A (.compLoop (.ListComp elt gens scope pos) d it' acc env) R s')
   (notedBy (model prog w) A env fun x s'=>R (.error x) s') s):
  codeAny (model prog w) A (.compStart (.ListComp elt gens scope pos) d it acc env) R s:=by
 refine codeAny_of_tree ?_
 show wpAny _ _ ((compStart (.ListComp elt gens scope pos) d it acc env).onRaise (fun x=>do noteFrame x env;standAt theWindowsPlace)) _ _ s
 refine wpAny_notedAt ?_
 unfold compStart;rw[show clausesOf (.ListComp elt gens scope pos)=gens from rfl,hd]
 show wpAny _ _ (ask>>=_) _ _ s;refine Qq (wpAny_askSetting (wpAny_ite ?_));split
 ·first
   |exact Qq (Qk (Qk (And.intro rfl h0)))
   |exact Qk (And.intro rfl h0)
 ·first
   |exact Qq (Ul (Qq (Jr (Qq (Qt h (fun it' s' h'=>Qk (And.intro rfl h')) fun _ _ x=>x)))))
   |(refine Qq (Ul ?_);show wpAny _ _ (standAt iter.pos>>=_) _ _ s;exact Qq (Jr (Qq (Qt h (fun it' s' h'=>Qk (And.intro rfl h')) fun _ _ x=>x))))
end
abbrev a1J:=St->Hp->(St->Hp->Prop)->Prop
def a6D(J:It)(g:TG)(tt:TT)(act:a1J)(σ₀:St)(H₀:Hp)(Q:St->Hp->Prop):Prop:=
 ∃W:Nat->Nat->St->Hp->Prop,(∃m,W 0 m σ₀ H₀)/\∀i m σ H,W i m σ H->
  (J.stop i H/\Q σ H)∨(J.go i H/\∀x H',J.yld i H x H'->g x σ H' fun σ2 H2=>tt σ2 H2 fun b H3=>
   if b=true then act σ2 H3 fun σ4 H4=>∃m',m'<m/\W (i+1) m' σ4 H4 else∃m',m'<m/\W (i+1) m' σ2 H3)
def a2S(X:Cx)(sem:Sem Unit)(act:a1J):Prop:=∀(pins:OX) (s:Shared) (σ:St) (H:Hp) (Q:St->Hp->Prop),Inv X pins σ H s->act σ H Q->
 wpAny (model X.prog X.w) X.A sem (fun _ s'=>∃σ' H',Inv X pins σ' H' s'/\Q σ' H') (fun _ _=>False) s
def b2Q(te:TE)(p:Addr):a1J:=fun σ H Q=>te σ H fun y H4=>∃ys,H4 p=some (.lst ys)/\ys.length<sizeLine/\Q σ (upd H4 p (.lst (ys++[y])))
def b2R(wi:TI)(g:TG)(tt:TT)(act:a1J):a1J:=fun σ H Q=>wi σ H fun J H1=>a6D J g tt act σ H1 Q
theorem c0N{te:TE}(hx:∀e s,¬ X.xe e s)(hn:gens[d+1]? =none)(he:PE X elt te):a2S X (a1I elt gens scope pos d (.ref p) X.env) (b2Q te p):=by
 intro pins s σ H Q I h;unfold a1I;rw[hn];refine Qq (Qt (he pins s σ H _ I h) (fun v s1 ⟨y,H1,I1,r1,ys,hys,hl,q⟩=>?_) fun e s' z=>(hx e s' z).elim)
 refine Qq (Qt (a7G (X:=X) _ s1 σ H1 (.ref p) [y] (.ref p) [v] (fun _ H2=>Q σ H2) I1 rfl (.cons r1 .nil) ⟨p,ys,y,rfl,rfl,hys,hl,q⟩) (fun _ s2 ⟨_,H2,I2,_,w2⟩=>Qk ⟨σ,H2,I2,w2⟩) fun e s' z=>(hx e s' z).elim)
theorem c0O{g:TG}{tt:TT}{act:a1J}(hx:∀e s,¬ X.xe e s)(hc:X.calm=true)(hd:gens[d+1]? =some ⟨tg,iter,ifs,0⟩)(hi:PI X tg iter wi)(hg:PG X tg g)(ht:a0r X ifs tt)
  (ha:a2S X (a1I elt gens scope pos (d+1) acc X.env) act)(hs:∀x,foldedSetIterable iter X.env x=pure x):a2S X (a1I elt gens scope pos d acc X.env) (b2R wi g tt act):=by
 intro pins s σ H Q I h;unfold a1I;rw[hd];have nof:∀(e:Value) (s:Shared),X.xe e s->False:=fun e s z=>hx e s z
 refine Qq (Qt (hi pins s σ H _ I h) (fun v s1 h1=>?_) fun e s' z=>(hx e s' z).elim)
 refine Qq (Jr ?_);show wpAny _ _ (foldedSetIterable iter X.env v>>=_) _ _ s1;refine Qq (wpAny_of_eq (hs v) ?_);show wpAny _ _ (holding [v] (pyIter v)>>=_) _ _ s1;refine Qq (Yn (Qt h1 (fun itv s2 h2=>?_) fun e s' z=>(hx e s' z).elim))
 obtain⟨it,fp,tn,J,H2,e,I2,T,st2,f2,W,⟨m0,w0⟩,turn⟩:=h2;subst e;have stat:∀{H':Hp},(∀b∈fp,H' b=none)->∀b∈fp,u9_ X pins H' b:=fun hn b hb=>⟨hn b hb,(f2 b hb).2⟩
 have loop:codeAny (model X.prog X.w) X.A (.compLoop (.ListComp elt gens scope pos) (d+1) (.ref it) acc X.env) (fun r s'=>match r with|.ok f=>wpAny (model X.prog X.w) X.A (pure ()) (fun _ s'=>∃σ' H',Inv X pins σ' H' s'/\Q σ' H') (fun _ _=>False) s'|.error e=>cameBackBy (model X.prog X.w) X.A X.env (fun _ _=>False) e s') s2:=by
  refine b2P hd (fun n s'=>∃i σ' H',Inv X pins σ' H' s'/\tn i s'.heap/\(∀b∈fp,H' b=none)/\W i n σ' H') ?_ m0 ⟨0,σ,H2,I2,st2,fun b hb=>(f2 b hb).1,w0⟩
  rintro n s3 ⟨i,σ3,H3,I3,st3,fr3,w3⟩
  rcases turn i n σ3 H3 w3 with⟨stop,qn⟩|⟨go,step⟩
  ·refine Qt (T.done X rfl rfl rfl hc i pins s3 σ3 H3 (fun _ _=>False) I3 (stat fr3) st3 stop) (fun r s4 ⟨hr,I4⟩=>?_) fun _ _ z=>z
   subst hr;exact Qk ⟨σ3,H3,I4,qn⟩
  ·refine Qt (T.item X rfl rfl rfl hc i pins s3 σ3 H3 (fun _ _=>False) I3 (stat fr3) st3 go) (fun r s4 ⟨u,hr,h4⟩=>?_) fun _ _ z=>z
   subst hr;refine Qt h4 (fun _ s5 ⟨x,H5,I5,r5,y5,st5,fr5⟩=>?_) fun _ _ z=>z
   have I5':=I5.pinned (stat fr5) (T.obj _ _ st5)
   have back:∀{σ8:St}{H8:Hp}{s8:Shared}{m':Nat},Inv X (pins++a3f fp s5.heap) σ8 H8 s8->m'<n->W (i+1) m' σ8 H8->∃m,m<n/\∃i σ' H',Inv X pins σ' H' s8/\tn i s8.heap/\(∀b∈fp,H' b=none)/\W i m σ' H':=fun{σ8 H8 s8 m'} I8 hm w8=>by
    refine⟨m',hm,i+1,σ8,H8,I8.unpinned,T.keep _ _ _ st5 fun b hb o e=>(I8.pin (b,o) (Qo _ (Qo _ (a2z hb e)))).1,fun b hb=>?_,w8⟩
    obtain⟨o,e,d⟩:=T.obj _ _ st5 b hb;exact(I8.pin (b,o) (Qo _ (Qo _ (a2z hb e)))).2.1
   refine Qt (hg _ s5 σ3 H5 x u _ I5' r5 (step x H5 y5)) (fun _ s6 ⟨σ6,H6,I6,q6⟩=>?_) nof
   refine Qt (ht _ s6 σ6 H6 _ I6 q6) (fun b s7 ⟨H7,I7,q7⟩=>?_) nof
   cases b with
   |false=>
    simp only[Zq,Yj]at q7 ⊢;obtain⟨m',hm,w7⟩:=q7;exact back I7 hm w7
   |true=>
    simp only[Zy]at q7 ⊢;exact Qt (ha _ s7 σ6 H7 _ I7 q7) (fun _ s8 ⟨σ8,H8,I8,m',hm,w8⟩=>back I8 hm w8) fun _ _ z=>z
 refine Qq (wpAny_runOwn (h:=none) (c0M hd loop (Qt (T.self X.A 0 s2 _ (fun _ _=>False) st2 loop) (fun _ _ q=>q) fun _ _ q=>q.elim)))
section
variable{N':List Str}{gs:List Comprehension}{g:TG}{tt:TT}{act:Addr->a1J}
theorem c0P{it:Addr}{fp:List Addr}{tn:Nat->Heap->Prop}{Qf:Addr->Hp->Prop}{RR:Value->Addr->Result->Shared->Prop}
  (ok:CompOk X N' scope keep more)(hc:X.calm=true)(hg:∀s H fp,PG (x1_ X N' scope s H fp) tg g)(ht:∀s H fp,a0r (x1_ X N' scope s H fp) ifs tt)(he:∀s H fp p,a2S (x1_ X N' scope s H fp) (a1I elt (⟨tg,iter,ifs,0⟩::gs) scope pos 0 (.ref p) (x1_ X N' scope s H fp).env) (act p))
  (I:Inv X pins σ H s)(T:Turn X.prog X.w X.K tg J fp it tn)(st:tn 0 s.heap)(hf:∀b∈fp,u9_ X pins H b)
  (run:∀p,H p=none->a6D J g tt (act p) (w4_ keep more σ) (upd H p (.lst [])) (fun _ H'=>Qf p H'))
  (hRR:∀p C s' H' m,Inv X pins σ H' s'->Qf p H'->s'.heap.Ns C m->C≠X.env.locals->(∀x c,X.env.cells.lookup x=some c->c≠C)->H' C=none->(∀σ'' H'' s'' h',Inv X pins σ'' H'' s''->H'' C=none->Heap.SameBut C s''.heap h'->Inv X pins σ'' H'' {s'' with heap:=h'})->RR (.ref p) C (.ok .next) s'):
  wpAny (model X.prog X.w) X.A (newList []) (fun acc s₃=>wpAny (model X.prog X.w) X.A (newFunctionEnv scope X.env.globals (u7_ X.env.cells scope.names []) [] X.env.qual none .none (some X.env)) (fun cenv s₄=>
   codeAny (model X.prog X.w) X.A (.compStart (.ListComp elt (⟨tg,iter,ifs,0⟩::gs) scope pos) 0 (.ref it) acc {cenv with scope:=relabel scope X.env}) (RR acc cenv.locals) s₄) E s₃) E s:=by
 have hp0:H s.heap.objs.size=none:=I.hok.fresh (Qy _)
 refine Zd ?_
 have I3:Inv X pins σ (upd H s.heap.objs.size (.lst [])) {s with heap:=s.heap.push {cls:=.type "list",dict:=none,data:=.seq ([]:List Value).toArray}}:=
  I.laid (t':=s.toks) (fun b u e=>Qx _ e) (Qy _) ⟨Ub _,[],0,.nil,Qg _ rfl⟩
 have fpOld:∀b∈fp,b<s.heap.objs.size:=fun b hb=>by
  obtain⟨o,e,_⟩:=T.obj 0 _ st b hb;exact Qp e
 have hf3:∀b∈fp,u9_ X pins (upd H s.heap.objs.size (.lst [])) b/\b<(s.heap.push {cls:=.type "list",dict:=none,data:=.seq ([]:List Value).toArray}).objs.size:=fun b hb=>by
  refine⟨⟨by rw[q7_ (Qi (fpOld b hb))];exact(hf b hb).1,(hf b hb).2⟩,?_⟩
  rw[Zr];exact Vh (fpOld b hb)
 have st3:tn 0 (s.heap.push {cls:=.type "list",dict:=none,data:=.seq ([]:List Value).toArray}):=T.keep 0 _ _ st fun b hb o e=>Qx _ e
 generalize hs3:({s with heap:=s.heap.push {cls:=.type "list",dict:=none,data:=.seq ([]:List Value).toArray}}:Shared)=s3 at I3 ⊢
 have hs3h:s3.heap=s.heap.push {cls:=.type "list",dict:=none,data:=.seq ([]:List Value).toArray}:=by rw[←hs3]
 rw[←hs3h]at hf3 st3;generalize hp:s.heap.objs.size=p at hp0 I3 hf3 ⊢;generalize hH3:upd H p (.lst [])=H3 at I3 hf3;refine b1T _ ?_
 have I4:=b1S ok I3 hf3
 generalize hs4:({s3 with heap:=pushCells (s3.heap.push {cls:=.type "dict",data:=.dict #[]}) scope.names}:Shared)=s4 at I4 ⊢
 have st4:tn 0 s4.heap:=T.keep 0 _ _ st3 fun b hb o e=>by rw[←hs4];exact Ut _ _ _ _ (Qx _ e)
 obtain⟨W,⟨m0,w0⟩,turn⟩:=run p hp0;have stat:∀{H':Hp},(∀b∈fp,H' b=none)->∀b∈fp,u9_ (x1_ X N' scope s3 H3 fp) [] H' b:=fun hn b hb=>by
  have z:=I4.ok.exf b hb
  exact⟨hn b hb,z.1,I4.ok.exfs b hb,.inl hb,z.2,fun p hp=>absurd (show p∈([]:OX)from hp) (by simp)⟩
 have loop:codeAny (model X.prog X.w) X.A (.compLoop (.ListComp elt (⟨tg,iter,ifs,0⟩::gs) scope pos) 0 (.ref it) (.ref p) (a3m scope X.env s3.heap.objs.size)) (RR (.ref p) s3.heap.objs.size) s4:=by
  refine b2P (d:=0) rfl (fun n s'=>∃i σ' H',Inv (x1_ X N' scope s3 H3 fp) [] σ' H' s'/\tn i s'.heap/\(∀b∈fp,H' b=none)/\W i n σ' H') ?_ m0 ⟨0,_,H3,I4,st4,fun b hb=>(hf3 b hb).1.1,by rw[←hH3];exact w0⟩
  rintro n s5 ⟨i,σ5,H5,I5,st5,fr5,w5⟩
  rcases turn i n σ5 H5 w5 with⟨stop,qf⟩|⟨go,step⟩
  ·refine thn (T.done (x1_ X N' scope s3 H3 fp) rfl rfl rfl hc i [] s5 σ5 H5 (fun _ _=>False) I5 (stat fr5) st5 stop) fun r s6 ⟨hr,I6⟩=>?_
   subst hr;obtain⟨m6,hn6,_⟩:=I6.loc;have hch:∀b∈fp,(b∈X.ex∨X.s₀.heap.objs.size≤b)/\b≠X.env.locals/\(∀x c,X.env.cells.lookup x=some c->c≠b)/\∀p∈X.pn++pins,p.1≠b:=fun b hb=>by
    obtain⟨_,f1,_,f3,f4,f5⟩:=hf b hb;exact⟨f3,f1,f4,f5⟩
   have IX:Inv X pins σ H5 s6:=I3.call' (s':=s6) (I6.os) (I6.base) I6.hok I6.bare hch
   have szC:X.s₀.heap.objs.size≤s3.heap.objs.size:=I3.sz
   have hCL:s3.heap.objs.size≠X.env.locals:=Ue I3.lt
   have hCc:∀x c,X.env.cells.lookup x=some c->c≠s3.heap.objs.size:=fun x c e=>by
    obtain⟨v,q⟩:=I3.cell x c e;exact Qi q.lt
   have hCp:∀q∈X.pn++pins,q.1≠s3.heap.objs.size:=fun q hq=>Qi (Qp (I3.pin q hq).1)
   refine hRR p s3.heap.objs.size s6 H5 m6 IX qf hn6 hCL hCc I6.free fun σ'' H'' s'' h' I'' hn hs=>?_
   exact I''.turned (t':=s''.toks) (it:=s3.heap.objs.size) (fun b o hb e=>(hs.2 b hb).trans e) hn hCL (.inr szC) hCc hCp
  ·refine thn (T.item (x1_ X N' scope s3 H3 fp) rfl rfl rfl hc i [] s5 σ5 H5 (fun _ _=>False) I5 (stat fr5) st5 go) fun r s6 ⟨u,hr,h6⟩=>?_
   subst hr;refine thn h6 fun _ s7 ⟨x,H7,I7,r7,y7,st7,fr7⟩=>?_
   have I7':=I7.pinned (stat fr7) (T.obj _ _ st7)
   have back:∀{σ8:St}{H8:Hp}{s8:Shared}{m':Nat},Inv (x1_ X N' scope s3 H3 fp) ([]++a3f fp s7.heap) σ8 H8 s8->m'<n->W (i+1) m' σ8 H8->∃m,m<n/\∃i σ' H',Inv (x1_ X N' scope s3 H3 fp) [] σ' H' s8/\tn i s8.heap/\(∀b∈fp,H' b=none)/\W i m σ' H':=fun{σ8 H8 s8 m'} I8 hm w8=>by
    refine⟨m',hm,i+1,σ8,H8,I8.unpinned,T.keep _ _ _ st7 fun b hb o e=>(I8.pin (b,o) (Qo _ (Qo _ (a2z hb e)))).1,fun b hb=>?_,w8⟩
    obtain⟨o,e,d⟩:=T.obj _ _ st7 b hb;exact(I8.pin (b,o) (Qo _ (Qo _ (a2z hb e)))).2.1
   refine thn (hg s3 H3 fp _ s7 σ5 H7 x u _ I7' r7 (step x H7 y7)) fun _ s8 ⟨σ8,H8,I8,q8⟩=>?_
   refine thn (ht s3 H3 fp _ s8 σ8 H8 _ I8 q8) fun b s9 ⟨H9,I9,q9⟩=>?_
   cases b with
   |false=>
    simp only[Zq,Yj]at q9 ⊢;obtain⟨m',hm,w9⟩:=q9;exact back I9 hm w9
   |true=>
    simp only[Zy]at q9 ⊢;exact thn (he s3 H3 fp p _ s9 σ8 H9 _ I9 q9) fun _ s10 ⟨σ10,H10,I10,m',hm,w10⟩=>back I10 hm w10
 refine codeAny_compStart_list loop ?_
 exact Qt (T.self X.A 0 s4 _ (fun _ _=>False) st4 loop) (fun _ _ q=>q) fun _ _ q=>q.elim
def b2S(wi:TI)(keep:List Bool)(more:Nat)(g:TG)(tt:TT)(act:Addr->a1J):TE:=fun σ H Q=>wi σ H fun J H1=>∀p,H1 p=none->a6D J g tt (act p) (w4_ keep more σ) (upd H1 p (.lst [])) (fun _ H'=>Q (.ref p) H')
theorem c0Q(ok:CompOk X N' scope keep more)(hc:X.calm=true)(hi:PI X tg iter wi)(hg:∀s H fp,PG (x1_ X N' scope s H fp) tg g)(ht:∀s H fp,a0r (x1_ X N' scope s H fp) ifs tt)
  (he:∀s H fp p,a2S (x1_ X N' scope s H fp) (a1I elt (⟨tg,iter,ifs,0⟩::gs) scope pos 0 (.ref p) (x1_ X N' scope s H fp).env) (act p))
  (hs:∀x,foldedSetIterable iter X.env x=pure x:=by intro _;rfl):PE X (.ListComp elt (⟨tg,iter,ifs,0⟩::gs) scope pos) (b2S wi keep more g tt act):=by
 intro pins s σ H Q I h;rw[eval_ListComp];refine Vx (use:=none) rfl hs ok.clos ok.kind (fun x hx hl=>by have:=ok.uniq x hx;rwa [hl]at this) (thn (hi pins s σ H _ I h) fun v s1 h1=>thn h1 fun itv s2 h2=>?_)
 obtain⟨it,fp,tn,J,H2,e,I2,T,st2,f2,run⟩:=h2;subst e;refine c0P (Qf:=fun p H'=>Q (.ref p) H') (RR:=fun acc C=>compPost (model X.prog X.w) X.A X.xe none (EP X pins σ Q) acc C) ok hc hg ht he I2 T st2 f2 run ?_
 intro p C s' H' m IX qf hn hCL hCc hCn turn;exact⟨m,hn,fun h' hs'=>⟨.ref p,H',turn σ H' s' h' IX hCn hs',rfl,qf⟩⟩
end
def a2r(m:Mo D):Mo (List D):=fun env=>(m env).map fun q=>([q.1],q.2)
def a0I(g:OZ)(t:Mo Bool)(a:Mo (List D)):List D->Mo (List D)
 |[],env=>some ([],env)
 |d::ds,env=>(g d env).bind fun e1=>(t e1).bind fun p=>if p.1 then(a p.2).bind fun q=>(a0I g t a ds q.2).map fun r=>(q.1++r.1,r.2)else a0I g t a ds p.2
def aIn(mi:Mo (List D))(g:OZ)(t:Mo Bool)(a:Mo (List D)):Mo (List D):=fun env=>(mi env).bind fun p=>a0I g t a p.1 p.2
def a3t(mi:Mo (List D))(keep:List Bool)(more:Nat)(g:OZ)(t:Mo Bool)(a:Mo (List D)):Mo (List D):=fun env=>(mi env).bind fun p=>
 (a0I g t a p.1 (k5_ keep more p.2)).bind fun q=>if q.1.length≤100000 then(j2_ keep p.2 q.2).map fun e=>(q.1,e)else none
theorem c0R{o:HO}(h:H p=some o):upd H p o=H:=by
 funext b
 by_cases hb:b=p
 ·subst hb;rw[y8_,h]
 ·rw[q7_ hb]
section
variable{n:Nat}
def TAc(K:Qz)(B:OA)(n:Nat)(a:Mo (List D))(p:Addr):a1J:=fun σ H Q=>∃G env zs env' ys,Rel K B G σ env H/\ ¬ Owned σ env p/\G p=none/\H p=some (.lst ys)/\a env=some (zs,env')/\ys.length+zs.length≤100000/\
 ∀σ' G' H' vs,Ev K B G σ env (upd H p (.lst (ys++vs))) G' σ' env' H'->(∀j,j<n->σ'[j]? =σ[j]?)->H' p=some (.lst (ys++vs))->z9_ K G' vs zs->Q σ' H'
theorem c0S{m:Mo D}:∀σ H Q,TAc K B n (a2r m) p σ H Q->b2Q (TD K B m) p σ H Q:=by
 rintro σ H Q ⟨G,env,zs,env',ys,rl,no,gp,hp,e,hl,k⟩;obtain⟨⟨d,env1⟩,e1,e2⟩:=x3_ e;cases e2;refine⟨G,env,d,env1,rl,e1,fun v G' H' ev r=>?_⟩
 have hp':H' p=some (.lst ys):=ev.keep p _ no nt_lst hp
 refine⟨ys,hp',Qd (by simp at hl;omega) (show 100000≤sizeLine by decide),?_⟩
 exact k σ G' _ [v] (ev.swapAt no (by rw[hp];simp) gp nt_lst (fun φ z=>by rw[hp']at z;cases z)) (fun _ _=>rfl) y8_ (repL_cons r repL_nil)
theorem b2T{g:OZ}{t:Mo Bool}{G1:Hp}{env1 envF:Env'}{H1:Hp}{items zs:List D}{ys:List V}{Q:St->Hp->Prop}(rl:Rel K B G1 σ env1 H1)(itd:ItD K J G1 items)(no:¬ Owned σ env1 p)(gp:G1 p=none)
  (hp:H1 p=some (.lst ys))(e3:a0I g t a items env1=some (zs,envF))(hl:ys.length+zs.length≤100000)
  (k:∀σ' G' H' vs,Ev K B G1 σ env1 (upd H1 p (.lst (ys++vs))) G' σ' envF H'->(∀j,j<n->σ'[j]? =σ[j]?)->H' p=some (.lst (ys++vs))->z9_ K G' vs zs->Q σ' H'):
  a6D J (TGm K B n g) (TTm K B t) (TAc K B n a p) σ H1 Q:=by
 have hpS:∀us,(upd H1 p (.lst us)) p=some (.lst us):=fun us=>y8_
 refine⟨fun i m' σ2 H2=>m'=items.length-i/\i≤items.length/\∃G2 env2 vs acc rest,Ev K B G1 σ env1 (upd H1 p (.lst (ys++vs))) G2 σ2 env2 H2/\(∀j,j<n->σ2[j]? =σ[j]?)/\
   z9_ K G2 vs acc/\a0I g t a (items.drop i) env2=some (rest,envF)/\acc++rest=zs,⟨_,rfl,Ub _,G1,env1,[],[],zs,?_,fun _ _=>rfl,repL_nil,by simpa using e3,by simp⟩,?_⟩
 ·rw[Yh,c0R hp];exact .refl rl
 rintro i m' σ2 H2 ⟨rfl,hi,G2,env2,vs,acc,rest,ev2,y2,r2,c2,t2⟩;have hp2:H2 p=some (.lst (ys++vs)):=ev2.keep p _ no nt_lst (hpS _);have lH:Le G1 H2:=ev2.same.trans ev2.rel.sub
 by_cases hlt:i<items.length
 ·refine .inr ⟨itd.go i H2 lH hlt,fun x H3 y=>?_⟩
  have ed:items.drop i=items[i]::items.drop (i+1):=Ja hlt
  rw[ed]at c2;obtain⟨env4,e7,e8⟩:=q2_ c2;obtain⟨⟨b,env5⟩,e9,e10⟩:=q2_ e8;have hget:items[i]? =some items[i]:=by simp[hlt]
  have st:∃G3,Ev K B G1 σ env1 (upd H1 p (.lst (ys++vs))) G3 σ2 env2 H3/\Le G2 G3/\Rep K G3 x items[i]:=by
   rcases itd.yld i H2 x H3 items[i] lH y hget with⟨rfl,r⟩|⟨q,o,hno,hq,rfl,r⟩
   ·exact⟨G2,ev2,Le.refl,Rep.mono ev2.same _ r⟩
   ·have gq:=ev2.rel.gnone hq
    refine⟨upd G2 q o,ev2.trans (ev2.rel.alloc hq hno),Le.upd gq,Rep.mono (fun b u z=>?_) _ r⟩
    by_cases hb2:b=q
    ·subst hb2;rw[y8_]at z ⊢;exact z
    ·rw[q7_ hb2]at z ⊢;exact ev2.same b u z
  obtain⟨G3,ev3,l3,r3⟩:=st;refine⟨G3,env2,items[i],env4,ev3.rel,r3,e7,fun σ4 G4 H4 ev4 y4=>?_⟩
  refine⟨G4,env4,b,env5,ev4.rel,e9,fun G5 H5 ev5=>?_⟩
  have ev6:=(ev3.trans ev4).trans ev5
  have r5:z9_ K G5 vs acc:=z9_.mono ((l3.trans ev4.same).trans ev5.same) acc r2
  have y5:∀j,j<n->σ4[j]? =σ[j]?:=fun j hj=>(y4 j hj).trans (y2 j hj)
  have hp5:H5 p=some (.lst (ys++vs)):=ev6.keep p _ no nt_lst (hpS _)
  cases b with
  |true=>
   simp only[Zy]at e10 ⊢;obtain⟨⟨z7,env7⟩,e11,e12⟩:=q2_ e10;obtain⟨⟨rest8,env8⟩,e13,e14⟩:=x3_ e12;cases e14;have lz:zs.length=acc.length+(z7.length+rest8.length):=by rw[←t2];simp
   have no5:¬ Owned σ4 env5 p:=fun z=>(ev6.sub p z).elim no fun q=>by rw[hpS]at q;cases q
   refine⟨G5,env5,z7,env7,ys++vs,ev5.rel,no5,ev6.stay p (by rw[hpS];simp) no gp,hp5,e11,by rw[Qs,r2.length];omega,fun σ6 G6 H6 us ev7 y7 h7 r7=>?_⟩
   have nx:∀φ,H5 p≠some (.ext φ):=fun φ z=>by rw[hp5]at z;cases z
   have sw:=ev6.swapAt (o:=.lst (ys++vs++us)) no (by rw[hpS];simp) gp nt_lst nx
   rw[a4C]at sw;refine⟨items.length-(i+1),by omega,rfl,hlt,G6,env7,vs++us,acc++z7,rest8,?_,fun j hj=>(y7 j hj).trans (y5 j hj),(z9_.mono ev7.same acc r5).append r7,e13,by rw[Yb];exact t2⟩
   rw[←Yb];exact sw.trans ev7
  |false=>
   simp only[Zq,Yj]at e10 ⊢;exact⟨items.length-(i+1),by omega,rfl,hlt,G5,env5,vs,acc,rest,ev6,y5,r5,e10,t2⟩
 ·have ei:i=items.length:=by omega
  subst ei;rw[Vi]at c2;cases c2;rw[Yh]at t2;subst t2;exact .inl ⟨itd.stop _ H2 lH (Qy _),k σ2 G2 H2 vs ev2 y2 hp2 r2⟩
theorem c0T{g:OZ}{t:Mo Bool}:∀σ H Q,TAc K B n (aIn mi g t a) p σ H Q->b2R (TIm K B mi) (TGm K B n g) (TTm K B t) (TAc K B n a p) σ H Q:=by
 rintro σ H Q ⟨G,env,zs,env',ys,rl,no,gp,hp,e,hl,k⟩;obtain⟨⟨items,env1⟩,e1,e2⟩:=q2_ e;refine⟨G,env,items,env1,rl,e1,fun J G1 H1 ev1 itd=>?_⟩
 have hp1:H1 p=some (.lst ys):=ev1.keep p _ no nt_lst hp
 refine b2T ev1.rel itd (fun z=>(ev1.sub p z).elim no fun q=>by rw[hp]at q;cases q) (ev1.stay p (by rw[hp];simp) no gp) hp1 e2 hl fun σ' G' H' vs ev y h r=>?_
 have nx:∀φ,H1 p≠some (.ext φ):=fun φ z=>by rw[hp1]at z;cases z
 exact k σ' G' H' vs ((ev1.swapAt (o:=.lst (ys++vs)) no (by rw[hp];simp) gp nt_lst nx).trans ev) y h r
theorem c0U{g:OZ}{t:Mo Bool}(hkl:keep.length=n):
  ∀(σ:St) H Q,σ.length=n->TL K B (a3t mi keep more g t a) σ H Q->b2S (TIm K B mi) keep more (TGm K B n g) (TTm K B t) (TAc K B n a) σ H Q:=by
 rintro σ H Q hσn ⟨G,env,total,env',rl,e,k⟩;obtain⟨⟨items,env1⟩,e1,e2⟩:=q2_ e;obtain⟨⟨total',envF⟩,e3,e4⟩:=q2_ e2;dsimp only at e4;split at e4
 ·rename_i hlen
  obtain⟨env'',e5,e6⟩:=x3_ e4;cases e6;refine⟨G,env,items,env1,rl,e1,fun J G1 H1 ev1 itd p hp=>?_⟩
  have hk:keep.length=σ.length:=by rw[hkl,hσn]
  have gp:G1 p=none:=ev1.rel.gnone hp
  have no1:¬ Owned σ env1 p:=ev1.rel.unowned hp
  have no:¬ Owned (w4_ keep more σ) (k5_ keep more env1) p:=fun z=>no1 (a4W z)
  have relS:∀ys,Rel K B G1 σ env1 (upd H1 p (.lst ys)):=fun ys=>(ev1.rel.allocM hp).rel
  refine b2T (ys:=[]) ((relS []).ext hk) itd no gp y8_ e3 (by simpa using hlen) fun σ2 G2 H2 ys ev2 y2 hp2 r2=>?_
  rw[Ua,a4C]at ev2;rw[Ua]at hp2;have evO:=Ev.out (relS ys) hk ev2 (fun j hj=>y2 j (by omega)) e5
  have evA:=ev1.trans ((ev1.rel.allocM (o:=.lst ys) hp).trans evO)
  have hpn:H p=none:=by
   cases q:H p with
   |none=>rfl
   |some o=>exact absurd hp (ev1.live p (by rw[q];simp))
  have hpS:(upd H1 p (.lst ys)) p=some (.lst ys):=y8_
  refine k p ys G2 H2 evA hpn (fun z=>?_) hp2 (ev2.stay p (by rw[hpS];simp) no gp) r2
  rcases evO.sub p z with q|q
  ·exact no1 q
  ·rw[hpS]at q;cases q
 ·cases e4
end
def EAc(X:Cx)(B:OA)(n:Nat)(elt:Expr)(gens:List Comprehension)(scope:Scope)(pos:Pos)(d:Nat)(p:Addr)(a:Mo (List D)):Prop:=a2S X (a1I elt gens scope pos d (.ref p) X.env) (TAc X.K B n a p)
theorem b2U{sem:Sem Unit}{t t':a1J}(h:a2S X sem t)(i:∀σ H Q,t' σ H Q->t σ H Q):a2S X sem t':=fun pins s σ H Q I q=>h pins s σ H Q I (i σ H Q q)
section
variable{N':List Str}{scope0:Scope}{n:Nat}{gs:List Comprehension}{g:OZ}{t:Mo Bool}{m:Mo D}{fp:List Addr}
theorem a8C(hn:gens[d+1]? =none)(he:ED (x1_ X N' scope0 s H fp) B elt m):EAc (x1_ X N' scope0 s H fp) B n elt gens scope pos d p (a2r m):=b2U (c0N (fun _ _ z=>z) hn he) c0S
theorem a8D(hd:gens[d+1]? =some ⟨tg,iter,ifs,0⟩)(hc:X.calm=true)(hi:EI (x1_ X N' scope0 s H fp) B tg iter mi)(hg:EG (x1_ X N' scope0 s H fp) B n tg g)(ht:a0r (x1_ X N' scope0 s H fp) ifs (TTm X.K B t))
  (ha:EAc (x1_ X N' scope0 s H fp) B n elt gens scope pos (d+1) p a)(hs:∀x,foldedSetIterable iter (x1_ X N' scope0 s H fp).env x=pure x:=by intro _;rfl):
  EAc (x1_ X N' scope0 s H fp) B n elt gens scope pos d p (aIn mi g t a):=b2U (c0O (fun _ _ z=>z) hc hd hi hg ht ha hs) c0T
theorem a8E(ok:CompOk X N' scope keep more)(hc:X.calm=true)(hi:EI X B tg iter mi)(hg:∀s H fp,EG (x1_ X N' scope s H fp) B X.N.length tg g)(ht:∀s H fp,a0r (x1_ X N' scope s H fp) ifs (TTm X.K B t))
  (he:∀s H fp p,EAc (x1_ X N' scope s H fp) B X.N.length elt (⟨tg,iter,ifs,0⟩::gs) scope pos 0 p a)
  (hs:∀x,foldedSetIterable iter X.env x=pure x:=by intro _;rfl):EL X B (.ListComp elt (⟨tg,iter,ifs,0⟩::gs) scope pos) (a3t mi keep more g t a):=by
 intro pins s σ H Q I h;exact c0Q (act:=TAc X.K B X.N.length a) ok hc hi hg ht (fun s H fp p=>he s H fp p) hs pins s σ H Q I (c0U ok.klen σ H Q I.len h)
end
section
variable{o:Expr}{mb:Mo D}
end
theorem c0V:PE X (.Dict [some (.Constant (.int i) x1 p1)] [.Constant (.int j) x2 p2] pos) (fun _ H Q=>∀p,H p=none->Q (.ref p) (upd H p (.dK [(.inl i,.int j)]))):=fun pins s σ H Q I h=>by
 refine wpAny_Dict_walk (knd:=a1k X.prog X.w) rfl rfl (by simp) (show 1≤15 by decide) (pairTrees_cons_walk (Xv (Xv (pairTrees_nil_walk ?_))))
 refine⟨[(.inl i,.int j (s.toks+1))],⟨by simp[a1k,a3c,Value.isInt],rfl,trivial⟩,Heap.DictOf.new s.heap,fun h' d sb=>?_⟩
 have hne:∀b u,s.heap.get? b=some u->b≠s.heap.objs.size:=fun b u e=>Qi (Qp e)
 refine⟨.ref s.heap.objs.size,_,I.laid (a:=s.heap.objs.size) (o:=.dK [(.inl i,.int j)]) (fun b u e=>(sb.2 b (hne b u e)).trans (Qx _ e)) (Qy _)
  ⟨show 1≤sizeLine by decide,Yr.mpr (Zn (Qi (b9v I))),_,.cons ⟨rfl,⟨_,rfl⟩⟩ .nil,d⟩,rfl,h _ (I.hok.fresh (Qy _))⟩
theorem b2V:ED X B (.Dict [some (.Constant (.int i) x1 p1)] [.Constant (.int j) x2 p2] pos) (mC .emp):=by
 refine pe_imp c0V ?_
 rintro σ H Q ⟨G,env,d,env',rl,e,k⟩;cases e;exact fun p hp=>k _ _ _ (rl.alloc hp) (by simp only[Rep];exact⟨p,_,rfl,y8_⟩)
section
variable{c1 c2:Bool}
end
section
variable{R:Result->Shared->Prop}{c1 c2:Bool}{n l1 l2 S:Addr}{xs ys:List V}
end
section
variable{a b:Expr}
end
def a8F(K:Qz)(neg:Bool):R2:=fun x y H Q=>∃G a ds,Le G H/\Rep K G x a/\(Rep K G y (.lst ds)∨Rep K G y (.tup ds))/\shp a=true/\(toP a).depth≤60/\PyData.canLayAll0 (x0_ ds)=true/\
 Q (.bl (if neg then !((x0_ ds).any fun y=>PyData.eqv y (toP a))else(x0_ ds).any fun y=>PyData.eqv y (toP a))) H
theorem c5N(hu:X.A.units+64<cLine):OpR X (compareOp .In) (a8F X.K false):=by
 intro pins s σ H x y v u Q I rx ry h;obtain⟨G,a,ds,l,ra,rb,ha,hd,hb,q⟩:=h;have hl:=Yi ha;obtain⟨as,h1⟩:=reads_of I l a x v hl rx ra;have hroom:X.A.units+1+min (PyData.depthAll (x0_ ds)) (toP a).depth<cLine:=by
  have:min (PyData.depthAll (x0_ ds)) (toP a).depth≤(toP a).depth:=Xd _ _
  omega
 rcases rb with rb|rb
 ·obtain⟨bs,h2⟩:=reads_of I l (.lst ds) y u (by show PyData.canLay0 (.list (x0_ ds))=true;simpa [PyData.canLay0]using hb) ry rb
  exact SeqAt.in_list_reads h2 h1 hb hl hroom ⟨.bl _,H,I,rfl,q⟩
 ·obtain⟨bs,h2⟩:=reads_of I l (.tup ds) y u (by show PyData.canLay0 (.tuple (x0_ ds))=true;simpa [PyData.canLay0]using hb) ry rb
  exact SeqAt.in_tuple_reads h2 h1 hb hl hroom ⟨.bl _,H,I,rfl,q⟩
theorem b2W(hu:X.A.units+64<cLine):OpR X (compareOp .NotIn) (a8F X.K true):=by
 intro pins s σ H x y v u Q I rx ry h;obtain⟨G,a,ds,l,ra,rb,ha,hd,hb,q⟩:=h;have hl:=Yi ha;obtain⟨as,h1⟩:=reads_of I l a x v hl rx ra;have hroom:X.A.units+1+min (PyData.depthAll (x0_ ds)) (toP a).depth<cLine:=by
  have:min (PyData.depthAll (x0_ ds)) (toP a).depth≤(toP a).depth:=Xd _ _
  omega
 rcases rb with rb|rb
 ·obtain⟨bs,h2⟩:=reads_of I l (.lst ds) y u (by show PyData.canLay0 (.list (x0_ ds))=true;simpa [PyData.canLay0]using hb) ry rb
  exact SeqAt.notIn_list_reads h2 h1 hb hl hroom ⟨.bl _,H,I,rfl,q⟩
 ·obtain⟨bs,h2⟩:=reads_of I l (.tup ds) y u (by show PyData.canLay0 (.tuple (x0_ ds))=true;simpa [PyData.canLay0]using hb) ry rb
  exact SeqAt.notIn_tuple_reads h2 h1 hb hl hroom ⟨.bl _,H,I,rfl,q⟩
def a3u(neg:Bool):D->D->Option D:=fun a b=>(D.items b).bind fun ds=>if shp a&&decide ((toP a).depth≤60)&&PyData.canLayAll0 (x0_ ds)then
 some (.bl (if neg then !((x0_ ds).any fun y=>PyData.eqv y (toP a))else(x0_ ds).any fun y=>PyData.eqv y (toP a)))else none
theorem c0W{neg:Bool}:OpD X B (a8F X.K neg) (a3u neg):=by
 intro G σ env H x y a b d Q rl ra rb e k;obtain⟨ds,e1,e2⟩:=q2_ e;split at e2
 ·rename_i h
  rw[Qw,Qw,Zz]at h;cases e2;refine⟨G,a,ds,rl.sub,ra,?_,h.1.1,h.1.2,h.2,k _ G H (.refl rl) (by simp only[Rep])⟩
  cases b<;>first|(exact absurd (show(none:Option (List D))=some ds from e1) (by simp))|skip
  ·cases e1;exact .inr rb
  ·cases e1;exact .inl rb
 ·cases e2
section
variable{es:List Expr}{gs:List D->Env'->Option Env'}
end
def lkD:OI->List D->List Int->Option D
 |k'::ks,v::vs,k=>if k'=k then some v else lkD ks vs k
 |_,_,_=>none
def reD:OI->List D->List Int->D->List D
 |k'::ks,v::vs,k,d=>if k'=k then d::reD ks vs k d else v::reD ks vs k d
 |_,vs,_,_=>vs
def a2s:D->Option (List Int)
 |.tup ds=>ints? ds
 |_=>none
section
variable{G:Hp}
theorem a8G:∀ns:List Int,(w8_ ns).map kV=ns.map V.int
 |[]=>rfl
 |n::ns=>by show V.int n::(w8_ ns).map kV=_;rw[a8G ns];rfl
theorem a8H:∀{a b:List Int},w8_ a=w8_ b->a=b
 |[],[],_=>rfl
 |[],_::_,e=>by simp[w8_]at e
 |_::_,[],e=>by simp[w8_]at e
 |x::a,y::b,e=>by
  simp only[w8_,Qu,Uw,Sum.inl.injEq]at e;rw[e.1,a8H e.2]
def a5g(K:Qz)(H:Hp)(b:Addr)(k:List Int):Prop:=H b=some (.tup ((w8_ k).map kV))∨j9_ K b (w8_ k)
theorem a5g.mono{H':Hp}(l:Le H H')(h:a5g K H b k):a5g K H' b k:=h.imp (fun e=>l _ _ e) id
theorem a8I{d:D}(r:Rep K G v d)(h:a2s d=some k):∃b,v=.ref b/\a5g K G b k:=by
 cases d<;>first|(exact absurd (show(none:Option (List Int))=some k from h) (by simp))|skip
 rename_i ds;simp only[Rep]at r;obtain⟨a,xs,rfl,q,t⟩:=r;have hx:=a2K t (show ints? ds=some k from h)
 subst hx;refine⟨a,rfl,?_⟩
 rcases q with q|q
 ·exact .inl (by rw[a8G];exact q)
 ·exact .inr (.inr (by rw[a8G];exact q))
theorem a8J{h:Heap}{k:List Key}(ok:HOk P w H h)(kin:K.In h)(e:H b=some (.tup (k.map kV))∨j9_ K b k):(tupleKind (a1k P w)).is h k b:=by
 rcases e with e|e
 ·exact b7X ok e
 ·rcases e with e|⟨o,its,n,h1,h2,_,h3,_,h4⟩
  ·cases e
  ·exact⟨o,its,n,kin b o h1,h2,h3,a7I h4⟩
end
section
variable{a:Addr}{kvs:List (List Key×V)}
theorem a8K(I:Inv X pins σ H s)(e:H a=some (.dT (j9_ X.K) kvs)):kvs.length≤sizeLine/\(a==sysModules)=false/\∃xs,KT (j9_ X.K) H kvs xs/\s.heap.DictOfH (tupleKind (a1k X.prog X.w)) a xs:=by
 obtain⟨z,y,xs,r,o,es,ep,h1,h2,h3,h4,h5⟩:=(show w6_ X.prog X.w H s.heap a (.dT (j9_ X.K) kvs)from I.hok a _ e)
 refine⟨z,y,xs,r,o,es,ep,h1,h2,h3,h4,fun x hx=>?_,h5⟩
 have all:∀{l:List (List Key×V)}{m:List (List Key×Addr×Value)},KT (j9_ X.K) H l m->∀x∈m,(tupleKind (a1k X.prog X.w)).is s.heap x.1 x.2.1:=by
  intro l m q
  induction q with
  |nil=>intro x hx;exact nomatch hx
  |@cons p q ps qs hq t ih=>
   intro x hx
   rcases Qr.mp hx with e|hx
   ·subst e
    exact a8J (K:=X.K) I.hok I.kIn (by rw[←hq.1];exact hq.2.1)
   ·exact ih x hx
 exact all r x hx
theorem b2X{k:List Key}{Q:OE}(hu:A.units+1<cLine)(I:Inv X pins σ H s)(e:H a=some (.dT (j9_ X.K) kvs))(eb:H b=some (.tup (k.map kV))∨j9_ X.K b k)(l:a1Q kvs k=some v)
  (h:∀w' s',Inv X pins σ H s'->y1_ v w'->Q w' s'):wpAny (model X.prog X.w) A (getItem (.ref a) (.ref b)) Q E s:=by
 obtain⟨z,hd,xs,rel,dd⟩:=a8K I e;obtain⟨w',hw,rw'⟩:=a2d.some_of (v:=v) (o:=(atKey xs k).map (·.2)) (by rw[←l];exact rel.val k)
 obtain⟨p,hp,hp2⟩:=Option.map_eq_some_iff.mp hw;refine wpAny_getItem_heap (tupleKind_room_in1 hu) (a8J (K:=X.K) I.hok I.kIn eb) dd hp ?_
 rw[hp2];exact h w' _ (I.tok _) rw'
theorem b2Y(I:Inv X pins σ H s)(e:H a=some (.dT (j9_ X.K) kvs)):s.TypeIs (.ref a) "dict":=by
 obtain⟨_,_,xs,_,dd⟩:=a8K I e;exact dd.typeIs
end
section
variable{G:Hp}
theorem a6E:∀{kvs:List (List Key×V)}{ks:OI}{vs:List D}(k:List Int),kvs.map (·.1)=ks.map w8_->z9_ K G (kvs.map (·.2)) vs->
  (∀d,lkD ks vs k=some d->∃v,a1Q kvs (w8_ k)=some v/\Rep K G v d)/\((a1Q kvs (w8_ k)).isSome=ks.contains k)
 |[],[],vs,k,_,r=>⟨fun d h=>by simp[lkD]at h,rfl⟩
 |[],_::_,_,_,e,_=>by simp at e
 |_::_,[],_,_,e,_=>by simp at e
 |p::kvs,k'::ks,[],k,e,r=>by have:=r.length;simp at this
 |p::kvs,k'::ks,d'::vs,k,e,r=>by
  simp only[Qu,Uw]at e;obtain⟨e1,e2⟩:=e;rw[Qu]at r;simp only[z9_]at r;obtain⟨x,t,z,r1,r2⟩:=r;cases z;obtain⟨h1,h2⟩:=a6E (ks:=ks) (vs:=vs) k e2 r2
  by_cases hk:k'=k
  ·subst hk
   refine⟨fun d h=>?_,?_⟩
   ·simp only[lkD,Zy,Zt]at h
    subst h;exact⟨p.2,a5R e1,r1⟩
   ·rw[a5R e1];simp
  ·have ne:¬ p.1=w8_ k:=fun z=>hk (a8H (e1.symm.trans z))
   refine⟨fun d h=>?_,?_⟩
   ·simp only[lkD,Ql hk]at h
    obtain⟨v,q1,q2⟩:=h1 d h;exact⟨v,by rw[a5S ne];exact q1,q2⟩
   ·have hb:(k==k')=false:=by simpa using fun z=>hk (Eq.symm z)
    rw[a5S ne,h2,Vk,hb,Xb]
theorem b2Z:∀{kvs:List (List Key×V)}{ks:OI}{vs:List D}(k:List Int) {v:V}{d:D},kvs.map (·.1)=ks.map w8_->z9_ K G (kvs.map (·.2)) vs->Rep K G v d->
  (kvs.map fun kv=>if kv.1=w8_ k then(kv.1,v)else kv).map (·.1)=ks.map w8_/\z9_ K G ((kvs.map fun kv=>if kv.1=w8_ k then(kv.1,v)else kv).map (·.2)) (reD ks vs k d)
 |[],[],vs,k,v,d,_,r,_=>⟨rfl,by simpa [reD]using r⟩
 |[],_::_,_,_,_,_,e,_,_=>by simp at e
 |_::_,[],_,_,_,_,e,_,_=>by simp at e
 |p::kvs,k'::ks,[],k,v,d,e,r,_=>by have:=r.length;simp at this
 |p::kvs,k'::ks,d'::vs,k,v,d,e,r,rd=>by
  simp only[Qu,Uw]at e;obtain⟨e1,e2⟩:=e;rw[Qu]at r;simp only[z9_]at r;obtain⟨x,t,z,r1,r2⟩:=r;cases z;obtain⟨h1,h2⟩:=b2Z (ks:=ks) (vs:=vs) k e2 r2 rd
  by_cases hk:k'=k
  ·subst hk
   simp only[Qu,Qn e1,reD,Zy];exact⟨by rw[e1,h1],repL_cons rd h2⟩
  ·have ne:¬ p.1=w8_ k:=fun z=>hk (a8H (e1.symm.trans z))
   simp only[Qu,Ql ne,reD,Ql hk];exact⟨by rw[e1,h1],repL_cons r1 h2⟩
def a6F(ks:OI)(k:List Int):OI:=if ks.contains k then ks else ks++[k]
def a6G(ks:OI)(vs:List D)(k:List Int)(d:D):List D:=if ks.contains k then reD ks vs k d else vs++[d]
theorem c0X{kvs:List (List Key×V)}{ks:OI}{vs:List D}(k:List Int){d:D}(e:kvs.map (·.1)=ks.map w8_)(r:z9_ K G (kvs.map (·.2)) vs)(rd:Rep K G v d):
  (a1R kvs (w8_ k) v).map (·.1)=(a6F ks k).map w8_/\z9_ K G ((a1R kvs (w8_ k) v).map (·.2)) (a6G ks vs k d):=by
 have h:=(a6E (K:=K) (G:=G) k e r).2
 unfold a1R a6F a6G;rw[a7H,h];cases ks.contains k with
 |true=>simp only[Zy];exact b2Z k e r rd
 |false=>
  simp only[Zq,Yj,Zo,Qu,Uo];exact⟨by rw[e],r.append (repL_cons rd repL_nil)⟩
end
theorem c0Y{C:Addr->List Key->Prop}(h:Heap)(hb:sysModules<h.objs.size):w6_ P w H (h.push {cls:=.type "dict",data:=.dict #[]}) h.objs.size (.dT C []):=
 ⟨Ub _,Yr.mpr (Zn (Qi hb)),[],.nil,_,#[],0,Qg _ rfl,⟨rfl,rfl,rfl⟩,rfl,rfl,List.nodup_nil⟩
section
variable{a b:Expr}{mb:Mo D}
def c0Z(i:Nat)(mb:Mo D):Mo D:=fun env=>(mb env).bind fun p=>((p.2[i]?).bind W.mutD).bind fun q=>(a2s p.1).bind fun k=>(lkD q.1 q.2 k).map fun d=>(d,p.2)
theorem c5O{i:Nat}{x:Str}{p:Pos}(hu:X.A.units+64<cLine)(ha:PE X (.Name x p) (a0L i))(hb:ED X B b mb)(hs:a2B b)(hr:∀env d env' w ds,mb env=some (d,env')->env'[i]? =some w->w.mut=some ds->∃w0 ds0,env[i]? =some w0/\w0.mut=some ds0):
  ED X B (.Subscript (.Name x p) b pos) (c0Z i mb):=by
 intro pins s σ H Q I h;obtain⟨G,env,d,env',rl,e,k⟩:=h;obtain⟨⟨d1,env1⟩,e1,e2⟩:=q2_ e;obtain⟨⟨ks,vs⟩,e3,e4⟩:=q2_ e2;obtain⟨w,e5,e6⟩:=q2_ e3;obtain⟨key,e7,e8⟩:=q2_ e4;obtain⟨d2,e9,e10⟩:=x3_ e8;cases e10;obtain⟨w0,m0,e11,e12⟩:=hr env d1 _ w (.d ks vs) e1 e5 (W.mutD_of e6);obtain⟨q,o,h1,_⟩:=rl.own i w0 m0 e11 e12;refine b1A PySem.F.slot_dict_getitem.lookup hs (thn (ha pins s σ H (fun v H1=>v=.ref q/\H1=H) I ⟨_,h1,rfl,rfl⟩) fun u s1 ⟨x,H1,I1,rx,z1,z2⟩=>?_)
 subst z1 z2;cases rx;refine thn (hb pins s1 σ H1 (fun v H2=>∃G2,Ev X.K B G σ env H1 G2 σ env1 H2/\Rep X.K G2 v d1) I1 ⟨G,env,d1,env1,rl,e1,fun v G2 H2 ev r=>⟨G2,ev,r⟩⟩) fun iv s2 ⟨y,H2,I2,ry,G2,ev,r⟩=>?_
 obtain⟨q',kvs,g1,g2,g3,g4,g5⟩:=ev.rel.ownD i w ks vs e5 e6;rw[h1]at g1;cases g1;obtain⟨b',rfl,kb⟩:=a8I r e7;cases ry;obtain⟨v,l1,l2⟩:=(a6E key g3 g4).1 _ e9;exact⟨b2Y I2 g2,b2X (by omega) I2 g2 (kb.mono ev.rel.sub) l1 fun w' s3 I3 rw'=>⟨v,H2,I3,rw',k v G2 H2 ev l2⟩⟩
def a1K:D->D->Option D:=fun a b=>match a with
 |.dct ks vs=>(a2s b).bind fun k=>lkD ks vs k
 |_=>none
theorem a6H(hu:X.A.units+64<cLine)(ha:ED X B a ma)(hb:ED X B b mb)(hs:a2B b):ED X B (.Subscript a b pos) (z4_ a1K ma mb):=by
 intro pins s σ H Q I h;obtain⟨G,env,d,env',rl,e,k⟩:=h;obtain⟨⟨d0,env0⟩,e0,e⟩:=q2_ e;obtain⟨⟨d1,env1⟩,e1,e2⟩:=q2_ e;obtain⟨d2,e3,e4⟩:=x3_ e2;cases e4;unfold a1K at e3;dsimp only at e3;split at e3
 case h_2=>cases e3
 rename_i ks vs;obtain⟨key,e7,e9⟩:=q2_ e3;refine b1A PySem.F.slot_dict_getitem.lookup hs (thn (ha pins s σ H (fun v H1=>∃G1,Ev X.K B G σ env H G1 σ env0 H1/\Rep X.K G1 v (.dct ks vs)) I ⟨G,env,_,env0,rl,e0,fun v G1 H1 ev r=>⟨G1,ev,r⟩⟩) fun u s1 ⟨x,H1,I1,rx,G1,ev1,r1⟩=>?_)
 simp only[Rep]at r1;obtain⟨q,kvs,rfl,g2,g3,g4⟩:=r1;cases rx;refine thn (hb pins s1 σ H1 (fun v H2=>∃G2,Ev X.K B G1 σ env0 H1 G2 σ env1 H2/\Rep X.K G2 v d1) I1 ⟨G1,env0,d1,env1,ev1.rel,e1,fun v G2 H2 ev r=>⟨G2,ev,r⟩⟩) fun iv s2 ⟨y,H2,I2,ry,G2,ev2,r⟩=>?_
 obtain⟨b',rfl,kb⟩:=a8I r e7;cases ry;have hq:H2 q=some (.dT (j9_ X.K) kvs):=ev2.rel.sub _ _ (ev2.same _ _ g2);obtain⟨v,l1,l2⟩:=(a6E key g3 (z9_.mono ev2.same _ g4)).1 _ e9;exact⟨b2Y I2 hq,b2X (by omega) I2 hq (kb.mono ev2.rel.sub) l1 fun w' s3 I3 rw'=>⟨v,H2,I3,rw',k v G2 H2 (ev1.trans ev2) l2⟩⟩
end
section
variable{p:Pos}{es:List Expr}
end
section
variable{G G1 G2:Hp}{env env1:Env'}{H1 H2:Hp}{vs:List V}{ds:List D}{a:Addr}
end
section
variable{p:Pos}{es:List Expr}{fn:Fn}{k n:Nat}{x:Str}
end
end L2.Mir
namespace L2.Mir
open PySem PySem.Spec PyProof.Rows
variable{B:OA}{X:Cx}{ds:List D}{pos:Pos}{vs:List V}
def c1a:D->Option Str
 |.str x=>if x.length≤1000 then some x else none
 |.int i=>if-1000000000000000000<i/\i<1000000000000000000 then some (Str.ofString (toString i))else none
 |_=>none
def b3a:List D->Option Str
 |[]=>some Str.empty
 |d::ds=>(c1a d).bind fun x=>(b3a ds).map fun y=>x++y
section
variable{p:Pos}{e:Expr}{vs:List Expr}{ma:Mo D}{ms:Mo (List D)}
def PJ(X:Cx)(B:OA)(vs:List Expr)(ms:Mo (List D)):Prop:=∀(pins:OX) (s:Shared) (σ:St) (H:Hp) (acc:Str) (Q:Str->Hp->Prop),Inv X pins σ H s->
 (∃G env ds env' y,Rel X.K B G σ env H/\ms env=some (ds,env')/\b3a ds=some y/\acc.length+1000 * ds.length≤sizeLine/\∀G' H',Ev X.K B G σ env H G' σ env' H'->Q (acc++y) H')->
 Joins (model X.prog X.w) X.A X.xe (evalEach vs X.env) acc (fun out s1=>∃H',Inv X pins σ H' s1/\Q out H') s
end
section
variable{N':List Str}{scope:Scope}{keep:List Bool}{more:Nat}{tg iter elt:Expr}{ifs:List Expr}{gs:List Comprehension}{g:TG}{tt:TT}{act:Addr->a1J}
end
section
variable{N':List Str}{scope scope0:Scope}{keep:List Bool}{more n d:Nat}{tg iter elt:Expr}{ifs:List Expr}{gens gs:List Comprehension}{g:OZ}{t:Mo Bool}{m:Mo D}{mi:Mo (List D)}{a:Mo (List D)}{s:Shared}{H:Hp}{fp:List Addr}{p:Addr}
end
def W.view:W->Option D
 |.dat d=>some d
 |.own ds=>some (.lst ds)
 |.par ds=>some (.lst ds)
 |.ownD ks vs=>some (.dct ks vs)
 |.parD ks vs=>some (.dct ks vs)
 |.nil=>none
def D.flat:D->Bool
 |.non=>true
 |.bl _=>true
 |.int _=>true
 |.str _=>true
 |_=>false
def a5h(env:Env'):List Nat->Option (List D)
 |[]=>some []
 |i::is=>((env[i]?).bind W.view).bind fun d=>(a5h env is).map fun ds=>d::ds
def a5i(n:Nat)(f:Fn)(is:List Nat):Mo D:=fun env=>(a5h env is).bind fun ds=>if ds.length=n then(f (ds.map W.dat)).bind fun q=>match q.1 with
 |.d d=>if d.flat then some (d,env)else none
 |_=>none else none
inductive NamesAt (X:Cx):List Expr->List Nat->Prop
 |nil:NamesAt X [] []
 |cons {x:Str}{p:Pos}{i:Nat}{es:List Expr}{is:List Nat}:PE X (.Name x p) (a0L i)->NamesAt X es is->NamesAt X (.Name x p::es) (i::is)
def TVs(is:List Nat):TA:=fun σ H Q=>∃vs,Paired (fun i v=>σ[i]? =some (some v)) is vs/\Q vs H
theorem a8L{X:Cx}:∀{es:List Expr}{is:List Nat},NamesAt X es is->PA X es (TVs is)
 |_,_,.nil=>pa_imp a1l fun σ H Q ⟨vs,h,q⟩=>by cases h;exact q
 |_,_,.cons h t=>pa_imp (a0g h (a8L t) rfl) fun σ H Q ⟨vs,h,q⟩=>by
  cases h with
  |cons h1 h2=>exact⟨_,h1,_,h2,q⟩
section
variable{K:Qz}{G:Hp}{σ:St}{env:Env'}{H:Hp}
open Classical in
noncomputable def a1g (G:Hp) (σ:St) (env:Env') (H:Hp):Hp:=fun b=>if Owned σ env b then H b else G b
theorem a8M(rl:Rel K B G σ env H):Le G (a1g G σ env H):=fun b o e=>by
 unfold a1g;split
 ·exact rl.sub b o e
 ·exact e
theorem c1b(rl:Rel K B G σ env H):Le (a1g G σ env H) H:=fun b o e=>by
 unfold a1g at e;split at e
 ·exact e
 ·exact rl.sub b o e
theorem b3b{b:Addr}(h:Owned σ env b):a1g G σ env H b=H b:=Qn h
theorem c1c(rl:Rel K B G σ env H){i:Nat}{v:V}{d:D}(hv:σ[i]? =some (some v))(h:((env[i]?).bind W.view)=some d):Rep K (a1g G σ env H) v d:=by
 obtain⟨w,e1,e2⟩:=q2_ h;have mutc:∀m,w.mut=some m->(∀G1 a o,G1 a=some o->RepM K G1 o m->Rep K G1 (.ref a) d)->Rep K (a1g G σ env H) v d:=fun m em hr=>by
  obtain⟨a,o,h1,h2,h3,h4⟩:=rl.own i w m e1 em;rw[hv]at h1;cases h1;exact hr _ a o (by rw[b3b ⟨i,w,m,e1,em,hv⟩];exact h2) (h3.mono (a8M rl))
 have hl:∀ds,d=.lst ds->∀G1 a o,G1 a=some o->RepM K G1 o (.l ds)->Rep K G1 (.ref a) d:=fun ds z G1 a o h ⟨xs,z2,q⟩=>by subst z z2;exact a3O h q
 have hd:∀ks vs,d=.dct ks vs->∀G1 a o,G1 a=some o->RepM K G1 o (.d ks vs)->Rep K G1 (.ref a) d:=fun ks vs z G1 a o h ⟨kvs,z2,q1,q2⟩=>by subst z z2;simp only[Rep];exact⟨a,kvs,rfl,h,q1,q2⟩
 cases w with
 |nil=>cases e2
 |dat d'=>
  cases e2;obtain⟨v',q1,q2⟩:=rl.dat i d e1;rw[hv]at q1;cases q1;exact Rep.mono (a8M rl) d q2
 |own ds=>cases e2;exact mutc _ rfl (hl ds rfl)
 |par ds=>cases e2;exact mutc _ rfl (hl ds rfl)
 |ownD ks vs=>cases e2;exact mutc _ rfl (hd ks vs rfl)
 |parD ks vs=>cases e2;exact mutc _ rfl (hd ks vs rfl)
theorem b3c(rl:Rel K B G σ env H):∀{is:List Nat}{vs:List V}{ds:List D},Paired (fun i v=>σ[i]? =some (some v)) is vs->a5h env is=some ds->z9_ K (a1g G σ env H) vs ds
 |[],_,ds,.nil,e=>by cases e;exact repL_nil
 |i::is,_,ds,.cons h t,e=>by
  obtain⟨d,e1,e2⟩:=q2_ e;obtain⟨ds',e3,e4⟩:=x3_ e2;subst e4;exact repL_cons (c1c rl h e1) (b3c rl t e3)
theorem b3d{a:Addr}:¬ Owned (vs.map some) (ds.map W.dat) a:=by
 rintro⟨i,w,m,e1,e2,_⟩;rw[Qa]at e1;cases q:ds[i]? with
 |none=>rw[q]at e1;cases e1
 |some d=>rw[q]at e1;cases e1;cases e2
theorem c1d(rl:Rel K B G σ env H)(r:z9_ K (a1g G σ env H) vs ds):Rel K u6_ (a1g G σ env H) (vs.map some) (ds.map W.dat) H:=by
 have no:∀(i:Nat) (w:W) (m:Mu),(ds.map W.dat)[i]? =some w->w.mut=some m->False:=fun i w m e1 e2=>by
  rw[Qa]at e1;cases q:ds[i]? with
  |none=>rw[q]at e1;cases e1
  |some d=>rw[q]at e1;cases e1;cases e2
 refine⟨c1b rl,by simp[r.length],fun i d e=>?_,fun i w m e1 e2=>(no i w m e1 e2).elim,fun i j w w' m m' a e1 e2=>(no i w m e1 e2).elim,fun i w a e1 eo _ h=>h,fun b h=>h.elim,rl.tabs,fun b o e=>?_⟩
 ·rw[Qa]at e
  cases q:ds[i]? with
  |none=>rw[q]at e;cases e
  |some d'=>
   rw[q]at e;cases e;obtain⟨v,g1,g2⟩:=r.get q;exact⟨v,by rw[Qa,g1];rfl,g2⟩
 ·unfold a1g at e
  split at e
  ·rename_i ow
   obtain⟨i,w,m,q1,q2,q3⟩:=ow;obtain⟨a,o',p1,p2,p3,_⟩:=rl.own i w m q1 q2;rw[q3]at p1;cases p1;rw[p2]at e;cases e;exact p3.nt
  ·exact rl.gnt b o e
theorem c1e(rl:Rel K B G σ env H){G2 H2:Hp}{ws':List W}(ev:Ev K u6_ (a1g G σ env H) (vs.map some) (ds.map W.dat) H G2 (vs.map some) ws' H2):Ev K B G σ env H G σ env H2:=by
 have le2:Le G H2:=((a8M rl).trans ev.same).trans ev.rel.sub
 refine⟨⟨le2,rl.len,rl.dat,fun i w m e1 e2=>?_,rl.inj,rl.fresh,fun b h=>ev.live b (rl.old b h),ev.rel.tabs,rl.gnt⟩,Le.refl,fun b o _ t e=>ev.keep b o b3d t e,ev.live,fun b _ _ g=>g,fun a z=>.inl z,fun i w e hp=>⟨rfl,w,e,hp⟩,rfl⟩
 obtain⟨a,o,h1,h2,h3,h4⟩:=rl.own i w m e1 e2;exact⟨a,o,h1,ev.rel.sub _ _ (ev.same _ _ (by rw[b3b ⟨i,w,m,e1,e2,h1⟩];exact h2)),h3,h4⟩
end
section
variable{p:Pos}{e:Expr}{es:List Expr}{is:List Nat}{fn:Fn}{k n:Nat}{x:Str}
theorem b3e(D:Def X.prog X.w X.K X.mg X.base x k n fn)(hr:Room k X.A)(hg:Gl X x)(ha:NamesAt X (e::es) is)(hdb:(x==("__debug__":Str))=false:=by decide)
  (he:starEach (e::es) X.env=(false,eval e X.env)::starEach es X.env:=by rfl)(hpl:(backTo pos (starEach es X.env)).any (·.1)=false:=by rfl):
  ED X B (.Call (.Name x p) (e::es) [] pos) (a5i n fn is):=by
 obtain⟨f,fd,ps,F,rfl,hm,hk,hb⟩:=D.ex;refine pe_imp (a4G F hr hg hm hk hb .nil a4L (a8L ha) hdb he hpl) ?_
 rintro σ H Q ⟨G,env,d,env',rl,e,k⟩;obtain⟨ds,e1,e2⟩:=q2_ e;split at e2
 case isFalse=>cases e2
 rename_i hn;obtain⟨⟨r,ws'⟩,e3,e4⟩:=q2_ e2;cases r with
 |l _=>cases e4
 |d d'=>
  dsimp only at e4;split at e4
  case isFalse=>cases e4
  rename_i hf;cases e4;have hvs:∀(is:List Nat) (ds:List Mir.D),a5h env is=some ds->∃vs:List V,Paired (fun i v=>σ[i]? =some (some v)) is vs:=by
   intro is
   induction is with
   |nil=>intro ds _;exact⟨[],.nil⟩
   |cons i is ih=>
    intro ds h;obtain⟨d0,h1,h2⟩:=q2_ h;obtain⟨ds1,h3,h4⟩:=x3_ h2;obtain⟨w,w1,w2⟩:=q2_ h1;obtain⟨vs,hv⟩:=ih ds1 h3;have:∃v,σ[i]? =some (some v):=by
     cases w with
     |nil=>cases w2
     |dat d2=>obtain⟨v,q,_⟩:=rl.dat i _ w1;exact⟨v,q⟩
     |own ds2=>obtain⟨a,_,q,_⟩:=rl.own i _ _ w1 rfl;exact⟨_,q⟩
     |par ds2=>obtain⟨a,_,q,_⟩:=rl.own i _ _ w1 rfl;exact⟨_,q⟩
     |ownD _ _=>obtain⟨a,_,q,_⟩:=rl.own i _ _ w1 rfl;exact⟨_,q⟩
     |parD _ _=>obtain⟨a,_,q,_⟩:=rl.own i _ _ w1 rfl;exact⟨_,q⟩
    obtain⟨v,q⟩:=this;exact⟨v::vs,.cons q hv⟩
  obtain⟨vs,hv⟩:=hvs is ds e1;have rp:=b3c rl hv e1;refine⟨vs,hv,?_⟩;show SpF X.K ps.length fn (vs++[]) H Q _;rw[Yh];refine⟨a1g G σ env H,ds.map W.dat,.d d,ws',by simpa using hn,fun w hw=>?_,c1d rl rp,e3,fun v G2 H2 ev r2=>k v G H2 (c1e rl ev) ?_⟩
  ·obtain⟨d1,_,rfl⟩:=Zj.mp hw
   exact .inl ⟨d1,rfl⟩
  ·cases d<;>first|(simp only[Rep]at r2 ⊢;exact r2)|cases hf
end
end L2.Mir
namespace L2.Mir
open PySem PyProof PyProof.Rows L2
variable{A:Around}{B:OA}{E:OE}{G G' G0 H H0:Hp}{K:Qz}{X:Cx}{a b:Addr}{e ei ej:Expr}{env env':Env'}{h:Heap}{i n r:Nat}{ks rows:OI}{p p1 p2 pos:Pos}{pins:OX}{prog:Program}{s:Shared}{v:V}{vs:List Value}{w:World}{x y:Str}{xs:List V}{α β:Type}{σ σ0:St}
variable{X:Cx}{B:OA}
inductive RowsAre (h:Heap):List Value->OI->Prop
 |nil:RowsAre h [] []
 |cons {a:Addr}{its:Array Value}{k:List Int}{vs:List Value}{ks:OI}(t:IsTup h a its) (i:IntsAre its.toList k) (r:RowsAre h vs ks):RowsAre h (.ref a::vs) (k::ks)
theorem RowsAre.length(r:RowsAre h vs ks):vs.length=ks.length:=by
 induction r with
 |nil=>rfl
 |cons _ _ _ ih=>simp[ih]
theorem a4f:∀ns:List Int,PyData.canLayAll0 (ns.map PyData.int)=true
 |[]=>rfl
 |n::ns=>by simp[PyData.canLayAll0,PyData.canLay0,a4f ns]
section
open PySem.SeqAt
open PySem.AutoSeq1 (wpAny_loadPart')
open PySem.MeetsSeq PySem.MeetsSeq2 PySem.MeetsSeq3
end
section
variable{st:Expr}{ma:Mo D}
end
theorem RowsAre.mono{h':Heap}(f:∀a its,IsTup h a its->IsTup h' a its)(r:RowsAre h vs ks):RowsAre h' vs ks:=by
 induction r with
 |nil=>exact .nil
 |cons t i _ ih=>exact .cons (f _ _ t) i ih
section
variable{h₀:Heap}{L kS D:Addr}{m:OU}{news0:OX}{e1:Nat}{Fin:List Value->Nat->Shared->Prop}
end
section
variable{ma:Mo D}{kp1 kp2:Pos}{j:Nat}
end
section
open PySem.SeqAt
open PySem.AutoSeq1 (wpAny_loadPart')
open PySem.MeetsSeq PySem.MeetsSeq2 PySem.MeetsSeq3
end
section
variable{o:Expr}{ma mb:Mo D}
end
abbrev Ro:=Option (OI)
abbrev MoN(α:Type):=Env'->Ro->Option (α×Env'×Ro)
theorem a8N{R R':α->β->Prop}{as:List α}{bs:List β}(h:Paired R as bs):(∀a∈as,∀b,R a b->R' a b)->Paired R' as bs:=by
 induction h with
 |nil=>intro _;exact .nil
 |cons r _ ih=>intro f;exact .cons (f _ (Zg ..) _ r) (ih fun a ha=>f a (Zx _ ha))
theorem a8O{R:α->β->Prop}{as:List α}{bs:List β}(h:Paired R as bs):∀{a},a∈as->∃b,R a b:=by
 induction h with
 |nil=>intro a ha;cases ha
 |cons r _ ih=>
  intro a ha
  rcases Qr.mp ha with rfl|ha
  ·exact⟨_,r⟩
  ·exact ih ha
theorem c1f{R:α->β->Prop}{as:List α}{bs:List β}(h:Paired R as bs):∀{i:Nat}{b:β},bs[i]? =some b->∃a,as[i]? =some a/\R a b:=by
 induction h with
 |nil=>intro i b e;simp at e
 |cons r _ ih=>
  intro i b e;cases i with
  |zero=>simp at e;subst e;exact⟨_,rfl,r⟩
  |succ i=>simpa using ih (i:=i) (by simpa using e)
theorem a8P{R:α->β->Prop}{as:List α}{bs:List β}(h:Paired R as bs):as.length=bs.length:=by
 induction h with
 |nil=>rfl
 |cons _ _ ih=>simp[ih]
def a4g(H0 G:Hp)(σ:St)(env:Env')(H:Hp)(bs:List Addr)(rows:OI):Prop:=
 Paired (fun b row=>H b=some (.lst (row.map V.int))) bs rows/\∀b∈bs,H0 b=none/\G b=none/\ ¬ Owned σ env b
def Nst(H0 G:Hp)(σ:St)(env:Env')(H:Hp)(r:Nat)(rows:OI):Prop:=
 ∃a bs,σ[r]? =some (some (V.ref a))/\H a=some (.lst (bs.map V.ref))/\(a::bs).Nodup/\a4g H0 G σ env H bs rows/\H0 a=none/\G a=none/\ ¬ Owned σ env a
def NO(H0 G:Hp)(σ:St)(env:Env')(H:Hp)(r:Nat):Ro->Prop
 |none=>True
 |some rows=>Nst H0 G σ env H r rows
section
variable{σ':St}{H':Hp}
theorem a2T(ev:Ev K B G σ env H G' σ' env' H')(h:H b=some (.lst xs))(g:G b=none)(no:¬ Owned σ env b):H' b=some (.lst xs)/\G' b=none/\ ¬ Owned σ' env' b:=
 ⟨ev.keep b _ no nt_lst h,ev.stay b (by rw[h];simp) no g,fun z=>(ev.sub b z).elim no fun e=>by rw[h]at e;cases e⟩
theorem a4g.step{bs:List Addr}(l:a4g H0 G σ env H bs rows)(ev:Ev K B G σ env H G' σ' env' H'):a4g H0 G' σ' env' H' bs rows:=by
 obtain⟨h1,h2⟩:=l;refine⟨a8N h1 fun b hb row e=>(a2T ev e (h2 b hb).2.1 (h2 b hb).2.2).1,fun b hb=>?_⟩
 obtain⟨row,e⟩:=a8O h1 hb;have:=a2T ev e (h2 b hb).2.1 (h2 b hb).2.2;exact⟨(h2 b hb).1,this.2⟩
theorem NO.step{q:Ro}(n:NO H0 G σ env H r q)(ev:Ev K B G σ env H G' σ' env' H')(hr:σ'[r]? =σ[r]?):NO H0 G' σ' env' H' r q:=by
 cases q with
 |none=>trivial
 |some rows=>
  obtain⟨a,bs,h1,h2,h3,h4,h5,h6,h7⟩:=n;have:=a2T ev h2 h6 h7;exact⟨a,bs,hr.trans h1,this.1,h3,h4.step ev,h5,this.2⟩
theorem Ev.poke{env0:Env'}{ys:List V}(ev:Ev K B G0 σ0 env0 H0 G σ env H)(h0:H0 b=none)(g:G b=none)(no:¬ Owned σ env b)(h:H b=some (.lst xs)):Ev K B G0 σ0 env0 H0 G σ env (upd H b (.lst ys)):=by
 have live':∀c,H c≠none->(upd H b (.lst ys)) c≠none:=fun c hc=>by
  by_cases hb:c=b
  ·subst hb;rw[y8_];simp
  ·rw[q7_ hb];exact hc
 refine⟨⟨fun c u e=>?_,ev.rel.len,ev.rel.dat,fun i w m e1 e2=>?_,ev.rel.inj,ev.rel.fresh,fun c hc=>live' c (ev.rel.old c hc),ev.rel.tabs.upd nt_lst (fun φ z=>by rw[h]at z;cases z),ev.rel.gnt⟩,ev.same,fun c u n t e=>?_,fun c e=>live' c (ev.live c e),fun c e n gg=>ev.stay c e n gg,ev.sub,ev.par,ev.slen⟩
 ·rw[q7_ (fun z=>by rw[z,g]at e;cases e)];exact ev.rel.sub c u e
 ·obtain⟨a,o,q1,q2,q3,q4⟩:=ev.rel.own i w m e1 e2
  exact⟨a,o,q1,by rw[q7_ (fun z=>no (by rw[←z];exact⟨i,w,m,e1,e2,q1⟩))];exact q2,q3,q4⟩
 ·rw[q7_ (fun z=>by rw[z,h0]at e;cases e)];exact ev.keep c u n t e
end
def a2U(r:Nat)(env:Env'):Bool:=match env[r]? with
 |some .nil=>true
 |_=>false
theorem a5j(h:a2U r env=true):env[r]? =some .nil:=by
 unfold a2U at h;split at h
 ·assumption
 ·cases h
section
variable(K:Qz)(B:OA)(r:Nat)
def a6I(G0:Hp)(σ0:St)(env0:Env')(H0 G:Hp)(env':Env')(q':Ro)(D:Ends):Fl->Prop
 |.nx=>∀σ' G' H',Ev K B G0 σ0 env0 H0 G' σ' env' H'->Le G G'->env'[r]? =some .nil->NO H0 G' σ' env' H' r q'->D.nx σ' H'
 |fl=>Post K B G0 σ0 env0 H0 env' D fl
theorem a6I.after{env0:Env'}{G1:Hp}{q':Ro}{D:Ends}{fl:Fl}(k:a6I K B r G0 σ0 env0 H0 G env' q' D fl)(l:Le G G1):a6I K B r G0 σ0 env0 H0 G1 env' q' D fl:=by
 cases fl with
 |nx=>exact fun σ' G' H' ev l' hn n=>k σ' G' H' ev (l.trans l') hn n
 |bk=>exact k
 |ct=>exact k
 |ret d=>exact k
 |retL d=>exact k
def TN(m:MoN Fl):TS:=fun D σ H=>∃G0 σ0 env0 H0 G env q fl env' q',Ev K B G0 σ0 env0 H0 G σ env H/\env[r]? =some .nil/\NO H0 G σ env H r q/\m env q=some (fl,env',q')/\a6I K B r G0 σ0 env0 H0 G env' q' D fl
def TDn(m:Env'->Ro->Option (D×Env')):TE:=fun σ H Q=>∃H0 G env q d env',Rel K B G σ env H/\env[r]? =some .nil/\NO H0 G σ env H r q/\m env q=some (d,env')/\∀v G' H',Ev K B G σ env H G' σ env' H'->Rep K G' v d->Q v H'
end
abbrev EN(X:Cx)(B:OA)(r:Nat)(e:Expr)(m:Env'->Ro->Option (D×Env')):Prop:=PE X e (TDn X.K B r m)
abbrev NS(X:Cx)(B:OA)(r:Nat)(s:Stmt)(m:MoN Fl):Prop:=PS X s (TN X.K B r m)
abbrev NSs(X:Cx)(B:OA)(r:Nat)(s:List Stmt)(m:MoN Fl):Prop:=PSs X s (TN X.K B r m)
section
variable{a b:Expr}{st:Stmt}{rest:List Stmt}
def a6J(r:Nat)(m:MoN Fl):Mo Fl:=fun env=>if a2U r env then(m env none).map fun p=>(p.1,p.2.1)else none
theorem b3f(h:NSs X B r rest m):ESs X B rest (a6J r m):=by
 refine pss_imp h ?_
 rintro D σ H ⟨G,env,fl,env',rl,e,k⟩;unfold a6J at e;split at e
 case isFalse=>cases e
 rename_i hn;obtain⟨⟨fl',env1,q'⟩,e1,e2⟩:=x3_ e;injection e2 with h1 h2
 subst h1 h2;refine⟨G,σ,env,H,G,env,none,fl',env1,q',.refl rl,a5j hn,trivial,e1,?_⟩;cases fl' with
 |nx=>exact fun σ' G' H' ev _ _ _=>k σ' G' H' ev
 |bk=>exact k
 |ct=>exact k
 |ret d=>exact k
 |retL d=>exact k
def a6K(m:Mo D):Env'->Ro->Option (D×Env'):=fun env _=>m env
theorem b3g{m:Mo D}(h:ED X B e m):EN X B r e (a6K m):=pe_imp h fun σ H Q ⟨H0,G,env,q,d,env',rl,hn,n,em,k⟩=>⟨G,env,d,env',rl,em,k⟩
def a2t(m n:MoN Fl):MoN Fl:=fun env q=>(m env q).bind fun p=>match p.1 with
 |.nx=>n p.2.1 p.2.2
 |_=>some p
theorem a6L{s1 s2:MoN Fl}(h1:NS X B r st s1)(h2:NSs X B r rest s2):NSs X B r (st::rest) (a2t s1 s2):=by
 refine pss_imp (a3e h1 h2) ?_
 rintro D σ H ⟨G0,σ0,env0,H0,G,env,q,fl,env',q',ev,hn,n,e,k⟩;obtain⟨⟨fl1,env1,q1⟩,e1,e2⟩:=q2_ e;dsimp only at e2;cases fl1 with
 |nx=>exact⟨G0,σ0,env0,H0,G,env,q,.nx,env1,q1,ev,hn,n,e1,fun σ' G' H' ev' l' hn' n'=>⟨G0,σ0,env0,H0,G',env1,q1,fl,env',q',ev',hn',n',e2,k.after _ _ _ l'⟩⟩
 |bk=>cases e2;exact⟨G0,σ0,env0,H0,G,env,q,.bk,_,_,ev,hn,n,e1,k⟩
 |ct=>cases e2;exact⟨G0,σ0,env0,H0,G,env,q,.ct,_,_,ev,hn,n,e1,k⟩
 |ret d=>cases e2;exact⟨G0,σ0,env0,H0,G,env,q,.ret d,_,_,ev,hn,n,e1,k⟩
 |retL d=>cases e2;exact⟨G0,σ0,env0,H0,G,env,q,.retL d,_,_,ev,hn,n,e1,k⟩
theorem b3h{s1:MoN Fl}(h1:NS X B r st s1):NSs X B r [st] s1:=a7m h1
def a6M(m:Mo D):MoN Fl:=fun env q=>(m env).map fun p=>(.ret p.1,p.2,q)
theorem b3i{ma:Mo D}(h:ED X B e ma):NS X B r (.Return (some e) pos) (a6M ma):=by
 refine ps_imp (a7n h) ?_
 rintro D σ H ⟨G0,σ0,env0,H0,G,env,q,fl,env',q',ev,hn,n,e,k⟩;obtain⟨⟨d,env1⟩,e1,e2⟩:=x3_ e;cases e2;exact⟨G,env,d,_,ev.rel,e1,fun v G' H' ev1 rp=>k v σ G' H' (ev.trans ev1) rp⟩
theorem a8Q{l:List α}{j:Nat}{x:α}(h:i≠j):(l.set i x)[j]? =l[j]?:=Qc h
def a6N(i:Nat)(m:Env'->Ro->Option (D×Env')):MoN Fl:=fun env q=>(m env q).bind fun p=>if a2U r (p.2.set i (.dat p.1))&&decide (i≠r)then some (.nx,p.2.set i (.dat p.1),q)else none
theorem b3j{pos':Pos}{ma:Env'->Ro->Option (D×Env')}(hN:X.N.Nodup)(hi:X.N[i]? =some x)(hx:Loc X.env.scope x)(he:EN X B r e ma)(hs:swapsWith e (some (.Name x pos')) pos.line X.env=pure false:=by rfl)(hf:X.fn x=true∨X.env.scope.names.lookup x=some .local:=by first|exact .inl rfl|exact .inr rfl|assumption):
  NS X B r (.Assign [.Name x pos'] e pos) (a6N (r:=r) i ma):=by
 refine ps_imp (a4D hN hi hx he hs hf) ?_
 rintro D σ H ⟨G0,σ0,env0,H0,G,env,q,fl,env',q',ev,hn,n,e,k⟩;obtain⟨⟨d,env1⟩,e1,e2⟩:=q2_ e;dsimp only at e2;split at e2
 case isFalse=>cases e2
 rename_i hg;rw[Qw,Zz]at hg;cases e2;exact⟨H0,G,env,q,d,env1,ev.rel,hn,n,e1,fun v G' H' ev1 rp=>k _ G' H' ((ev.trans ev1).setDat rp) ev1.same (a5j hg.1) (n.step (ev1.setDat rp) (a8Q hg.2))⟩
def a5k(f:D->D->Option D)(ma mb:Env'->Ro->Option (D×Env')):Env'->Ro->Option (D×Env'):=fun env q=>(ma env q).bind fun p=>if a2U r p.2 then(mb p.2 q).bind fun p2=>(f p.1 p2.1).map fun d=>(d,p2.2)else none
theorem b3k{op:Operator}{rr:R2}{f:D->D->Option D}{ma mb:Env'->Ro->Option (D×Env')}(ho:OpR X (binaryOp op) rr)(o:OpD X B rr f)(ha:EN X B r a ma)(hb:EN X B r b mb):EN X B r (.BinOp a op b pos) (a5k (r:=r) f ma mb):=by
 refine pe_imp (a7t ho ha hb) ?_
 rintro σ H Q ⟨H0,G,env,q,d,env',rl,hn,n,em,k⟩;obtain⟨⟨d1,env1⟩,e1,e2⟩:=q2_ em;dsimp only at e2;split at e2
 case isFalse=>cases e2
 rename_i hn1;obtain⟨⟨d2,env2⟩,e3,e4⟩:=q2_ e2;obtain⟨c,e5,e6⟩:=x3_ e4;cases e6;exact⟨H0,G,env,q,d1,env1,rl,hn,n,e1,fun x G1 H1 ev1 r1=>⟨H0,G1,env1,q,d2,_,ev1.rel,a5j hn1,n.step ev1 rfl,e3,fun y G2 H2 ev2 r2=>o G2 σ _ H2 x y d1 d2 _ Q ev2.rel (Rep.mono ev2.same d1 r1) r2 e5 fun v G3 H3 ev3 r3=>k v G3 H3 ((ev1.trans ev2).trans ev3) r3⟩⟩
theorem b3l(f:α->β)(l:List α)(i:Int):atI (l.map f) i=(atI l i).map f:=by
 unfold atI;rw[Qv];cases ixN l.length i with
 |none=>rfl
 |some j=>simp
def a5l(mi mj:Mo D):Env'->Ro->Option (D×Env'):=fun env q=>(mi env).bind fun p=>(mj p.2).bind fun p2=>match q,p.1,p2.1 with
 |some rows,.int i,.int j=>(atI rows i).bind fun row=>(atI row j).map fun v=>(.int v,p2.2)
 |_,_,_=>none
theorem b3m{bs:List Addr}{i:Int}{row:List Int}(l:a4g H0 G σ env H bs rows)(e:atI rows i=some row):∃b,b∈bs/\atI (bs.map V.ref) i=some (V.ref b)/\H b=some (.lst (row.map V.int)):=by
 obtain⟨j,e1,e2⟩:=q2_ e;obtain⟨b,q1,q2⟩:=c1f l.1 e2;refine⟨b,Yl q1,?_,q2⟩;rw[b3l];unfold atI;rw[a8P l.1,e1];show(bs[j]?).map V.ref=_;rw[q1];rfl
theorem b3n{mi mj:Mo D}(hv:PE X (.Name x p) (a0L r))(hi:ED X B ei mi)(hj:ED X B ej mj)(hs1:a2B ei)(hs2:a2B ej):EN X B r (.Subscript (.Subscript (.Name x p) ei p1) ej p2) (a5l mi mj):=by
 refine pe_imp (a4I a4J (a4I a4J hv hi hs1) hj hs2) ?_
 rintro σ H Q ⟨H0,G,env,q,d,env',rl,hn,n,em,k⟩;obtain⟨⟨d1,env1⟩,e1,e2⟩:=q2_ em;obtain⟨⟨d2,env2⟩,e3,e4⟩:=q2_ e2;dsimp only at e4;split at e4
 case h_2=>cases e4
 rename_i rows i j;obtain⟨row,e5,e6⟩:=q2_ e4;obtain⟨v,e7,e8⟩:=x3_ e6;cases e8;obtain⟨a,bs,h1,h2,h3,h4,h5,h6,h7⟩:=n;refine⟨_,h1,G,env,_,env1,rl,e1,fun v1 G1 H1 ev1 r1=>?_⟩
 simp only[Rep]at r1;subst r1;have l1:=h4.step ev1;obtain⟨b,hb,q1,q2⟩:=b3m l1 e5;refine⟨a,_,i,.ref b,rfl,rfl,.inl (.inl (a2T ev1 h2 h6 h7).1),q1,G1,env1,_,_,ev1.rel,e3,fun v2 G2 H2 ev2 r2=>?_⟩
 simp only[Rep]at r2;subst r2;have q3:=(a2T ev2 q2 (l1.2 b hb).2.1 (l1.2 b hb).2.2).1;exact⟨b,_,j,.int v,rfl,rfl,.inl (.inl q3),by rw[b3l,e7];rfl,k _ G2 H2 (ev1.trans ev2) (by simp only[Rep])⟩
theorem b3o{H H':Hp}{b:Addr}{new:List Int}:∀{bs:List Addr}{rows:OI}{k:Nat},Paired (fun b row=>H b=some (.lst (row.map V.int))) bs rows->bs.Nodup->bs[k]? =some b->(∀c∈bs,c≠b->H' c=H c)->H' b=some (.lst (new.map V.int))->Paired (fun b row=>H' b=some (.lst (row.map V.int))) bs (rows.set k new)
 |_,_,k,.nil,_,e,_,_=>by simp at e
 |_,_,0,.cons h t,nd,e,keep,hb=>by
  simp at e
  subst e;rw[Jk]at nd;exact .cons hb (a8N t fun c hc row q=>by rw[keep c (Zx _ hc) (fun z=>nd.1 (by rw[←z];exact hc))];exact q)
 |_,_,k+1,.cons (a:=a) h t,nd,e,keep,hb=>by
  rw[Jk]at nd;have e':=(by simpa using e:_[k]? =some b)
  refine .cons ?_ (b3o t nd.2 e' (fun c hc=>keep c (Zx _ hc)) hb)
  rw[keep _ (Zg ..) (fun z=>nd.1 (by rw[z];exact Yl e'))]
  exact h
def a6O(mi mj:Mo D)(mv:Env'->Ro->Option (D×Env')):MoN Fl:=fun env q=>(mv env q).bind fun p=>(mi p.2).bind fun p1=>(mj p1.2).bind fun p2=>match q,p.1,p1.1,p2.1 with
 |some rows,.int v,.int i,.int j=>(ixN rows.length i).bind fun a=>(rows[a]?).bind fun row=>(ixN row.length j).bind fun c=>if a2U r p2.2 then some (.nx,p2.2,some (rows.set a (row.set c v)))else none
 |_,_,_,_=>none
theorem b3p{mi mj:Mo D}{mv:Env'->Ro->Option (D×Env')}(hv:PE X (.Name x p) (a0L r))(hi:ED X B ei mi)(hj:ED X B ej mj)(he:EN X B r e mv)(hs1:a2B ei)
  (hs:swapsWithSole [.Subscript (.Subscript (.Name x p) ei p1) ej p2] e pos.line X.env=pure false:=by rfl)(hw:swappedStores [.Subscript (.Subscript (.Name x p) ei p1) ej p2] e X.env=pure none:=by rfl)
  (h1:(assignEach [.Subscript (.Subscript (.Name x p) ei p1) ej p2] X.env).map (·.2)=[assign (.Subscript (.Subscript (.Name x p) ei p1) ej p2) X.env]:=by rfl)
  (ha:∀v,assign (.Subscript (.Subscript (.Name x p) ei p1) ej p2) X.env v=(do
   let ov←holding [v] (eval (.Subscript (.Name x p) ei p1) X.env)
   let iv←holding [v,ov] (eval ej X.env)
   standAt p2
   holding [v,ov,iv] (setItem ov iv v)
   release [v,ov,iv] []):=by intro _;rfl):
  NS X B r (.Assign [.Subscript (.Subscript (.Name x p) ei p1) ej p2] e pos) (a6O (r:=r) mi mj mv):=by
 refine ps_imp (b0W he (b0V (a4I a4J hv hi hs1) hj b1u ha) hs hw h1) ?_
 rintro D σ H ⟨G0,σ0,env0,H0,G,env,q,fl,env',q',ev,hn,n,e,k⟩;obtain⟨⟨d,env1⟩,e1,e2⟩:=q2_ e;obtain⟨⟨d1,env2⟩,e3,e4⟩:=q2_ e2;obtain⟨⟨d2,env3⟩,e5,e6⟩:=q2_ e4;dsimp only at e6;split at e6
 case h_2=>cases e6
 rename_i rows v i j;obtain⟨k1,e7,e8⟩:=q2_ e6;obtain⟨row,e9,e10⟩:=q2_ e8;obtain⟨k2,e11,e12⟩:=q2_ e10;split at e12
 case isFalse=>cases e12
 rename_i hg;cases e12;refine⟨H0,G,env,some rows,_,env1,ev.rel,hn,n,e1,fun xv G1 H1 ev1 r1=>?_⟩
 simp only[Rep]at r1;subst r1;obtain⟨a,bs,h1,h2,h3,h4,h5,h6,h7⟩:=n.step ev1 rfl;refine⟨_,h1,G1,env1,_,env2,ev1.rel,e3,fun v1 G2 H2 ev2 r2=>?_⟩
 simp only[Rep]at r2;subst r2;have l2:=h4.step ev2;have a2:=a2T ev2 h2 h6 h7;have at1:atI rows i=some row:=by unfold atI;rw[e7];exact e9
 obtain⟨b,hb,q1,q2⟩:=b3m l2 at1;refine⟨a,_,i,.ref b,rfl,rfl,.inl (.inl a2.1),q1,G2,env2,_,_,ev2.rel,e5,fun v2 G3 H3 ev3 r3=>?_⟩
 simp only[Rep]at r3;subst r3;have l3:=l2.step ev3;have a3:=a2T ev3 a2.1 a2.2.1 a2.2.2;have b3:=a2T ev3 q2 (l2.2 b hb).2.1 (l2.2 b hb).2.2;refine⟨b,row.map V.int,j,k2,rfl,rfl,b3.1,by rw[Qv];exact e11,?_⟩
 have evA:=((ev.trans ev1).trans ev2).trans ev3
 have hab:a≠b:=fun z=>by rw[z,Jk]at h3;exact h3.1 hb
 have hbi:bs[k1]? =some b:=by
  obtain⟨c,y1,y2⟩:=q2_ q1;rw[Qv,a8P l3.1,e7]at y1;cases y1;rw[Qa]at y2;cases y:bs[k1]? with
  |none=>rw[y]at y2;cases y2
  |some c=>rw[y]at y2;cases y2;rfl
 refine k σ G3 _ (evA.poke (l3.2 b hb).1 b3.2.1 b3.2.2 b3.1) ((ev1.same.trans ev2.same).trans ev3.same) (a5j hg) ⟨a,bs,h1,by rw[q7_ hab];exact a3.1,h3,⟨?_,l3.2⟩,h5,a3.2⟩
 refine b3o l3.1 (Jk.mp h3).2 hbi (fun c _ hc=>q7_ hc) ?_
 rw[y8_,List.map_set]
end
section
variable{a b tg:Expr}{st:Stmt}{rest:List Stmt}
end
def a2V(rows:OI):D:=.lst (rows.map fun row=>.lst (row.map D.int))
mutual
def D.lf:D->Bool
 |.non=>true
 |.bl _=>true
 |.int _=>true
 |.str _=>true
 |.tup ds=>lfL ds
 |_=>false
def lfL:List D->Bool
 |[]=>true
 |d::ds=>d.lf&&lfL ds
end
mutual
theorem rep_lf(h:∀b xs,G b=some (.tup xs)->G' b=some (.tup xs)):∀(d:D) {v:V},d.lf=true->Rep K G v d->Rep K G' v d
 |.non,v,_,r=>by simpa only[Rep]using r
 |.bl b,v,_,r=>by simpa only[Rep]using r
 |.int i,v,_,r=>by simpa only[Rep]using r
 |.str x,v,_,r=>by simpa only[Rep]using r
 |.tup ds,v,l,r=>by
  simp only[Rep]at r ⊢;obtain⟨a,xs,e,q,t⟩:=r;exact⟨a,xs,e,q.imp (fun e=>h _ _ e) id,repL_lf h ds (by simpa only[D.lf]using l) t⟩
 |.lst ds,v,l,r=>by simp[D.lf]at l
 |.emp,v,l,r=>by simp[D.lf]at l
 |.obj o,v,l,r=>by simp[D.lf]at l
 |.dct _ _,v,l,r=>by simp[D.lf]at l
theorem repL_lf(h:∀b xs,G b=some (.tup xs)->G' b=some (.tup xs)):∀(ds:List D) {xs:List V},lfL ds=true->z9_ K G xs ds->z9_ K G' xs ds
 |[],_,_,r=>by simpa only[z9_]using r
 |d::ds,_,l,r=>by
  simp only[z9_]at r ⊢;obtain⟨x,t,e,q,u⟩:=r;have l':d.lf=true/\lfL ds=true:=by simpa only[lfL,Qw]using l
  exact⟨x,t,e,rep_lf h d l'.1 q,repL_lf h ds l'.2 u⟩
end
theorem rep_ints(K:Qz)(G:Hp):∀ns:List Int,z9_ K G (ns.map V.int) (ns.map D.int)
 |[]=>repL_nil
 |n::ns=>repL_cons (by simp only[Rep]) (rep_ints K G ns)
def withG(G H:Hp)(as:List Addr):Hp:=fun b=>if b∈as then H b else G b
def lessG(G:Hp)(as:List Addr):Hp:=fun b=>if b∈as then none else G b
theorem rows_rep{bs:List Addr}{as:List Addr}(l:Paired (fun b row=>H b=some (.lst (row.map V.int))) bs rows):(∀b∈bs,b∈as)->z9_ K (withG G H as) (bs.map V.ref) (rows.map fun row=>.lst (row.map D.int)):=by
 induction l with
 |nil=>intro _;exact repL_nil
 |cons h t ih=>
  intro s;refine repL_cons ?_ (ih fun b hb=>s b (Zx _ hb))
  refine a3O ?_ (rep_ints _ _ _);unfold withG;rw[Qn (s _ (Zg ..))];exact h
section
variable{px:Pos}{fn:Fn}{k:Nat}
def mCallN(fn:Fn):Env'->Ro->Option (D×Env'):=fun env q=>q.bind fun rows=>(fn [.dat (a2V rows)]).bind fun z=>match z.1 with
 |.d d=>if d.lf then some (d,env)else none
 |_=>none
theorem en_call(Df:Def X.prog X.w X.K X.mg X.base x k 1 fn)(hr:Room k X.A)(hg:Gl X x)(hv:PE X (.Name y px) (a0L r))(hdb:(x==("__debug__":Str))=false:=by decide)
  (he:starEach [.Name y px] X.env=(false,eval (.Name y px) X.env)::starEach [] X.env:=by rfl)(hpl:(backTo pos (starEach [] X.env)).any (·.1)=false:=by rfl):
  EN X B r (.Call (.Name x p) [.Name y px] [] pos) (mCallN fn):=by
 obtain⟨f,fd,ps,F,hps,hm,hk,hb⟩:=Df.ex;refine pe_imp (a4G F hr hg hm hk hb .nil a4L (a8L (.cons hv .nil)) hdb he hpl) ?_
 rintro σ H Q ⟨H0,G,env,q,d,env',rl,hn,n,em,kk⟩;obtain⟨rows,e0,e1⟩:=q2_ em;subst e0;obtain⟨⟨rr,ws'⟩,e2,e3⟩:=q2_ e1;cases rr with
 |l _=>cases e3
 |d d'=>
  dsimp only at e3;split at e3
  case isFalse=>cases e3
  rename_i hlf;cases e3;obtain⟨a,bs,h1,h2,h3,h4,h5,h6,h7⟩:=n;have hin:∀c∈a::bs,(∃xs,H c=some (.lst xs))/\G c=none/\ ¬ Owned σ env c:=fun c hc=>by
   rcases Qr.mp hc with rfl|hc
   ·exact⟨⟨_,h2⟩,h6,h7⟩
   ·obtain⟨row,z⟩:=a8O h4.1 hc
    exact⟨⟨_,z⟩,(h4.2 c hc).2⟩
  have leG:Le G (withG G H (a::bs)):=fun b o z=>by
   unfold withG;split
   ·rename_i hc;rw[(hin b hc).2.1]at z;cases z
   ·exact z
  have leH:Le (withG G H (a::bs)) H:=fun b o z=>by
   unfold withG at z;split at z
   ·exact z
   ·exact rl.sub b o z
  have rep:Rep X.K (withG G H (a::bs)) (.ref a) (a2V rows):=by
   refine a3O (xs:=bs.map V.ref) ?_ (rows_rep h4.1 fun b hb=>Zx _ hb)
   unfold withG;rw[Qn (Zg ..)];exact h2
  have rel1:Rel X.K u6_ (withG G H (a::bs)) ([V.ref a].map some) ([a2V rows].map W.dat) H:=by
   have no:∀(i:Nat) (w:W) (m:Mu),([a2V rows].map W.dat)[i]? =some w->w.mut=some m->False:=fun i w m e1 e2=>by
    cases i with
    |zero=>simp at e1;subst e1;cases e2
    |succ i=>simp at e1
   refine⟨leH,rfl,fun i d e=>?_,fun i w m e1 e2=>(no i w m e1 e2).elim,fun i j w w' m m' a e1 e2=>(no i w m e1 e2).elim,fun i w a e1 eo _ h=>h,fun b h=>h.elim,rl.tabs,fun b o z=>?_⟩
   ·cases i with
    |zero=>simp at e;subst e;exact⟨_,rfl,rep⟩
    |succ i=>simp at e
   ·unfold withG at z
    split at z
    ·rename_i hc
     obtain⟨⟨xs,hx⟩,_⟩:=hin b hc;rw[hx]at z;cases z;exact nt_lst
    ·exact rl.gnt b o z
  refine⟨[V.ref a],.cons h1 .nil,?_⟩;show SpF X.K 1 fn ([V.ref a]++[]) H Q _;rw[Yh];refine⟨withG G H (a::bs),[a2V rows].map W.dat,.d d,ws',rfl,fun w hw=>.inl ⟨a2V rows,by simpa using hw⟩,rel1,e2,fun v G2 H2 ev r2=>kk v (lessG G2 (a::bs)) H2 ?_ ?_⟩
  ·have dn:∀c,¬ Owned ([V.ref a].map some) ([a2V rows].map W.dat) c:=fun c=>b3d
   have leL:Le G (lessG G2 (a::bs)):=fun b o z=>by
    unfold lessG;split
    ·rename_i hc;rw[(hin b hc).2.1]at z;cases z
    ·exact ev.same b o (leG b o z)
   have stay:∀c,H c≠none->G c=none->lessG G2 (a::bs) c=none:=fun c hl g=>by
    unfold lessG;split
    ·rfl
    ·rename_i hc
     exact ev.stay c hl (dn c) (by unfold withG;rw[Ql hc];exact g)
   refine⟨⟨fun b o z=>?_,rl.len,fun i d e=>?_,fun i w m e1 e2=>?_,rl.inj,rl.fresh,fun b h=>ev.live b (rl.old b h),ev.rel.tabs,fun b o z=>?_⟩,leL,fun b o _ t e=>ev.keep b o (dn b) t e,ev.live,fun b hl _ g=>stay b hl g,fun a z=>.inl z,fun i w e hp=>⟨rfl,w,e,hp⟩,rfl⟩
   ·unfold lessG at z
    split at z
    ·cases z
    ·exact ev.rel.sub b o z
   ·obtain⟨v,q1,q2⟩:=rl.dat i d e
    exact⟨v,q1,Rep.mono leL d q2⟩
   ·obtain⟨c,o,q1,q2,q3,q4⟩:=rl.own i w m e1 e2
    exact⟨c,o,q1,ev.keep c o (dn c) q3.nt q2,q3.mono leL,stay c (by rw[q2];simp) q4⟩
   ·unfold lessG at z
    split at z
    ·cases z
    ·exact ev.rel.gnt b o z
  ·refine rep_lf (fun b xs z=>?_) d hlf r2
   unfold lessG;split
   ·rename_i hc
    obtain⟨⟨ys,hy⟩,_⟩:=hin b hc;have:withG G H (a::bs) b=some (.lst ys):=by unfold withG;rw[Qn hc];exact hy
    rw[ev.same b _ this]at z;cases z
   ·exact z
end
section
variable{G1:Hp}{σ1:St}{env1:Env'}{H1:Hp}
theorem Ev.hideSet(ev:Ev K B G σ env H G1 σ1 env1 H1)(hn:env1[r]? =some .nil):Ev K B G σ env H G1 (σ1.set r (some v)) env1 H1:=by
 have rl:=ev.rel
 have ne:∀(j:Nat) (w:W),env1[j]? =some w->w≠.nil->(σ1.set r (some v))[j]? =σ1[j]?:=fun j w e h=>a8Q fun z=>h (by rw[←z,hn]at e;cases e;rfl)
 have nm:∀{w:W}{m:Mu},w.mut=some m->w≠.nil:=fun h z=>by rw[z]at h;cases h
 have ow:∀a,Owned (σ1.set r (some v)) env1 a->Owned σ1 env1 a:=fun a ⟨i,w,m,e1,e2,e3⟩=>⟨i,w,m,e1,e2,by rw[←ne i w e1 (nm e2)];exact e3⟩
 refine⟨⟨rl.sub,by rw[Zh];exact rl.len,fun i d e=>?_,fun i w m e1 e2=>?_,fun i j w w' m m' a e1 e2 e3 e4 e5 e6=>?_,fun i w a e1 eo e2=>?_,rl.old,rl.tabs,rl.gnt⟩,ev.same,ev.keep,ev.live,ev.stay,fun a z=>ev.sub a (ow a z),fun i w e hp=>?_,by rw[Zh];exact ev.slen⟩
 ·rw[ne i _ e (by simp)];exact rl.dat i d e
 ·rw[ne i w e1 (nm e2)];exact rl.own i w m e1 e2
 ·rw[ne i w e1 (nm e2)]at e5
  rw[ne j w' e3 (nm e4)]at e6;exact rl.inj i j w w' m m' a e1 e2 e3 e4 e5 e6
 ·rw[ne i w e1 (fun z=>by rw[z]at eo;cases eo)]at e2
  exact rl.fresh i w a e1 eo e2
 ·rw[ne i w e (fun z=>by rw[z]at hp;cases hp)];exact ev.par i w e hp
end
def compR(g:OZ)(ml:Mo (List D)):List D->Env'->Option (OI×Env')
 |[],env=>some ([],env)
 |d::ds,env=>(g d env).bind fun e1=>(ml e1).bind fun p=>(ints? p.1).bind fun ns=>(compR g ml ds p.2).map fun z=>(ns::z.1,z.2)
def mkN(r:Nat)(mi:Mo (List D))(keep:List Bool)(more:Nat)(g:OZ)(ml:Mo (List D)):MoN Fl:=fun env q=>(mi env).bind fun p=>if p.1.length≤100000 then
 (compR g ml p.1 (k5_ keep more p.2)).bind fun z=>(j2_ keep p.2 z.2).bind fun e=>if a2U r e then some (.nx,e,some z.1)else none else none
theorem compR_imp{keep:List Bool}{more:Nat}{g:OZ}{ml:Mo (List D)}{mi:Mo (List D)}(hkl:keep.length=n){env1 envF:Env'}{items:List D}{Q:VK}(hσn:σ.length=n)(rl:Rel K B G σ env H)
  (e1:mi env=some (items,env1))(hlen:items.length≤100000)(e3:compR g ml items (k5_ keep more env1)=some (rows,envF))(e5:j2_ keep env1 envF=some env')
  (k:∀p bs G' H',Ev K B G σ env H G' σ env' H'->(p::bs).Nodup->H' p=some (.lst (bs.map V.ref))->Paired (fun b row=>H' b=some (.lst (row.map V.int))) bs rows->(∀b∈p::bs,H b=none/\G' b=none/\ ¬ Owned σ env' b)->Q (.ref p) H'):
  a6m (TIm K B mi) keep more (TGm K B n g) (TTm K B v3_) (TL K B ml) σ H Q:=by
 refine⟨G,env,items,env1,rl,e1,fun J G1 H1 ev1 itd p hp=>?_⟩
 have hk:keep.length=σ.length:=by rw[hkl,hσn]
 have gp:G1 p=none:=ev1.rel.gnone hp
 have no1:¬ Owned σ env1 p:=ev1.rel.unowned hp
 have no:¬ Owned (w4_ keep more σ) (k5_ keep more env1) p:=fun z=>no1 (a4W z)
 have relS:∀ys,Rel K B G1 σ env1 (upd H1 p (.lst ys)):=fun ys=>(ev1.rel.allocM hp).rel
 refine⟨fun i m' σ2 H2=>m'=items.length-i/\i≤items.length/\∃G2 env2 bs acc rest,Ev K B G1 (w4_ keep more σ) (k5_ keep more env1) (upd H1 p (.lst (bs.map V.ref))) G2 σ2 env2 H2/\(∀j,j<n->σ2[j]? =(w4_ keep more σ)[j]?)/\
  bs.Nodup/\p∉bs/\a4g H1 G2 σ2 env2 H2 bs acc/\compR g ml (items.drop i) env2=some (rest,envF)/\acc++rest=rows/\acc.length≤i,⟨_,rfl,Ub _,G1,_,[],[],rows,.refl ((relS []).ext hk),fun _ _=>rfl,List.nodup_nil,by simp,⟨.nil,fun b hb=>by cases hb⟩,by simpa using e3,by simp,Qy _⟩,?_⟩
 rintro i m' σ2 H2 ⟨rfl,hi,G2,env2,bs,acc,rest,ev2,y2,nd,pn,l2,c2,t2,al⟩;have hpS:(upd H1 p (.lst (bs.map V.ref))) p=some (.lst (bs.map V.ref)):=y8_;have hp2:H2 p=some (.lst (bs.map V.ref)):=ev2.keep p _ no nt_lst hpS;have lH:Le G1 H2:=ev2.same.trans ev2.rel.sub
 by_cases hlt:i<items.length
 ·refine .inr ⟨itd.go i H2 lH hlt,fun x H3 y=>?_⟩
  have ed:items.drop i=items[i]::items.drop (i+1):=Ja hlt
  rw[ed]at c2;obtain⟨env4,e7,e8⟩:=q2_ c2;obtain⟨⟨ds,env7⟩,e9,e10⟩:=q2_ e8;obtain⟨ns,e11,e12⟩:=q2_ e10;obtain⟨⟨rest8,env8⟩,e13,e14⟩:=x3_ e12;cases e14;have hget:items[i]? =some items[i]:=by simp[hlt]
  have st:∃G3,Ev K B G2 σ2 env2 H2 G3 σ2 env2 H3/\Rep K G3 x items[i]:=by
   rcases itd.yld i H2 x H3 items[i] lH y hget with⟨rfl,r⟩|⟨q,o,hno,hq,rfl,r⟩
   ·exact⟨G2,.refl ev2.rel,Rep.mono ev2.same _ r⟩
   ·have gq:=ev2.rel.gnone hq
    refine⟨upd G2 q o,ev2.rel.alloc hq hno,Rep.mono (fun b u z=>?_) _ r⟩
    by_cases hb2:b=q
    ·subst hb2;rw[y8_]at z ⊢;exact z
    ·rw[q7_ hb2]at z ⊢;exact ev2.same b u z
  obtain⟨G3,ev3,r3⟩:=st;refine⟨G3,env2,items[i],env4,ev3.rel,r3,e7,fun σ4 G4 H4 ev4 y4=>?_⟩
  refine⟨G4,env4,true,env4,ev4.rel,rfl,fun G5 H5 ev5=>?_⟩
  simp only[Zy];refine⟨G5,env4,ds,env7,ev5.rel,e9,fun a xs G7 H7 ev7 ha ano h7 g7 r7=>?_⟩
  have hx:=a2K r7 e11
  subst hx;have evS:=((ev3.trans ev4).trans ev5).trans ev7;have ev8:=ev2.trans evS;have hp7:H7 p=some (.lst (bs.map V.ref)):=ev8.keep p _ no nt_lst hpS;have ev35:=(ev3.trans ev4).trans ev5;have a2:H2 a=none:=by
   cases q:H2 a with
   |none=>rfl
   |some o=>exact absurd ha (ev35.live a (by rw[q];simp))
  have aS:(upd H1 p (.lst (bs.map V.ref))) a=none:=by
   cases q:(upd H1 p (.lst (bs.map V.ref))) a with
   |none=>rfl
   |some o=>exact absurd a2 (ev2.live a (by rw[q];simp))
  have ap:a≠p:=fun z=>by rw[z,hpS]at aS;cases aS
  have a1:H1 a=none:=by rw[q7_ ap]at aS;exact aS
  have l7:=l2.step evS
  have abs:a∉bs:=fun hb=>by
   obtain⟨row,z⟩:=a8O l2.1 hb;rw[a2]at z;cases z
  refine⟨bs.map V.ref,hp7,by rw[Qv,a8P l2.1];exact Vq al (Qd hlt (Zp hlen (by decide))),items.length-(i+1),by omega,rfl,hlt,G7,env7,bs++[a],acc++[ns],rest8,?_,fun j hj=>(y4 j hj).trans (y2 j hj),?_,?_,⟨?_,fun b hb=>?_⟩,e13,by rw[Yb];exact t2,by rw[Qs];simp;omega⟩
  ·have:=ev8.swapAt (o:=.lst (bs.map V.ref++[.ref a])) no (by rw[hpS];simp) gp nt_lst (fun φ z=>by rw[hp7]at z;cases z)
   rw[a4C]at this;rw[Zo];exact this
  ·rw[List.nodup_append]
   exact⟨nd,by simp,fun b hb c hc=>by
    have:c=a:=by simpa using hc
    subst this;exact fun z=>abs (by rw[←z];exact hb)⟩
  ·intro hb
   rcases Ur.mp hb with hb|hb
   ·exact pn hb
   ·have:p=a:=by simpa using hb
    exact ap this.symm
  ·have keep7:∀b,b≠p->(upd H7 p (.lst (bs.map V.ref++[.ref a]))) b=H7 b:=fun b hb=>q7_ hb
   have snoc:∀{bs':List Addr}{acc':OI}{Hx:Hp},Paired (fun b row=>Hx b=some (.lst (row.map V.int))) bs' acc'->Hx a=some (.lst (ns.map V.int))->Paired (fun b row=>Hx b=some (.lst (row.map V.int))) (bs'++[a]) (acc'++[ns]):=by
    intro bs' acc' Hx h ha
    induction h with
    |nil=>exact .cons ha .nil
    |cons z _ ih=>exact .cons z ih
   refine snoc (a8N l7.1 fun b hb row z=>?_) ?_
   ·rw[keep7 b (fun z=>pn (by rw[←z];exact hb))];exact z
   ·rw[keep7 a ap];exact h7
  ·rcases Ur.mp hb with hb|hb
   ·exact l7.2 b hb
   ·have:b=a:=by simpa using hb
    subst this;exact⟨a1,g7,ano⟩
 ·have ei:i=items.length:=by omega
  subst ei;rw[Vi]at c2;cases c2;rw[Yh]at t2;subst t2;refine .inl ⟨itd.stop _ H2 lH (Qy _),?_⟩;have evO:=Ev.out (relS (bs.map V.ref)) hk ev2 (fun j hj=>y2 j (by omega)) e5
  have evA:=ev1.trans ((ev1.rel.allocM (o:=.lst (bs.map V.ref)) hp).trans evO)
  have dead:∀b,H1 b=none->H b=none:=fun b hb=>by
   cases q:H b with
   |none=>rfl
   |some o=>exact absurd hb (ev1.live b (by rw[q];simp))
  refine k p bs G2 H2 evA (List.nodup_cons.mpr ⟨pn,nd⟩) hp2 l2.1 fun b hb=>?_
  rcases Qr.mp hb with rfl|hb
  ·refine⟨dead b hp,ev2.stay b (by rw[hpS];simp) no gp,fun z=>?_⟩
   rcases evO.sub b z with q|q
   ·exact no1 q
   ·rw[hpS]at q;cases q
  ·obtain⟨b1,b2,b3⟩:=l2.2 b hb
   refine⟨dead b b1,b2,fun z=>?_⟩
   refine ev1.rel.unowned b1 ?_
   obtain⟨i,w,m,z1,z2,z3⟩:=z;obtain⟨kk,w0,w2,f1,f2,f3,f4⟩:=a6n e5 z1;cases kk with
   |false=>
    have:w0=w:=by simpa [a1c]using f4
    exact⟨i,w0,m,f2,by rw[this];exact z2,z3⟩
   |true=>
    obtain⟨_,d0,hd,_⟩:=b1X f4 z2;exact⟨i,w0,d0,f2,hd,z3⟩
section
variable{N':List Str}{scope:Scope}{keep:List Bool}{more:Nat}{tg iter elt:Expr}{g:OZ}{ml mi:Mo (List D)}
theorem b3q{py spos:Pos}(ok:CompOk X N' scope keep more)(hc:X.calm=true)(hN:X.N.Nodup)(hy:X.N[r]? =some y)(hyl:X.env.scope.names.lookup y=some .local)
  (hsw:swapsWith (.ListComp elt [⟨tg,iter,[],0⟩] scope pos) (some (.Name y py)) spos.line X.env=pure true)
  (hi:EI X B tg iter mi)(hg:∀s H fp,EG (x1_ X N' scope s H fp) B X.N.length tg g)(ht:∀s H fp,a0r (x1_ X N' scope s H fp) [] (TTm X.K B v3_))(he:∀s H fp,EL (x1_ X N' scope s H fp) B elt ml)
  (hs:∀x,foldedSetIterable iter X.env x=pure x:=by intro _;rfl):NS X B r (.Assign [.Name y py] (.ListComp elt [⟨tg,iter,[],0⟩] scope pos) spos) (mkN r mi keep more g ml):=by
 intro pins s σ H D I h;obtain⟨G0,σ0,env0,H0,G,env,q,fl,env',q',ev,hn,n,e,k⟩:=h;obtain⟨⟨items,env1⟩,e1,e2⟩:=q2_ e;dsimp only at e2;split at e2
 case isFalse=>cases e2
 rename_i hlen;obtain⟨⟨rows,envF⟩,e3,e4⟩:=q2_ e2;obtain⟨envO,e5,e6⟩:=q2_ e4;split at e6
 case isFalse=>cases e6
 rename_i hn1;cases e6;have hn':=a5j hn1;refine b1W ok hc hN hy hyl hsw hi hg ht he hs pins s σ H D I (compR_imp ok.klen I.len ev.rel e1 hlen e3 e5 fun p bs G' H' evA nd hp hb hx=>?_)
 have ow:∀b,Owned (σ.set r (some (V.ref p))) env' b->Owned σ env' b:=fun b ⟨i,w,m,z1,z2,z3⟩=>⟨i,w,m,z1,z2,by
  rwa [a8Q (fun z=>by rw[←z,hn']at z1;cases z1;cases z2)]at z3⟩
 have dead:∀b,H b=none->H0 b=none:=fun b hb=>by
  cases q:H0 b with
  |none=>rfl
  |some o=>exact absurd hb (ev.live b (by rw[q];simp))
 have hr:r<σ.length:=by
  rw[←ev.rel.len];exact(Qh.mp hn).1
 have hp1:=hx p (Zg ..)
 refine k _ G' H' ((ev.trans evA).hideSet hn') evA.same hn' ⟨p,bs,by simp[hr],hp,nd,⟨hb,fun b hb=>?_⟩,dead p hp1.1,hp1.2.1,fun z=>hp1.2.2 (ow p z)⟩
 obtain⟨x1,x2,x3⟩:=hx b (Zx _ hb);exact⟨dead b x1,x2,fun z=>x3 (ow b z)⟩
end
section
variable{ma:Mo D}
def a4h(m:Mo D)(ml mh:Mo (Option Int)):Mo D:=fun env=>(m env).bind fun p=>(ml p.2).bind fun q=>(mh q.2).bind fun r=>match p.1 with
 |.tup ds=>some (.tup (g7_ ds q.1 r.1),r.2)
 |.lst ds=>some (.lst (g7_ ds q.1 r.1),r.2)
 |_=>none
theorem a8R{lo hi:Option Expr}{ml mh:Mo (Option Int)}(he:ED X B e ma)(hl:EO X B lo ml)(hh:EO X B hi mh):ED X B (.Subscript e (.Slice lo hi none p2) pos) (a4h ma ml mh):=by
 refine pe_imp (b1n (SlR.or b2c b7N) he hl hh) ?_
 rintro σ H Q ⟨G,env,d,env',rl,e,k⟩;obtain⟨⟨d1,env1⟩,e1,e2⟩:=q2_ e;obtain⟨⟨l,env2⟩,e3,e4⟩:=q2_ e2;obtain⟨⟨u,env3⟩,e5,e6⟩:=q2_ e4;dsimp only at e3 e5 e6;split at e6
 ·rename_i ds
  cases e6;refine .bind rl e1 fun v G1 H1 ev1 r1=>⟨G1,env1,l,env2,ev1.rel,e3,fun G2 H2 ev2=>⟨G2,env2,u,_,ev2.rel,e5,fun G3 H3 ev3=>?_⟩⟩
  have r3:=Rep.mono (ev2.same.trans ev3.same) _ r1
  have r30:=r3
  simp only[Rep]at r3;obtain⟨p,xs,rfl,q,t⟩:=r3;refine .inl ⟨p,xs,rfl,ev3.rel.sub.sqT q,fun hw=>?_,fun l' hp=>?_⟩
  ·rw[t.length]at hw
   exact k _ G3 H3 ((ev1.trans ev2).trans ev3) (by rw[b2e hw];exact r30)
  ·exact k _ _ _ (((ev1.trans ev2).trans ev3).trans (ev3.rel.alloc hp)) (a2C y8_ (z9_.mono (Le.upd (ev3.rel.gnone hp)) _ (t.cut l u)))
 ·rename_i ds
  cases e6;refine .bind rl e1 fun v G1 H1 ev1 r1=>⟨G1,env1,l,env2,ev1.rel,e3,fun G2 H2 ev2=>⟨G2,env2,u,_,ev2.rel,e5,fun G3 H3 ev3=>?_⟩⟩
  have r3:=Rep.mono (ev2.same.trans ev3.same) _ r1
  simp only[Rep]at r3;obtain⟨p,xs,rfl,q,t⟩:=r3;refine .inr ⟨p,xs,rfl,ev3.rel.sub.sqL q,fun l' hp=>?_⟩
  exact k _ _ _ (((ev1.trans ev2).trans ev3).trans (ev3.rel.alloc hp)) (a3O y8_ (z9_.mono (Le.upd (ev3.rel.gnone hp)) _ (t.cut l u)))
 ·cases e6
end
open PySem.W Builtin Builtin.ObjectAttr Builtin.Getset_descriptor PySem.Calls
theorem fl1:typeLookup (.type "function") "__getattribute__"=pure (some (.builtin "object.__getattribute__")):=by rfl
theorem fl5:getOf (some (.builtin "object.__class__"))=pure (some (.builtin "getset_descriptor.__get__")):=by rfl
section
variable{x:Addr}{g:Array GenState}{d:Drawn}{t:Nat}{os:OsState}
end
def isFn(K:Qz)(f:Addr):Bool:=match List.lookup f K with
 |some o=>o.cls==.type "function"
 |none=>false
def Nsd(K:Qz)(mg:OU)(x:Str):Prop:=∃f,PySem.W.nsIn K mainGlobals x=some (some (.ref f))/\mg x=some (.ref f)/\PySem.W.KitX K (.ref f) (.type "function") (fun _=>True)
section
variable{es:List Expr}{k:Nat}{as:Mo (List Ar)}
def c1g(X:Cx)(n:Nat)(l:List (Str×Fn)):Prop:=∀nm fn,l.lookup nm=some fn->∃k,Room k X.A/\Def X.prog X.w X.K X.mg X.base nm k n fn/\Nsd X.K X.mg nm
def c1h(X:Cx)(n:Nat)(l:List (Str×(List W->Option Str))):Prop:=∀nm g,l.lookup nm=some g->∃k,Room k X.A/\DefX X.prog X.w X.K X.mg X.base nm k n g/\Nsd X.K X.mg nm
end
theorem c1i:typeLookup (.type "list") (Str.ofString "keys")=pure none:=by rw[typeLookup_type,builtinLookup_eq_fast];kernel_rfl
theorem c1j{items:Array Value}{Q:Option Value->Shared->Prop}(hh:A.handled=none)(hl:PlainL s.heap a items)
  (hQ:∀h' tk,(∀b o,s.heap.get? b=some o->h'.get? b=some o)->Q none {s with heap:=h',toks:=tk}):wpAny (model prog w) A (getAttr? (.ref a) (Str.ofString "keys")) Q E s:=by
 obtain⟨o,k,hk,h1,h2,h3⟩:=hl;obtain⟨c,di,da,sl⟩:=o;simp only at h1 h2 h3;subst h1 h2 h3;have T:s.TypeIs (.ref a) "list":=⟨_,hk,rfl⟩;unfold getAttr?;refine Qq (wpAny_mkText ?_);have T1:Shared.TypeIs {s with toks:=s.toks+1} (.ref a) "list":=T
 unfold getAttrBy?;refine Qq (Xg ?_);unfold getAttrBy;refine Yn ?_
 refine Qq (Uf T1 ?_);rw[PySem.F.slot_list_getattribute.lookup,pure_bind];dsimp only;rw[Ql (by decide)]
 unfold getAttrByItsOwn;refine Qq ?_
 unfold hookBefore;rw[Ql (by decide)]
 refine Qk ?_
 refine Qq (Xg ?_);refine Yn ?_
 unfold callGetattribute;rw[Ql (by decide)]
 unfold boundAndCalled;rw[PySem.F.slot_list_getattribute.bind,pure_bind];refine Vu PySem.F.slot_list_getattribute T1 am_entry_list_getattribute (PySem.F.args_list_getattribute_2 _ _) (meets_getattribute_miss_list a items k sl _ _ c1i (by decide)) ⟨hk,hh,fun h' tk e ne=>?_⟩
 obtain⟨t,u,ht⟩:=ne.there;have Te:Shared.TypeIs {s with heap:=h',toks:=tk} (.ref e) "AttributeError":=⟨_,ht,rfl⟩
 show wpAny _ _ (getattributeRaised _ _ _ _ _ _ _) _ _ _;unfold getattributeRaised;refine Qq (wpAny_isInstance Te sub_AttributeError ?_);rw[Qn rfl];unfold hookBehind;rw[Ql (by decide),am_list_getattr_none,pure_bind]
 unfold hookOrError;dsimp only;unfold attributeErrorLeaves;dsimp only;rw[Qn (show(!false)=true from rfl)]
 refine Qq (wpAny_throw ?_);show wpAny _ _ _ _ _ _;refine Qq (wpAny_isInstance Te sub_AttributeError ?_);rw[Qn rfl];exact Qk (hQ h' tk ne.keeps)
theorem b3r:entryFor table "dict.update.loop"=some PySem.Builtin.«dict.update.loop»:=by kernel_rfl
theorem a6P:plainId "dict.update.loop"=true:=by decide+kernel
inductive PairsAt (K:Qz) (G:Hp):List V->List (List Int×V)->Prop
 |nil:PairsAt K G [] []
 |cons {q b:Addr}{k:List Int}{v:V}{xs:List V}{ps:List (List Int×V)}:SqU K G q [.ref b,v]->a5g K G b k->PairsAt K G xs ps->PairsAt K G (.ref q::xs) ((k,v)::ps)
theorem c1k{kvs:List (List Key×V)}{k:List Key}{r:Value}{Q:Unit->Shared->Prop}(hu:A.units+1<cLine)(I:Inv X pins σ H s)(e:H a=some (.dT (j9_ X.K) kvs))(eb:H b=some (.tup (k.map kV))∨j9_ X.K b k)(l:kvs.length<sizeLine)(rv:y1_ v r)
  (h:∀h' tk,Heap.SameBut a s.heap h'->Inv X pins σ (upd H a (.dT (j9_ X.K) (a1R kvs k v))) {s with heap:=h',toks:=tk}->Q () {s with heap:=h',toks:=tk}):wpAny (model X.prog X.w) A.in1 (dictSet a (.ref b) r) Q E s:=by
 obtain⟨z,hd,xs,rel,dd⟩:=a8K I e;have hz:xs.length≤sizeLine:=by rw[←Paired.length rel];exact z
 have hl:(a1R kvs k v).length≤sizeLine:=by have:=b1z kvs k v;omega
 refine wpAny_dictSet_heap (hsz:=hz) (tupleKind_room_in1 hu) (a8J (K:=X.K) I.hok I.kIn eb) dd fun h' dd' hs=>h _ _ hs ?_
 obtain⟨q,es,ep,hq,h2,h3,h4,_,h5⟩:=dd';refine b7Y I (by rw[e];exact True.intro) hs ⟨q,hq⟩ ⟨hl,hd,_,(rel.put k eb rv).keeps fun c ys ec=>?_,q,es,ep,hq,h2,h3,h4,h5⟩
 rw[q7_ (b6i ec e (fun z=>nomatch z))]
 exact ec
def a4i:List (List Key×V)->List (List Int×V)->List (List Key×V)
 |kvs,[]=>kvs
 |kvs,p::ps=>a4i (a1R kvs (w8_ p.1) p.2) ps
section
variable{R:Result->Shared->Prop}{l it d:Addr}
theorem c1l(hh:A.handled=none)(hu:A.units+1<cLine)(res:Value)(hd:G d=none)(hn:it≠d)(hl:SqL X.K G l xs):
  ∀(ys:List V) (ps:List (List Int×V)) (i:Nat) (z:Int) (s:Shared) (kvs:List (List Key×V)),xs.drop i=ys->PairsAt X.K G ys ps->Inv X pins σ (upd G d (.dT (j9_ X.K) kvs)) s->u9_ X pins (upd G d (.dT (j9_ X.K) kvs)) it->s.heap.IsListIter it l i->kvs.length≤i->
   (∀s',Inv X pins σ (upd G d (.dT (j9_ X.K) (a4i kvs ps))) s'->R (.ok (.ret res)) s')->
   codeAny (model X.prog X.w) A (.builtin "dict.update.loop" ⟨[.ref d,.ref it,rawInt z,res],[]⟩) R s:=by
 intro ys
 induction ys with
 |nil=>
  intro ps i z s kvs hdr pa I hf st hk hR;cases pa;obtain⟨its,rv,pl,hz⟩:=I.list ((Le.upd hd).sqL hl);refine codeAny_builtin b3r ?_
  rw[Around.under_plainId a6P _];show wpAny _ A.in1 (pyNext (.ref it)>>=_) _ _ s;have hlen:=rv.length;have hi:xs.length≤i:=by have:=Zc List.length hdr;simp at this;omega
  refine Qq (wpAny_pyNext_list_end (show A.in1.handled=none from hh) st pl.isList (by simp;omega) fun h' eb=>?_)
  refine Qk ?_
  exact hR _ (I.turned (t':=s.toks) (fun b o hb e=>eb b o hb e) hf.1 hf.2.1 hf.2.2.2.1 hf.2.2.2.2.1 hf.2.2.2.2.2)
 |cons y ys ih=>
  intro ps i z s kvs hdr pa I hf st hk hR;cases pa;rename_i q b k v ps hq hb pa;obtain⟨its,rv,pl,hz⟩:=I.list ((Le.upd hd).sqL hl);have hx:xs[i]? =some (.ref q):=by have:=Zc (·[0]?) hdr;simpa using this
  obtain⟨u,hu',ru⟩:=rv.get hx;cases ru;refine codeAny_builtin b3r ?_
  rw[Around.under_plainId a6P _];show wpAny _ A.in1 (pyNext (.ref it)>>=_) _ _ s;refine Qq (wpAny_pyNext_list_item st pl.isList (x:=.ref q) (by simpa using hu') fun h' st' sb=>?_)
  have I1:Inv X pins σ (upd G d (.dT (j9_ X.K) kvs)) {s with heap:=h'}:=I.turned (t':=s.toks) (fun b o hb e=>(sb.2 b hb).trans e) hf.1 hf.2.1 hf.2.2.2.1 hf.2.2.2.2.1 hf.2.2.2.2.2
  obtain⟨its2,rv2,p2,_⟩:=I1.tuple ((Le.upd hd).sqT hq);cases rv2 with
  |cons r1 rv2=>
  cases rv2 with
  |cons r2 rv2=>
  cases rv2;cases r1;rename_i r;obtain⟨o2,h1,h2,n2,h4⟩:=p2;dsimp only;refine Qq (Yn ?_);refine Qq (wpAny_tryCatch ?_);unfold PySem.Builtin.Dict.pairItems;refine Qq (Uf (T:="tuple") ⟨_,h1,h2⟩ ?_);rw[Qn (by decide)]
  refine Qq (Jj h1 h4 (Qk ?_));show wpAny _ A.in1 (holding [.ref b,r] (dictSet d (.ref b) r)) _ _ _;refine Yn ?_
  have hlen:i<xs.length:=by
   have:=Zc List.length hdr;simp only[Uj,Yy]at this
   omega
  refine c1k hu I1 y8_ (hb.mono (Le.upd hd)) (by omega) r2 fun h2 tk hs I2=>?_
  rw[a4C]at I2;refine Qk ⟨plainId_quiet a6P _,ih ps (i+1) (z+1) _ _ ?_ pa I2 ⟨by rw[q7_ hn];have:=hf.1;rw[q7_ hn]at this;exact this,hf.2⟩ (It1.at' (k:=false) (show It1 false h' it l (i+1)from st') fun o e=>(hs.2 it hn).trans e) ?_ hR⟩
  ·have:=Zc List.tail hdr
   simpa using this
  ·have:=b1z kvs (w8_ k) v
   omega
end
def b3s(K:Qz):List V->Hp->VK->Prop:=fun xs H Q=>∃l ys ps,xs=[.ref l]/\SqL K H l ys/\PairsAt K H ys ps/\∀p,H p=none->Q (.ref p) (upd H p (.dT (j9_ K) (a4i [] ps)))
theorem b3t(hc:X.calm=true)(hu:X.A.units+64<cLine):j8_ X (.type "dict") (b3s X.K):=by
 intro pins s σ H xs us Q I rv h;obtain⟨l,ys,ps,rfl,hl,pa,k⟩:=h;cases rv with
 |cons r1 rv=>
 cases rv;cases r1;have hh:X.A.handled=none:=I.ok.hd hc;refine callType_codes (Q₁:=fun obj s₁=>obj=.ref s.heap.objs.size/\s₁={s with heap:=s.heap.push {cls:=.type "dict",data:=.dict #[]}}) PySem.F.kt_called_dict (PySem.F.kt_typeCall_dict_1 _) PySem.F.entry_dict_init (kt_code_dict_new _ ⟨rfl,rfl⟩) fun obj s₁ h₁=>?_
 obtain⟨rfl,rfl⟩:=h₁;have hn:H s.heap.objs.size=none:=I.hok.fresh (Qy _);have I1:Inv X pins σ (upd H s.heap.objs.size (.dT (j9_ X.K) [])) {s with heap:=s.heap.push {cls:=.type "dict",data:=.dict #[]}}:=I.laid (a:=s.heap.objs.size) (o:=.dT (j9_ X.K) []) (t':=s.toks) (fun _ _ q=>Qx _ q) (Qy _) (c0Y s.heap I.big)
 have Td:Shared.TypeIs {s with heap:=s.heap.push {cls:=.type "dict",data:=.dict #[]}} (.ref s.heap.objs.size) "dict":=⟨_,Qg _ rfl,rfl⟩
 refine⟨Td,PySem.F.args_dict_init_2 _ _,?_⟩;show wpAny _ X.A.in1.in1 (PySem.Builtin.Dict.selfAndRest "__init__" _>>=_) _ _ _;refine Qq ?_
 unfold PySem.Builtin.Dict.selfAndRest;refine Qq (wpAny_notOrdered_dict Td ?_);refine Qq (Qk (Qk ?_));show wpAny _ X.A.in1.in1 (PySem.Builtin.Dict.updateFrom _ _ _ _ _) _ _ _;unfold PySem.Builtin.Dict.updateFrom;obtain⟨its,rv,pl,hz⟩:=I1.list ((Le.upd hn).sqL hl);refine Qq (Uf (T:="list") ?_ ?_)
 ·obtain⟨o,n,h1,h2,h3⟩:=pl
  exact⟨o,h1,h2⟩
 dsimp only;rw[Qn (by decide)]
 refine Qq (c1j (show X.A.in1.in1.handled=none from hh) pl fun h2 tk kp=>?_)
 rw[Qn (show(none:Option Value).isNone=true from rfl)]
 refine Qq (Ul ?_);have I2:Inv X pins σ (upd H s.heap.objs.size (.dT (j9_ X.K) [])) {s with heap:=h2,toks:=tk}:=I1.kept kp
 obtain⟨its2,rv2,pl2,hz2⟩:=I2.list ((Le.upd hn).sqL hl);refine Qq (Ji pl2.isList ?_);have I3:Inv X pins σ (upd H s.heap.objs.size (.dT (j9_ X.K) [])) {s with heap:=h2.push {cls:=.type "list_iterator",data:=.fields #[.ref l,.int 0 0]},toks:=tk}:=I2.kept (t':=tk) fun _ _ q=>Qx _ q
 have hne:h2.objs.size≠s.heap.objs.size:=by
  have h1:(s.heap.push {cls:=.type "dict",data:=.dict #[]}).get? s.heap.objs.size=some _:=Qg _ rfl
  exact Ue (Qp (kp _ _ h1))
 have f:u9_ X pins (upd H s.heap.objs.size (.dT (j9_ X.K) [])) h2.objs.size:=I2.fpOk (Qy _) (I2.hok.fresh (Qy _))
 have st:Heap.IsListIter (h2.push {cls:=.type "list_iterator",data:=.fields #[.ref l,.int 0 0]}) h2.objs.size l 0:=⟨_,Qg _ rfl,rfl,rfl⟩
 refine Qk ⟨plainId_quiet a6P _,c1l (A:=X.A.in1) (show X.A.in1.handled=none from hh) (by have:X.A.in1.units=X.A.units+1:=rfl;omega) .none hn hne hl ys ps 0 0 _ [] rfl pa I3 f st (Qy _) fun s' I'=>?_⟩
 exact⟨rfl,.ref s.heap.objs.size,_,I',rfl,k _ hn⟩
def pairs?:List D->Option (List (List Int×D))
 |[]=>some []
 |.tup [kd,vd]::r=>(a2s kd).bind fun k=>(pairs? r).map fun ps=>(k,vd)::ps
 |_=>none
def a1h:OI->List D->List (List Int×D)->OI×List D
 |ks,vs,[]=>(ks,vs)
 |ks,vs,p::ps=>a1h (a6F ks p.1) (a6G ks vs p.1 p.2) ps
def a5m:List D->Option D
 |[.lst ds]=>(pairs? ds).map fun ps=>.dct (a1h [] [] ps).1 (a1h [] [] ps).2
 |_=>none
theorem PairsAt.mono(l:Le G G'){ps:List (List Int×V)}(h:PairsAt K G xs ps):PairsAt K G' xs ps:=by
 induction h with
 |nil=>exact .nil
 |cons a b c ih=>exact .cons (l.sqU a) (b.mono l) ih
theorem c1m:∀{ds:List D}{xs:List V}{qs:List (List Int×D)},z9_ K G xs ds->pairs? ds=some qs->∃ps,PairsAt K G xs ps/\ps.map (·.1)=qs.map (·.1)/\z9_ K G (ps.map (·.2)) (qs.map (·.2)):=by
 intro ds
 induction ds with
 |nil=>
  intro xs qs r e;simp only[z9_]at r;cases e;subst r;exact⟨[],.nil,rfl,repL_nil⟩
 |cons d ds ih=>
  intro xs qs r e;simp only[z9_]at r;obtain⟨x,t,rfl,r1,r2⟩:=r;unfold pairs? at e;split at e
  ·rename_i z;cases z
  ·rename_i kd vd r' z
   cases z;obtain⟨k,e1,e2⟩:=q2_ e;obtain⟨qs',e3,e4⟩:=x3_ e2;cases e4;obtain⟨ps,p1,p2,p3⟩:=ih r2 e3;simp only[Rep]at r1;obtain⟨a,ys,rfl,q1,q2⟩:=r1;simp only[z9_]at q2;obtain⟨y1,t1,rfl,s1,y2,t2,rfl,s2,rfl⟩:=q2;obtain⟨b,rfl,kb⟩:=a8I s1 e1;exact⟨(k,y2)::ps,.cons q1 kb p1,by rw[Qu,Qu,p2],by rw[Qu,Qu];exact repL_cons s2 p3⟩
  ·cases e
theorem c1n:∀{ps:List (List Int×V)}{qs:List (List Int×D)}{kvs:List (List Key×V)}{ks:OI}{vs:List D},ps.map (·.1)=qs.map (·.1)->z9_ K G (ps.map (·.2)) (qs.map (·.2))->kvs.map (·.1)=ks.map w8_->z9_ K G (kvs.map (·.2)) vs->
  (a4i kvs ps).map (·.1)=(a1h ks vs qs).1.map w8_/\z9_ K G ((a4i kvs ps).map (·.2)) (a1h ks vs qs).2:=by
 intro ps
 induction ps with
 |nil=>
  intro qs kvs ks vs e1 r1 e2 r2;cases qs with
  |nil=>exact⟨e2,r2⟩
  |cons q qs=>cases e1
 |cons p ps ih=>
  intro qs kvs ks vs e1 r1 e2 r2;cases qs with
  |nil=>cases e1
  |cons q qs=>
   rw[Qu,Qu]at e1 r1;injection e1 with e1 e1'
   simp only[z9_]at r1;obtain⟨x,t,z,s1,s2⟩:=r1;cases z;obtain⟨h1,h2⟩:=c0X (K:=K) (G:=G) p.1 e2 r2 s1;simp only[a4i,a1h];rw[←e1];exact ih e1' s2 h1 h2
theorem c1o:a1q X B (b3s X.K) a5m:=by
 intro G σ env H xs ds c Q rl r e k;unfold a5m at e;split at e
 ·rename_i ds'
  obtain⟨x,rfl,q⟩:=a0C r;obtain⟨qs,e1,e2⟩:=x3_ e;subst e2;simp only[Rep]at q;obtain⟨a,ys,rfl,h1,h2⟩:=q;obtain⟨ps,p1,p2,p3⟩:=c1m h2 e1;refine⟨a,ys,ps,rfl,rl.sub.sqL h1,p1.mono rl.sub,fun p hp=>k _ _ _ (rl.alloc hp) ?_⟩
  obtain⟨f1,f2⟩:=c1n (kvs:=[]) (ks:=[]) (vs:=[]) p2 p3 rfl repL_nil;simp only[Rep];exact⟨p,_,rfl,y8_,f1,z9_.mono (Le.upd (rl.gnone hp)) _ f2⟩
 ·cases e
theorem c1p:bootBuiltins "dict"=some (.type "dict"):=by decide+kernel
end L2.Mir
namespace L2.Mir
open PySem PySem.Spec PyProof.Rows PySem.W
variable{α:Type}
structure DefT(P:Program)(w:World)(K:Frag)(mg:OU)(base:Heap)(x:Str)(k n:Nat)(fn:Fn)(ts:List Addr):Prop where
 ex:∃(f:Addr) (fd:FuncData) (ps:List Str),FnOk P w K mg base CX0 k f fd ps (SpT K ts n fn)/\ps.length=n/\mg x=some (.ref f)/\keepIn K (.ref f)=true/\a0M K fd ps []
section
variable{X:Cx}{B:OA}{pos p:Pos}{e:Expr}{es:List Expr}{as:Mo (List Ar)}{fn:Fn}{k n:Nat}{x:Str}{ts:List Addr}{f:Addr}{fd:FuncData}{ps:List Str}{t:TA}{E:XK}
theorem c1q(F:FnOk X.prog X.w X.K X.mg X.base CX0 k f fd ps (SpT X.K ts n fn))(hT:a5e ts X.H₀)(hr:Room k X.A)(hg:Gl X x)(hm:X.mg x=some (.ref f))(hk:keepIn X.K (.ref f)=true)(hb:a0M X.K fd ps [])(hx:a4F CX0 X E)
  (ha:PA X (e::es) t)(hdb:(x==("__debug__":Str))=false:=by decide)(he:starEach (e::es) X.env=(false,eval e X.env)::starEach es X.env:=by rfl)(hpl:(backTo pos (starEach es X.env)).any (·.1)=false:=by rfl):
  PE X (.Call (.Name x p) (e::es) [] pos) (a7B (SpF X.K n fn) [] E t):=by
 intro pins s σ H Q I h;refine Jc (a3K I hg hm ?_ hdb);refine PySem.W.callWith_K (h₀:=X.base) I.ok.mod.kin hk (thn (ha pos pins s σ H _ I h) fun us s1 ⟨vs,H1,I1,r,q⟩=>⟨I1.kIn,?_⟩) he hpl
 refine b1g F hr hb .nil hx I1 r ⟨fun P hP=>?_,q⟩
 obtain⟨ps0,e0⟩:=hT P hP;obtain⟨more,e1⟩:=I1.base.tbls P ps0 e0;exact⟨_,e1⟩
theorem b3u(D:DefT X.prog X.w X.K X.mg X.base x k n fn ts)(hT:a5e ts X.H₀)(hr:Room k X.A)(hg:Gl X x)(ha:EAr X B (e::es) as)(hdb:(x==("__debug__":Str))=false:=by decide)
  (he:starEach (e::es) X.env=(false,eval e X.env)::starEach es X.env:=by rfl)(hpl:(backTo pos (starEach es X.env)).any (·.1)=false:=by rfl):
  ED X B (.Call (.Name x p) (e::es) [] pos) (mCD n fn as):=by
 obtain⟨f,fd,ps,F,rfl,hm,hk,hb⟩:=D.ex;refine pe_imp (c1q F hT hr hg hm hk hb a4L ha hdb he hpl) ?_
 rintro σ H Q ⟨G,env,d,env',rl,e,k⟩;obtain⟨⟨r,env1⟩,e1,e2⟩:=q2_ e;cases r with
 |d d'=>cases e2;exact a8b rl e1 k
 |l ds=>cases e2
end
theorem x7_{N P:List Str}{sc:Scope}(a:sc.kind=.function:=by rfl)(b:sc.isCoroutine=false:=by rfl)(c:sc.isGenerator=false:=by rfl)(d:N.Nodup:=by decide+kernel)(e:N.take P.length=P:=by rfl)(f:∀x∈P,sc.names.lookup x=some .local∨sc.names.lookup x=some .cell:=by decide+kernel)(g:∀y∈sc.names,y.2≠.free:=by decide+kernel):FnScope N P sc:=⟨a,b,c,d,e,f,g⟩
theorem us1{M:List α->Prop}(h:∀a,M [a]):∀us:List α,us.length=1->M us
 |[a],_=>h a
theorem us2{M:List α->Prop}(h:∀a b,M [a,b]):∀us:List α,us.length=2->M us
 |[a,b],_=>h a b
theorem us3{M:List α->Prop}(h:∀a b c,M [a,b,c]):∀us:List α,us.length=3->M us
 |[a,b,c],_=>h a b c
end L2.Mir
namespace L2.Mir
open PySem L2
variable{M m:Mo D}{N i j k n:Nat}{a b d:D}{as:Mo (List Ar)}{av:List Ar}{base e e1 e2 env:Env'}{ds xs:List D}{keep:List Bool}{mi ms:Mo (List D)}{r:Option (Fl×Env')}{u:Mo Bool}{v w w2:W}{ws':List W}{α:Type}
abbrev rgD(n:Nat):List D:=(List.range n).map fun(i:Nat)=>D.int (i:Int)
theorem c1r(n:Nat):a0i 0 n=rgD n:=by
 unfold a0i rgD;exact Zw fun i _=>by simp
theorem a3v{j:Int}(hM:M e=some (.int j,e1))(hj:j=(n:Int))(hn:n≤10000):j1_ (z1_ M z3_) e=some (rgD n,e1):=by
 subst hj;have:=a6u (ms:=z1_ M z3_) (env:=e) (e1:=e1) (j:=(n:Int)) (by unfold z1_ z3_;rw[hM];rfl) (by omega) (by omega)
 rw[this,Yd,c1r]
theorem c1s(h:base.length=k):(base++[w]).set k v=base++[v]:=by
 subst h;simp
theorem c1t{v2:W}(h:base.length=k):((base++[w,w2]).set k v).set (k+1) v2=base++[v,v2]:=by
 subst h;rw[Um _ _ (Qy _),Xr,Um _ _ (by omega)]
 simp
theorem b3v{α:Type}{t:Mo Bool}{m:Mo D}{base:Env'}{q f:α->D}{p:α->Bool}{k:Nat}(hk:base.length=k):∀{l:List α},(∀a∈l,t (base++[.dat (q a)])=some (p a,base++[.dat (q a)])/\(p a=true->m (base++[.dat (q a)])=some (f a,base++[.dat (q a)])))->∀w,∃w',g6_ (gN k) t m (l.map q) (base++[w])=some ((l.filter p).map f,base++[w'])
 |[],_,w=>⟨w,rfl⟩
 |a::l,h,w=>by
  obtain⟨h1,h2⟩:=h a (by simp)
  obtain⟨w',e⟩:=b3v hk (l:=l) (fun x hx=>h x (by simp[hx])) (.dat (q a))
  refine⟨w',?_⟩;rw[Qu];unfold g6_ gN;rw[Qj,c1s hk,h1,Qj];cases hp:p a with
  |false=>simp only[Zq,Yj];rw[Jp (by simp[hp])];exact e
  |true=>
   simp only[Zy];rw[h2 hp,Qj,Jb hp,Qu];show(g6_ (gN k) t m (l.map q) (base++[.dat (q a)])).map _=_;rw[e];rfl
theorem a8S{t:Mo Bool}{l:List α}{q f:α->D}{p:α->Bool}(hi:mi env=some (l.map q,env))(hl:l.length≤100000)(hb:k5_ keep 0 env=base)(hk:base.length=k)
  (h:∀a∈l,t (base++[.dat (q a)])=some (p a,base++[.dat (q a)])/\(p a=true->m (base++[.dat (q a)])=some (f a,base++[.dat (q a)])))(ho:∀w,j2_ keep env (base++[w])=some env):v1_ mi keep 1 (gN k) t m env=some ((l.filter p).map f,env):=by
 obtain⟨w',e⟩:=b3v hk h .nil;refine a2N hi (by simpa using hl) (e2:=base++[w']) ?_ (ho w')
 have:k5_ keep 1 env=base++[.nil]:=by rw[←hb];unfold k5_;simp
 rw[this];exact e
theorem a1L{l:List α}{q f:α->D}(hi:mi env=some (l.map q,env))(hl:l.length≤100000)(hb:k5_ keep 0 env=base)(hk:base.length=k)
  (h:∀a∈l,m (base++[.dat (q a)])=some (f a,base++[.dat (q a)]))(ho:∀w,j2_ keep env (base++[w])=some env):v1_ mi keep 1 (gN k) v3_ m env=some (l.map f,env):=by
 have:=a8S (p:=fun _=>true) (t:=v3_) hi hl hb hk (fun a ha=>⟨rfl,fun _=>h a ha⟩) ho
 rw[this,List.filter_eq_self.mpr (fun _ _=>rfl)]
theorem b3w{α:Type}{t:Mo Bool}{m:Mo D}{base:Env'}{q q2 f:α->D}{p:α->Bool}{k:Nat}(hk:base.length=k):∀{l:List α},(∀a∈l,t (base++[.dat (q a),.dat (q2 a)])=some (p a,base++[.dat (q a),.dat (q2 a)])/\(p a=true->m (base++[.dat (q a),.dat (q2 a)])=some (f a,base++[.dat (q a),.dat (q2 a)])))->∀w w2,∃w' w2',g6_ (gT 2 (gCn (gN k) (gCn (gN (k+1)) gNl))) t m (l.map fun a=>.tup [q a,q2 a]) (base++[w,w2])=some ((l.filter p).map f,base++[w',w2'])
 |[],_,w,w2=>⟨w,w2,rfl⟩
 |a::l,h,w,w2=>by
  obtain⟨h1,h2⟩:=h a (by simp)
  obtain⟨w',w2',e⟩:=b3w hk (l:=l) (fun x hx=>h x (by simp[hx])) (.dat (q a)) (.dat (q2 a))
  refine⟨w',w2',?_⟩;rw[Qu];unfold g6_;have hg:gT 2 (gCn (gN k) (gCn (gN (k+1)) gNl)) (.tup [q a,q2 a]) (base++[w,w2])=some (base++[.dat (q a),.dat (q2 a)]):=by
   show some (((base++[w,w2]).set k _).set (k+1) _)=_;rw[c1t hk]
  rw[hg,Qj,h1,Qj];cases hp:p a with
  |false=>simp only[Zq,Yj];rw[Jp (by simp[hp])];exact e
  |true=>
   simp only[Zy];rw[h2 hp,Qj,Jb hp,Qu];show(g6_ _ t m (l.map _) (base++[.dat (q a),.dat (q2 a)])).map _=_;rw[e];rfl
theorem c1u{t:Mo Bool}{l:List α}{q q2 f:α->D}{p:α->Bool}(hi:mi env=some (l.map (fun a=>.tup [q a,q2 a]),env))(hl:l.length≤100000)(hb:k5_ keep 0 env=base)(hk:base.length=k)
  (h:∀a∈l,t (base++[.dat (q a),.dat (q2 a)])=some (p a,base++[.dat (q a),.dat (q2 a)])/\(p a=true->m (base++[.dat (q a),.dat (q2 a)])=some (f a,base++[.dat (q a),.dat (q2 a)])))(ho:∀w w2,j2_ keep env (base++[w,w2])=some env):
  v1_ mi keep 2 (gT 2 (gCn (gN k) (gCn (gN (k+1)) gNl))) t m env=some ((l.filter p).map f,env):=by
 obtain⟨w',w2',e⟩:=b3w hk h .nil .nil;refine a2N hi (by simpa using hl) (e2:=base++[w',w2']) ?_ (ho w' w2')
 have:k5_ keep 2 env=base++[.nil,.nil]:=by rw[←hb];unfold k5_;simp
 rw[this];exact e
theorem a5n{l:List α}{q q2 f:α->D}(hi:mi env=some (l.map (fun a=>.tup [q a,q2 a]),env))(hl:l.length≤100000)(hb:k5_ keep 0 env=base)(hk:base.length=k)
  (h:∀a∈l,m (base++[.dat (q a),.dat (q2 a)])=some (f a,base++[.dat (q a),.dat (q2 a)]))(ho:∀w w2,j2_ keep env (base++[w,w2])=some env):v1_ mi keep 2 (gT 2 (gCn (gN k) (gCn (gN (k+1)) gNl))) v3_ m env=some (l.map f,env):=by
 have:=c1u (p:=fun _=>true) (t:=v3_) hi hl hb hk (fun a ha=>⟨rfl,fun _=>h a ha⟩) ho
 rw[this,List.filter_eq_self.mpr (fun _ _=>rfl)]
theorem b3x{g:OZ}{b:Mo Fl}:∀{ds:List D}{P:Nat->Env'->Prop}{env:Env'},(∀i d e,ds[i]? =some d->P i e->∃e1 e2,g d e=some e1/\b e1=some (.nx,e2)/\P (i+1) e2)->P 0 env->∃env',loop g b ds env=some (.nx,env')/\P ds.length env'
 |[],P,env,_,p=>⟨env,rfl,p⟩
 |d::ds,P,env,h,p=>by
  obtain⟨e1,e2,h1,h2,h3⟩:=h 0 d env rfl p;obtain⟨e3,h4,h5⟩:=b3x (ds:=ds) (P:=fun i e=>P (i+1) e) (fun i x e hi q=>h (i+1) x e (by simpa using hi) q) h3
  refine⟨e3,?_,h5⟩;unfold loop;rw[h1];simp only[Qj];rw[h2];exact h4
theorem a8T{g:OZ}{b:Mo Fl}(P:Nat->Env'->Prop)(h:∀i<n,∀e,P i e->∃e1 e2,g (.int (i:Int)) e=some e1/\b e1=some (.nx,e2)/\P (i+1) e2)(p:P 0 env):∃env',loop g b (rgD n) env=some (.nx,env')/\P n env':=by
 obtain⟨e',h1,h2⟩:=b3x (ds:=rgD n) (g:=g) (b:=b) (P:=P) (env:=env) (fun i d e hi q=>by
  unfold rgD at hi;rw[Qa]at hi
  by_cases hl:i<n
  ·rw[Ys hl]at hi
   cases hi;exact h i hl e q
  ·rw[List.getElem?_eq_none (by simpa using hl)]at hi;cases hi) p
 refine⟨e',h1,?_⟩;have:(rgD n).length=n:=by simp[rgD]
 rw[this]at h2;exact h2
theorem a4j:g7_ xs none (some (i:Int))=xs.take i:=by
 unfold g7_;rw[HT.sIx_nat,HT.sIx_none];simp only[List.drop_zero,Nat.sub_zero]
 by_cases h:i≤xs.length
 ·rw[Xo h]
 ·rw[Nat.min_eq_right (by omega),Jh (Qy _),Jh (by omega)]
theorem a5o:g7_ xs (some (i:Int)) none=xs.drop i:=by
 unfold g7_;rw[HT.sIx_nat,HT.sIx_none]
 by_cases h:i≤xs.length
 ·rw[Xo h,Jh (by simp)]
 ·rw[Nat.min_eq_right (by omega),List.drop_eq_nil_of_le (Qy _),List.drop_eq_nil_of_le (by omega:xs.length≤i)];simp
theorem a2A{ml mh:Mo (Option Int)}{lo hi:Option Int}(h:m e=some (.tup xs,e))(h1:ml e=some (lo,e))(h2:mh e=some (hi,e)):mSl m ml mh e=some (.tup (g7_ xs lo hi),e):=by
 unfold mSl;rw[h,Qj,h1,Qj,h2];rfl
theorem a2u(l:List Int):ints? (l.map D.int)=some l:=by
 induction l with
 |nil=>rfl
 |cons a l ih=>show(ints? (l.map D.int)).map _=_;rw[ih];rfl
theorem y6_{m n:Mo Fl}(h:m e=some (.nx,e1))(h2:n e1=r):q1_ m n e=r:=by unfold q1_;rw[h];exact h2
theorem a5p{t:Mo Bool}{m n:Mo Fl}(h:t e=some (true,e1))(h2:m e1=r):y4_ t m n e=r:=by unfold y4_;rw[h];exact h2
theorem a0v{t:Mo Bool}{m n:Mo Fl}(h:t e=some (false,e1))(h2:n e1=r):y4_ t m n e=r:=by unfold y4_;rw[h];exact h2
theorem a8U{env':Env'}{w':W}{ds':List D}(h0:env[i]? =some w')(h00:w'.mutL=some ds')(h:m env=some (d,env'))(h1:env'[i]? =some w)(h2:w.mutL=some ds)(hl:ds.length<100000):a0q i m env=some (.nx,env'.set i (w.put (ds++[d]))):=by
 unfold a0q;rw[h0];simp only[Qj,h00,h,h1,h2];rw[Qn hl]
theorem b3y{t:Mo Bool}(h:t e=some (true,e1)):j0_ t u e=some (true,e1):=by unfold j0_;rw[h];rfl
theorem a5q{t:Mo Bool}{r:Option (Bool×Env')}(h:t e=some (false,e1))(h2:u e1=r):j0_ t u e=r:=by unfold j0_;rw[h];exact h2
theorem a8V{f:Fn}{r:D}(h:as env=some (av,e1))(hn:av.length=n)(hs:slots av=[])(hf:f (av.map (a0d (.l [])))=some (.d r,ws')):mCD n f as env=some (r,e1):=a1f (a0S h hn hs hf)
theorem a5r{names:List Str}{mb:Mo D}{xb:Mx}{fr:Option Str->Option D}{lw:Env'}{n:Str}(hw:a2R keep env=lw)(hx:xb lw=some n)(hn:names.contains n=true)(hf:fr (some n)=some d):a0u names keep mb xb fr env=some (d,env):=by
 unfold a0u outcome;rw[hw,hx];simp only[hn,Zy,Qj];rw[hf];rfl
theorem c1v{C:Nat}(hC:1≤C)(hC2:C≤900){body last:Mo Fl}{ns:List Int}(hb:∀k:Nat,k<1000->∀ws:List W,ws.length=N->∃ws':List W,ws'.length=N+1/\body (.dat (.lst (ns.map D.int))::.dat (.int (k:Int))::ws)=some (.nx,.dat (.lst (ns.map D.int))::ws'))
  (hl:∀ws:List W,ws.length=N+1->∃e,last (.dat (.lst (ns.map D.int))::ws)=some (.ret (.bl true),e)):
  ∃ws',fnM (N+2) (q1_ (u2_ (j1_ (z1_ (mCB a3V (z1_ (mC (.int 1)) (z1_ (mCB a3q (z1_ (mCB v8_ (z1_ (z0_ 0) z3_)) (z1_ (mC (.int (C:Int))) z3_))) z3_))) z3_)) (gN 1) body) last) [.dat (.lst (ns.map D.int))]=some (.d (.bl true),ws'):=by
 obtain⟨K,hK,hr⟩:∃K:Nat,K≤C/\(j1_ (z1_ (mCB a3V (z1_ (mC (.int 1)) (z1_ (mCB a3q (z1_ (mCB v8_ (z1_ (z0_ 0) z3_)) (z1_ (mC (.int (C:Int))) z3_))) z3_))) z3_)) (.dat (.lst (ns.map D.int))::List.replicate (N+1) .nil)=some (rgD K,.dat (.lst (ns.map D.int))::List.replicate (N+1) .nil):=by
  let q:Int:=if(C:Int)<(ns.length:Int)then C else(ns.length:Int)
  let p:Int:=if q>1 then q else 1
  have hq:q≤C:=by simp only[q];split<;>omega
  have hp:1≤p/\p≤C:=by simp only[p];split<;>omega
  refine⟨p.toNat,by omega,a3v (j:=p) (k2_ (q3_ rfl (q3_ (k2_ (q3_ (k2_ (q3_ rfl rfl) (show v8_ [.lst (ns.map .int)]=some (.int (ns.length:Int))from ?_)) (q3_ rfl rfl)) (show a3q [.int (ns.length:Int),.int C]=some (.int q)from rfl)) rfl)) (show a3V [.int 1,.int q]=some (.int p)from rfl)) (by omega) (by omega)⟩
  show some (D.int ((ns.map D.int).length:Nat))=_;rw[Qv]
 obtain⟨e',h1,ws,hws,rfl⟩:=a8T (g:=gN 1) (b:=body) (n:=K) (fun _ e=>∃ws:List W,ws.length=N+1/\e=.dat (.lst (ns.map D.int))::ws) (env:=.dat (.lst (ns.map D.int))::List.replicate (N+1) .nil)
  (fun i hi e ⟨ws,hw,he⟩=>by
   subst he
   match ws,hw with
   |w::ws,hw=>
    obtain⟨ws',h1,h2⟩:=hb i (by omega) ws (by simpa using hw)
    exact⟨_,_,rfl,h2,ws',h1,rfl⟩) ⟨_,by simp,rfl⟩
 obtain⟨e2,h2⟩:=hl ws hws;refine⟨_,w0_ (d:=.bl true) (env:=e2) ?_⟩;show q1_ _ _ (.dat (.lst (ns.map D.int))::List.replicate (N+1) .nil)=_;exact y6_ ((a1F hr).trans h1) h2
theorem a2v{g:List W->Option Str}{r:Option Str}(h:as env=some (av,e1))(hn:av.length=n)(hs:slots av=[])(hg:g (av.map (a0d (.l [])))=r):a0f n g as env=r:=by
 unfold a0f;rw[h,Qj];simp only[hn,Zy,hs];exact hg
theorem b3z{α:Type}{g:OZ}{t:Mo Bool}{a:Mo (List D)}{q:α->D}{p:α->Bool}{z:α->List D}{P:Env'->Prop}:∀{l:List α},(∀x∈l,∀e,P e->∃e1 e2,g (q x) e=some e1/\t e1=some (p x,e2)/\(p x=false->P e2)/\(p x=true->∃e3,a e2=some (z x,e3)/\P e3))->
  ∀e,P e->∃e',a0I g t a (l.map q) e=some ((l.filter p).flatMap z,e')/\P e'
 |[],_,e,p=>⟨e,rfl,p⟩
 |x::l,h,e,pe=>by
  obtain⟨e1,e2,h1,h2,p2,h3⟩:=h x (Zg ..) e pe;have ih:=b3z (l:=l) (fun y hy=>h y (Zx _ hy))
  show∃e',((g (q x) e).bind fun e1=>(t e1).bind fun p=>if p.1 then(a p.2).bind fun q'=>(a0I g t a (l.map q) q'.2).map fun r=>(q'.1++r.1,r.2)else a0I g t a (l.map q) p.2)=some (((x::l).filter p).flatMap z,e')/\P e'
  rw[h1,Qj,h2,Qj];cases hp:p x with
  |false=>
   obtain⟨e',h4,p4⟩:=ih e2 (p2 hp);refine⟨e',?_,p4⟩;rw[Ql (by simp),Jp (by simp[hp])]
   exact h4
  |true=>
   obtain⟨e3,h5,p5⟩:=h3 hp;obtain⟨e',h4,p4⟩:=ih e3 p5;refine⟨e',?_,p4⟩;rw[Qn rfl,h5,Qj,h4,Jb hp,Jy];rfl
theorem b3A{α:Type}{g:OZ}{a:Mo (List D)}{q:α->D}{z:α->List D}{P:Env'->Prop}:∀{l:List α},(∀x∈l,∀e,P e->∃e1 e2,g (q x) e=some e1/\a e1=some (z x,e2)/\P e2)->
  ∀e,P e->∃e',a0I g v3_ a (l.map q) e=some (l.flatMap z,e')/\P e'
 |[],_,e,p=>⟨e,rfl,p⟩
 |x::l,h,e,p=>by
  obtain⟨e1,e2,h1,h2,p2⟩:=h x (Zg ..) e p;obtain⟨e',h3,p3⟩:=b3A (l:=l) (fun y hy=>h y (Zx _ hy)) e2 p2
  refine⟨e',?_,p3⟩;show((g (q x) e).bind fun e1=>(v3_ e1).bind fun p=>if p.1 then(a p.2).bind fun q'=>(a0I g v3_ a (l.map q) q'.2).map fun r=>(q'.1++r.1,r.2)else a0I g v3_ a (l.map q) p.2)=_
  rw[h1];show((a e1).bind fun q'=>(a0I g v3_ a (l.map q) q'.2).map fun r=>(q'.1++r.1,r.2))=_
  rw[h2];show(a0I g v3_ a (l.map q) e2).map (fun r=>(z x++r.1,r.2))=_
  rw[h3,Jy];rfl
theorem c1w{α:Type}(z:α->List Int):∀l:List α,(l.flatMap z).sum=(l.map fun x=>(z x).sum).sum
 |[]=>rfl
 |x::l=>by rw[Jy,List.sum_append,c1w z l,Qu,Vs]
theorem a8W(l:List Int):g5_ [.lst (l.map D.int)]=some (.int l.sum):=by
 show(ints? _).map _=_;rw[a2u];rfl
theorem a8X(l:List Int):g5_ [.tup (l.map D.int)]=some (.int l.sum):=by
 show(ints? _).map _=_;rw[a2u];rfl
theorem c1x{more:Nat}{g:OZ}{t:Mo Bool}{a:Mo (List D)}{e3:Env'}{r:List D}(h:mi env=some (ds,e1))(hc:a0I g t a ds (k5_ keep more e1)=some (r,e2))(hl:r.length≤100000)(ho:j2_ keep e1 e2=some e3):
  a3t mi keep more g t a env=some (r,e3):=by
 unfold a3t;rw[h,Qj,hc,Qj];simp only[hl,Zy];rw[ho];rfl
theorem b3B{α β:Type}(f:α->β):∀l:List α,(l.flatMap fun x=>[f x])=l.map f
 |[]=>rfl
 |x::l=>by rw[Jy,b3B f l];rfl
theorem c1y(h:base.length=k):(base++[w,w2]).set k v=base++[v,w2]:=by
 subst h;rw[Um _ _ (Qy _),Xr];rfl
theorem c1z(h:base.length=k):(base++[w,w2]).set (k+1) v=base++[w,v]:=by
 subst h;rw[Um _ _ (by omega)]
 have:base.length+1-base.length=1:=by omega
 rw[this];rfl
theorem c1A(h:m e=some (d,e1)):a2r m e=some ([d],e1):=by unfold a2r;rw[h];rfl
theorem c1B{β:Type}{mi2:Mo (List D)}{t:Mo Bool}{l:List α}{l2:α->List β}{q:α->D}{q2:α->β->D}{p:α->β->Bool}{f:α->β->D}(hi:mi env=some (l.map q,env))(hb:k5_ keep 0 env=base)(hk:base.length=k)
  (h2:∀a∈l,∀w,mi2 (base++[.dat (q a),w])=some ((l2 a).map (q2 a),base++[.dat (q a),w]))
  (h:∀a∈l,∀b∈l2 a,t (base++[.dat (q a),.dat (q2 a b)])=some (p a b,base++[.dat (q a),.dat (q2 a b)])/\(p a b=true->m (base++[.dat (q a),.dat (q2 a b)])=some (f a b,base++[.dat (q a),.dat (q2 a b)])))
  (hl:(l.flatMap fun a=>((l2 a).filter (p a)).map (f a)).length≤100000)(ho:∀w w2,j2_ keep env (base++[w,w2])=some env):
  a3t mi keep 2 (gN k) v3_ (aIn mi2 (gN (k+1)) t (a2r m)) env=some (l.flatMap fun a=>((l2 a).filter (p a)).map (f a),env):=by
 have hx:k5_ keep 2 env=base++[.nil,.nil]:=by rw[←hb];unfold k5_;simp
 obtain⟨e',h1,w,w2,rfl⟩:=b3A (g:=gN k) (a:=aIn mi2 (gN (k+1)) t (a2r m)) (q:=q) (z:=fun a=>((l2 a).filter (p a)).map (f a)) (l:=l) (P:=fun e=>∃w w2,e=base++[w,w2])
  (fun a ha e ⟨w,w2,he⟩=>by
   subst he;obtain⟨e2,h4,w3,rfl⟩:=b3z (g:=gN (k+1)) (t:=t) (a:=a2r m) (q:=q2 a) (p:=p a) (z:=fun b=>[f a b]) (l:=l2 a) (P:=fun e=>∃w,e=base++[.dat (q a),w])
    (fun b hb e ⟨w,he⟩=>by
     subst he;obtain⟨h5,h6⟩:=h a ha b hb;exact⟨_,_,by unfold gN;rw[c1z hk],h5,fun _=>⟨_,rfl⟩,fun hp=>⟨_,c1A (h6 hp),_,rfl⟩⟩) (base++[.dat (q a),w2]) ⟨_,rfl⟩
   refine⟨base++[.dat (q a),w2],base++[.dat (q a),w3],by unfold gN;rw[c1y hk],?_,_,_,rfl⟩
   ·unfold aIn
    rw[h2 a ha,Qj];dsimp only;rw[h4,b3B]) (base++[.nil,.nil]) ⟨_,_,rfl⟩
 exact c1x hi (by rw[hx];exact h1) hl (ho _ _)
theorem c1C(h:m env=some (.tup [a,b],e1)):a1B m (gT 2 (gCn (gN i) (gCn (gN j) gNl))) env=some (.nx,(e1.set i (.dat a)).set j (.dat b)):=by
 unfold a1B;rw[h];rfl
theorem a2W(h:ms env=some (ds,e1))(hl:ds.length≤1000):v6_ ms env=some (.tup ds,e1):=by unfold v6_;rw[h,Qj];simp only[hl,Zy]
theorem c1D(l:List α)(p q:α->D):a1d (l.map p) (l.map q)=l.map fun a=>.tup [p a,q a]:=by
 unfold a1d
 induction l with
 |nil=>rfl
 |cons a l ih=>rw[Qu,Qu,Xu,Qu,ih,Qu]
theorem b3C{l:List α}{p q:α->D}(h:ms e=some ([a,b],e1))(ha:a.items=some (l.map p))(hb:b.items=some (l.map q)):a0Q ms e=some (l.map fun a=>.tup [p a,q a],e1):=by
 unfold a0Q;rw[h];show a.items.bind _=_;rw[ha];show b.items.map _=_;rw[hb,Xa,c1D]
theorem a6Q{n:Mo D}{r:Option (D×Env')}(h:m e=some (.bl true,e1))(h2:n e1=r):a0h m n e=r:=by unfold a0h;rw[h];exact h2
theorem a8Y{n:Mo D}(h:m e=some (.bl false,e1)):a0h m n e=some (.bl false,e1):=by unfold a0h;rw[h];rfl
theorem c1E(h:m env=some (.tup [a,b],e1))(he:(e1.set i (.dat a)).set j (.dat b)=e2):a1B m (gT 2 (gCn (gN i) (gCn (gN j) gNl))) env=some (.nx,e2):=by
 rw[c1C h,he]
theorem g2_(h:m env=some (d,e1))(he:e1.set i (.dat d)=e2):v2_ i m env=some (.nx,e2):=by rw[a1w h,he]
theorem a4k{m:Mo (List D)}{d:List D}(h:m env=some (d,e1))(he:e1.set i (.own d)=e2):j5_ i m env=some (.nx,e2):=by rw[b2s h,he]
theorem c1F(h:ms env=some ([a,b],e1))(he:(e1.set i (.dat a)).set j (.dat b)=e2):a4R i j ms env=some (.nx,e2):=by
 unfold a4R;rw[h,←he];rfl
theorem a3w{mb:Mo Fl}{ws env:List W}(h:mb (ws++List.replicate (N-ws.length) .nil)=some (.ret d,env))(he:a1b ws env=ws'):fnM N mb ws=some (.d d,ws'):=by rw[w0_ h,he]
abbrev up(a n:Nat):List Nat:=(List.range (n-a)).map (a+ ·)
abbrev qN:Nat->D:=fun i=>.int (i:Int)
theorem a8Z{a:Nat}(h:i∈up a n):i<n/\a≤i:=by
 obtain⟨k,hk,rfl⟩:=Zj.mp h;have:=Zl.mp hk
 constructor<;>omega
theorem a9a{N:Mo D}{a:Nat}{i j:Int}(hM:M e=some (.int i,e))(hN:N e=some (.int j,e))(hi:i=(a:Int))(hj:j=(n:Int))(hn:n≤1000)(ha:a≤1000):a1s (z1_ M (z1_ N z3_)) e=some ((up a n).map qN,e):=by
 subst hi hj;unfold a1s;rw[q3_ hM (q3_ hN rfl),Qj];show(if _ then some (a0i a ((n:Int)-a).toNat,_)else none)=_
 rw[Qn (by omega)]
 have:((n:Int)-a).toNat=n-a:=by omega
 rw[this];unfold a0i up;rw[Qe];refine Zc (fun l=>some (l,e)) (Zw fun k _=>?_)
 show D.int _=D.int _
 congr 1
theorem a0w{ys:List D}(h:xs.length+ys.length≤10000):v7_ (.tup xs) (.tup ys)=some (.tup (xs++ys)):=by
 show(if xs.length+ys.length≤10000 then _ else none)=_
 rw[Qn h]
theorem a4l{a:Nat}:i∈up a n↔a≤i/\i<n:=by
 constructor
 ·intro h;have:=a8Z h;exact⟨this.2,this.1⟩
 ·rintro⟨h1,h2⟩
  exact Zj.mpr ⟨i-a,Zl.mpr (by omega),by omega⟩
end L2.Mir
namespace L2.Mir
open PySem PySem.W
variable{K:Frag}{cd:Addr}{pm:Value}{x:Str}
structure DfAt(K:Frag)(x:Str)(st:Stmt)(f:Addr)(pm:Value)(cd:Addr):Prop where
 a:nsIn K mainGlobals x=some (some (.ref f))
 l:K.lookup f=some ⟨.type "function",none,.func (fnOf x x (a3h st) (a1n st) (y2_ st) .none .none .none pm none (.ref cd) .none),⟨[]⟩⟩
 c:codeIn K (.ref cd) x=true
 k:keepIn K (.ref f)=true
theorem DfAt.f{st:Stmt}{f:Addr}(A:DfAt K x st f pm cd):Fun K x x st f (fnOf x x (a3h st) (a1n st) (y2_ st) .none .none .none pm none (.ref cd) .none):=b7V A.l A.c A.k
theorem DfAt.g{st:Stmt}{f:Addr}{h:Heap}{mg:OU}(A:DfAt K x st f pm cd)(X:K.In h)(G:h.Ns mainGlobals mg):mg x=some (.ref f):=mg_of X G A.a
end L2.Mir
namespace K63
open PySem L2 L2.Mir
variable{N c i j k m n r:Nat}{Pt:Addr}{R rows:OI}{a h:OO}{a' few v z:Int}{b:Bool}{base e e1 e2 env:Env'}{cd:Value}{d:D}{ds es xs:List D}{fd:FuncData}{keep:List Bool}{l p:List Int}{ma mb:Mo D}{mh ml:Mo (Option Int)}{mi:Mo (List D)}{o:Option D}{q:Ro}{s:Mo Fl}{w0 w1 w2 w3 w4 w5 w6 w7 w8:W}{ws ws':List W}{x y:Mx}{α:Type}
def top(i:Nat):Stmt:=PySem.Challenge.pw_turnsigns_k63_steps_up.main.body.getD i (.Pass ⟨0,0,0,0⟩)
abbrev a9b:Stmt:=top 16
abbrev a9c:Stmt:=top 17
abbrev a9d:Stmt:=top 18
abbrev a9e:Stmt:=top 19
abbrev a9f:Stmt:=top 20
abbrev a9g:Stmt:=top 21
abbrev a9h:Stmt:=top 22
abbrev a9i:Stmt:=top 23
abbrev a9j:Stmt:=top 24
abbrev a9k:Stmt:=top 25
abbrev a9l:Stmt:=top 26
abbrev a9m:Stmt:=top 29
abbrev a9n:Stmt:=top 30
abbrev a6R:Stmt:=top 31
abbrev a9o:Stmt:=top 32
abbrev a9p:Stmt:=top 33
abbrev a9q:Stmt:=top 35
abbrev a9r:Stmt:=top 36
abbrev a9s:Stmt:=top 37
abbrev a6S:Stmt:=top 38
abbrev a6T:Stmt:=top 39
abbrev a9t:Stmt:=top 40
abbrev a6U:Stmt:=top 41
abbrev a9u:Stmt:=top 43
abbrev a9v:Stmt:=top 44
abbrev a9w:Stmt:=top 45
abbrev a9x:Stmt:=top 46
abbrev a9y:Stmt:=top 47
abbrev a9z:Stmt:=top 48
abbrev a9A:Stmt:=top 49
abbrev a9B:Stmt:=top 50
abbrev a9C:Stmt:=top 51
abbrev a9D:Stmt:=top 52
abbrev a9E:Stmt:=top 53
abbrev a9F:Stmt:=top 54
abbrev a9G:Stmt:=top 55
abbrev a9H:Stmt:=top 56
abbrev a9I:Stmt:=top 57
abbrev a9J:Stmt:=top 58
abbrev a9K:Stmt:=top 59
abbrev a4m:Stmt:=top 60
abbrev xN:List Str:=["NoTable","NoHeights","NoNet","NoPlace","NoTriangle","NoRow","NoNumber","NoTurn","NotAlike","NoStep","NoRows","TooMany","BadNote"]
structure Txt(K:Qz)(mg:OU):Prop where
 ex:a1W K "SignError" xN=true
 g_isinstance:mg "isinstance"=none
 g_int:mg "int"=none
 g_bool:mg "bool"=none
 g_all:mg "all"=none
 g_tuple:mg "tuple"=none
 g_len:mg "len"=none
 g_range:mg "range"=none
 g_list:mg "list"=none
 g_min:mg "min"=none
 g_sum:mg "sum"=none
 g_zip:mg "zip"=none
 g_ValueError:mg "ValueError"=none
 g_dict:mg "dict"=none
 g_max:mg "max"=none
 c_GREATEST_SIDE:∃t,mg "GREATEST_SIDE"=some (.int 6 t)
section
variable{P:Program}{w:World}{K:Qz}{mg:OU}{base:Heap}
set_option hygiene false
local macro_rules
 | `(tactic| k_units)=>`(tactic| first | fail_if_success (show (_:Prop)) | ((with_reducible show PE _ _ (a0L _));exact pv _) | ((with_reducible show PE _ _ (tC _));exact b2f) | with_reducible (first | show PE _ _ _ | show PA _ _ _ | show PS _ _ _ | show PSs _ _ _ | show PT _ _ _ | show PG _ _ _ | show PI _ _ _ _ | show a0r _ _ _ | show PW _ _ _ | show PO _ _ _ | show PGs _ _ _ | show j8_ _ _ _ | show OpR _ _ _ | show EAc _ _ _ _ _ _ _ _ _ _ | show PJ _ _ _ _ | show c1g _ _ _ | show c1h _ _ _ | show EDx _ _ _ _ _ | show ETx _ _ _ _ _ | show EAx _ _ _ _ _ | show ESx _ _ _ _ _ | show a2P _ _ _ _ _ | assumption | exact PassesOwn.never | exact PySem.boot_len | exact b9B | exact b9z | exact c1p | exact b9y | exact a8l | exact b9C | exact b9D | exact b9J | exact b9A | exact a5N | exact w7_ | exact a4K | exact a0A | exact b8J | exact b9M | exact c1o | exact b8M | exact b8n | exact b8K | exact b8L | exact b9I | exact b8o | exact b8p | exact hr.units | exact ht__law_right | exact b8I | exact b8H | exact b8G | exact b8F | exact a8k | exact b9a | exact b1C | exact b8d | exact opd_eq | exact b8i | exact b8P | exact c0W | exact c0b | exact b8h | exact b8g | exact b8e | exact b9c | exact c0c | exact b8f | exact b8b | exact b2f | exact b9P | exact c0p) | exact a6s rfl | exact b2p rfl | assumption | exact se1 rfl | exact se2 rfl rfl | exact Or.inl rfl | exact Or.inr rfl | exact hr.mono (by decide) | exact hr.mono (Nat.le_refl _) | rfl | exact (NamesAt.cons (pv 7) (NamesAt.cons (pv 4) NamesAt.nil)) | exact (a3p rfl) | exact (b3t rfl hr.units) | exact (b1c rfl) | exact (a6x rfl) | exact (a7z rfl) | exact (a1G rfl) | exact (b9w rfl rfl) | exact (c0H (by assumption) (by decide+kernel)) | exact (b9x a8k) | exact (nomark _) | exact Room.units (by assumption) | exact a8k | exact Room.mono (by assumption) (by decide) | exact fun _ _=>rfl | exact fun _=>rfl | exact fun _ _ _ _=>rfl | (intro _;rfl) | decide | with_unfolding_all rfl | decide+kernel)
local macro_rules
 | `(tactic| k_types)=>`(tactic| ((with_reducible show OpR _ _ _);first | exact (op_eqD hr.units) | exact (op_eqD (Room.units (by assumption))) | exact (op_neD hr.units) | exact (op_neD (Room.units (by assumption))) | exact (b2W hr.units) | exact (b2W (Room.units (by assumption))) | exact b7m | exact b8Z | exact b7j | exact b7p | exact b7q | exact b7o | exact b7n | exact b7k | exact b9b | exact b7P | exact b7r | exact b7l | exact b7h))
local macro_rules
 | `(tactic| exists $t)=>`(tactic| (((intros;refine' $t) <;> try k_units) <;> try k_types))
local macro_rules
 | `(tactic| injections $xs*)=>do
  let mut r ← `(tactic| skip)
  for x in xs do
   let n:=x.raw.getId
   let t:Lean.TSyntax `term:=⟨x.raw⟩
   let h ← `(?_)
   let hs:Array (Lean.TSyntax `term):=Array.replicate (if [`a5N,`w7_,`a4K,`a0A,`q8_,`w1_,`b2V,`q0_,`a0Z,`z7_,`a2j,`k9_,`g8_,`a6c,`w2_,`a8q,`a5b].contains n then 0 else if [`PA.nox,`PS.nox,`PT.nox,`z2_,`a2F,`a7O,`y3_,`a2D,`g0_,`y9_,`k8_,`a3T,`w3_,`b3g,`g9_,`q9_,`y7_,`a3R,`b3f,`a3s,`u1_,`a0O,`a7M,`a1o,`b3h,`b3i].contains n then 1 else if [`a8C,`a2E,`a6p,`a2m,`q6_,`a3r,`a6A,`g4_,`a7N,`a1p,`a6L].contains n then 2 else if [`q4_,`a0B,`b2n,`b1D,`k0_,`u8_,`a8R,`z5_,`a7U,`a0n,`k7_,`a4a,`a8r].contains n then 3 else if [`v5_,`a6H,`a2g,`a2k,`a1t,`b3k].contains n then 4 else if [`a1S,`y5_,`a6g,`a3Y,`b3n,`a6e,`w9_].contains n then 5 else if [`a0D,`x6_,`a1r,`b3j].contains n then 6 else if [`a8D,`v9_,`b3e,`b2O,`b2H,`a2n,`j6_,`a8E,`b2C,`en_call,`b1H].contains n then 7 else if [`b3u,`b1F,`a0U,`a2p,`b2B,`a2i,`b2D,`a8t,`a7P].contains n then 8 else if [`b3p].contains n then 9 else if [`x4_,`a0m,`a0s,`a6a,`b1J].contains n then 10 else if [`a3U,`b3q].contains n then 11 else if [`b2u].contains n then 16 else 19) h
   r ← if hs.isEmpty then `(tactic| ($r:tactic;(intros;exact $t))) else `(tactic| ($r:tactic;((intros;refine' $t $hs*) <;> try k_units) <;> try k_types))
  return r
set_option hygiene true
theorem c1G:FnScope ["thing"] ["thing"] (y2_ a9b):=x7_
def c1H:Mo Fl:=(v0_ (a0h (mIs "int" (z0_ 0)) (a5Z (mIs "bool" (z0_ 0)))))
def a2w:Fn:=fnM 1 c1H
theorem c1I{f:Addr}(F:Fun K "is_whole" "is_whole" a9b f fd)(T:Txt K mg):FnOk P w K mg base CX0 1 f fd ["thing"] (SpF K 1 a2w):=
 k1_ F c1G fun cdv A outer s H E hr=>(by cases T;injections q9_ y7_ a2E a0s z2_ a2D a7O a0s z2_)
theorem c1J:FnScope ["thing","width"] ["thing","width"] (y2_ a9c):=x7_
theorem nd1:(["-0","-1","number"]:List Str).Nodup:=by decide+kernel
def a9L:Mo Fl:=(q1_ (y4_ (j0_ (x2_ (mT (mIs "tuple" (z0_ 0)))) (mT (z4_ (dEq true) (mCB v8_ (z1_ (z0_ 0) z3_)) (z0_ 1)))) (v0_ (mC (.bl false))) mNx) (v0_ (mCB a1C (z1_ (mF (v1_ (y0_ (z0_ 0)) [false,false] 1 (gN 2) v3_ (mCD 1 a2w (z6_ (z0_ 2) z8_)))) z3_))))
def a0x:Fn:=fnM 2 a9L
theorem c1K{f:Addr}(F:Fun K "is_row" "is_row" a9c f fd)(T:Txt K mg)(d_is_whole:Def P w K mg base "is_whole" 1 1 a2w):FnOk P w K mg base CX0 2 f fd ["thing","width"] (SpF K 2 a0x):=
 k1_ F c1J fun cdv A outer s H E hr=>(by have n0:=nd1;cases T;injections q6_ k7_ a0O a1p u1_ g4_ a0s z2_ a1o w9_ x4_ w7_ z5_ z2_ z7_ z2_ q9_ y7_ w1_ w2_ q9_ y7_ x4_;exists (a3p rfl);injections z5_ y3_;exists (j6_ (N':=["-0","-1","number"]) (keep:=[false,false]) (more:=1) ?_ ?_ ?_ ?_ ?_ ?_ ?_);injections k8_ z2_ y5_ k9_ v9_ q4_ z2_ q8_ z7_)
theorem c1L:FnScope ["thing","many","width"] ["thing","many","width"] (y2_ a9d):=x7_
theorem nd2:(["-0","-1","width","row"]:List Str).Nodup:=by decide+kernel
def a5s:Mo Fl:=(q1_ (y4_ (j0_ (x2_ (mT (mIs "tuple" (z0_ 0)))) (mT (z4_ (dEq true) (mCB v8_ (z1_ (z0_ 0) z3_)) (z0_ 1)))) (v0_ (mC (.bl false))) mNx) (v0_ (mCB a1C (z1_ (mF (v1_ (y0_ (z0_ 0)) [false,false,true] 1 (gN 3) v3_ (mCD 2 a0x (z6_ (z0_ 3) (z6_ (z0_ 2) z8_))))) z3_))))
def a4n:Fn:=fnM 3 a5s
theorem c1M{f:Addr}(F:Fun K "is_grid" "is_grid" a9d f fd)(T:Txt K mg)(d_is_row:Def P w K mg base "is_row" 2 2 a0x):FnOk P w K mg base CX0 3 f fd ["thing","many","width"] (SpF K 3 a4n):=
 k1_ F c1L fun cdv A outer s H E hr=>(by have n0:=nd2;cases T;injections q6_ k7_ a0O a1p u1_ g4_ a0s z2_ a1o w9_ x4_ w7_ z5_ z2_ z7_ z2_ q9_ y7_ w1_ w2_ q9_ y7_ x4_;exists (a3p rfl);injections z5_ y3_;exists (j6_ (N':=["-0","-1","width","row"]) (keep:=[false,false,true]) (more:=1) ?_ ?_ ?_ ?_ ?_ ?_ ?_);injections k8_ z2_ y5_ k9_ v9_ q4_ z2_ q4_ z2_ q8_ z7_)
theorem c1N:FnScope ["thing","least","greatest"] ["thing","least","greatest"] (y2_ a9e):=x7_
def a5t:Mo Fl:=(q1_ (y4_ (j0_ (x2_ (mT (mIs "tuple" (z0_ 0)))) (x2_ (mT (a1a dLe dLe (z0_ 1) (mCB v8_ (z1_ (z0_ 0) z3_)) (z0_ 2))))) (v0_ (mC (.bl false))) mNx) (v0_ (mCD 3 a4n (z6_ (z0_ 0) (z6_ (mCB v8_ (z1_ (z0_ 0) z3_)) (z6_ (mCB v8_ (z1_ (z0_ 0) z3_)) z8_))))))
def a3x:Fn:=fnM 3 a5t
theorem c1O{f:Addr}(F:Fun K "is_square" "is_square" a9e f fd)(T:Txt K mg)(d_is_grid:Def P w K mg base "is_grid" 3 3 a4n):FnOk P w K mg base CX0 4 f fd ["thing","least","greatest"] (SpF K 3 a3x):=
 k1_ F c1N fun cdv A outer s H E hr=>(by cases T;injections q6_ k7_ a0O a1p u1_ g4_ a0s z2_ a1o u1_ a7P z2_ x4_ w7_ z5_ z2_ z7_ z2_ q9_ y7_ w1_ w2_ q9_ y7_ v9_ q4_ z2_ q4_ x4_ w7_ z5_ z2_ z7_ q4_ x4_ w7_ z5_ z2_ z7_ q8_)
theorem c1P:FnScope ["grid"] ["grid"] (y2_ a9f):=x7_
theorem nd3:(["grid","at"]:List Str).Nodup:=by decide+kernel
theorem nd4:(["-0","at","row"]:List Str).Nodup:=by decide+kernel
def a9M:Mo Fl:=(v0_ (mCB g1_ (z1_ (mF (v1_ (j1_ (z1_ (mCB v8_ (z1_ (z4_ dIx (z0_ 0) (mC (.int 0))) z3_)) z3_)) [true] 1 (gN 1) v3_ (mCB g1_ (z1_ (mF (v1_ (y0_ (z0_ 0)) [false,true] 1 (gN 2) v3_ (z4_ dIx (z0_ 2) (z0_ 1)))) z3_)))) z3_)))
def a0y:Fn:=fnM 1 a9M
theorem c1Q{f:Addr}(F:Fun K "flipped" "flipped" a9f f fd)(T:Txt K mg):FnOk P w K mg base CX0 1 f fd ["grid"] (SpF K 1 a0y):=
 k1_ F c1P fun cdv A outer s H E hr=>(by have n0:=nd3;have n1:=nd4;cases T;injections q9_ y7_ a0m a0A z5_ y3_;exists (j6_ (N':=["grid","at"]) (keep:=[true]) (more:=1) ?_ ?_ ?_ ?_ ?_ ?_ ?_);injections a1t z5_ x4_ w7_ z5_ k0_ z2_ q0_ z7_ z7_ y5_ k9_ a0m a0A z5_ y3_;exists (j6_ (N':=["-0","at","row"]) (keep:=[false,true]) (more:=1) ?_ ?_ ?_ ?_ ?_ ?_ ?_);injections k8_ z2_ y5_ k9_ k0_ z2_ z2_ z7_ z7_)
theorem b3D:FnScope ["row","sums","number"] ["row"] (y2_ a9g):=x7_
def a9N:Mo Fl:=(q1_ (j5_ 1 (x5_ (z1_ (mC (.int 0)) z3_))) (q1_ (u2_ (y0_ (z0_ 0)) (gN 2) (a0q 1 (z4_ v7_ (a0b 1 (u5_ (mC (.int 1)))) (z0_ 2)))) (v0_ (mCB g1_ (z1_ (z0_ 1) z3_)))))
def a4o:Fn:=fnM 3 a9N
theorem c1R{f:Addr}(F:Fun K "running_sums" "running_sums" a9g f fd)(T:Txt K mg):FnOk P w K mg base CX0 1 f fd ["row"] (SpF K 1 a4o):=
 k1_ F b3D fun cdv A outer s H E hr=>(by have n0:=b3D.nd;cases T;injections q6_ a1r w3_ z5_ q0_ z7_ q6_ a0D k8_ z2_ y5_ q9_ a2i z5_ v5_ a2g a2F q0_ z2_ z7_ q9_ y7_ a0m a0A z5_ z2_ z7_)
theorem c1S:FnScope ["row"] ["row"] (y2_ a9h):=x7_
theorem nd5:(["row","at"]:List Str).Nodup:=by decide+kernel
def a9O:Mo Fl:=(v0_ (mCB g1_ (z1_ (mF (v1_ (a1s (z1_ (mC (.int 1)) (z1_ (mCB v8_ (z1_ (z0_ 0) z3_)) z3_))) [true] 1 (gN 1) v3_ (z4_ k6_ (z4_ dIx (z0_ 0) (z0_ 1)) (z4_ dIx (z0_ 0) (z4_ k6_ (z0_ 1) (mC (.int 1))))))) z3_)))
def a4p:Fn:=fnM 1 a9O
theorem c1T{f:Addr}(F:Fun K "rises" "rises" a9h f fd)(T:Txt K mg):FnOk P w K mg base CX0 1 f fd ["row"] (SpF K 1 a4p):=
 k1_ F c1S fun cdv A outer s H E hr=>(by have n0:=nd5;cases T;injections q9_ y7_ a0m a0A z5_ y3_;exists (j6_ (N':=["row","at"]) (keep:=[true]) (more:=1) ?_ ?_ ?_ ?_ ?_ ?_ ?_);injections a6g z5_ q0_ z5_ x4_ w7_ z5_ z2_ z7_ z7_ y5_ k9_ v5_ k0_ z2_ z2_ k0_ z2_ v5_ z2_ q0_ z7_)
theorem c1U:FnScope ["grid"] ["grid"] (y2_ a9i):=x7_
theorem nd6:(["-0","row"]:List Str).Nodup:=by decide+kernel
def b3E:Mo Fl:=(v0_ (mCB g1_ (z1_ (mF (v1_ (y0_ (z0_ 0)) [false] 1 (gN 1) v3_ (mCD 1 a4o (z6_ (z0_ 1) z8_)))) z3_)))
def a2X:Fn:=fnM 1 b3E
theorem c1V{f:Addr}(F:Fun K "sums_across" "sums_across" a9i f fd)(T:Txt K mg)(d_running_sums:Def P w K mg base "running_sums" 1 1 a4o):FnOk P w K mg base CX0 2 f fd ["grid"] (SpF K 1 a2X):=
 k1_ F c1U fun cdv A outer s H E hr=>(by have n0:=nd6;cases T;injections q9_ y7_ a0m a0A z5_ y3_;exists (j6_ (N':=["-0","row"]) (keep:=[false]) (more:=1) ?_ ?_ ?_ ?_ ?_ ?_ ?_);injections k8_ z2_ y5_ k9_ v9_ q4_ z2_ q8_ z7_)
theorem c1W:FnScope ["grid"] ["grid"] (y2_ a9j):=x7_
def a9P:Mo Fl:=(v0_ (mCD 1 a0y (z6_ (mCD 1 a2X (z6_ (mCD 1 a0y (z6_ (z0_ 0) z8_)) z8_)) z8_)))
def a5u:Fn:=fnM 1 a9P
theorem c1X{f:Addr}(F:Fun K "sums_down" "sums_down" a9j f fd)(T:Txt K mg)(d_flipped:Def P w K mg base "flipped" 1 1 a0y)(d_sums_across:Def P w K mg base "sums_across" 2 1 a2X):FnOk P w K mg base CX0 3 f fd ["grid"] (SpF K 1 a5u):=
 k1_ F c1W fun cdv A outer s H E hr=>(by cases T;injections q9_ y7_ v9_ q4_ v9_ q4_ v9_ q4_ z2_ q8_ q8_ q8_)
theorem c1Y:FnScope ["grid"] ["grid"] (y2_ a9k):=x7_
theorem nd7:(["-0","row"]:List Str).Nodup:=by decide+kernel
def b3F:Mo Fl:=(v0_ (mCB g1_ (z1_ (mF (v1_ (y0_ (z0_ 0)) [false] 1 (gN 1) v3_ (mCD 1 a4p (z6_ (z0_ 1) z8_)))) z3_)))
def a2Y:Fn:=fnM 1 b3F
theorem c1Z{f:Addr}(F:Fun K "rises_across" "rises_across" a9k f fd)(T:Txt K mg)(d_rises:Def P w K mg base "rises" 1 1 a4p):FnOk P w K mg base CX0 2 f fd ["grid"] (SpF K 1 a2Y):=
 k1_ F c1Y fun cdv A outer s H E hr=>(by have n0:=nd7;cases T;injections q9_ y7_ a0m a0A z5_ y3_;exists (j6_ (N':=["-0","row"]) (keep:=[false]) (more:=1) ?_ ?_ ?_ ?_ ?_ ?_ ?_);injections k8_ z2_ y5_ k9_ v9_ q4_ z2_ q8_ z7_)
theorem c2a:FnScope ["grid"] ["grid"] (y2_ a9l):=x7_
def a9Q:Mo Fl:=(v0_ (mCD 1 a0y (z6_ (mCD 1 a2Y (z6_ (mCD 1 a0y (z6_ (z0_ 0) z8_)) z8_)) z8_)))
def a5v:Fn:=fnM 1 a9Q
theorem c2b{f:Addr}(F:Fun K "rises_down" "rises_down" a9l f fd)(T:Txt K mg)(d_flipped:Def P w K mg base "flipped" 1 1 a0y)(d_rises_across:Def P w K mg base "rises_across" 2 1 a2Y):FnOk P w K mg base CX0 3 f fd ["grid"] (SpF K 1 a5v):=
 k1_ F c2a fun cdv A outer s H E hr=>(by cases T;injections q9_ y7_ v9_ q4_ v9_ q4_ v9_ q4_ z2_ q8_ q8_ q8_)
theorem b3G:FnScope ["line","total","number"] ["line"] (y2_ a9m):=x7_
def a5w:Mo Fl:=(q1_ (v2_ 1 (mC (.int 0))) (q1_ (u2_ (y0_ (z0_ 0)) (gN 2) (q1_ (a6d 1 a5Y (z0_ 2)) (y4_ (mT (z4_ (dIn true) (z0_ 1) (v6_ (z1_ (mC (.int 0)) (z1_ (mC (.int 1)) z3_))))) (v0_ (mC (.bl false))) mNx))) (v0_ (z4_ (dEq false) (z0_ 1) (mC (.int 1))))))
def a2Z:Fn:=fnM 3 a5w
theorem c2c{f:Addr}(F:Fun K "takes_turns" "takes_turns" a9m f fd)(T:Txt K mg):FnOk P w K mg base CX0 1 f fd ["line"] (SpF K 1 a2Z):=
 k1_ F b3G fun cdv A outer s H E hr=>(by have n0:=b3G.nd;cases T;injections q6_ x6_ q0_ q6_ a0D k8_ z2_ y5_ q6_ b1H z2_ q9_ k7_ w9_ z2_ y9_ z5_ q0_ z5_ q0_ z7_ q9_ y7_ w1_ w2_ q9_ y7_ a1S z2_ q0_)
theorem c2d:FnScope ["thing"] ["thing"] (y2_ a9n):=x7_
theorem nd8:(["-0","line"]:List Str).Nodup:=by decide+kernel
def a9R:Mo Fl:=(q1_ (y4_ (x2_ (mT (mCD 3 a3x (z6_ (z0_ 0) (z6_ (mC (.int 1)) (z6_ (mC (.int 6)) z8_)))))) (v0_ (mC (.bl false))) mNx) (v0_ (mCB a1C (z1_ (mF (v1_ (y0_ (z4_ v7_ (z0_ 0) (mCD 1 a0y (z6_ (z0_ 0) z8_)))) [false] 1 (gN 1) v3_ (mCD 1 a2Z (z6_ (z0_ 1) z8_)))) z3_))))
def a3y:Fn:=fnM 1 a9R
theorem c2e{f:Addr}(F:Fun K "is_table" "is_table" a9n f fd)(T:Txt K mg)(d_is_square:Def P w K mg base "is_square" 4 3 a3x)(d_takes_turns:Def P w K mg base "takes_turns" 1 1 a2Z)(d_flipped:Def P w K mg base "flipped" 1 1 a0y):FnOk P w K mg base CX0 5 f fd ["thing"] (SpF K 1 a3y):=
 k1_ F c2d fun cdv A outer s H E hr=>(by have n0:=nd8;cases T;injections q6_ k7_ u1_ g4_ v9_ q4_ z2_ q4_ q0_ q4_ b2n q8_ q9_ y7_ w1_ w2_ q9_ y7_ x4_;exists (a3p rfl);injections z5_ y3_;exists (j6_ (N':=["-0","line"]) (keep:=[false]) (more:=1) ?_ ?_ ?_ ?_ ?_ ?_ ?_);injections k8_ v5_ z2_ v9_ q4_ z2_ q8_ y5_ k9_ v9_ q4_ z2_ q8_ z7_)
theorem b3H:FnScope ["thing"] ["thing"] (y2_ a6R):=x7_
def a9S:Mo Fl:=(y4_ (x2_ (mT (mCD 1 a3y (z6_ (z0_ 0) z8_)))) a6b mNx)
def a0J:Fn:=fnM 1 a9S
theorem c2f{f:Addr}(F:Fun K "must_be_table" "must_be_table" a6R f fd)(T:Txt K mg)(d_is_table:Def P w K mg base "is_table" 5 1 a3y):FnOk P w K mg base CX0 6 f fd ["thing"] (SpF K 1 a0J):=
 k1_ F b3H fun cdv A outer s H E hr=>(by cases T;injections q9_ k7_ u1_ g4_ v9_ q4_ z2_ q8_ q9_ a6c w2_)
def a9T:Mx:=(xIf (x2_ (mT (mCD 1 a3y (z6_ (z0_ 0) z8_)))) (a8s "NoTable" (z1_ (mC (.str "this is no table")) z3_)) xNo)
def a1y:List W->Option Str:=fnX 1 a9T
theorem c2g{f:Addr}(F:Fun K "must_be_table" "must_be_table" a6R f fd)(T:Txt K mg)(d_is_table:Def P w K mg base "is_table" 5 1 a3y):FnOk P w K mg base (CXE P w) 6 f fd ["thing"] (SpX K 1 a1y):=
 a6B F b3H fun cdv A outer s H E hr=>(by cases T;injections a3s a8r PT.nox u1_ g4_ v9_ q4_ z2_ q8_ a3s a8t PA.nox z5_ g0_ z7_ a8q)
theorem c2h:FnScope ["table"] ["table"] (y2_ a9o):=x7_
def a9U:Mo Fl:=(v0_ (mCD 1 a2X (z6_ (mCD 1 a5u (z6_ (z0_ 0) z8_)) z8_)))
def a1i:Fn:=fnM 1 a9U
theorem c2i{f:Addr}(F:Fun K "summed" "summed" a9o f fd)(T:Txt K mg)(d_sums_across:Def P w K mg base "sums_across" 2 1 a2X)(d_sums_down:Def P w K mg base "sums_down" 3 1 a5u):FnOk P w K mg base CX0 4 f fd ["table"] (SpF K 1 a1i):=
 k1_ F c2h fun cdv A outer s H E hr=>(by cases T;injections q9_ y7_ v9_ q4_ v9_ q4_ z2_ q8_ q8_)
theorem c2j:FnScope ["heights"] ["heights"] (y2_ a9p):=x7_
def a9V:Mo Fl:=(v0_ (mCD 1 a2Y (z6_ (mCD 1 a5v (z6_ (z0_ 0) z8_)) z8_)))
def a4q:Fn:=fnM 1 a9V
theorem c2k{f:Addr}(F:Fun K "unsummed" "unsummed" a9p f fd)(T:Txt K mg)(d_rises_across:Def P w K mg base "rises_across" 2 1 a2Y)(d_rises_down:Def P w K mg base "rises_down" 3 1 a5v):FnOk P w K mg base CX0 4 f fd ["heights"] (SpF K 1 a4q):=
 k1_ F c2j fun cdv A outer s H E hr=>(by cases T;injections q9_ y7_ v9_ q4_ v9_ q4_ z2_ q8_ q8_)
theorem b3I:FnScope ["heights","row","column","height","ahead","behind"] ["heights","row","column"] (y2_ a9q):=x7_
def a9W:Mo Fl:=(q1_ (v2_ 3 (z4_ dIx (z4_ dIx (z0_ 0) (z0_ 1)) (z0_ 2))) (q1_ (v2_ 4 (v6_ (z1_ (z4_ dIx (z4_ dIx (z0_ 0) (z4_ k6_ (z0_ 1) (mC (.int 1)))) (z0_ 2)) (z1_ (z4_ dIx (z4_ dIx (z0_ 0) (z0_ 1)) (z4_ k6_ (z0_ 2) (mC (.int 1)))) z3_)))) (q1_ (v2_ 5 (v6_ (z1_ (z4_ dIx (z4_ dIx (z0_ 0) (z4_ v7_ (z0_ 1) (mC (.int 1)))) (z0_ 2)) (z1_ (z4_ dIx (z4_ dIx (z0_ 0) (z0_ 1)) (z4_ v7_ (z0_ 2) (mC (.int 1)))) z3_)))) (v0_ (a0h (z4_ (dEq false) (z0_ 4) (v6_ (z1_ (z4_ k6_ (z0_ 3) (mC (.int 1))) (z1_ (z4_ k6_ (z0_ 3) (mC (.int 1))) z3_)))) (z4_ (dEq false) (z0_ 5) (v6_ (z1_ (z0_ 3) (z1_ (z0_ 3) z3_)))))))))
def a4r:Fn:=fnM 6 a9W
theorem c2l{f:Addr}(F:Fun K "can_fall" "can_fall" a9q f fd)(T:Txt K mg):FnOk P w K mg base CX0 1 f fd ["heights","row","column"] (SpF K 3 a4r):=
 k1_ F b3I fun cdv A outer s H E hr=>(by have n0:=b3I.nd;cases T;injections q6_ x6_ k0_ k0_ z2_ z2_ z2_ q6_ x6_ y9_ z5_ k0_ k0_ z2_ v5_ z2_ q0_ z2_ z5_ k0_ k0_ z2_ z2_ v5_ z2_ q0_ z7_ q6_ x6_ y9_ z5_ k0_ k0_ z2_ v5_ z2_ q0_ z2_ z5_ k0_ k0_ z2_ z2_ v5_ z2_ q0_ z7_ q9_ y7_ a2E a1S z2_ y9_ z5_ v5_ z2_ q0_ z5_ v5_ z2_ q0_ z7_ a2D a1S z2_ y9_ z5_ z2_ z5_ z2_ z7_)
theorem b3J:FnScope ["heights","inner"] ["heights"] (y2_ a9r):=x7_
theorem nd9:(["heights","inner","row","column"]:List Str).Nodup:=by decide+kernel
def a9X:Mo Fl:=(q1_ (v2_ 1 (mF (a1s (z1_ (mC (.int 1)) (z1_ (z4_ k6_ (mCB v8_ (z1_ (z0_ 0) z3_)) (mC (.int 1))) z3_))))) (a2h (a3t (y0_ (z0_ 1)) [true,true] 2 (gN 2) v3_ (aIn (y0_ (z0_ 1)) (gN 3) (mT (mCD 3 a4r (z6_ (z0_ 0) (z6_ (z0_ 2) (z6_ (z0_ 3) z8_))))) (a2r (v6_ (z1_ (z0_ 2) (z1_ (z0_ 3) z3_))))))))
def a1z:Fn:=fnM 2 a9X
theorem c2m{f:Addr}(F:Fun K "steps_in" "steps_in" a9r f fd)(T:Txt K mg)(d_can_fall:Def P w K mg base "can_fall" 1 3 a4r):FnOk P w K mg base CX0 2 f fd ["heights"] (SpF K 1 a1z):=
 k1_ F b3J fun cdv A outer s H E hr=>(by have n0:=nd9;have n1:=b3J.nd;cases T;injections q6_ x6_ y3_ b2B z5_ q0_ z5_ v5_ x4_ w7_ z5_ z2_ z7_ q0_ z7_ q9_ a3R;exists (a8E (N':=["heights","inner","row","column"]) (keep:=[true,true]) (more:=2) ?_ ?_ ?_ ?_ ?_ ?_ ?_);injections k8_ z2_ y5_ k9_ a8D k8_ z2_ y5_ a3T g4_ v9_ q4_ z2_ q4_ z2_ q4_ z2_ q8_ a8C y9_ z5_ z2_ z5_ z2_ z7_)
theorem b3K:FnScope ["heights","place","line","lower","row","column"] ["heights","place"] (y2_ a9s):=x7_
def a9Y:Mo Fl:=(q1_ (a1B (z0_ 1) (gT 2 (gCn (gN 4) (gCn (gN 5) gNl)))) (q1_ (v2_ 2 (z4_ dIx (z0_ 0) (z0_ 4))) (q1_ (v2_ 3 (z4_ v7_ (z4_ v7_ (mSl (z0_ 2) x8_ (x9_ (z0_ 5))) (v6_ (z1_ (z4_ k6_ (z4_ dIx (z0_ 2) (z0_ 5)) (mC (.int 1))) z3_))) (mSl (z0_ 2) (x9_ (z4_ v7_ (z0_ 5) (mC (.int 1)))) x8_))) (v0_ (z4_ v7_ (z4_ v7_ (mSl (z0_ 0) x8_ (x9_ (z0_ 4))) (v6_ (z1_ (z0_ 3) z3_))) (mSl (z0_ 0) (x9_ (z4_ v7_ (z0_ 4) (mC (.int 1)))) x8_))))))
def a4s:Fn:=fnM 6 a9Y
theorem c2n{f:Addr}(F:Fun K "fallen" "fallen" a9s f fd)(T:Txt K mg):FnOk P w K mg base CX0 1 f fd ["heights","place"] (SpF K 2 a4s):=
 k1_ F b3K fun cdv A outer s H E hr=>(by have n0:=b3K.nd;cases T;injections q6_ a6e z2_ a2k a0n y5_ a0n y5_ a2j q6_ x6_ k0_ z2_ z2_ q6_ x6_ v5_ v5_ u8_ z2_ g8_ g9_ z2_ y9_ z5_ v5_ k0_ z2_ z2_ q0_ z7_ u8_ z2_ g9_ v5_ z2_ q0_ g8_ q9_ y7_ v5_ v5_ u8_ z2_ g8_ g9_ z2_ y9_ z5_ z2_ z7_ u8_ z2_ g9_ v5_ z2_ q0_ g8_)
theorem b3L:FnScope ["table"] ["table"] (y2_ a6S):=x7_
def a9Z:Mo Fl:=(q1_ (a2o (mCD 1 a0J (z6_ (z0_ 0) z8_))) (a2h (a0e 1 a1z (z6_ (mCD 1 a1i (z6_ (z0_ 0) z8_)) z8_))))
def a1X:Fn:=fnM 1 a9Z
theorem c2o{f:Addr}(F:Fun K "steps_of" "steps_of" a6S f fd)(T:Txt K mg)(d_must_be_table:Def P w K mg base "must_be_table" 6 1 a0J)(d_steps_in:Def P w K mg base "steps_in" 2 1 a1z)(d_summed:Def P w K mg base "summed" 4 1 a1i):FnOk P w K mg base CX0 7 f fd ["table"] (SpF K 1 a1X):=
 k1_ F b3L fun cdv A outer s H E hr=>(by cases T;injections q6_ a3r v9_ q4_ z2_ q8_ q9_ a3R a2n q4_ v9_ q4_ z2_ q8_ q8_)
def c2p:Mx:=(a1H (a0f 1 a1y (z6_ (z0_ 0) z8_)) (a2o (mCD 1 a0J (z6_ (z0_ 0) z8_))) xNo)
def a3a:List W->Option Str:=fnX 1 c2p
theorem c2q{f:Addr}(F:Fun K "steps_of" "steps_of" a6S f fd)(T:Txt K mg)(d_must_be_table:Def P w K mg base "must_be_table" 6 1 a0J)(d_steps_in:Def P w K mg base "steps_in" 2 1 a1z)(d_summed:Def P w K mg base "summed" 4 1 a1i)(dx_must_be_table:DefX P w K mg base "must_be_table" 6 1 a1y):FnOk P w K mg base (CXE P w) 7 f fd ["table"] (SpX K 1 a3a):=
 a6B F b3L fun cdv A outer s H E hr=>(by cases T;injections a4a a6A a2p PA.nox q4_ z2_ q8_ PS.nox a3r v9_ q4_ z2_ q8_ a3s a5b)
theorem a6V:FnScope ["table","place","heights"] ["table","place"] (y2_ a6T):=x7_
def b0a:Mo Fl:=(q1_ (a2o (mCD 1 a0J (z6_ (z0_ 0) z8_))) (q1_ (v2_ 2 (mCD 1 a1i (z6_ (z0_ 0) z8_))) (q1_ (y4_ (j0_ (x2_ (mT (mCD 2 a0x (z6_ (z0_ 1) (z6_ (mC (.int 2)) z8_))))) (mT (z4_ (a3u true) (z0_ 1) (mF (a0e 1 a1z (z6_ (z0_ 2) z8_)))))) a6b mNx) (v0_ (mCD 1 a4q (z6_ (mCD 2 a4s (z6_ (z0_ 2) (z6_ (z0_ 1) z8_))) z8_))))))
def a0K:Fn:=fnM 3 b0a
theorem c2r{f:Addr}(F:Fun K "stepped" "stepped" a6T f fd)(T:Txt K mg)(d_must_be_table:Def P w K mg base "must_be_table" 6 1 a0J)(d_summed:Def P w K mg base "summed" 4 1 a1i)(d_unsummed:Def P w K mg base "unsummed" 4 1 a4q)(d_fallen:Def P w K mg base "fallen" 1 2 a4s)(d_is_row:Def P w K mg base "is_row" 2 2 a0x)(d_steps_in:Def P w K mg base "steps_in" 2 1 a1z):FnOk P w K mg base CX0 7 f fd ["table","place"] (SpF K 2 a0K):=
 k1_ F a6V fun cdv A outer s H E hr=>(by have n0:=a6V.nd;cases T;injections q6_ a3r v9_ q4_ z2_ q8_ q6_ x6_ v9_ q4_ z2_ q8_ q6_ k7_ a0O a1p u1_ g4_ v9_ q4_ z2_ q4_ q0_ q8_ a1o w9_ z2_ y3_ a2n q4_ z2_ q8_ q9_ a6c w2_ q9_ y7_ v9_ q4_ v9_ q4_ z2_ q4_ z2_ q8_ q8_)
def b0b:Mx:=(a1H (a0f 1 a1y (z6_ (z0_ 0) z8_)) (a2o (mCD 1 a0J (z6_ (z0_ 0) z8_))) (a1H xNo (v2_ 2 (mCD 1 a1i (z6_ (z0_ 0) z8_))) (a1H (xIf (j0_ (x2_ (mT (mCD 2 a0x (z6_ (z0_ 1) (z6_ (mC (.int 2)) z8_))))) (mT (z4_ (a3u true) (z0_ 1) (mF (a0e 1 a1z (z6_ (z0_ 2) z8_)))))) (a8s "NoStep" (z1_ (mC (.str "no step of the table goes up there")) z3_)) xNo) (y4_ (j0_ (x2_ (mT (mCD 2 a0x (z6_ (z0_ 1) (z6_ (mC (.int 2)) z8_))))) (mT (z4_ (a3u true) (z0_ 1) (mF (a0e 1 a1z (z6_ (z0_ 2) z8_)))))) a6b mNx) xNo)))
def a0V:List W->Option Str:=fnX 3 b0b
theorem c2s{f:Addr}(F:Fun K "stepped" "stepped" a6T f fd)(T:Txt K mg)(d_must_be_table:Def P w K mg base "must_be_table" 6 1 a0J)(d_summed:Def P w K mg base "summed" 4 1 a1i)(d_unsummed:Def P w K mg base "unsummed" 4 1 a4q)(d_fallen:Def P w K mg base "fallen" 1 2 a4s)(d_is_row:Def P w K mg base "is_row" 2 2 a0x)(d_steps_in:Def P w K mg base "steps_in" 2 1 a1z)(dx_must_be_table:DefX P w K mg base "must_be_table" 6 1 a1y):FnOk P w K mg base (CXE P w) 7 f fd ["table","place"] (SpX K 2 a0V):=
 a6B F a6V fun cdv A outer s H E hr=>(by have n0:=a6V.nd;cases T;injections a4a a6A a2p PA.nox q4_ z2_ q8_ PS.nox a3r v9_ q4_ z2_ q8_ a4a a5b PS.nox x6_ v9_ q4_ z2_ q8_ a4a a8r PT.nox a0O a1p u1_ g4_ v9_ q4_ z2_ q4_ q0_ q8_ a1o w9_ z2_ y3_ a2n q4_ z2_ q8_ a3s a8t PA.nox z5_ g0_ z7_ a8q PS.nox k7_ a0O a1p u1_ g4_ v9_ q4_ z2_ q4_ q0_ q8_ a1o w9_ z2_ y3_ a2n q4_ z2_ q8_ q9_ a6c w2_ a3s a5b)
theorem b3M:FnScope ["side","places"] ["side"] (y2_ a9t):=x7_
theorem c2t:(["-0","places","row","column"]:List Str).Nodup:=by decide+kernel
def c2u:Mo Fl:=(q1_ (v2_ 1 (mF (j1_ (z1_ (z4_ v7_ (z0_ 0) (mC (.int 1))) z3_)))) (v0_ (mCB g5_ (z1_ (mF (a3t (y0_ (z0_ 1)) [false,true] 2 (gN 2) v3_ (aIn (y0_ (z0_ 1)) (gN 3) v3_ (a2r (mCB a3q (z1_ (z0_ 2) (z1_ (z0_ 3) z3_))))))) z3_))))
def a2x:Fn:=fnM 2 c2u
theorem c2v{f:Addr}(F:Fun K "lowest_total" "lowest_total" a9t f fd)(T:Txt K mg):FnOk P w K mg base CX0 1 f fd ["side"] (SpF K 1 a2x):=
 k1_ F b3M fun cdv A outer s H E hr=>(by have n0:=c2t;have n1:=b3M.nd;cases T;injections q6_ x6_ y3_ b2C z5_ v5_ z2_ q0_ z7_ q9_ y7_ x4_;exists (a1G rfl);injections z5_ y3_;exists (a8E (N':=["-0","places","row","column"]) (keep:=[false,true]) (more:=2) ?_ ?_ ?_ ?_ ?_ ?_ ?_);injections k8_ z2_ y5_ k9_ a8D k8_ z2_ y5_ k9_ a8C x4_;exists (a7z rfl);injections z5_ z2_ z5_ z2_ z7_ z7_)
theorem b3N:FnScope ["table"] ["table"] (y2_ a6U):=x7_
theorem c2w:(["-0","row"]:List Str).Nodup:=by decide+kernel
def b0c:Mo Fl:=(q1_ (a2o (mCD 1 a0J (z6_ (z0_ 0) z8_))) (v0_ (z4_ k6_ (mCD 1 a2x (z6_ (mCB v8_ (z1_ (z0_ 0) z3_)) z8_)) (mCB g5_ (z1_ (mF (v1_ (y0_ (mCD 1 a1i (z6_ (z0_ 0) z8_))) [false] 1 (gN 1) v3_ (mCB g5_ (z1_ (z0_ 1) z3_)))) z3_)))))
def a1Y:Fn:=fnM 1 b0c
theorem c2x{f:Addr}(F:Fun K "steps_from_lowest" "steps_from_lowest" a6U f fd)(T:Txt K mg)(d_must_be_table:Def P w K mg base "must_be_table" 6 1 a0J)(d_lowest_total:Def P w K mg base "lowest_total" 1 1 a2x)(d_summed:Def P w K mg base "summed" 4 1 a1i):FnOk P w K mg base CX0 7 f fd ["table"] (SpF K 1 a1Y):=
 k1_ F b3N fun cdv A outer s H E hr=>(by have n0:=c2w;cases T;injections q6_ a3r v9_ q4_ z2_ q8_ q9_ y7_ v5_ v9_ q4_ x4_ w7_ z5_ z2_ z7_ q8_ x4_;exists (a1G rfl);injections z5_ y3_;exists (j6_ (N':=["-0","row"]) (keep:=[false]) (more:=1) ?_ ?_ ?_ ?_ ?_ ?_ ?_);injections k8_ v9_ q4_ z2_ q8_ y5_ k9_ x4_;exists (a1G rfl);injections z5_ z2_ z7_ z7_)
def c2y:Mx:=(a1H (a0f 1 a1y (z6_ (z0_ 0) z8_)) (a2o (mCD 1 a0J (z6_ (z0_ 0) z8_))) xNo)
def a3z:List W->Option Str:=fnX 1 c2y
theorem c2z{f:Addr}(F:Fun K "steps_from_lowest" "steps_from_lowest" a6U f fd)(T:Txt K mg)(d_must_be_table:Def P w K mg base "must_be_table" 6 1 a0J)(d_lowest_total:Def P w K mg base "lowest_total" 1 1 a2x)(d_summed:Def P w K mg base "summed" 4 1 a1i)(dx_must_be_table:DefX P w K mg base "must_be_table" 6 1 a1y):FnOk P w K mg base (CXE P w) 7 f fd ["table"] (SpX K 1 a3z):=
 a6B F b3N fun cdv A outer s H E hr=>(by cases T;injections a4a a6A a2p PA.nox q4_ z2_ q8_ PS.nox a3r v9_ q4_ z2_ q8_ a3s a5b)
theorem c2A:FnScope ["_law_script","_law_k"] ["_law_script","_law_k"] (y2_ a9u):=x7_
def a5x:Mo Fl:=(q1_ (y4_ (mT (z4_ dLt (z0_ 1) (mCB v8_ (z1_ (z0_ 0) z3_)))) (v0_ (z4_ dIx (z0_ 0) (z0_ 1))) mNx) (v0_ (mC (.int 0))))
def a4t:Fn:=fnM 2 a5x
theorem c2B{f:Addr}(F:Fun K "_law_cell_at" "_law_cell_at" a9u f fd)(T:Txt K mg):FnOk P w K mg base CX0 1 f fd ["_law_script","_law_k"] (SpF K 2 a4t):=
 k1_ F c2A fun cdv A outer s H E hr=>(by cases T;injections q6_ k7_ w9_ z2_ x4_ w7_ z5_ z2_ z7_ q9_ y7_ k0_ z2_ z2_ w2_ q9_ y7_ q0_)
theorem b3O:FnScope ["_law_script","_law_k","_law_cell"] ["_law_script","_law_k"] (y2_ a9v):=x7_
def a5y:Mo Fl:=(q1_ (v2_ 2 (mCD 2 a4t (z6_ (z0_ 0) (z6_ (z0_ 1) z8_)))) (q1_ (y4_ (mT (z4_ dGe (z0_ 2) (z4_ a0N (mC (.int 10)) (mC (.int 18))))) (a2h (x5_ (z1_ (z4_ k6_ (z0_ 2) (z4_ a0N (mC (.int 10)) (mC (.int 18)))) (z1_ (mC (.bl true)) z3_)))) mNx) (a2h (x5_ (z1_ (z4_ a0a (z0_ 2) (mC (.int 2147483647))) (z1_ (mC (.bl false)) z3_))))))
def a4u:Fn:=fnM 3 a5y
theorem c2C{f:Addr}(F:Fun K "_law_state" "_law_state" a9v f fd)(T:Txt K mg)(d__law_cell_at:Def P w K mg base "_law_cell_at" 1 2 a4t):FnOk P w K mg base CX0 2 f fd ["_law_script","_law_k"] (SpF K 2 a4u):=
 k1_ F b3O fun cdv A outer s H E hr=>(by have n0:=b3O.nd;cases T;injections q6_ x6_ v9_ q4_ z2_ q4_ z2_ q8_ q6_ k7_ w9_ z2_ v5_ q0_ q0_ q9_ a3R w3_ z5_ v5_ z2_ v5_ q0_ q0_ z5_ w1_ z7_ w2_ q9_ a3R w3_ z5_ v5_ z2_ q0_ z5_ w1_ z7_)
theorem b3P:FnScope ["_law_state_here","_law_many","_law_mixed","_law_found"] ["_law_state_here","_law_many"] (y2_ a9w):=x7_
def a5z:Mo Fl:=(q1_ (y4_ (mT (a0b 0 (mC (.int 1)))) (q1_ (v2_ 3 (z4_ a0a (a0b 0 (mC (.int 0))) (z0_ 1))) (q1_ (a1B (z4_ a4O (a0b 0 (mC (.int 0))) (z0_ 1)) (gS 0 (mC (.int 0)))) (v0_ (z0_ 3)))) mNx) (q1_ (a1B (z4_ a0a (z4_ v7_ (z4_ a0c (a0b 0 (mC (.int 0))) (mC (.int 48271))) (mC (.int 29))) (mC (.int 2147483647))) (gS 0 (mC (.int 0)))) (q1_ (v2_ 2 (z4_ a0a (z4_ v7_ (z4_ v7_ (z4_ a0c (a0b 0 (mC (.int 0))) (a0b 0 (mC (.int 0)))) (z4_ a0c (mC (.int 39373)) (a0b 0 (mC (.int 0))))) (mC (.int 7))) (mC (.int 2147483629)))) (q1_ (v2_ 2 (z4_ a0a (z4_ v7_ (z4_ a0c (z0_ 2) (z0_ 2)) (z4_ a0c (mC (.int 16807)) (z0_ 2))) (mC (.int 2147483587)))) (v0_ (z4_ a0a (z4_ a4O (z0_ 2) (mC (.int 8))) (z0_ 1)))))))
def w5_:Fn:=fnM 4 a5z
theorem c2D{f:Addr}(F:Fun K "_law_take" "_law_take" a9w f fd)(T:Txt K mg):FnOk P w K mg base CX0 1 f fd ["_law_state_here","_law_many"] (SpF K 2 w5_):=
 k1_ F b3P fun cdv A outer s H E hr=>(by have n0:=b3P.nd;cases T;injections q6_ k7_ g4_ a2g q0_ q6_ x6_ v5_ a2g q0_ z2_ q6_ a6e v5_ a2g q0_ z2_ a7U q0_ q9_ y7_ z2_ w2_ q6_ a6e v5_ v5_ v5_ a2g q0_ q0_ q0_ q0_ a7U q0_ q6_ x6_ v5_ v5_ v5_ v5_ a2g q0_ a2g q0_ v5_ q0_ a2g q0_ q0_ q0_ q6_ x6_ v5_ v5_ v5_ z2_ z2_ v5_ q0_ z2_ q0_ q9_ y7_ v5_ v5_ z2_ q0_ z2_)
theorem b3Q:FnScope ["_law_held_here","_law_found","_law_bit","_law_longer","_law_row","_law_here"] ["_law_held_here"] (y2_ a9x):=x7_
theorem c2E:(["-0","-1","-2","-3","-4","-5","_law_row","_law_here"]:List Str).Nodup:=by decide+kernel
def c2F:Mo Fl:=(q1_ (v2_ 1 (mF (x5_ (z1_ (v6_ (z1_ (v6_ z3_) (z1_ (mC (.int 0)) z3_))) z3_)))) (q1_ (u2_ (y0_ (z0_ 0)) (gN 2) (q1_ (j5_ 3 (x5_ z3_)) (q1_ (u2_ (y0_ (z0_ 1)) (gT 2 (gCn (gN 4) (gCn (gN 5) gNl))) (q1_ (y4_ (a4P (mT (z4_ (dEq false) (z0_ 5) (mC (.int 1)))) (mT (z4_ (dEq false) (z0_ 2) (mC (.int 1))))) (a0q 3 (v6_ (z1_ (z4_ v7_ (z0_ 4) (v6_ (z1_ (u5_ (mC (.int 1))) z3_))) (z1_ (mC (.int 0)) z3_)))) mNx) (q1_ (a0q 3 (v6_ (z1_ (z4_ v7_ (z0_ 4) (v6_ (z1_ (mC (.int 0)) z3_))) (z1_ (z0_ 5) z3_)))) (y4_ (a4P (mT (z4_ (dEq false) (z0_ 5) (mC (.int 0)))) (mT (z4_ (dEq false) (z0_ 2) (mC (.int 0))))) (a0q 3 (v6_ (z1_ (z4_ v7_ (z0_ 4) (v6_ (z1_ (mC (.int 1)) z3_))) (z1_ (mC (.int 1)) z3_)))) mNx)))) (v2_ 1 (z0_ 3))))) (a2h (v1_ (y0_ (z0_ 1)) [false,false,false,false,false,false] 2 (gT 2 (gCn (gN 6) (gCn (gN 7) gNl))) (mT (z4_ (dEq false) (z0_ 7) (mC (.int 1)))) (z0_ 6)))))
def a3b:Fn:=fnM 6 c2F
theorem c2G{f:Addr}(F:Fun K "_law_rows" "_law_rows" a9x f fd)(T:Txt K mg):FnOk P w K mg base CX0 1 f fd ["_law_held_here"] (SpF K 1 a3b):=
 k1_ F b3Q fun cdv A outer s H E hr=>(by have n0:=c2E;have n1:=b3Q.nd;cases T;injections q6_ x6_ y3_ w3_ z5_ y9_ z5_ y9_ z7_ z5_ q0_ z7_ z7_ q6_ a0D k8_ z2_ y5_ q6_ a1r w3_ z7_ q6_ a0D k8_ z2_ a2k a0n y5_ a0n y5_ a2j q6_ k7_ a0O a7N w9_ z2_ q0_ a7M w9_ z2_ q0_ q9_ a2i z5_ y9_ z5_ v5_ z2_ y9_ z5_ a2F q0_ z7_ z5_ q0_ z7_ z7_ w2_ q6_ a2i z5_ y9_ z5_ v5_ z2_ y9_ z5_ q0_ z7_ z5_ z2_ z7_ z7_ q9_ k7_ a0O a7N w9_ z2_ q0_ a7M w9_ z2_ q0_ q9_ a2i z5_ y9_ z5_ v5_ z2_ y9_ z5_ q0_ z7_ z5_ q0_ z7_ z7_ w2_ q9_ x6_ z2_ q9_ a3R;exists (j6_ (N':=["-0","-1","-2","-3","-4","-5","_law_row","_law_here"]) (keep:=[false,false,false,false,false,false]) (more:=2) ?_ ?_ ?_ ?_ ?_ ?_ ?_);injections k8_ z2_ a2k a0n y5_ a0n y5_ a2j a3T w9_ z2_ q0_ z2_)
theorem c2H:FnScope ["_law_held_here","_law_row"] ["_law_held_here","_law_row"] (y2_ a9y):=x7_
theorem c2I:(["-0","-1","_law_first","_law_second"]:List Str).Nodup:=by decide+kernel
def b0d:Mo Fl:=(v0_ (mCB g1_ (z1_ (mF (v1_ (a0Q (z1_ (z0_ 0) (z1_ (z0_ 1) z3_))) [false,false] 2 (gT 2 (gCn (gN 2) (gCn (gN 3) gNl))) v3_ (z4_ v7_ (z0_ 2) (z0_ 3)))) z3_)))
def a3A:Fn:=fnM 2 b0d
theorem c2J{f:Addr}(F:Fun K "_law_held" "_law_held" a9y f fd)(T:Txt K mg):FnOk P w K mg base CX0 1 f fd ["_law_held_here","_law_row"] (SpF K 2 a3A):=
 k1_ F c2H fun cdv A outer s H E hr=>(by have n0:=c2I;cases T;injections q9_ y7_ a0m a0A z5_ y3_;exists (j6_ (N':=["-0","-1","_law_first","_law_second"]) (keep:=[false,false]) (more:=2) ?_ ?_ ?_ ?_ ?_ ?_ ?_);injections a3Y z5_ z2_ z5_ z2_ z7_ a2k a0n y5_ a0n y5_ a2j k9_ v5_ z2_ z2_ z7_)
theorem b3R:FnScope ["_law_state_here","_law_side","_law_held_here","_law_found","_law_few","_law_turn","_law_rows_here","_law_row","_law_most"] ["_law_state_here","_law_side"] (y2_ a9z):=x7_
theorem c2K:(["-0","-1","-2","-3","-4","-5","-6","-7","_law_most","_law_row"]:List Str).Nodup:=by decide+kernel
theorem c2L:(["-0","-1","-2","-3","-4","-5","-6","-7","-8","_law_row"]:List Str).Nodup:=by decide+kernel
def b0e:Mo Fl:=(q1_ (v2_ 2 (z4_ a0c (v6_ (z1_ (mC (.int 0)) z3_)) (z0_ 1))) (q1_ (v2_ 3 (v6_ z3_)) (q1_ (v2_ 4 (mCD 2 w5_ (k4_ 0 (z6_ (mC (.int 3)) z8_)))) (q1_ (u2_ (j1_ (z1_ (z0_ 1) z3_)) (gN 5) (q1_ (v2_ 6 (mF (a0e 1 a3b (z6_ (z0_ 2) z8_)))) (q1_ (y4_ (mT (z4_ (dEq false) (z0_ 4) (mC (.int 0)))) (q1_ (v2_ 8 (mCB (a0p false) (z1_ (mF (v1_ (y0_ (z0_ 6)) [false,false,false,false,false,false,false,false,false] 1 (gN 9) v3_ (mCB (a0p false) (z1_ (z0_ 9) z3_)))) z3_))) (j5_ 6 (v1_ (y0_ (z0_ 6)) [false,false,false,false,false,false,false,false,true] 1 (gN 9) (mT (z4_ (dEq false) (mCB (a0p false) (z1_ (z0_ 9) z3_)) (z0_ 8))) (z0_ 9)))) mNx) (q1_ (v2_ 7 (z4_ dIx (z0_ 6) (mCD 2 w5_ (k4_ 0 (z6_ (mCB v8_ (z1_ (z0_ 6) z3_)) z8_))))) (q1_ (v2_ 3 (z4_ v7_ (z0_ 3) (v6_ (z1_ (z0_ 7) z3_)))) (v2_ 2 (mCD 2 a3A (z6_ (z0_ 2) (z6_ (z0_ 7) z8_))))))))) (v0_ (z0_ 3))))))
def a4v:Fn:=fnM 9 b0e
theorem c2M{f:Addr}(F:Fun K "_law_table" "_law_table" a9z f fd)(T:Txt K mg)(d__law_take:Def P w K mg base "_law_take" 1 2 w5_)(d__law_rows:Def P w K mg base "_law_rows" 1 1 a3b)(d__law_held:Def P w K mg base "_law_held" 1 2 a3A):FnOk P w K mg base CX0 2 f fd ["_law_state_here","_law_side"] (SpF K 2 a4v):=
 k1_ F b3R fun cdv A outer s H E hr=>(by have n0:=c2K;have n1:=c2L;have n2:=b3R.nd;cases T;injections q6_ x6_ v5_ y9_ z5_ q0_ z7_ z2_ q6_ x6_ y9_ z7_ q6_ x6_ v9_ a0B q4_ q0_ q8_ q6_ a0D a1t z5_ z2_ z7_ y5_ q6_ x6_ y3_ a2n q4_ z2_ q8_ q6_ k7_ w9_ z2_ q0_ q6_ x6_ x4_;exists (a6x rfl);injections z5_ y3_;exists (j6_ (N':=["-0","-1","-2","-3","-4","-5","-6","-7","-8","_law_row"]) (keep:=[false,false,false,false,false,false,false,false,false]) (more:=1) ?_ ?_ ?_ ?_ ?_ ?_ ?_);injections k8_ z2_ y5_ k9_ x4_;exists (a6x rfl);injections z5_ z2_ z7_ z7_ q9_;exists (a3U (N':=["-0","-1","-2","-3","-4","-5","-6","-7","_law_most","_law_row"]) (keep:=[false,false,false,false,false,false,false,false,true]) (more:=1) ?_ ?_ ?_ ?_ ?_ ?_ ?_ ?_ ?_ ?_ ?_);injections k8_ z2_ y5_ a3T w9_ x4_;exists (a6x rfl);injections z5_ z2_ z7_ z2_ z2_ w2_ q6_ x6_ k0_ z2_ v9_ a0B q4_ x4_ w7_ z5_ z2_ z7_ q8_ q6_ x6_ v5_ z2_ y9_ z5_ z2_ z7_ q9_ x6_ v9_ q4_ z2_ q4_ z2_ q8_ q9_ y7_ z2_)
theorem c2N:FnScope ["_law_thing"] ["_law_thing"] (y2_ a9A):=x7_
def c2O:Mo Fl:=(v0_ (a0h (mIs "int" (z0_ 0)) (a5Z (mIs "bool" (z0_ 0)))))
def a4w:Fn:=fnM 1 c2O
theorem c2P{f:Addr}(F:Fun K "_law_whole" "_law_whole" a9A f fd)(T:Txt K mg):FnOk P w K mg base CX0 1 f fd ["_law_thing"] (SpF K 1 a4w):=
 k1_ F c2N fun cdv A outer s H E hr=>(by cases T;injections q9_ y7_ a2E a0s z2_ a2D a7O a0s z2_)
theorem b3S:FnScope ["_law_row","_law_some"] ["_law_row"] (y2_ a9B):=x7_
theorem c2Q:(["-0","-1","_law_at"]:List Str).Nodup:=by decide+kernel
theorem c2R:(["-0","-1","_law_one"]:List Str).Nodup:=by decide+kernel
def b0f:Mo Fl:=(q1_ (j5_ 1 (v1_ (y0_ (z0_ 0)) [false,false] 1 (gN 2) (mT (z4_ (dEq true) (z0_ 2) (mC (.int 0)))) (z0_ 2))) (v0_ (a0h (z4_ (dEq false) (z4_ a0a (mCB v8_ (z1_ (z0_ 1) z3_)) (mC (.int 2))) (mC (.int 1))) (z4_ (dEq false) (z0_ 1) (mF (v1_ (j1_ (z1_ (mCB v8_ (z1_ (z0_ 1) z3_)) z3_)) [false,false] 1 (gN 2) v3_ (z4_ k6_ (mC (.int 1)) (z4_ a0c (mC (.int 2)) (z4_ a0a (z0_ 2) (mC (.int 2)))))))))))
def a2y:Fn:=fnM 2 b0f
theorem c2S{f:Addr}(F:Fun K "_law_turns" "_law_turns" a9B f fd)(T:Txt K mg):FnOk P w K mg base CX0 1 f fd ["_law_row"] (SpF K 1 a2y):=
 k1_ F b3S fun cdv A outer s H E hr=>(by have n0:=c2Q;have n1:=c2R;have n2:=b3S.nd;cases T;injections q6_;exists (a3U (N':=["-0","-1","_law_one"]) (keep:=[false,false]) (more:=1) ?_ ?_ ?_ ?_ ?_ ?_ ?_ ?_ ?_ ?_ ?_);injections k8_ z2_ y5_ a3T w9_ z2_ q0_ z2_ q9_ y7_ a2E a1S v5_ x4_ w7_ z5_ z2_ z7_ q0_ q0_ a2D a1S z2_ y3_;exists (j6_ (N':=["-0","-1","_law_at"]) (keep:=[false,false]) (more:=1) ?_ ?_ ?_ ?_ ?_ ?_ ?_);injections a1t z5_ x4_ w7_ z5_ z2_ z7_ z7_ y5_ k9_ v5_ q0_ v5_ q0_ v5_ z2_ q0_)
theorem b3T:FnScope ["_law_thing","_law_row"] ["_law_thing"] (y2_ a9C):=x7_
theorem c2T:(["_law_thing","_law_row","_law_at"]:List Str).Nodup:=by decide+kernel
theorem c2U:(["-0","-1","_law_at","_law_row"]:List Str).Nodup:=by decide+kernel
theorem c2V:(["-0","-1","_law_one"]:List Str).Nodup:=by decide+kernel
def a3B:Mo Fl:=(q1_ (y4_ (j0_ (x2_ (mT (mIs "tuple" (z0_ 0)))) (x2_ (mT (a1a dLe dLe (mC (.int 1)) (mCB v8_ (z1_ (z0_ 0) z3_)) (mC (.int 6)))))) (v0_ (mC (.bl false))) mNx) (q1_ (u2_ (y0_ (z0_ 0)) (gN 1) (q1_ (y4_ (j0_ (x2_ (mT (mIs "tuple" (z0_ 1)))) (mT (z4_ (dEq true) (mCB v8_ (z1_ (z0_ 1) z3_)) (mCB v8_ (z1_ (z0_ 0) z3_))))) (v0_ (mC (.bl false))) mNx) (y4_ (j0_ (x2_ (mT (mCB a1C (z1_ (mF (v1_ (y0_ (z0_ 1)) [false,false] 1 (gN 2) v3_ (a0h (mCD 1 a4w (z6_ (z0_ 2) z8_)) (a1a dLe dLe (u5_ (mC (.int 1))) (z0_ 2) (mC (.int 1)))))) z3_)))) (x2_ (mT (mCD 1 a2y (z6_ (z0_ 1) z8_))))) (v0_ (mC (.bl false))) mNx))) (v0_ (mCB a1C (z1_ (mF (v1_ (j1_ (z1_ (mCB v8_ (z1_ (z0_ 0) z3_)) z3_)) [true,true] 1 (gN 2) v3_ (mCD 1 a2y (z6_ (mF (v1_ (y0_ (z0_ 0)) [false,false,true] 1 (gN 3) v3_ (z4_ dIx (z0_ 3) (z0_ 2)))) z8_)))) z3_)))))
def a1Z:Fn:=fnM 2 a3B
theorem c2W{f:Addr}(F:Fun K "_law_is_table" "_law_is_table" a9C f fd)(T:Txt K mg)(d__law_turns:Def P w K mg base "_law_turns" 1 1 a2y)(d__law_whole:Def P w K mg base "_law_whole" 1 1 a4w):FnOk P w K mg base CX0 2 f fd ["_law_thing"] (SpF K 1 a1Z):=
 k1_ F b3T fun cdv A outer s H E hr=>(by have n0:=c2T;have n1:=c2U;have n2:=c2V;have n3:=b3T.nd;cases T;injections q6_ k7_ a0O a1p u1_ g4_ a0s z2_ a1o u1_ a7P q0_ x4_ w7_ z5_ z2_ z7_ q0_ q9_ y7_ w1_ w2_ q6_ a0D k8_ z2_ y5_ q6_ k7_ a0O a1p u1_ g4_ a0s z2_ a1o w9_ x4_ w7_ z5_ z2_ z7_ x4_ w7_ z5_ z2_ z7_ q9_ y7_ w1_ w2_ q9_ k7_ a0O a1p u1_ g4_ x4_;exists (a3p rfl);injections z5_ y3_;exists (j6_ (N':=["-0","-1","_law_one"]) (keep:=[false,false]) (more:=1) ?_ ?_ ?_ ?_ ?_ ?_ ?_);injections k8_ z2_ y5_ k9_ a2E v9_ q4_ z2_ q8_ a2D b1F a2F q0_ z2_ q0_ z7_ a1o u1_ g4_ v9_ q4_ z2_ q8_ q9_ y7_ w1_ w2_ q9_ y7_ x4_;exists (a3p rfl);injections z5_ y3_;exists (j6_ (N':=["_law_thing","_law_row","_law_at"]) (keep:=[true,true]) (more:=1) ?_ ?_ ?_ ?_ ?_ ?_ ?_);injections a1t z5_ x4_ w7_ z5_ z2_ z7_ z7_ y5_ k9_ v9_ q4_ y3_;exists (j6_ (N':=["-0","-1","_law_at","_law_row"]) (keep:=[false,false,true]) (more:=1) ?_ ?_ ?_ ?_ ?_ ?_ ?_);injections k8_ z2_ y5_ k9_ k0_ z2_ z2_ q8_ z7_)
theorem b3U:FnScope ["_law_state_here","_law_some"] ["_law_state_here"] (y2_ a9D):=x7_
def b0g:Mo Fl:=(q1_ (v2_ 1 (mF (x5_ (z1_ (mC .non) (z1_ (mC (.bl true)) (z1_ (mC (.bl false)) (z1_ (u5_ (mC (.int 1))) (z1_ (mC (.int 0)) (z1_ (mC (.int 1)) (z1_ (mC (.str "")) (z1_ (mC (.str "+")) (z1_ (v6_ z3_) (z1_ (mF (x5_ z3_)) (z1_ (v6_ (z1_ (mC (.bl true)) z3_)) (z1_ (mF (x5_ (z1_ (v6_ (z1_ (mC (.int 1)) z3_)) z3_))) (z1_ (mC .emp) (z1_ (v6_ (z1_ (mC .non) z3_)) (z1_ (v6_ (z1_ (v6_ (z1_ (mC (.bl true)) z3_)) z3_)) z3_)))))))))))))))))) (v0_ (z4_ dIx (mF (a0P (z0_ 1) (mF (x5_ (z1_ (z4_ a0N (mC (.int 10)) (mC (.int 29))) (z1_ (v6_ (z1_ (v6_ z3_) z3_)) (z1_ (v6_ (z1_ (v6_ (z1_ (mC (.int 0)) z3_)) z3_)) (z1_ (v6_ (z1_ (v6_ (z1_ (mC (.int 1)) z3_)) (z1_ (v6_ (z1_ (mC (.int 1)) z3_)) z3_))) (z1_ (v6_ (z1_ (v6_ (z1_ (v6_ (z1_ (mC (.int 1)) z3_)) z3_)) z3_)) z3_))))))))) (mCD 2 w5_ (k4_ 0 (z6_ (mC (.int 20)) z8_))))))
def a4x:Fn:=fnM 2 b0g
theorem c2X{f:Addr}(F:Fun K "_law_odd" "_law_odd" a9D f fd)(T:Txt K mg)(d__law_take:Def P w K mg base "_law_take" 1 2 w5_):FnOk P w K mg base CX0 2 f fd ["_law_state_here"] (SpF K 1 a4x):=
 k1_ F b3U fun cdv A outer s H E hr=>(by have n0:=b3U.nd;cases T;injections q6_ x6_ y3_ w3_ z5_ a0Z z5_ w1_ z5_ w1_ z5_ a2F q0_ z5_ q0_ z5_ q0_ z5_ g0_ z5_ g0_ z5_ y9_ z7_ z5_ y3_ w3_ z7_ z5_ y9_ z5_ w1_ z7_ z5_ y3_ w3_ z5_ y9_ z5_ q0_ z7_ z7_ z5_ b2V z5_ y9_ z5_ a0Z z7_ z5_ y9_ z5_ y9_ z5_ w1_ z7_ z7_ z7_ q9_ y7_ k0_ y3_ a2m z2_ y3_ w3_ z5_ v5_ q0_ q0_ z5_ y9_ z5_ y9_ z7_ z7_ z5_ y9_ z5_ y9_ z5_ q0_ z7_ z7_ z5_ y9_ z5_ y9_ z5_ q0_ z7_ z5_ y9_ z5_ q0_ z7_ z7_ z5_ y9_ z5_ y9_ z5_ y9_ z5_ q0_ z7_ z7_ z7_ z7_ v9_ a0B q4_ q0_ q8_)
theorem b3V:FnScope ["_law_state_here","_law_table_here","_law_row","_law_odd_here","_law_rows_here","_law_one","_law_other","_law_some","_law_at","_law_k"] ["_law_state_here","_law_table_here"] (y2_ a9E):=x7_
def b0h:Mo Fl:=(q1_ (a4R 8 9 (z1_ (mCD 2 w5_ (k4_ 0 (z6_ (mCB v8_ (z1_ (z0_ 1) z3_)) z8_))) (z1_ (mCD 2 w5_ (k4_ 0 (z6_ (mCB v8_ (z1_ (z0_ 1) z3_)) z8_))) z3_))) (q1_ (v2_ 2 (z4_ dIx (z0_ 1) (z0_ 8))) (q1_ (v2_ 3 (z4_ dIx (mF (x5_ (z1_ (mC (.int 0)) (z1_ (mC (.int 1)) (z1_ (u5_ (mC (.int 1))) (z1_ (mC (.int 2)) (z1_ (u5_ (mC (.int 2))) (z1_ (mC (.bl true)) (z1_ (mC (.bl false)) (z1_ (mC .non) (z1_ (mC (.str "1")) (z1_ (v6_ (z1_ (mC (.int 1)) z3_)) (z1_ (z4_ a0N (mC (.int 10)) (mC (.int 29))) (z1_ (u5_ (z4_ dIx (z0_ 2) (z0_ 9))) z3_)))))))))))))) (mCD 2 w5_ (k4_ 0 (z6_ (mC (.int 12)) z8_))))) (q1_ (v2_ 4 (mF (x5_ (z1_ (z4_ v7_ (z4_ v7_ (mSl (z0_ 2) x8_ (x9_ (z0_ 9))) (v6_ (z1_ (z0_ 3) z3_))) (mSl (z0_ 2) (x9_ (z4_ v7_ (z0_ 9) (mC (.int 1)))) x8_)) (z1_ (z4_ v7_ (z4_ v7_ (mSl (z0_ 2) x8_ (x9_ (z0_ 9))) (v6_ (z1_ (z0_ 3) z3_))) (mSl (z0_ 2) (x9_ (z0_ 9)) x8_)) (z1_ (z4_ v7_ (mSl (z0_ 2) x8_ (x9_ (z0_ 9))) (mSl (z0_ 2) (x9_ (z4_ v7_ (z0_ 9) (mC (.int 1)))) x8_)) (z1_ (mF (mCL a1T (z1_ (z0_ 2) z3_))) z3_))))))) (q1_ (v2_ 5 (z4_ dIx (mF (a0P (z0_ 4) (mF (x5_ (z1_ (a1V (z0_ 2)) (z1_ (mC .non) z3_)))))) (z4_ dIx (mF (x5_ (z1_ (mC (.int 0)) (z1_ (mC (.int 0)) (z1_ (mC (.int 0)) (z1_ (mC (.int 0)) (z1_ (mC (.int 0)) (z1_ (mC (.int 1)) (z1_ (mC (.int 2)) (z1_ (mC (.int 3)) (z1_ (mC (.int 4)) (z1_ (mC (.int 5)) z3_)))))))))))) (mCD 2 w5_ (k4_ 0 (z6_ (mC (.int 10)) z8_)))))) (q1_ (v2_ 6 (z4_ dIx (z0_ 1) (mCD 2 w5_ (k4_ 0 (z6_ (mCB v8_ (z1_ (z0_ 1) z3_)) z8_))))) (q1_ (v2_ 7 (mF (x5_ (z1_ (z4_ v7_ (z4_ v7_ (mSl (z0_ 1) x8_ (x9_ (z0_ 8))) (v6_ (z1_ (z0_ 5) z3_))) (mSl (z0_ 1) (x9_ (z4_ v7_ (z0_ 8) (mC (.int 1)))) x8_)) (z1_ (z4_ v7_ (z4_ v7_ (mSl (z0_ 1) x8_ (x9_ (z0_ 8))) (v6_ (z1_ (z0_ 6) z3_))) (mSl (z0_ 1) (x9_ (z4_ v7_ (z0_ 8) (mC (.int 1)))) x8_)) z3_))))) (q1_ (v2_ 7 (mF (a0P (z0_ 7) (mF (x5_ (z1_ (z4_ v7_ (mSl (z0_ 1) x8_ (x9_ (z0_ 8))) (mSl (z0_ 1) (x9_ (z4_ v7_ (z0_ 8) (mC (.int 1)))) x8_)) (z1_ (z4_ v7_ (z4_ v7_ (mSl (z0_ 1) x8_ (x9_ (z0_ 8))) (v6_ (z1_ (z0_ 2) z3_))) (mSl (z0_ 1) (x9_ (z0_ 8)) x8_)) (z1_ (mF (mCL a1T (z1_ (z0_ 1) z3_))) (z1_ (a1V (z0_ 1)) z3_))))))))) (q1_ (v2_ 7 (mF (a0P (z0_ 7) (mF (x5_ (z1_ (v6_ (z1_ (z0_ 1) z3_)) (z1_ (mC .non) (z1_ (z0_ 2) z3_)))))))) (v0_ (z4_ dIx (z0_ 7) (z4_ dIx (mF (x5_ (z1_ (mC (.int 0)) (z1_ (mC (.int 0)) (z1_ (mC (.int 0)) (z1_ (mC (.int 0)) (z1_ (mC (.int 1)) (z1_ (mC (.int 1)) (z1_ (mC (.int 2)) (z1_ (mC (.int 3)) (z1_ (mC (.int 4)) (z1_ (mC (.int 5)) (z1_ (mC (.int 6)) (z1_ (mC (.int 7)) (z1_ (mC (.int 8)) z3_))))))))))))))) (mCD 2 w5_ (k4_ 0 (z6_ (mC (.int 13)) z8_)))))))))))))))
def a4y:Fn:=fnM 10 b0h
theorem c2Y{f:Addr}(F:Fun K "_law_bent" "_law_bent" a9E f fd)(T:Txt K mg)(d__law_take:Def P w K mg base "_law_take" 1 2 w5_):FnOk P w K mg base CX0 2 f fd ["_law_state_here","_law_table_here"] (SpF K 2 a4y):=
 k1_ F b3V fun cdv A outer s H E hr=>(by have n0:=b3V.nd;cases T;injections q6_;exists (b1J (i:=8) (j:=9) ?_ ?_ ?_ ?_ ?_ ?_ ?_ ?_ ?_ ?_);injections z5_ v9_ a0B q4_ x4_ w7_ z5_ z2_ z7_ q8_ z5_ v9_ a0B q4_ x4_ w7_ z5_ z2_ z7_ q8_ z7_ q6_ x6_ k0_ z2_ z2_ q6_ x6_ k0_ y3_ w3_ z5_ q0_ z5_ q0_ z5_ a2F q0_ z5_ q0_ z5_ a2F q0_ z5_ w1_ z5_ w1_ z5_ a0Z z5_ g0_ z5_ y9_ z5_ q0_ z7_ z5_ v5_ q0_ q0_ z5_ a2F k0_ z2_ z2_ z7_ v9_ a0B q4_ q0_ q8_ q6_ x6_ y3_ w3_ z5_ v5_ v5_ u8_ z2_ g8_ g9_ z2_ y9_ z5_ z2_ z7_ u8_ z2_ g9_ v5_ z2_ q0_ g8_ z5_ v5_ v5_ u8_ z2_ g8_ g9_ z2_ y9_ z5_ z2_ z7_ u8_ z2_ g9_ z2_ g8_ z5_ v5_ u8_ z2_ g8_ g9_ z2_ u8_ z2_ g9_ v5_ z2_ q0_ g8_ z5_ y3_ a6a a4K z5_ z2_ z7_ z7_ q6_ x6_ k0_ y3_ a2m z2_ y3_ w3_ z5_ a6p z2_ z5_ a0Z z7_ k0_ y3_ w3_ z5_ q0_ z5_ q0_ z5_ q0_ z5_ q0_ z5_ q0_ z5_ q0_ z5_ q0_ z5_ q0_ z5_ q0_ z5_ q0_ z7_ v9_ a0B q4_ q0_ q8_ q6_ x6_ k0_ z2_ v9_ a0B q4_ x4_ w7_ z5_ z2_ z7_ q8_ q6_ x6_ y3_ w3_ z5_ v5_ v5_ u8_ z2_ g8_ g9_ z2_ y9_ z5_ z2_ z7_ u8_ z2_ g9_ v5_ z2_ q0_ g8_ z5_ v5_ v5_ u8_ z2_ g8_ g9_ z2_ y9_ z5_ z2_ z7_ u8_ z2_ g9_ v5_ z2_ q0_ g8_ z7_ q6_ x6_ y3_ a2m z2_ y3_ w3_ z5_ v5_ u8_ z2_ g8_ g9_ z2_ u8_ z2_ g9_ v5_ z2_ q0_ g8_ z5_ v5_ v5_ u8_ z2_ g8_ g9_ z2_ y9_ z5_ z2_ z7_ u8_ z2_ g9_ z2_ g8_ z5_ y3_ a6a a4K z5_ z2_ z7_ z5_ a6p z2_ z7_ q6_ x6_ y3_ a2m z2_ y3_ w3_ z5_ y9_ z5_ z2_ z7_ z5_ a0Z z5_ z2_ z7_ q9_ y7_ k0_ z2_ k0_ y3_ w3_ z5_ q0_ z5_ q0_ z5_ q0_ z5_ q0_ z5_ q0_ z5_ q0_ z5_ q0_ z5_ q0_ z5_ q0_ z5_ q0_ z5_ q0_ z5_ q0_ z5_ q0_ z7_ v9_ a0B q4_ q0_ q8_)
theorem b3W:FnScope ["_law_table_here","_law_side","_law_found","_law_i"] ["_law_table_here"] (y2_ a9F):=x7_
theorem c2Z:(["_law_table_here","-1","-2","_law_i","_law_j"]:List Str).Nodup:=by decide+kernel
theorem c3a:(["-0","-1","-2","-3","_law_j","_law_row"]:List Str).Nodup:=by decide+kernel
def b0i:Mo Fl:=(q1_ (v2_ 1 (mCB v8_ (z1_ (z0_ 0) z3_))) (q1_ (j5_ 2 (x5_ z3_)) (q1_ (u2_ (j1_ (z1_ (z4_ v7_ (z0_ 1) (mC (.int 1))) z3_)) (gN 3) (a0q 2 (mCB g1_ (z1_ (mF (v1_ (j1_ (z1_ (z4_ v7_ (z0_ 1) (mC (.int 1))) z3_)) [true,false,false,true] 1 (gN 4) v3_ (mCB g5_ (z1_ (mF (v1_ (y0_ (mSl (z0_ 0) x8_ (x9_ (z0_ 3)))) [false,false,false,false,true] 1 (gN 5) v3_ (mCB g5_ (z1_ (mSl (z0_ 5) x8_ (x9_ (z0_ 4))) z3_)))) z3_)))) z3_)))) (v0_ (mCB g1_ (z1_ (z0_ 2) z3_))))))
def a1j:Fn:=fnM 4 b0i
theorem c3b{f:Addr}(F:Fun K "_law_heights" "_law_heights" a9F f fd)(T:Txt K mg):FnOk P w K mg base CX0 1 f fd ["_law_table_here"] (SpF K 1 a1j):=
 k1_ F b3W fun cdv A outer s H E hr=>(by have n0:=c2Z;have n1:=c3a;have n2:=b3W.nd;cases T;injections q6_ x6_ x4_ w7_ z5_ z2_ z7_ q6_ a1r w3_ z7_ q6_ a0D a1t z5_ v5_ z2_ q0_ z7_ y5_ q9_ a2i z5_ a0m a0A z5_ y3_;exists (j6_ (N':=["_law_table_here","-1","-2","_law_i","_law_j"]) (keep:=[true,false,false,true]) (more:=1) ?_ ?_ ?_ ?_ ?_ ?_ ?_);injections a1t z5_ v5_ z2_ q0_ z7_ y5_ k9_ x4_;exists (a1G rfl);injections z5_ y3_;exists (j6_ (N':=["-0","-1","-2","-3","_law_j","_law_row"]) (keep:=[false,false,false,false,true]) (more:=1) ?_ ?_ ?_ ?_ ?_ ?_ ?_);injections k8_ u8_ z2_ g8_ g9_ z2_ y5_ k9_ x4_;exists (a1G rfl);injections z5_ u8_ z2_ g8_ g9_ z2_ z7_ z7_ z7_ z7_ q9_ y7_ a0m a0A z5_ z2_ z7_)
theorem b3X:FnScope ["_law_heights_here","_law_side","_law_found","_law_i","_law_over","_law_under"] ["_law_heights_here"] (y2_ a9G):=x7_
theorem c3c:(["-0","-1","-2","-3","-4","-5","_law_first","_law_second"]:List Str).Nodup:=by decide+kernel
theorem c3d:(["-0","-1","-2","-3","-4","-5","_law_here","_law_after"]:List Str).Nodup:=by decide+kernel
theorem c3e:(["-0","-1","-2","-3","-4","-5","_law_here","_law_after"]:List Str).Nodup:=by decide+kernel
def b0j:Mo Fl:=(q1_ (v2_ 1 (z4_ k6_ (mCB v8_ (z1_ (z0_ 0) z3_)) (mC (.int 1)))) (q1_ (j5_ 2 (x5_ z3_)) (q1_ (u2_ (j1_ (z1_ (z0_ 1) z3_)) (gN 3) (q1_ (j5_ 4 (v1_ (a0Q (z1_ (z4_ dIx (z0_ 0) (z0_ 3)) (z1_ (a4h (z4_ dIx (z0_ 0) (z0_ 3)) (x9_ (mC (.int 1))) x8_) z3_))) [false,false,false,false,false,false] 2 (gT 2 (gCn (gN 6) (gCn (gN 7) gNl))) v3_ (z4_ k6_ (z0_ 7) (z0_ 6)))) (q1_ (j5_ 5 (v1_ (a0Q (z1_ (z4_ dIx (z0_ 0) (z4_ v7_ (z0_ 3) (mC (.int 1)))) (z1_ (a4h (z4_ dIx (z0_ 0) (z4_ v7_ (z0_ 3) (mC (.int 1)))) (x9_ (mC (.int 1))) x8_) z3_))) [false,false,false,false,false,false] 2 (gT 2 (gCn (gN 6) (gCn (gN 7) gNl))) v3_ (z4_ k6_ (z0_ 7) (z0_ 6)))) (a0q 2 (mCB g1_ (z1_ (mF (v1_ (a0Q (z1_ (z0_ 4) (z1_ (z0_ 5) z3_))) [false,false,false,false,false,false] 2 (gT 2 (gCn (gN 6) (gCn (gN 7) gNl))) v3_ (z4_ k6_ (z0_ 7) (z0_ 6)))) z3_)))))) (v0_ (mCB g1_ (z1_ (z0_ 2) z3_))))))
def a3C:Fn:=fnM 6 b0j
theorem c3f{f:Addr}(F:Fun K "_law_from" "_law_from" a9G f fd)(T:Txt K mg):FnOk P w K mg base CX0 1 f fd ["_law_heights_here"] (SpF K 1 a3C):=
 k1_ F b3X fun cdv A outer s H E hr=>(by have n0:=c3c;have n1:=c3d;have n2:=c3e;have n3:=b3X.nd;cases T;injections q6_ x6_ v5_ x4_ w7_ z5_ z2_ z7_ q0_ q6_ a1r w3_ z7_ q6_ a0D a1t z5_ z2_ z7_ y5_ q6_;exists (a3U (N':=["-0","-1","-2","-3","-4","-5","_law_here","_law_after"]) (keep:=[false,false,false,false,false,false]) (more:=2) ?_ ?_ ?_ ?_ ?_ ?_ ?_ ?_ ?_ ?_ ?_);injections a3Y z5_ k0_ z2_ z2_ z5_ a8R k0_ z2_ z2_ g9_ q0_ g8_ z7_ a2k a0n y5_ a0n y5_ a2j k9_ v5_ z2_ z2_ q6_;exists (a3U (N':=["-0","-1","-2","-3","-4","-5","_law_here","_law_after"]) (keep:=[false,false,false,false,false,false]) (more:=2) ?_ ?_ ?_ ?_ ?_ ?_ ?_ ?_ ?_ ?_ ?_);injections a3Y z5_ k0_ z2_ v5_ z2_ q0_ z5_ a8R k0_ z2_ v5_ z2_ q0_ g9_ q0_ g8_ z7_ a2k a0n y5_ a0n y5_ a2j k9_ v5_ z2_ z2_ q9_ a2i z5_ a0m a0A z5_ y3_;exists (j6_ (N':=["-0","-1","-2","-3","-4","-5","_law_first","_law_second"]) (keep:=[false,false,false,false,false,false]) (more:=2) ?_ ?_ ?_ ?_ ?_ ?_ ?_);injections a3Y z5_ z2_ z5_ z2_ z7_ a2k a0n y5_ a0n y5_ a2j k9_ v5_ z2_ z2_ z7_ z7_ q9_ y7_ a0m a0A z5_ z2_ z7_)
theorem c3g:FnScope ["_law_found","_law_due"] ["_law_found","_law_due"] (y2_ a9H):=x7_
theorem c3h:(["-0","-1","_law_one","_law_other"]:List Str).Nodup:=by decide+kernel
def a3D(r_:Fn):Mo Fl:=(q1_ (y4_ (mT (b2t "tuple" "list" (z0_ 1))) (q1_ (y4_ (j0_ (mT (z4_ (dEq true) (mIs "tuple" (z0_ 0)) (mIs "tuple" (z0_ 1)))) (mT (z4_ (dEq true) (mIs "list" (z0_ 0)) (mIs "list" (z0_ 1))))) (v0_ (mC (.bl false))) mNx) (v0_ (a0h (z4_ (dEq false) (mCB v8_ (z1_ (z0_ 0) z3_)) (mCB v8_ (z1_ (z0_ 1) z3_))) (mCB a1C (z1_ (mF (v1_ (a0Q (z1_ (z0_ 0) (z1_ (z0_ 1) z3_))) [false,false] 2 (gT 2 (gCn (gN 2) (gCn (gN 3) gNl))) v3_ (mCD 2 r_ (z6_ (z0_ 2) (z6_ (z0_ 3) z8_))))) z3_))))) mNx) (v0_ (a0h (z4_ (dEq false) (z0_ 0) (z0_ 1)) (z4_ (dEq false) (mIs "bool" (z0_ 0)) (mIs "bool" (z0_ 1))))))
def j7_:Nat->Fn
 |0=>fun _=>none
 |n_+1=>fnM 2 (a3D (j7_ n_))
theorem b3Y{f:Addr}{fd:FuncData}(F:Fun K "_law_same" "_law_same" a9H f fd)(T:Txt K mg)(hmg:mg "_law_same"=some (.ref f))(hkp:PySem.W.keepIn K (.ref f)=true)(hbd:a0M K fd ["_law_found","_law_due"] []):∀n_:Nat,FnOk P w K mg base CX0 (1+n_) f fd ["_law_found","_law_due"] (SpF K 2 (j7_ n_))
 |0=>b9K
 |n_+1=>by
  have d__law_same:Def P w K mg base "_law_same" (1+n_) 2 (j7_ n_):=⟨_,_,_,b3Y F T hmg hkp hbd n_,rfl,hmg,hkp,hbd⟩
  exact k1_ F c3g fun cdv A outer s H E hr=>(by have n0:=c3h;cases T;injections q6_ k7_ g4_ b2u z2_ q6_ k7_ a0O a1p w9_ a0s z2_ a0s z2_ a1o w9_ a0s z2_ a0s z2_ q9_ y7_ w1_ w2_ q9_ y7_ a2E a1S x4_ w7_ z5_ z2_ z7_ x4_ w7_ z5_ z2_ z7_ a2D x4_;exists (a3p rfl);injections z5_ y3_;exists (j6_ (N':=["-0","-1","_law_one","_law_other"]) (keep:=[false,false]) (more:=2) ?_ ?_ ?_ ?_ ?_ ?_ ?_);injections a3Y z5_ z2_ z5_ z2_ z7_ a2k a0n y5_ a0n y5_ a2j k9_ v9_ q4_ z2_ q4_ z2_ q8_ z7_ w2_ q9_ y7_ a2E a1S z2_ z2_ a2D a1S a0s z2_ a0s z2_)
theorem b0k:FnScope ["_law_call","_law_error","e","_law_sorts","_law_words"] ["_law_call"] (y2_ a9I):=x7_
theorem c3i:(["-0","-1","-2","-3","-4","_law_one"]:List Str).Nodup:=by decide+kernel
def c3j:Mo Fl:=(q1_ (y4_ (mT (z4_ a4d (z0_ 1) (mC .non))) (v0_ (mC .non)) mNx) (q1_ (j5_ 3 (x5_ (z1_ (a0T xN "NoTable" (z0_ 1)) (z1_ (a0T xN "NoHeights" (z0_ 1)) (z1_ (a0T xN "NoNet" (z0_ 1)) z3_))))) (q1_ (j5_ 3 (a0P (z0_ 3) (mF (x5_ (z1_ (a0T xN "NoPlace" (z0_ 1)) (z1_ (a0T xN "NoTriangle" (z0_ 1)) (z1_ (a0T xN "NoRow" (z0_ 1)) z3_))))))) (q1_ (a0q 3 (a0T xN "NoNumber" (z0_ 1))) (q1_ (j5_ 3 (a0P (z0_ 3) (mF (x5_ (z1_ (a0T xN "NoTurn" (z0_ 1)) (z1_ (a0T xN "NotAlike" (z0_ 1)) (z1_ (a0T xN "NoStep" (z0_ 1)) z3_))))))) (q1_ (j5_ 3 (a0P (z0_ 3) (mF (x5_ (z1_ (a0T xN "NoRows" (z0_ 1)) (z1_ (a0T xN "TooMany" (z0_ 1)) (z1_ (a0T xN "BadNote" (z0_ 1)) z3_))))))) (q1_ (y4_ (j0_ (x2_ (mT (b2G xN (z0_ 1)))) (mT (z4_ (dEq true) (mCB g5_ (z1_ (mF (v1_ (y0_ (z0_ 3)) [false,false,false,false,false] 1 (gN 5) v3_ (mCB a3W (z1_ (z0_ 5) z3_)))) z3_)) (mC (.int 1))))) (v0_ (mC (.str "none of these"))) mNx) (q1_ (v2_ 4 (mF (x5_ (z1_ (mC (.str "table")) (z1_ (mC (.str "heights")) (z1_ (mC (.str "net")) (z1_ (mC (.str "place")) (z1_ (mC (.str "triangle")) (z1_ (mC (.str "row")) (z1_ (mC (.str "number")) (z1_ (mC (.str "turn")) (z1_ (mC (.str "not alike")) (z1_ (mC (.str "step")) z3_))))))))))))) (v0_ (z4_ dIx (mF (a0P (z0_ 4) (mF (x5_ (z1_ (mC (.str "rows")) (z1_ (mC (.str "many")) (z1_ (mC (.str "note")) z3_))))))) (z4_ a8B (z0_ 3) (mC (.bl true)))))))))))))
def c3k(o:Option Str):Mo Fl:=q1_ (v2_ 1 (mC .non)) (q1_ (a8v xN 2 1 o) c3j)
def a0j:Option Str->Option D:=a8y 5 c3k
theorem c3l{f:Addr}(F:Fun K "_law_refused" "_law_refused" a9I f fd)(T:Txt K mg)(hmg:mg "_law_refused"=some (.ref f))(hbd:a0M K fd ["_law_call"] []):RefDef P w K mg base "_law_refused" 9 8 a0j:=
 c0B F b0k hmg hbd (by decide) fun cdv A outer s H E fl o G hr fn clo=>c0n (i0:=0) (i:=2) (j:=1) rfl rfl rfl T.ex b0k.nd rfl (Or.inl rfl) rfl rfl rfl rfl (by decide) rfl fn clo (by have n0:=c3i;have n1:=b0k.nd;cases T;injections q6_ k7_ w9_ z2_ a0Z q9_ y7_ a0Z w2_ q6_ a1r w3_ z5_ a0U z2_ z5_ a0U z2_ z5_ a0U z2_ z7_ q6_ a1r a2m z2_ y3_ w3_ z5_ a0U z2_ z5_ a0U z2_ z5_ a0U z2_ z7_ q6_ a2i z5_ a0U z2_ z7_ q6_ a1r a2m z2_ y3_ w3_ z5_ a0U z2_ z5_ a0U z2_ z5_ a0U z2_ z7_ q6_ a1r a2m z2_ y3_ w3_ z5_ a0U z2_ z5_ a0U z2_ z5_ a0U z2_ z7_ q6_ k7_ a0O a1p u1_ g4_ b2H z2_ a1o w9_ x4_;exists (a1G rfl);injections z5_ y3_;exists (j6_ (N':=["-0","-1","-2","-3","-4","_law_one"]) (keep:=[false,false,false,false,false]) (more:=1) ?_ ?_ ?_ ?_ ?_ ?_ ?_);injections k8_ z2_ y5_ k9_ a0m a5N z5_ z2_ z7_ z7_ q0_ q9_ y7_ g0_ w2_ q6_ x6_ y3_ w3_ z5_ g0_ z5_ g0_ z5_ g0_ z5_ g0_ z5_ g0_ z5_ g0_ z5_ g0_ z5_ g0_ z5_ g0_ z5_ g0_ z7_ q9_ y7_ k0_ y3_ a2m z2_ y3_ w3_ z5_ g0_ z5_ g0_ z5_ g0_ z7_ b2O z2_ w1_)
theorem b3Z:FnScope ["_law_table_here","_law_place","_law_rows_here","_law_found"] ["_law_table_here","_law_place"] (y2_ a9J):=x7_
theorem c3m:(["-0","-1","-2","-3","_law_row"]:List Str).Nodup:=by decide+kernel
def b0l:Mo Fl:=(a6J 2 (a2t (mkN 2 (y0_ (mCD 1 a1j (z6_ (z0_ 0) z8_))) [false,false,false,false] 1 (gN 4) (mCL a1T (z1_ (z0_ 4) z3_))) (a2t (a6O (r:=2) (z4_ dIx (z0_ 1) (mC (.int 0))) (z4_ dIx (z0_ 1) (mC (.int 1))) (a5k (r:=2) k6_ (a5l (z4_ dIx (z0_ 1) (mC (.int 0))) (z4_ dIx (z0_ 1) (mC (.int 1)))) (a6K (mC (.int 1))))) (a2t (a6N (r:=2) 3 (mCallN a3C)) (a6M (mIf (mT (mCD 1 a1Z (z6_ (z0_ 3) z8_))) (z0_ 3) (mC .non)))))))
def a3E:Fn:=fnM 4 b0l
theorem c3n{f:Addr}(F:Fun K "_law_behind" "_law_behind" a9J f fd)(T:Txt K mg)(d__law_from:Def P w K mg base "_law_from" 1 1 a3C)(d__law_is_table:Def P w K mg base "_law_is_table" 2 1 a1Z)(d__law_heights:Def P w K mg base "_law_heights" 1 1 a1j):FnOk P w K mg base CX0 3 f fd ["_law_table_here","_law_place"] (SpF K 2 a3E):=
 k1_ F b3Z fun cdv A outer s H E hr=>(by have n0:=c3m;have n1:=b3Z.nd;cases T;injections b3f a6L;exists (b3q (N':=["-0","-1","-2","-3","_law_row"]) (keep:=[false,false,false,false]) (more:=1) ?_ ?_ ?_ ?_ ?_ ?_ ?_ ?_ ?_ ?_ ?_);injections k8_ v9_ q4_ z2_ q8_ y5_ k9_ a6a a4K z5_ z2_ z7_ a6L b3p k0_ z2_ q0_ k0_ z2_ q0_ b3k b3n k0_ z2_ q0_ k0_ z2_ q0_ b3g q0_ a6L b3j en_call b3h b3i b1D g4_ v9_ q4_ z2_ q8_ z2_ a0Z)
theorem b4a:FnScope ["_law_table_here","_law_places","_law_row","_law_behind_here","_law_due","_law_turn","_law_place","_law_found"] ["_law_table_here"] (y2_ a9K):=x7_
theorem c3o:(["-0","-1","-2","_law_behind_here","-4","-5","-6","-7","_law_place"]:List Str).Nodup:=by decide+kernel
theorem c3p:(["_law_table_here","-1","-2","-3","-4","-5","-6","-7","_law_place"]:List Str).Nodup:=by decide+kernel
theorem c3q:(["-0","-1","_law_row","-3","-4","-5","-6","-7","_law_column"]:List Str).Nodup:=by decide+kernel
def a6W:Mo Fl:=(q1_ (j5_ 1 (x5_ z3_)) (q1_ (u2_ (a1s (z1_ (mC (.int 1)) (z1_ (mCB v8_ (z1_ (z0_ 0) z3_)) z3_))) (gN 2) (a5a 1 (v1_ (a1s (z1_ (mC (.int 1)) (z1_ (mCB v8_ (z1_ (z0_ 0) z3_)) z3_))) [false,false,true,false,false,false,false,false] 1 (gN 8) v3_ (v6_ (z1_ (z0_ 2) (z1_ (z0_ 8) z3_)))))) (q1_ (v2_ 3 (mCB a5m (z1_ (mF (v1_ (y0_ (z0_ 1)) [true,false,false,false,false,false,false,false] 1 (gN 8) v3_ (v6_ (z1_ (z0_ 8) (z1_ (mCD 2 a3E (z6_ (z0_ 0) (z6_ (z0_ 8) z8_))) z3_))))) z3_))) (q1_ (j5_ 4 (v1_ (y0_ (z0_ 1)) [false,false,false,true,false,false,false,false] 1 (gN 8) (mT (z4_ a6C (z4_ a1K (z0_ 3) (z0_ 8)) (mC .non))) (z0_ 8))) (q1_ (u2_ (j1_ (z1_ (mC (.int 2)) z3_)) (gN 5) (q1_ (j5_ 7 (a0e 1 a1X (z6_ (z0_ 0) z8_))) (q1_ (y4_ (x2_ (mT (a5i 2 (j7_ 6) [7,4]))) (v0_ (mC (.bl false))) mNx) (a0q 7 (v6_ z3_))))) (q1_ (u2_ (y0_ (z0_ 1)) (gN 6) (y4_ (mT (z4_ a4d (z4_ a1K (z0_ 3) (z0_ 6)) (mC .non))) (y4_ (mT (z4_ (dEq true) (a0u xN [true,false,false,false,false,false,true,false] (mCD 2 a0K (z6_ (z0_ 0) (z6_ (z0_ 6) z8_))) (a0f 2 a0V (z6_ (z0_ 0) (z6_ (z0_ 6) z8_))) a0j) (mC (.str "step")))) (v0_ (mC (.bl false))) mNx) (y4_ (x2_ (mT (mCD 2 (j7_ 6) (z6_ (mCD 2 a0K (z6_ (z0_ 0) (z6_ (z0_ 6) z8_))) (z6_ (z4_ a1K (z0_ 3) (z0_ 6)) z8_))))) (v0_ (mC (.bl false))) mNx))) (v0_ (mC (.bl true)))))))))
def a3F:Fn:=fnM 8 a6W
theorem c3r{f:Addr}(F:Fun K "_law_right" "_law_right" a9K f fd)(hcd:fd.code=cd)(T:Txt K mg)(tb:TabF K mg base cd "_law_right" Pt)(d_steps_of:Def P w K mg base "steps_of" 7 1 a1X)(d__law_same:Def P w K mg base "_law_same" 7 2 (j7_ 6))(d__law_behind:Def P w K mg base "_law_behind" 3 2 a3E)(d__law_refused:RefDef P w K mg base "_law_refused" 9 8 a0j)(d_stepped:Def P w K mg base "stepped" 7 2 a0K)(dx_steps_of:DefX P w K mg base "steps_of" 7 1 a3a)(dx_stepped:DefX P w K mg base "stepped" 7 2 a0V):FnOk P w K mg base CX0 10 f fd ["_law_table_here"] (SpT K [Pt] 1 a3F):=
 b2L (N:=["_law_table_here","_law_places","_law_row","_law_behind_here","_law_due","_law_turn","_law_place","_law_found"]) (mb:=a6W) F hcd b4a fun A outer s H E tbi hr=>by
  obtain⟨ps0,hP⟩:=tbi Pt (by simp)
  exact(by have n0:=c3o;have n1:=c3p;have n2:=c3q;have n3:=b4a.nd;cases T;injections q6_ a1r w3_ z7_ q6_ a0D a6g z5_ q0_ z5_ x4_ w7_ z5_ z2_ z7_ z7_ y5_ q9_ b2D;exists (j6_ (N':=["-0","-1","_law_row","-3","-4","-5","-6","-7","_law_column"]) (keep:=[false,false,true,false,false,false,false,false]) (more:=1) ?_ ?_ ?_ ?_ ?_ ?_ ?_);injections a6g z5_ q0_ z5_ x4_ w7_ z5_ z2_ z7_ z7_ y5_ k9_ y9_ z5_ z2_ z5_ z2_ z7_ q6_ x6_ a0m;exists (b3t rfl hr.units);injections z5_ y3_;exists (j6_ (N':=["_law_table_here","-1","-2","-3","-4","-5","-6","-7","_law_place"]) (keep:=[true,false,false,false,false,false,false,false]) (more:=1) ?_ ?_ ?_ ?_ ?_ ?_ ?_);injections k8_ z2_ y5_ k9_ y9_ z5_ z2_ z5_ v9_ q4_ z2_ q4_ z2_ q8_ z7_ z7_ q6_;exists (a3U (N':=["-0","-1","-2","_law_behind_here","-4","-5","-6","-7","_law_place"]) (keep:=[false,false,false,true,false,false,false,false]) (more:=1) ?_ ?_ ?_ ?_ ?_ ?_ ?_ ?_ ?_ ?_ ?_);injections k8_ z2_ y5_ a3T w9_ a6H z2_ z2_ a0Z z2_ q6_ a0D a1t z5_ q0_ z7_ y5_ q6_ a1r a2n q4_ z2_ q8_ q6_ k7_ u1_ g4_ b3e q9_ y7_ w1_ w2_ q9_ a2i z5_ y9_ z7_ z7_ q6_ a0D k8_ z2_ y5_ q9_ k7_ w9_ a6H z2_ z2_ a0Z q9_ k7_ w9_;exists (a5d (kc:=7) (N':=["_law_table_here","-1","-2","-3","-4","-5","_law_place","-7"]) (keep:=[true,false,false,false,false,false,true,false]) ?_ ?_ ?_ ?_ ?_ ?_ ?_ ?_ ?_ ?_ ?_ ?_ ?_ ?_ ?_ ?_ ?_ ?_ ?_);injections v9_ q4_ z2_ q4_ z2_ q8_ a2p PA.nox q4_ z2_ q4_ z2_ q8_ g0_ q9_ y7_ w1_ w2_ q9_ k7_ u1_ g4_ v9_ q4_ v9_ q4_ z2_ q4_ z2_ q8_ q4_ a6H z2_ z2_ q8_ q9_ y7_ w1_ w2_ q9_ y7_ w1_)
theorem b4b:FnScope ["_law_script","_law_k","_law_state_here","_law_side","_law_plain","_law_drawn","_law_low","_law_table_here","_law_odd_here","_law_thing","_law_far"] ["_law_script"] (y2_ a4m):=x7_
theorem c3s:(["-0","-1","-2","-3","-4","-5","-6","-7","-8","-9","-10","_law_row"]:List Str).Nodup:=by decide+kernel
theorem c3t:(["-0","-1","-2","-3","-4","-5","-6","-7","-8","-9","-10","_law_row"]:List Str).Nodup:=by decide+kernel
theorem c3u:(["-0","-1","-2","_law_side","-4","-5","-6","-7","-8","-9","-10","_law_row"]:List Str).Nodup:=by decide+kernel
theorem c3v:(["-0","-1","-2","-3","-4","-5","-6","-7","-8","-9","-10","_law_row","_law_place"]:List Str).Nodup:=by decide+kernel
def b4c:Mo Fl:=(q1_ (u2_ (j1_ (z1_ (mCB a3V (z1_ (mC (.int 1)) (z1_ (mCB a3q (z1_ (mCB v8_ (z1_ (z0_ 0) z3_)) (z1_ (mC (.int 6)) z3_))) z3_))) z3_)) (gN 1) (q1_ (j5_ 2 (a0e 2 a4u (z6_ (z0_ 0) (z6_ (z0_ 1) z8_)))) (q1_ (v2_ 3 (z4_ v7_ (mC (.int 1)) (mCD 2 w5_ (k4_ 2 (z6_ (mC (.int 6)) z8_))))) (q1_ (v2_ 4 (mCB g1_ (z1_ (mF (v1_ (j1_ (z1_ (z0_ 3) z3_)) [false,false,false,true,false,false,false,false,false,false,false] 1 (gN 11) v3_ (mCB g1_ (z1_ (mF (v1_ (j1_ (z1_ (z0_ 3) z3_)) [false,false,false,false,false,false,false,false,false,false,false,true] 1 (gN 12) v3_ (mCB a3W (z1_ (z4_ (dEq false) (z0_ 11) (z0_ 12)) z3_)))) z3_)))) z3_))) (q1_ (v2_ 5 (mCD 2 a4v (k4_ 2 (z6_ (z0_ 3) z8_)))) (q1_ (v2_ 6 (mCB g5_ (z1_ (mF (v1_ (y0_ (mCD 1 a1j (z6_ (z0_ 4) z8_))) [false,false,false,false,false,false,false,false,false,false,false] 1 (gN 11) v3_ (mCB g5_ (z1_ (z0_ 11) z3_)))) z3_))) (q1_ (u2_ (y0_ (mF (x5_ (z1_ (z0_ 5) (z1_ (z0_ 4) (z1_ (a1V (z0_ 4)) z3_)))))) (gN 7) (q1_ (y4_ (x2_ (mT (mCD 1 a3F (z6_ (z0_ 7) z8_)))) (v0_ (mC (.bl false))) mNx) (q1_ (v2_ 10 (z4_ k6_ (z0_ 6) (mCB g5_ (z1_ (mF (v1_ (y0_ (mCD 1 a1j (z6_ (z0_ 7) z8_))) [false,false,false,false,false,false,false,false,false,false,false] 1 (gN 11) v3_ (mCB g5_ (z1_ (z0_ 11) z3_)))) z3_)))) (y4_ (x2_ (mT (mCD 2 (j7_ 6) (z6_ (mCD 1 a1Y (z6_ (z0_ 7) z8_)) (z6_ (z0_ 10) z8_))))) (v0_ (mC (.bl false))) mNx)))) (q1_ (v2_ 8 (mF (x5_ (z1_ (v6_ (z1_ (mC (.int 0)) (z1_ (mC (.int 1)) z3_))) (z1_ (v6_ (z1_ (z0_ 3) (z1_ (mC (.int 1)) z3_))) (z1_ (v6_ (z1_ (mC (.int 1)) (z1_ (z0_ 3) z3_))) (z1_ (v6_ (z1_ (mC (.int 1)) z3_)) (z1_ (mF (x5_ (z1_ (mC (.int 1)) (z1_ (mC (.int 1)) z3_)))) (z1_ (v6_ (z1_ (mC (.bl true)) (z1_ (mC (.bl true)) z3_))) (z1_ (v6_ (z1_ (mC (.int 1)) (z1_ (mC (.int 1)) (z1_ (mC (.int 1)) z3_)))) (z1_ (mC .non) (z1_ (mC (.str "11")) (z1_ (z4_ a0N (mC (.int 10)) (mC (.int 29))) (z1_ (v6_ (z1_ (mC (.int 1)) (z1_ (mC .non) z3_))) z3_)))))))))))))) (q1_ (v2_ 8 (z4_ dIx (z0_ 8) (mCD 2 w5_ (k4_ 2 (z6_ (mC (.int 11)) z8_))))) (q1_ (y4_ (mT (z4_ (dEq true) (a0u xN [false,false,false,false,false,true,false,false,true,false,false] (mCD 2 a0K (z6_ (z0_ 5) (z6_ (z0_ 8) z8_))) (a0f 2 a0V (z6_ (z0_ 5) (z6_ (z0_ 8) z8_))) a0j) (mC (.str "step")))) (v0_ (mC (.bl false))) mNx) (u2_ (y0_ (mF (x5_ (z1_ (mCD 2 a4y (k4_ 2 (z6_ (z0_ 5) z8_))) (z1_ (mCD 1 a4x (k4_ 2 z8_)) z3_))))) (gN 9) (y4_ (x2_ (mT (mCD 1 a1Z (z6_ (z0_ 9) z8_)))) (q1_ (y4_ (mT (z4_ (dEq true) (a0u xN [false,false,false,false,false,false,false,false,true,true,false] (mCD 2 a0K (z6_ (z0_ 9) (z6_ (z0_ 8) z8_))) (a0f 2 a0V (z6_ (z0_ 9) (z6_ (z0_ 8) z8_))) a0j) (mC (.str "table")))) (v0_ (mC (.bl false))) mNx) (q1_ (y4_ (mT (z4_ (dEq true) (a0u xN [false,false,false,false,false,false,false,false,false,true,false] (mF (a0e 1 a1X (z6_ (z0_ 9) z8_))) (a0f 1 a3a (z6_ (z0_ 9) z8_)) a0j) (mC (.str "table")))) (v0_ (mC (.bl false))) mNx) (y4_ (mT (z4_ (dEq true) (a0u xN [false,false,false,false,false,false,false,false,false,true,false] (mCD 1 a1Y (z6_ (z0_ 9) z8_)) (a0f 1 a3z (z6_ (z0_ 9) z8_)) a0j) (mC (.str "table")))) (v0_ (mC (.bl false))) mNx))) mNx)))))))))))) (v0_ (mC (.bl true))))
def a6X:Fn:=fnM 11 b4c
theorem c3w{f:Addr}(F:Fun K "law" "law" a4m f fd)(hcd:fd.code=cd)(T:Txt K mg)(tb:TabF K mg base cd "law" Pt)(d__law_state:Def P w K mg base "_law_state" 2 2 a4u)(d__law_table:Def P w K mg base "_law_table" 2 2 a4v)(d__law_take:Def P w K mg base "_law_take" 1 2 w5_)(d__law_refused:RefDef P w K mg base "_law_refused" 9 8 a0j)(d__law_bent:Def P w K mg base "_law_bent" 2 2 a4y)(d__law_odd:Def P w K mg base "_law_odd" 2 1 a4x){Pt__law_right:Addr}(d__law_right:DefT P w K mg base "_law_right" 10 1 a3F [Pt__law_right])(d__law_same:Def P w K mg base "_law_same" 7 2 (j7_ 6))(d__law_is_table:Def P w K mg base "_law_is_table" 2 1 a1Z)(d__law_heights:Def P w K mg base "_law_heights" 1 1 a1j)(d_steps_from_lowest:Def P w K mg base "steps_from_lowest" 7 1 a1Y)(d_stepped:Def P w K mg base "stepped" 7 2 a0K)(d_steps_of:Def P w K mg base "steps_of" 7 1 a1X)(dx_steps_from_lowest:DefX P w K mg base "steps_from_lowest" 7 1 a3z)(dx_stepped:DefX P w K mg base "stepped" 7 2 a0V)(dx_steps_of:DefX P w K mg base "steps_of" 7 1 a3a):FnOk P w K mg base CX0 11 f fd ["_law_script"] (SpT K [Pt__law_right,Pt] 1 a6X):=
 b2L (N:=["_law_script","_law_k","_law_state_here","_law_side","_law_plain","_law_drawn","_law_low","_law_table_here","_law_odd_here","_law_thing","_law_far"]) (mb:=b4c) F hcd b4b fun A outer s H E tbi hr=>by
  obtain⟨ps0,hP⟩:=tbi Pt (by simp)
  have ht__law_right:a5e [Pt__law_right] H:=fun P hP=>tbi P (by obtain rfl:=List.mem_singleton.mp hP;simp)
  exact(by have n0:=c3s;have n1:=c3t;have n2:=c3u;have n3:=c3v;have n4:=b4b.nd;cases T;injections q6_ a0D a1t z5_ x4_;exists (b1c rfl);injections z5_ q0_ z5_ x4_;exists (a7z rfl);injections z5_ x4_ w7_ z5_ z2_ z7_ z5_ q0_ z7_ z7_ z7_ y5_ q6_ a1r a2n q4_ z2_ q4_ z2_ q8_ q6_ x6_ v5_ q0_ v9_ a0B q4_ q0_ q8_ q6_ x6_ a0m a0A z5_ y3_;exists (j6_ (N':=["-0","-1","-2","_law_side","-4","-5","-6","-7","-8","-9","-10","_law_row"]) (keep:=[false,false,false,true,false,false,false,false,false,false,false]) (more:=1) ?_ ?_ ?_ ?_ ?_ ?_ ?_);injections a1t z5_ z2_ z7_ y5_ k9_ a0m a0A z5_ y3_;exists (j6_ (N':=["-0","-1","-2","-3","-4","-5","-6","-7","-8","-9","-10","_law_row","_law_place"]) (keep:=[false,false,false,false,false,false,false,false,false,false,false,true]) (more:=1) ?_ ?_ ?_ ?_ ?_ ?_ ?_);injections a1t z5_ z2_ z7_ y5_ k9_ a0m a5N z5_ a1S z2_ z2_ z7_ z7_ z7_ q6_ x6_ v9_ a0B q4_ z2_ q8_ q6_ x6_ x4_;exists (a1G rfl);injections z5_ y3_;exists (j6_ (N':=["-0","-1","-2","-3","-4","-5","-6","-7","-8","-9","-10","_law_row"]) (keep:=[false,false,false,false,false,false,false,false,false,false,false]) (more:=1) ?_ ?_ ?_ ?_ ?_ ?_ ?_);injections k8_ v9_ q4_ z2_ q8_ y5_ k9_ x4_;exists (a1G rfl);injections z5_ z2_ z7_ z7_ q6_ a0D k8_ y3_ w3_ z5_ z2_ z5_ z2_ z5_ a6p z2_ z7_ y5_ q6_ k7_ u1_ g4_ b3u q4_ z2_ q8_ q9_ y7_ w1_ w2_ q6_ x6_ v5_ z2_ x4_;exists (a1G rfl);injections z5_ y3_;exists (j6_ (N':=["-0","-1","-2","-3","-4","-5","-6","-7","-8","-9","-10","_law_row"]) (keep:=[false,false,false,false,false,false,false,false,false,false,false]) (more:=1) ?_ ?_ ?_ ?_ ?_ ?_ ?_);injections k8_ v9_ q4_ z2_ q8_ y5_ k9_ x4_;exists (a1G rfl);injections z5_ z2_ z7_ z7_ q9_ k7_ u1_ g4_ v9_ q4_ v9_ q4_ z2_ q8_ q4_ z2_ q8_ q9_ y7_ w1_ w2_ q6_ x6_ y3_ w3_ z5_ y9_ z5_ q0_ z5_ q0_ z7_ z5_ y9_ z5_ z2_ z5_ q0_ z7_ z5_ y9_ z5_ q0_ z5_ z2_ z7_ z5_ y9_ z5_ q0_ z7_ z5_ y3_ w3_ z5_ q0_ z5_ q0_ z7_ z5_ y9_ z5_ w1_ z5_ w1_ z7_ z5_ y9_ z5_ q0_ z5_ q0_ z5_ q0_ z7_ z5_ a0Z z5_ g0_ z5_ v5_ q0_ q0_ z5_ y9_ z5_ q0_ z5_ a0Z z7_ z7_ q6_ x6_ k0_ z2_ v9_ a0B q4_ q0_ q8_ q6_ k7_ w9_;exists (a5d (kc:=7) (N':=["-0","-1","-2","-3","-4","_law_drawn","-6","-7","_law_odd_here","-9","-10"]) (keep:=[false,false,false,false,false,true,false,false,true,false,false]) ?_ ?_ ?_ ?_ ?_ ?_ ?_ ?_ ?_ ?_ ?_ ?_ ?_ ?_ ?_ ?_ ?_ ?_ ?_);injections v9_ q4_ z2_ q4_ z2_ q8_ a2p PA.nox q4_ z2_ q4_ z2_ q8_ g0_ q9_ y7_ w1_ w2_ q9_ a0D k8_ y3_ w3_ z5_ v9_ a0B q4_ z2_ q8_ z5_ v9_ a0B q8_ z7_ y5_ q9_ k7_ u1_ g4_ v9_ q4_ z2_ q8_ q6_ k7_ w9_;exists (a5d (kc:=7) (N':=["-0","-1","-2","-3","-4","-5","-6","-7","_law_odd_here","_law_thing","-10"]) (keep:=[false,false,false,false,false,false,false,false,true,true,false]) ?_ ?_ ?_ ?_ ?_ ?_ ?_ ?_ ?_ ?_ ?_ ?_ ?_ ?_ ?_ ?_ ?_ ?_ ?_);injections v9_ q4_ z2_ q4_ z2_ q8_ a2p PA.nox q4_ z2_ q4_ z2_ q8_ g0_ q9_ y7_ w1_ w2_ q6_ k7_ w9_;exists (a5d (kc:=7) (N':=["-0","-1","-2","-3","-4","-5","-6","-7","-8","_law_thing","-10"]) (keep:=[false,false,false,false,false,false,false,false,false,true,false]) ?_ ?_ ?_ ?_ ?_ ?_ ?_ ?_ ?_ ?_ ?_ ?_ ?_ ?_ ?_ ?_ ?_ ?_ ?_);injections y3_ a2n q4_ z2_ q8_ a2p PA.nox q4_ z2_ q8_ g0_ q9_ y7_ w1_ w2_ q9_ k7_ w9_;exists (a5d (kc:=7) (N':=["-0","-1","-2","-3","-4","-5","-6","-7","-8","_law_thing","-10"]) (keep:=[false,false,false,false,false,false,false,false,false,true,false]) ?_ ?_ ?_ ?_ ?_ ?_ ?_ ?_ ?_ ?_ ?_ ?_ ?_ ?_ ?_ ?_ ?_ ?_ ?_);injections v9_ q4_ z2_ q8_ a2p PA.nox q4_ z2_ q8_ g0_ q9_ y7_ w1_ w2_ w2_ q9_ y7_ w1_)
end
def isW:D->Bool
 |.int _=>true
 |_=>false
theorem c3x(d:D):a2w [.dat d]=some (.d (.bl (isW d)),[.dat d]):=by cases d<;>rfl
def isR(d:D)(n:Int):Bool:=match d with
 |.tup es=>(es.length:Int)==n&&es.all isW
 |_=>false
theorem b0m(d:D)(n:Int)(hn:n≤1000):a0x [.dat d,.dat (.int n)]=some (.d (.bl (isR d n)),[.dat d,.dat (.int n)]):=by
 cases d with
 |tup es=>
  by_cases h:(es.length:Int)=n
  ·have t:(j0_ (x2_ (mT (mIs "tuple" (z0_ 0)))) (mT (z4_ (dEq true) (mCB v8_ (z1_ (z0_ 0) z3_)) (z0_ 1)))) [.dat (.tup es),.dat (.int n)]=some (false,[.dat (.tup es),.dat (.int n)]):=by
    show some (!((es.length:Int)==n),_)=_;rw[h];simp
   obtain⟨e',h1,w,rfl⟩:=a8m (g:=gN 2) (m:=mCD 1 a2w (z6_ (z0_ 2) z8_)) (P:=fun e=>∃w,e=[.nil,.nil,w]) (f:=fun d=>.bl (isW d)) (ds:=es) (env:=[.nil,.nil,.nil])
    (fun d _ e ⟨w,he⟩=>by
     subst he;refine⟨[.nil,.nil,.dat d],[.nil,.nil,.dat d],rfl,?_,_,rfl⟩;show((a2w [.dat d]).map fun q=>(q.1,_)).bind asD=_
     rw[c3x];rfl) ⟨.nil,rfl⟩
   have hl:es.length≤100000:=by omega
   have c:(v1_ (y0_ (z0_ 0)) [false,false] 1 (gN 2) v3_ (mCD 1 a2w (z6_ (z0_ 2) z8_))) [.dat (.tup es),.dat (.int n)]=some (es.map fun d=>.bl (isW d),[.dat (.tup es),.dat (.int n)]):=by
    show(if es.length≤100000 then(g6_ _ _ _ es [.nil,.nil,.nil]).bind _ else none)=_
    rw[Qn hl,h1];rfl
   unfold a0x fnM a9L;show(match q1_ _ _ [.dat (.tup es),.dat (.int n)]with|some (.ret d,env)=>_|some (.retL ds,env)=>_|some (.nx,env)=>_|_=>none)=_
   rw[j3_ (by rw[a1e t];rfl)]
   have r:(v0_ (mCB a1C (z1_ (mF (v1_ (y0_ (z0_ 0)) [false,false] 1 (gN 2) v3_ (mCD 1 a2w (z6_ (z0_ 2) z8_)))) z3_))) [.dat (.tup es),.dat (.int n)]=some (.ret (.bl (es.all isW)),[.dat (.tup es),.dat (.int n)]):=by
    unfold v0_ mCB z1_ mF;rw[c];show(((a0t (es.map fun d=>.bl (isW d))).map fun k=>D.bl k).map _).map _=_
    rw[a2M];rfl
   rw[r];show some (Rr.d (.bl (es.all isW)),_)=_
   simp[isR,h];rfl
  ·have t:(j0_ (x2_ (mT (mIs "tuple" (z0_ 0)))) (mT (z4_ (dEq true) (mCB v8_ (z1_ (z0_ 0) z3_)) (z0_ 1)))) [.dat (.tup es),.dat (.int n)]=some (true,[.dat (.tup es),.dat (.int n)]):=by
    show some (!((es.length:Int)==n),_)=_
    simp[h]
   unfold a0x fnM a9L;show(match q1_ _ _ [.dat (.tup es),.dat (.int n)]with|some (.ret d,env)=>_|some (.retL ds,env)=>_|some (.nx,env)=>_|_=>none)=_
   rw[a1u (d:=.bl false) (by rw[a1v t];rfl)]
   simp[isR,h];rfl
 |_=>rfl
def isG(d:D)(m n:Int):Bool:=match d with
 |.tup es=>(es.length:Int)==m&&es.all fun r=>isR r n
 |_=>false
theorem c3y(d:D)(k n:Int)(hk:k≤1000)(hn:n≤1000):a4n [.dat d,.dat (.int k),.dat (.int n)]=some (.d (.bl (isG d k n)),[.dat d,.dat (.int k),.dat (.int n)]):=by
 cases d with
 |tup es=>
  by_cases h:(es.length:Int)=k
  ·have t:(j0_ (x2_ (mT (mIs "tuple" (z0_ 0)))) (mT (z4_ (dEq true) (mCB v8_ (z1_ (z0_ 0) z3_)) (z0_ 1)))) [.dat (.tup es),.dat (.int k),.dat (.int n)]=some (false,[.dat (.tup es),.dat (.int k),.dat (.int n)]):=by
    show some (!((es.length:Int)==k),_)=_;rw[h];simp
   obtain⟨e',h1,w,rfl⟩:=a8m (g:=gN 3) (m:=mCD 2 a0x (z6_ (z0_ 3) (z6_ (z0_ 2) z8_))) (P:=fun e=>∃w,e=[.nil,.nil,.dat (.int n),w]) (f:=fun d=>.bl (isR d n)) (ds:=es) (env:=[.nil,.nil,.dat (.int n),.nil])
    (fun d _ e ⟨w,he⟩=>by
     subst he;refine⟨[.nil,.nil,.dat (.int n),.dat d],[.nil,.nil,.dat (.int n),.dat d],rfl,?_,_,rfl⟩;show((a0x [.dat d,.dat (.int n)]).map fun q=>(q.1,_)).bind asD=_
     rw[b0m d n hn];rfl) ⟨.nil,rfl⟩
   have hl:es.length≤100000:=by omega
   have c:(v1_ (y0_ (z0_ 0)) [false,false,true] 1 (gN 3) v3_ (mCD 2 a0x (z6_ (z0_ 3) (z6_ (z0_ 2) z8_)))) [.dat (.tup es),.dat (.int k),.dat (.int n)]=some (es.map fun d=>.bl (isR d n),[.dat (.tup es),.dat (.int k),.dat (.int n)]):=by
    show(if es.length≤100000 then(g6_ _ _ _ es [.nil,.nil,.dat (.int n),.nil]).bind _ else none)=_
    rw[Qn hl,h1];rfl
   refine(w0_ (d:=.bl (isG (.tup es) k n)) (env:=[.dat (.tup es),.dat (.int k),.dat (.int n)]) ?_).trans rfl;show a5s [.dat (.tup es),.dat (.int k),.dat (.int n)]=_;unfold a5s;rw[j3_ (by rw[a1e t];rfl)]
   unfold v0_ mCB z1_ mF;rw[c];show(((a0t (es.map fun d=>.bl (isR d n))).map fun k=>D.bl k).map _).map _=_
   rw[a2M]
   simp[isG,h]
  ·have t:(j0_ (x2_ (mT (mIs "tuple" (z0_ 0)))) (mT (z4_ (dEq true) (mCB v8_ (z1_ (z0_ 0) z3_)) (z0_ 1)))) [.dat (.tup es),.dat (.int k),.dat (.int n)]=some (true,[.dat (.tup es),.dat (.int k),.dat (.int n)]):=by
    show some (!((es.length:Int)==k),_)=_
    simp[h]
   refine(w0_ (d:=.bl (isG (.tup es) k n)) (env:=[.dat (.tup es),.dat (.int k),.dat (.int n)]) ?_).trans rfl;show a5s [.dat (.tup es),.dat (.int k),.dat (.int n)]=_;unfold a5s;rw[a1u (d:=.bl false) (by rw[a1v t];rfl)]
   simp[isG,h]
 |_=>rfl
def isS(d:D)(a b:Int):Bool:=match d with
 |.tup es=>(decide (a≤(es.length:Int))&&decide ((es.length:Int)≤b))&&es.all fun r=>isR r es.length
 |_=>false
theorem c3z(d:D)(a b:Int)(hb:b≤1000):a3x [.dat d,.dat (.int a),.dat (.int b)]=some (.d (.bl (isS d a b)),[.dat d,.dat (.int a),.dat (.int b)]):=by
 cases d with
 |tup es=>
  have t:(j0_ (x2_ (mT (mIs "tuple" (z0_ 0)))) (x2_ (mT (a1a dLe dLe (z0_ 1) (mCB v8_ (z1_ (z0_ 0) z3_)) (z0_ 2))))) [.dat (.tup es),.dat (.int a),.dat (.int b)]=some (!(decide (a≤(es.length:Int))&&decide ((es.length:Int)≤b)),[.dat (.tup es),.dat (.int a),.dat (.int b)]):=by
   by_cases h1:a≤(es.length:Int)
   ·have e1:dLe (.int a) (.int es.length)=some (.bl true):=by show some (D.bl (decide _))=_;simp[h1]
    show(((match dLe (.int a) (.int es.length)with|some (.bl true)=>_|some (.bl false)=>_|_=>none:Option (D×Env')).bind asB).map _)=_
    rw[e1,Xx h1];rfl
   ·have e1:dLe (.int a) (.int es.length)=some (.bl false):=by show some (D.bl (decide _))=_;simp[h1]
    show(((match dLe (.int a) (.int es.length)with|some (.bl true)=>_|some (.bl false)=>_|_=>none:Option (D×Env')).bind asB).map _)=_
    rw[e1,Zb h1];rfl
  by_cases h:(decide (a≤(es.length:Int))&&decide ((es.length:Int)≤b))=true
  ·rw[h]at t
   refine(w0_ (d:=.bl (isS (.tup es) a b)) (env:=[.dat (.tup es),.dat (.int a),.dat (.int b)]) ?_).trans rfl;show a5t [.dat (.tup es),.dat (.int a),.dat (.int b)]=_;unfold a5t;rw[j3_ (by rw[a1e t];rfl)]
   have hl:(es.length:Int)≤1000:=by
    rw[Qw,Zz,Zz]at h
    omega
   show(((a4n [.dat (.tup es),.dat (.int es.length),.dat (.int es.length)]).map fun q=>(q.1,_)).bind asD).map _=_
   rw[c3y _ _ _ hl hl]
   simp[isS,isG,h,asD]
  ·have h':(decide (a≤(es.length:Int))&&decide ((es.length:Int)≤b))=false:=by simpa using h
   rw[h']at t;refine(w0_ (d:=.bl (isS (.tup es) a b)) (env:=[.dat (.tup es),.dat (.int a),.dat (.int b)]) ?_).trans rfl;show a5t [.dat (.tup es),.dat (.int a),.dat (.int b)]=_;unfold a5t;rw[a1u (d:=.bl false) (by rw[a1v t];rfl)]
   simp[isS,h']
 |_=>rfl
def dR(l:List Int):D:=.tup (l.map .int)
def dT(R:OI):D:=.tup (R.map dR)
def unI:D->Int
 |.int i=>i
 |_=>0
def unR:D->List Int
 |.tup es=>es.map unI
 |.lst es=>es.map unI
 |_=>[]
def unT:D->OI
 |.tup es=>es.map unR
 |_=>[]
theorem c3A(h:isW d=true):d=.int (unI d):=by cases d<;>first|rfl|cases h
theorem b4d(h:es.all isW=true):es=(es.map unI).map .int:=by
 induction es with
 |nil=>rfl
 |cons d es ih=>
  rw[Ux,Qw]at h;rw[Qu,Qu,←c3A h.1,←ih h.2]
theorem a5A{n:Int}(h:isR d n=true):d=dR (unR d)/\((unR d).length:Int)=n:=by
 cases d<;>first|cases h|skip
 rename_i es;simp only[isR,Qw,Ye]at h;refine⟨?_,by simp[unR,h.1]⟩
 show D.tup es=.tup ((es.map unI).map .int);rw[←b4d h.2]
theorem b4e{a b:Int}(h:isS d a b=true):d=dT (unT d)/\a≤((unT d).length:Int)/\((unT d).length:Int)≤b/\∀r∈unT d,r.length=(unT d).length:=by
 cases d<;>first|cases h|skip
 rename_i es;simp only[isS,Qw,Zz,Qb]at h;refine⟨?_,by simpa [unT]using h.1.1,by simpa [unT]using h.1.2,fun r hr=>?_⟩
 ·show D.tup es=.tup ((es.map unR).map dR)
  congr 1
  rw[Qe]
  conv=>lhs;rw[←Vd es]
  exact Zw fun x hx=>(a5A (h.2 x hx)).1
 ·obtain⟨x,hx,rfl⟩:=Zj.mp hr
  have:=(a5A (h.2 x hx)).2;simp only[unT,Qv]
  omega
theorem c3B(l:List Int):(l.map D.int).map unI=l:=by rw[Qe];exact Vd l
theorem b4f(l:List Int):unR (dR l)=l:=c3B l
theorem a6Y(R:OI):unT (dT R)=R:=by
 show(R.map dR).map unR=R;rw[Qe]
 conv=>rhs;rw[←Vd R]
 exact Zw fun r _=>b4f r
theorem b4g(l:List Int):isR (dR l) l.length=true:=by
 simp[isR,dR,isW]
theorem b4h{a b:Int}(h1:a≤R.length)(h2:(R.length:Int)≤b)(h:∀r∈R,r.length=R.length):isS (dT R) a b=true:=by
 simp only[isS,dT,Qv,Qw,Zz,Qb];refine⟨⟨h1,h2⟩,fun x hx=>?_⟩
 obtain⟨r,hr,rfl⟩:=Zj.mp hx;have:=b4g r;rw[h r hr]at this;exact this
theorem a0z{xs:List α}{x:α}(h:xs[j]? =some x):atI xs (j:Int)=some x:=by
 have hj:j<xs.length:=(Qh.mp h).1
 unfold atI ixN;rw[Qn (by omega),Qn (by omega)]
 simpa using h
theorem a4z(n:Nat):a0i 0 n=(List.range n).map fun(i:Nat)=>D.int i:=by
 unfold a0i;exact Zw fun i _=>by simp
theorem a3G{g:OZ}{m:Mo D}{P:Env'->Prop}{q:α->D}{f:α->D}{l:List α}(h:∀a∈l,∀e,P e->∃e1 e2,g (q a) e=some e1/\m e1=some (f a,e2)/\P e2)(p:P env):
  ∃env',g6_ g v3_ m (l.map q) env=some (l.map f,env')/\P env':=by
 induction l generalizing env with
 |nil=>exact⟨env,rfl,p⟩
 |cons a l ih=>
  obtain⟨e1,e2,h1,h2,h3⟩:=h a (by simp) env p
  obtain⟨e3,h4,h5⟩:=ih (fun x hx=>h x (by simp[hx])) h3
  refine⟨e3,?_,h5⟩;rw[Qu,Qu];unfold g6_;rw[h1];simp only[Qj,v3_,Zy];rw[h2];simp only[Qj];rw[h4];rfl
def flip(n:Nat)(R:OI):OI:=(List.range n).map fun j=>R.map fun r=>r.getD j 0
theorem c3C(h:∀r∈R,r.length=n)(hj:j<n){r:List Int}(hr:r∈R):dIx (dR r) (.int (j:Int))=some (.int (r.getD j 0)):=by
 show atI (r.map D.int) (j:Int)=_
 apply a0z
 have:=h r hr
 simp[Zv (show j<r.length by omega)]
theorem b4i(hR:R≠[])(h:∀r∈R,r.length=n)(hn:n≤1000)(hl:R.length≤1000):a0y [.dat (dT R)]=some (.d (dT (flip n R)),[.dat (dT R)]):=by
 obtain⟨r0,R',rfl⟩:∃r0 R',R=r0::R':=by
  cases R with
  |nil=>exact absurd rfl hR
  |cons a b=>exact⟨a,b,rfl⟩
 have h0:r0.length=n:=h r0 (by simp)
 have inner:∀j,j<n->(mCB g1_ (z1_ (mF (v1_ (y0_ (z0_ 0)) [false,true] 1 (gN 2) v3_ (z4_ dIx (z0_ 2) (z0_ 1)))) z3_)) [.dat (dT (r0::R')),.dat (.int (j:Int))]=some (dR ((r0::R').map fun r=>r.getD j 0),[.dat (dT (r0::R')),.dat (.int (j:Int))]):=fun j hj=>by
  obtain⟨e',h1,w',rfl⟩:=a3G (g:=gN 2) (m:=z4_ dIx (z0_ 2) (z0_ 1)) (P:=fun e=>∃w,e=[.nil,.dat (.int (j:Int)),w]) (q:=dR) (f:=fun r=>.int (r.getD j 0)) (l:=r0::R') (env:=[.nil,.dat (.int (j:Int)),.nil])
   (fun r hr e ⟨w,he⟩=>by
    subst he;refine⟨[.nil,.dat (.int (j:Int)),.dat (dR r)],[.nil,.dat (.int (j:Int)),.dat (dR r)],rfl,?_,_,rfl⟩;show(dIx (dR r) (.int (j:Int))).map _=_;rw[c3C h hj hr];rfl) ⟨.nil,rfl⟩
  have hl':((r0::R').map dR).length≤100000:=by rw[Qv];omega
  have c:(v1_ (y0_ (z0_ 0)) [false,true] 1 (gN 2) v3_ (z4_ dIx (z0_ 2) (z0_ 1))) [.dat (dT (r0::R')),.dat (.int (j:Int))]=some ((r0::R').map fun r=>.int (r.getD j 0),[.dat (dT (r0::R')),.dat (.int (j:Int))]):=by
   show(if((r0::R').map dR).length≤100000 then(g6_ _ _ _ ((r0::R').map dR) [.nil,.dat (.int (j:Int)),.nil]).bind _ else none)=_
   rw[Qn hl',h1];rfl
  unfold mCB z1_ mF;rw[c];show some (D.tup _,_)=_;unfold dR;rw[Qe];rfl
 obtain⟨e',h1,w,rfl⟩:=a3G (g:=gN 1) (m:=mCB g1_ (z1_ (mF (v1_ (y0_ (z0_ 0)) [false,true] 1 (gN 2) v3_ (z4_ dIx (z0_ 2) (z0_ 1)))) z3_)) (P:=fun e=>∃w,e=[.dat (dT (r0::R')),w]) (q:=fun(j:Nat)=>D.int j) (f:=fun j=>dR ((r0::R').map fun r=>r.getD j 0)) (l:=List.range n) (env:=[.dat (dT (r0::R')),.nil])
  (fun j hj e ⟨w,he⟩=>by
   subst he;exact⟨_,_,rfl,inner j (Zl.mp hj),_,rfl⟩) ⟨.nil,rfl⟩
 refine(w0_ (d:=dT (flip n (r0::R'))) (env:=[.dat (dT (r0::R'))]) ?_).trans rfl;show a9M [.dat (dT (r0::R'))]=_;unfold a9M;have hrg:(j1_ (z1_ (mCB v8_ (z1_ (z4_ dIx (z0_ 0) (mC (.int 0))) z3_)) z3_)) [.dat (dT (r0::R'))]=some (a0i 0 n,[.dat (dT (r0::R'))]):=by
  have e:(z1_ (mCB v8_ (z1_ (z4_ dIx (z0_ 0) (mC (.int 0))) z3_)) z3_) [.dat (dT (r0::R'))]=some ([.int (n:Int)],[.dat (dT (r0::R'))]):=by
   refine q3_ (k2_ (q3_ (q5_ rfl rfl (show dIx (dT (r0::R')) (.int 0)=some (dR r0)from a0z (xs:=(r0::R').map dR) (j:=0) rfl)) rfl) ?_) rfl
   show some (D.int ((r0.map D.int).length:Nat))=_;rw[Qv,h0]
  have:=a6u e (by omega) (by omega)
  rwa [Yd]at this
 have c:(v1_ (j1_ (z1_ (mCB v8_ (z1_ (z4_ dIx (z0_ 0) (mC (.int 0))) z3_)) z3_)) [true] 1 (gN 1) v3_ (mCB g1_ (z1_ (mF (v1_ (y0_ (z0_ 0)) [false,true] 1 (gN 2) v3_ (z4_ dIx (z0_ 2) (z0_ 1)))) z3_))) [.dat (dT (r0::R'))]=some ((List.range n).map fun j=>dR ((r0::R').map fun r=>r.getD j 0),[.dat (dT (r0::R'))]):=by
  refine a2N (e2:=[.dat (dT (r0::R')),w]) hrg (by rw[a4z];simp;omega) ?_ rfl
  rw[a4z];exact h1
 refine u0_ (k2_ (q3_ (k3_ c) rfl) ?_);show some (D.tup _)=_;unfold dT flip;rw[Qe];rfl
def tt:Int->List Int->Bool
 |s,[]=>s==1
 |s,x::l=>(s+x==0||s+x==1)&&tt (s+x) l
abbrev a1A:Mo Fl:=(q1_ (a6d 1 a5Y (z0_ 2)) (y4_ (mT (z4_ (dIn true) (z0_ 1) (v6_ (z1_ (mC (.int 0)) (z1_ (mC (.int 1)) z3_))))) (v0_ (mC (.bl false))) mNx))
theorem c3D(L:D)(s x:Int):a1A [.dat L,.dat (.int s),.dat (.int x)]=some (stop (s+x==0||s+x==1) (.bl false),[.dat L,.dat (.int (s+x)),.dat (.int x)]):=by
 have t:(mT (z4_ (dIn true) (z0_ 1) (v6_ (z1_ (mC (.int 0)) (z1_ (mC (.int 1)) z3_))))) [.dat L,.dat (.int (s+x)),.dat (.int x)]=some (!(s+x==0||s+x==1),[.dat L,.dat (.int (s+x)),.dat (.int x)]):=by
  show some (!(List.contains [(0:Int),1] (s+x)),_)=_;rw[Vk,Vk,List.contains_nil,Bool.or_false]
 unfold a1A;rw[j3_ (e1:=[.dat L,.dat (.int (s+x)),.dat (.int x)]) rfl];cases hb:(s+x==0||s+x==1)with
 |true=>rw[hb]at t;rw[a1e t];rfl
 |false=>rw[hb]at t;rw[a1v t];rfl
theorem b4j(L:D):∀(l:List Int) (s:Int) (w:W),(∃s' w',loop (gN 2) a1A (l.map .int) [.dat L,.dat (.int s),w]=some (.nx,[.dat L,.dat (.int s'),w'])/\tt s l=(s'==1))∨(tt s l=false/\∃e,loop (gN 2) a1A (l.map .int) [.dat L,.dat (.int s),w]=some (.ret (.bl false),e)/\e.length=3/\e[0]? =some (.dat L))
 |[],s,w=>.inl ⟨s,w,rfl,rfl⟩
 |x::l,s,w=>by
  have h:=c3D L s x
  cases hb:(s+x==0||s+x==1)with
  |true=>
   rw[hb]at h;have e:∀r,loop (gN 2) a1A ((x::l).map .int) [.dat L,.dat (.int s),w]=r↔loop (gN 2) a1A (l.map .int) [.dat L,.dat (.int (s+x)),.dat (.int x)]=r:=fun r=>by
    rw[Qu];have:loop (gN 2) a1A (D.int x::l.map .int) [.dat L,.dat (.int s),w]=loop (gN 2) a1A (l.map .int) [.dat L,.dat (.int (s+x)),.dat (.int x)]:=by
     show(a1A [.dat L,.dat (.int s),.dat (.int x)]).bind _=_;rw[h];rfl
    rw[this]
   have et:tt s (x::l)=tt (s+x) l:=by simp[tt,hb]
   rw[et]
   rcases b4j L l (s+x) (.dat (.int x))with⟨s',w',h1,h2⟩|⟨h1,e',h2,h3⟩
   ·exact .inl ⟨s',w',(e _).mpr h1,h2⟩
   ·exact .inr ⟨h1,e',(e _).mpr h2,h3⟩
  |false=>
   rw[hb]at h;refine .inr ⟨by simp[tt,hb],[.dat L,.dat (.int (s+x)),.dat (.int x)],?_,rfl,rfl⟩
   rw[Qu];show(a1A [.dat L,.dat (.int s),.dat (.int x)]).bind _=_;rw[h];rfl
theorem c3E(l:List Int):a2Z [.dat (dR l)]=some (.d (.bl (tt 0 l)),[.dat (dR l)]):=by
 have hi:(u2_ (y0_ (z0_ 0)) (gN 2) a1A) [.dat (dR l),.dat (.int 0),.nil]=loop (gN 2) a1A (l.map .int) [.dat (dR l),.dat (.int 0),.nil]:=rfl
 rcases b4j (dR l) l 0 .nil with⟨s',w',h1,h2⟩|⟨h1,e',h2,h3,h4⟩
 ·refine(w0_ (d:=.bl (tt 0 l)) (env:=[.dat (dR l),.dat (.int s'),w']) ?_).trans rfl
  show a5w [.dat (dR l),.nil,.nil]=_;unfold a5w;rw[j3_ (e1:=[.dat (dR l),.dat (.int 0),.nil]) rfl,j3_ (hi.trans h1)];show some (Fl.ret (.bl (s'==1)),_)=_;rw[h2]
 ·refine(w0_ (d:=.bl (tt 0 l)) (env:=e') ?_).trans ?_
  ·show a5w [.dat (dR l),.nil,.nil]=_
   unfold a5w;rw[j3_ (e1:=[.dat (dR l),.dat (.int 0),.nil]) rfl,a1u (hi.trans h2),h1]
  ·match e',h3,h4 with
   |[a,b,c],_,h4=>cases h4;rfl
def isT(d:D):Bool:=isS d 1 6&&(unT d++flip (unT d).length (unT d)).all (tt 0)
theorem b4k:(flip n R).length=n:=by simp[flip]
theorem b0n(d:D):a3y [.dat d]=some (.d (.bl (isT d)),[.dat d]):=by
 have t:(x2_ (mT (mCD 3 a3x (z6_ (z0_ 0) (z6_ (mC (.int 1)) (z6_ (mC (.int 6)) z8_)))))) [.dat d]=some (!isS d 1 6,[.dat d]):=by
  show((((a3x [.dat d,.dat (.int 1),.dat (.int 6)]).map fun q=>(q.1,_)).bind asD).bind asB).map _=_
  rw[c3z d 1 6 (by decide)];rfl
 refine(w0_ (d:=.bl (isT d)) (env:=[.dat d]) ?_).trans rfl;show a9R [.dat d]=_;unfold a9R;cases hs:isS d 1 6 with
 |false=>
  rw[hs]at t;rw[a1u (d:=.bl false) (by rw[a1v t];rfl)]
  simp[isT,hs]
 |true=>
  rw[hs]at t;rw[j3_ (by rw[a1e t];rfl)]
  obtain⟨h1,h2,h3,h4⟩:=b4e hs;generalize unT d=R at h1 h2 h3 h4;subst h1;have fl:a0y [.dat (dT R)]=some (.d (dT (flip R.length R)),[.dat (dT R)]):=b4i (by intro z;subst z;simp at h2) h4 (by omega) (by omega)
  have it:(y0_ (z4_ v7_ (z0_ 0) (mCD 1 a0y (z6_ (z0_ 0) z8_)))) [.dat (dT R)]=some ((R++flip R.length R).map dR,[.dat (dT R)]):=by
   show(((((a0y [.dat (dT R)]).map fun q=>(q.1,_)).bind asD).bind fun q=>(v7_ (dT R) q.1).map fun d=>(d,q.2)).bind _)=_
   rw[fl];show((v7_ (dT R) (dT (flip R.length R))).map fun d=>(d,([.dat (dT R)]:Env'))).bind _=_
   have:v7_ (dT R) (dT (flip R.length R))=some (.tup ((R++flip R.length R).map dR)):=by
    show(if(R.map dR).length+((flip R.length R).map dR).length≤10000 then _ else none)=_
    rw[Qn (by rw[Qv,Qv,b4k];omega),Zo]
   rw[this];rfl
  obtain⟨e',h5,w,rfl⟩:=a3G (g:=gN 1) (m:=mCD 1 a2Z (z6_ (z0_ 1) z8_)) (P:=fun e=>∃w,e=[.nil,w]) (q:=dR) (f:=fun r=>.bl (tt 0 r)) (l:=R++flip R.length R) (env:=[.nil,.nil])
   (fun r _ e ⟨w,he⟩=>by
    subst he;refine⟨[.nil,.dat (dR r)],[.nil,.dat (dR r)],rfl,?_,_,rfl⟩;show((a2Z [.dat (dR r)]).map fun q=>(q.1,_)).bind asD=_
    rw[c3E];rfl) ⟨.nil,rfl⟩
  have c:(v1_ (y0_ (z4_ v7_ (z0_ 0) (mCD 1 a0y (z6_ (z0_ 0) z8_)))) [false] 1 (gN 1) v3_ (mCD 1 a2Z (z6_ (z0_ 1) z8_))) [.dat (dT R)]=some ((R++flip R.length R).map fun r=>.bl (tt 0 r),[.dat (dT R)]):=by
   unfold v1_;rw[it];show(if((R++flip R.length R).map dR).length≤100000 then(g6_ _ _ _ ((R++flip R.length R).map dR) [.nil,.nil]).bind _ else none)=_
   rw[Qn (by rw[Qv,Qs,b4k];omega),h5];rfl
  unfold v0_ mCB z1_ mF;rw[c];show(((a0t ((R++flip R.length R).map fun r=>.bl (tt 0 r))).map fun k=>D.bl k).map _).map _=_
  rw[a2M];simp only[isT,hs,a6Y,Yu];rfl
theorem a4A{i j:Int}(h:a3i i j=true):a0c (.int i) (.int j)=some (.int (i * j)):=by
 unfold a0c fOr a7K fI;simp only[h,Zy]
theorem a5B{i j:Int}(h1: -18446744073709551616<i)(h2:i<18446744073709551616):a3i i j=true:=by
 unfold a3i;rw[show((2:Int)^64)=18446744073709551616 from rfl]
 simp[h1,h2]
theorem c3F{i j:Int}(h1: -18446744073709551616<j)(h2:j<18446744073709551616):a3i i j=true:=by
 unfold a3i;rw[show((2:Int)^64)=18446744073709551616 from rfl]
 simp[h1,h2]
theorem a2a:∀l:List Int,x0_ (l.map D.int)=l.map PyData.int
 |[]=>rfl
 |x::l=>by show PyData.int x::x0_ (l.map D.int)=_;rw[a2a l];rfl
theorem a4f:∀l:List Int,PyData.canLayAll0 (l.map PyData.int)=true
 |[]=>rfl
 |x::l=>by show(true&&PyData.canLayAll0 (l.map PyData.int))=true;rw[a4f l];rfl
theorem a5C:∀l:List Int,PyData.depthAll (l.map PyData.int)=0
 |[]=>rfl
 |x::l=>by show max 0 (PyData.depthAll (l.map PyData.int))=0;rw[a5C l];rfl
theorem b0o:∀l k:List Int,PyData.eqvAll (l.map PyData.int) (k.map PyData.int)=decide (l=k)
 |[],[]=>rfl
 |[],_::_=>rfl
 |_::_,[]=>rfl
 |x::l,y::k=>by
  show((x==y)&&PyData.eqvAll (l.map PyData.int) (k.map PyData.int))=_;rw[b0o l k]
  by_cases h:x=y
  ·subst h;simp
  ·simp[h]
theorem b4l(l:List Int):shp (.lst (l.map D.int))=true:=by
 unfold shp SeqAt.shaped;show(PyData.canLayAll0 (x0_ (l.map D.int))&&decide (PyData.depthAll (x0_ (l.map D.int))+1≤64))=true;rw[a2a,a4f,a5C];rfl
theorem c3G(l k:List Int):dEq false (.lst (l.map D.int)) (.lst (k.map D.int))=some (.bl (decide (l=k))):=by
 unfold dEq;rw[b4l,b4l];show some (D.bl (PyData.eqvAll (x0_ (l.map D.int)) (x0_ (k.map D.int))))=_;rw[a2a,a2a,b0o]
theorem b0p{α:Type}{g:OZ}{t:Mo Bool}{m:Mo D}{P:Env'->Prop}{q:α->D}{f:α->D}{p:α->Bool}:∀{l:List α}{env:Env'},(∀a∈l,∀e,P e->∃e1 e2,g (q a) e=some e1/\t e1=some (p a,e2)/\(p a=true->∃e3,m e2=some (f a,e3)/\P e3)/\(p a=false->P e2))->P env->
  ∃env',g6_ g t m (l.map q) env=some ((l.filter p).map f,env')/\P env'
 |[],env,_,h=>⟨env,rfl,h⟩
 |a::l,env,h,hp=>by
  obtain⟨e1,e2,h1,h2,h3,h4⟩:=h a (by simp) env hp
  cases hb:p a with
  |true=>
   obtain⟨e3,h5,h6⟩:=h3 hb;obtain⟨e4,h7,h8⟩:=b0p (l:=l) (fun x hx=>h x (by simp[hx])) h6
   refine⟨e4,?_,h8⟩;rw[Qu,Jb hb,Qu];unfold g6_;rw[h1];simp only[Qj];rw[h2,hb];simp only[Qj,Zy];rw[h5];simp only[Qj];rw[h7];rfl
  |false=>
   obtain⟨e4,h7,h8⟩:=b0p (l:=l) (fun x hx=>h x (by simp[hx])) (h4 hb)
   refine⟨e4,?_,h8⟩;rw[Qu,Jp (by simp[hb])]
   unfold g6_;rw[h1];simp only[Qj];rw[h2,hb];simp only[Qj,Zq,Yj];exact h7
def inB(d:D)(a b:Int):Bool:=match d with
 |.int i=>decide (a≤i)&&decide (i≤b)
 |_=>false
theorem b4m{a i b:Int}{mc:Mo D}(h1:ma e=some (.int a,e))(h2:mb e=some (.int i,e))(h3:mc e=some (.int b,e)):a1a dLe dLe ma mb mc e=some (.bl (decide (a≤i)&&decide (i≤b)),e):=by
 unfold a1a;rw[h1];show(mb e).bind _=_;rw[h2]
 by_cases h:a≤i
 ·have e1:dLe (.int a) (.int i)=some (.bl true):=by show some (D.bl (decide _))=_;simp[h]
  simp only[Qj,e1];rw[h3];show some (D.bl (decide (i≤b)),e)=_
  simp[h]
 ·have e1:dLe (.int a) (.int i)=some (.bl false):=by show some (D.bl (decide _))=_;simp[h]
  simp only[Qj,e1]
  simp[h]
def tt2(l:List Int):Bool:=decide (l.filter (fun x=>!(x==0))=(List.range (l.filter fun x=>!(x==0)).length).map fun(i:Nat)=>1-2 * ((i:Int)%2))&&(((l.filter fun x=>!(x==0)).length:Int)%2==1)
theorem b4n(d:D)(l:List Int)(hd:d.items=some (l.map .int))(hl:l.length≤1000):a2y [.dat d]=some (.d (.bl (tt2 l)),[.dat d]):=by
 obtain⟨e',h1,w,rfl⟩:=b0p (g:=gN 2) (t:=mT (z4_ (dEq true) (z0_ 2) (mC (.int 0)))) (m:=z0_ 2) (P:=fun e=>∃w,e=[.nil,.nil,w]) (q:=D.int) (f:=D.int) (p:=fun x=>!(x==0)) (l:=l) (env:=[.nil,.nil,.nil])
  (fun x _ e ⟨w,he⟩=>by
   subst he;exact⟨[.nil,.nil,.dat (.int x)],[.nil,.nil,.dat (.int x)],rfl,rfl,fun _=>⟨_,rfl,_,rfl⟩,fun _=>⟨_,rfl⟩⟩) ⟨.nil,rfl⟩
 generalize hs:l.filter (fun x=>!(x==0))=s at h1
 have hsl:s.length≤1000:=by rw[←hs];exact Zp (Uc _ _) hl
 have c1:(v1_ (y0_ (z0_ 0)) [false,false] 1 (gN 2) (mT (z4_ (dEq true) (z0_ 2) (mC (.int 0)))) (z0_ 2)) [.dat d,.nil]=some (s.map .int,[.dat d,.nil]):=
  a2N (e2:=[.nil,.nil,w]) (a0R rfl hd) (by rw[Qv];omega) h1 rfl
 obtain⟨e',h2,w2,rfl⟩:=a3G (g:=gN 2) (m:=z4_ k6_ (mC (.int 1)) (z4_ a0c (mC (.int 2)) (z4_ a0a (z0_ 2) (mC (.int 2))))) (P:=fun e=>∃w,e=[.nil,.nil,w]) (q:=fun(i:Nat)=>D.int i) (f:=fun i=>.int (1-2 * ((i:Int)%2))) (l:=List.range s.length) (env:=[.nil,.nil,.nil])
  (fun i _ e ⟨w,he⟩=>by
   subst he;refine⟨[.nil,.nil,.dat (.int i)],[.nil,.nil,.dat (.int i)],rfl,?_,_,rfl⟩;refine q5_ (b:=.int (2 * ((i:Int)%2))) rfl (q5_ rfl (q5_ rfl rfl (show a0a (.int i) (.int 2)=some (.int ((i:Int)%2))from rfl)) ?_) rfl
   exact a4A (a5B (by decide) (by decide))) ⟨.nil,rfl⟩
 have c2:(v1_ (j1_ (z1_ (mCB v8_ (z1_ (z0_ 1) z3_)) z3_)) [false,false] 1 (gN 2) v3_ (z4_ k6_ (mC (.int 1)) (z4_ a0c (mC (.int 2)) (z4_ a0a (z0_ 2) (mC (.int 2)))))) [.dat d,.dat (.lst (s.map .int))]=some (((List.range s.length).map fun(i:Nat)=>1-2 * ((i:Int)%2)).map D.int,[.dat d,.dat (.lst (s.map .int))]):=by
  have r1:(j1_ (z1_ (mCB v8_ (z1_ (z0_ 1) z3_)) z3_)) [.dat d,.dat (.lst (s.map .int))]=some (a0i 0 s.length,[.dat d,.dat (.lst (s.map .int))]):=by
   have e:(z1_ (mCB v8_ (z1_ (z0_ 1) z3_)) z3_) [.dat d,.dat (.lst (s.map .int))]=some ([.int (s.length:Int)],[.dat d,.dat (.lst (s.map .int))]):=by
    refine q3_ (k2_ (q3_ rfl rfl) ?_) rfl;show some (D.int ((s.map D.int).length:Nat))=_;rw[Qv]
   have:=a6u e (by omega) (by omega)
   rwa [Yd]at this
  refine a2N (e2:=[.nil,.nil,w2]) r1 (by rw[a4z];simp;omega) ?_ rfl
  rw[a4z,Qe];exact h2
 refine(w0_ (d:=.bl (tt2 l)) (env:=[.dat d,.dat (.lst (s.map .int))]) ?_).trans rfl;show b0f [.dat d,.nil]=_;unfold b0f;rw[j3_ (b2s c1)];show v0_ _ [.dat d,.own (s.map .int)]=_;refine u0_ ?_
 have a1:(z4_ (dEq false) (z0_ 1) (mF (v1_ (j1_ (z1_ (mCB v8_ (z1_ (z0_ 1) z3_)) z3_)) [false,false] 1 (gN 2) v3_ (z4_ k6_ (mC (.int 1)) (z4_ a0c (mC (.int 2)) (z4_ a0a (z0_ 2) (mC (.int 2)))))))) [.dat d,.dat (.lst (s.map .int))]=some (.bl (decide (s=(List.range s.length).map fun(i:Nat)=>1-2 * ((i:Int)%2))),[.dat d,.dat (.lst (s.map .int))]):=
  q5_ (e1:=[.dat d,.dat (.lst (s.map .int))]) rfl (k3_ c2) (c3G _ _)
 have a2:(z4_ (dEq false) (z4_ a0a (mCB v8_ (z1_ (z0_ 1) z3_)) (mC (.int 2))) (mC (.int 1))) [.dat d,.own (s.map .int)]=some (.bl ((s.length:Int)%2==1),[.dat d,.dat (.lst (s.map .int))]):=by
  refine q5_ (e1:=[.dat d,.dat (.lst (s.map .int))]) (q5_ (e1:=[.dat d,.dat (.lst (s.map .int))]) (k2_ (q3_ rfl rfl) (show v8_ [.lst (s.map .int)]=some (.int (s.length:Int))from ?_)) rfl rfl) rfl rfl
  show some (D.int ((s.map D.int).length:Nat))=_;rw[Qv]
 unfold a0h;rw[a2];simp only[Qj];unfold tt2;rw[hs];cases hb:((s.length:Int)%2==1)with
 |true=>simp only[Bool.and_true];exact a1
 |false=>simp only[Bool.and_false]
def alt:Int->Nat->List Int
 |_,0=>[]
 |s,k+1=>(1-2 * s)::alt (1-s) k
theorem b4o:∀(k j:Nat),(List.range' j k).map (fun(i:Nat)=>1-2 * ((i:Int)%2))=alt ((j:Int)%2) k
 |0,_=>rfl
 |k+1,j=>by
  rw[List.range'_succ,Qu,b4o k (j+1)];show _=(1-2 * ((j:Int)%2))::alt (1-(j:Int)%2) k
  congr 2
  omega
theorem c3H(k:Nat):(List.range k).map (fun(i:Nat)=>1-2 * ((i:Int)%2))=alt 0 k:=by
 rw[List.range_eq_range'];exact b4o k 0
def small(x:Int):Bool:=decide (-1≤x)&&decide (x≤1)
theorem c3I(l:List Int):∀s:Int,(s=0∨s=1)->tt s l=tt s (l.filter fun x=>!(x==0)):=by
 induction l with
 |nil=>intro s _;rfl
 |cons x l ih=>
  intro s hs
  by_cases hx:x=0
  ·subst hx
   rw[Jp (by simp),←ih s hs]
   rcases hs with rfl|rfl<;>simp[tt]
  ·rw[Jb (by simp[hx])]
   simp only[tt]
   by_cases h:(s+x==0||s+x==1)=true
   ·rw[h,Yu,Yu]
    exact ih (s+x) (by simpa using h)
   ·have h':(s+x==0||s+x==1)=false:=by simpa using h
    rw[h',Jo,Jo]
theorem c3J(l:List Int):∀s:Int,(s=0∨s=1)->(∀x∈l,x=1∨x= -1)->tt s l=(decide (l=alt s l.length)&&((l.length:Int)+s)%2==1):=by
 induction l with
 |nil=>intro s hs _;rcases hs with rfl|rfl<;>rfl
 |cons x l ih=>
  intro s hs hx;have hx1:=hx x (by simp)
  have ih':=fun s hs=>ih s hs fun y hy=>hx y (by simp[hy])
  simp only[tt,Yy,alt]
  rcases hs with rfl|rfl
  ·rcases hx1 with rfl|rfl
   ·have:=ih' 1 (.inr rfl)
    show(true&&tt 1 l)=(decide (1::l=(1:Int)::alt 1 l.length)&&((((l.length+1:Nat):Int)+0)%2==1));have e1:decide (1::l=(1:Int)::alt 1 l.length)=decide (l=alt 1 l.length):=by simp
    have e2:((l.length:Int)+1)=(((l.length+1:Nat):Int)+0):=by omega
    rw[Yu,this,e1,e2]
   ·simp[show((0:Int)+ -1==0||(0:Int)+ -1==1)=false from rfl]
  ·rcases hx1 with rfl|rfl
   ·simp[show((1:Int)+1==0||(1:Int)+1==1)=false from rfl]
   ·have:=ih' 0 (.inl rfl)
    show(true&&tt 0 l)=(decide (-1::l=(-1:Int)::alt 0 l.length)&&((((l.length+1:Nat):Int)+1)%2==1));have e1:decide (-1::l=(-1:Int)::alt 0 l.length)=decide (l=alt 0 l.length):=by simp
    have e2:((l.length:Int)+0)%2=(((l.length+1:Nat):Int)+1)%2:=by omega
    rw[Yu,this,e1,e2]
theorem b4p(l:List Int)(h:∀x∈l,small x=true):tt 0 l=tt2 l:=by
 rw[c3I l 0 (.inl rfl),c3J _ 0 (.inl rfl) (fun x hx=>?_)]
 ·unfold tt2
  rw[c3H,Int.add_zero]
 ·obtain⟨h1,h2⟩:=Uk.mp hx
  have:=h x h1
  simp[small]at this h2
  omega
theorem b4q(l:List Int):∀s:Int,(s=0∨s=1)->tt s l=true->∀x∈l,small x=true:=by
 induction l with
 |nil=>intro s _ _ x hx;cases hx
 |cons y l ih=>
  intro s hs h x hx;simp only[tt,Qw]at h;have h1:s+y=0∨s+y=1:=by simpa using h.1
  rcases Qr.mp hx with rfl|hx
  ·simp[small];omega
  ·exact ih (s+y) h1 h.2 x hx
theorem c3K(l:List Int):tt 0 l=(l.all small&&tt2 l):=by
 by_cases h:l.all small=true
 ·rw[h,Yu];exact b4p l (Qb.mp h)
 ·have h':l.all small=false:=by simpa using h
  rw[h',Jo];cases ht:tt 0 l with
  |false=>rfl
  |true=>exact absurd (Qb.mpr (b4q l 0 (.inl rfl) ht)) h
theorem b4r{i j k:Int}(h:a5X i j=true)(e:i^j.toNat=k):a0N (.int i) (.int j)=some (.int k):=by
 show(if a5X i j=true then some (D.int (i^j.toNat))else none)=_
 rw[Qn h,e]
theorem b4s:a0N (.int 10) (.int 18)=some (.int 1000000000000000000):=b4r (by decide+kernel) (by decide+kernel)
theorem a5D{a m:Int}(ha:0≤a)(h1:1≤m)(h2:m<1073741824):∃v a',w5_ [.par [.int a,.bl b],.dat (.int m)]=some (.d (.int v),[.par [.int a',.bl b],.dat (.int m)])/\0≤v/\v<m/\0≤a':=by
 have dm:∀x:Int,a0a (.int x) (.int m)=some (.int (x%m)):=fun x=>by
  show(if decide (0<m)=true then _ else none)=_
  rw[Qn (by simp;omega)]
 have dd:∀x:Int,a4O (.int x) (.int m)=some (.int (x/m)):=fun x=>by
  show(if a5W x m=true then _ else none)=_
  rw[Qn (by unfold a5W;simp;omega)]
 cases b with
 |true=>
  refine⟨a%m,a/m,?_,Uu _ (by omega),Vw _ (by omega),Int.ediv_nonneg ha (by omega)⟩
  refine(w0_ (d:=.int (a%m)) (env:=[.par [.int (a/m),.bl true],.dat (.int m),.nil,.dat (.int (a%m))]) ?_).trans rfl;show a5z [.par [.int a,.bl true],.dat (.int m),.nil,.nil]=_;unfold a5z;have t:(mT (a0b 0 (mC (.int 1)))) [.par [.int a,.bl true],.dat (.int m),.nil,.nil]=some (true,[.par [.int a,.bl true],.dat (.int m),.nil,.nil]):=rfl;have s1:(v2_ 3 (z4_ a0a (a0b 0 (mC (.int 0))) (z0_ 1))) [.par [.int a,.bl true],.dat (.int m),.nil,.nil]=some (.nx,[.par [.int a,.bl true],.dat (.int m),.nil,.dat (.int (a%m))]):=a1w (e1:=[.par [.int a,.bl true],.dat (.int m),.nil,.nil]) (q5_ rfl rfl (dm a));have s2:(a1B (z4_ a4O (a0b 0 (mC (.int 0))) (z0_ 1)) (gS 0 (mC (.int 0)))) [.par [.int a,.bl true],.dat (.int m),.nil,.dat (.int (a%m))]=some (.nx,[.par [.int (a/m),.bl true],.dat (.int m),.nil,.dat (.int (a%m))]):=by
   unfold a1B;rw[q5_ (c:=.int (a/m)) rfl rfl (dd a)];rfl
  rw[a1u (d:=.int (a%m)) (by rw[a1v t,j3_ s1,j3_ s2];rfl)]
 |false=>
  have e1:∀x:Int,a0c (.int x) (.int 48271)=some (.int (x * 48271)):=fun x=>a4A (c3F (by decide) (by decide))
  have md:∀(x k:Int),0<k->a0a (.int x) (.int k)=some (.int (x%k)):=fun x k hk=>by
   show(if decide (0<k)=true then _ else none)=_
   rw[Qn (by simp;omega)]
  let p:Int:=(a * 48271+29)%2147483647
  have hp:0≤p/\p<2147483647:=⟨Uu _ (by decide),Vw _ (by decide)⟩
  let q:Int:=(p * p+39373 * p+7)%2147483629
  have hq:0≤q/\q<2147483629:=⟨Uu _ (by decide),Vw _ (by decide)⟩
  let r:Int:=(q * q+16807 * q)%2147483587
  have hr:0≤r:=Uu _ (by decide)
  refine⟨r/8%m,p,?_,Uu _ (by omega),Vw _ (by omega),hp.1⟩
  refine(w0_ (d:=.int (r/8%m)) (env:=[.par [.int p,.bl false],.dat (.int m),.dat (.int r),.nil]) ?_).trans rfl;show a5z [.par [.int a,.bl false],.dat (.int m),.nil,.nil]=_;unfold a5z;have t:(mT (a0b 0 (mC (.int 1)))) [.par [.int a,.bl false],.dat (.int m),.nil,.nil]=some (false,[.par [.int a,.bl false],.dat (.int m),.nil,.nil]):=rfl;have s1:(a1B (z4_ a0a (z4_ v7_ (z4_ a0c (a0b 0 (mC (.int 0))) (mC (.int 48271))) (mC (.int 29))) (mC (.int 2147483647))) (gS 0 (mC (.int 0)))) [.par [.int a,.bl false],.dat (.int m),.nil,.nil]=some (.nx,[.par [.int p,.bl false],.dat (.int m),.nil,.nil]):=by
   unfold a1B;rw[q5_ (c:=.int p) (q5_ (c:=.int (a * 48271+29)) (q5_ rfl rfl (e1 a)) rfl rfl) rfl (md _ _ (by decide))];rfl
  have s2:(v2_ 2 (z4_ a0a (z4_ v7_ (z4_ v7_ (z4_ a0c (a0b 0 (mC (.int 0))) (a0b 0 (mC (.int 0)))) (z4_ a0c (mC (.int 39373)) (a0b 0 (mC (.int 0))))) (mC (.int 7))) (mC (.int 2147483629)))) [.par [.int p,.bl false],.dat (.int m),.nil,.nil]=some (.nx,[.par [.int p,.bl false],.dat (.int m),.dat (.int q),.nil]):=
   a1w (e1:=[.par [.int p,.bl false],.dat (.int m),.nil,.nil]) (q5_ (c:=.int q) (q5_ (c:=.int (p * p+39373 * p+7)) (q5_ (c:=.int (p * p+39373 * p)) (q5_ rfl rfl (a4A (i:=p) (j:=p) (a5B (by omega) (by omega)))) (q5_ rfl rfl (a4A (i:=39373) (j:=p) (a5B (by decide) (by decide)))) rfl) rfl rfl) rfl (md _ _ (by decide)))
  have s3:(v2_ 2 (z4_ a0a (z4_ v7_ (z4_ a0c (z0_ 2) (z0_ 2)) (z4_ a0c (mC (.int 16807)) (z0_ 2))) (mC (.int 2147483587)))) [.par [.int p,.bl false],.dat (.int m),.dat (.int q),.nil]=some (.nx,[.par [.int p,.bl false],.dat (.int m),.dat (.int r),.nil]):=
   a1w (e1:=[.par [.int p,.bl false],.dat (.int m),.dat (.int q),.nil]) (q5_ (c:=.int r) (q5_ (c:=.int (q * q+16807 * q)) (q5_ rfl rfl (a4A (i:=q) (j:=q) (a5B (by omega) (by omega)))) (q5_ rfl rfl (a4A (i:=16807) (j:=q) (a5B (by decide) (by decide)))) rfl) rfl (md _ _ (by decide)))
  rw[j3_ (by rw[a1e t];rfl),j3_ s1,j3_ s2,j3_ s3]
  exact u0_ (q5_ (c:=.int (r/8%m)) (q5_ (c:=.int (r/8)) rfl rfl rfl) rfl (dm _))
theorem c3L(ns:List Int)(k:Nat)(hk:k<1000):∃c,a4t [.dat (.lst (ns.map .int)),.dat (.int k)]=some (.d (.int c),[.dat (.lst (ns.map .int)),.dat (.int k)]):=by
 have t:(mT (z4_ dLt (z0_ 1) (mCB v8_ (z1_ (z0_ 0) z3_)))) [.dat (.lst (ns.map .int)),.dat (.int k)]=some (decide ((k:Int)<(ns.length:Int)),[.dat (.lst (ns.map .int)),.dat (.int k)]):=by
  show some (decide ((k:Int)<((ns.map D.int).length:Nat)),_)=_;rw[Qv]
 by_cases h:k<ns.length
 ·have hd:decide ((k:Int)<(ns.length:Int))=true:=by simp;omega
  rw[hd]at t;refine⟨ns[k],(w0_ (d:=.int ns[k]) (env:=[.dat (.lst (ns.map .int)),.dat (.int k)]) ?_).trans rfl⟩;show a5x [.dat (.lst (ns.map .int)),.dat (.int k)]=_;unfold a5x;rw[a1u (d:=.int ns[k]) (by
   rw[a1v t];exact u0_ (q5_ rfl rfl (show atI (ns.map D.int) (k:Int)=_ from a0z (by simp[h]))))]
 ·have hd:decide ((k:Int)<(ns.length:Int))=false:=by simp;omega
  rw[hd]at t;refine⟨0,(w0_ (d:=.int 0) (env:=[.dat (.lst (ns.map .int)),.dat (.int k)]) ?_).trans rfl⟩;show a5x [.dat (.lst (ns.map .int)),.dat (.int k)]=_;unfold a5x;rw[j3_ (by rw[a1e t];rfl)];rfl
theorem c3M(ns:List Int)(k:Nat)(hk:k<1000):∃a b,0≤a/\a4u [.dat (.lst (ns.map .int)),.dat (.int k)]=some (.l [.int a,.bl b],[.dat (.lst (ns.map .int)),.dat (.int k)]):=by
 obtain⟨c,hc⟩:=c3L ns k hk;have s1:(v2_ 2 (mCD 2 a4t (z6_ (z0_ 0) (z6_ (z0_ 1) z8_)))) [.dat (.lst (ns.map .int)),.dat (.int k),.nil]=some (.nx,[.dat (.lst (ns.map .int)),.dat (.int k),.dat (.int c)]):=
  a1w (e1:=[.dat (.lst (ns.map .int)),.dat (.int k),.nil]) (a1f (a0S (av:=[.d (.lst (ns.map .int)),.d (.int k)]) rfl rfl rfl hc))
 have t:(mT (z4_ dGe (z0_ 2) (z4_ a0N (mC (.int 10)) (mC (.int 18))))) [.dat (.lst (ns.map .int)),.dat (.int k),.dat (.int c)]=some (decide (1000000000000000000≤c),[.dat (.lst (ns.map .int)),.dat (.int k),.dat (.int c)]):=by
  refine j4_ (q5_ (b:=.int 1000000000000000000) rfl ?_ rfl);exact q5_ rfl rfl b4s
 by_cases h:1000000000000000000≤c
 ·rw[Xx h]at t
  refine⟨c-1000000000000000000,true,by omega,(a6t (d:=[.int (c-1000000000000000000),.bl true]) (env:=[.dat (.lst (ns.map .int)),.dat (.int k),.dat (.int c)]) ?_).trans rfl⟩
  show a5y [.dat (.lst (ns.map .int)),.dat (.int k),.nil]=_;unfold a5y;rw[j3_ s1];have r:(a2h (x5_ (z1_ (z4_ k6_ (z0_ 2) (z4_ a0N (mC (.int 10)) (mC (.int 18)))) (z1_ (mC (.bl true)) z3_)))) [.dat (.lst (ns.map .int)),.dat (.int k),.dat (.int c)]=some (.retL [.int (c-1000000000000000000),.bl true],[.dat (.lst (ns.map .int)),.dat (.int k),.dat (.int c)]):=by
   have b:=q5_ (f:=k6_) (ma:=z0_ 2) (mb:=z4_ a0N (mC (.int 10)) (mC (.int 18))) (env:=[.dat (.lst (ns.map .int)),.dat (.int k),.dat (.int c)]) (b:=.int 1000000000000000000) (c:=.int (c-1000000000000000000)) rfl (q5_ rfl rfl b4s) rfl
   refine a8n ?_
   unfold x5_;rw[q3_ b (q3_ rfl rfl)];rfl
  unfold q1_;rw[a1v t,r];rfl
 ·rw[Zb h]at t
  refine⟨c%2147483647,false,Uu _ (by decide),(a6t (d:=[.int (c%2147483647),.bl false]) (env:=[.dat (.lst (ns.map .int)),.dat (.int k),.dat (.int c)]) ?_).trans rfl⟩
  show a5y [.dat (.lst (ns.map .int)),.dat (.int k),.nil]=_;unfold a5y;rw[j3_ s1,j3_ (by rw[a1e t];rfl)];rfl
def bits:Nat->OI
 |0=>[[]]
 |n+1=>(bits n).map (fun l=>0::l)++(bits n).map (fun l=>1::l)
def a0k(h r:List Int):List Int:=List.zipWith (· + ·) h r
def b4t(h:List Int)(d:D):Bool:=isR d h.length&&(tt 0 (unR d)&&(a0k h (unR d)).all fun x=>x==0||x==1)
def chk(h:List Int):Bool:=match a3b [.dat (dR h)]with
 |some (.l ds,_)=>ds.all (b4t h)&&((h.all fun x=>x==1)||(decide (1≤ds.length)&&decide (ds.length≤1000)))
 |_=>false
theorem c3N:(bits 1).all chk=true:=by decide+kernel
theorem c3O:(bits 2).all chk=true:=by decide+kernel
theorem c3P:(bits 3).all chk=true:=by decide+kernel
theorem c3Q:(bits 4).all chk=true:=by decide+kernel
theorem c3R:(bits 5).all chk=true:=by decide+kernel
theorem c3S:(bits 6).all chk=true:=by decide+kernel
structure HB(h:List Int)(n:Nat):Prop where
 len:h.length=n
 bit:∀x∈h,x=0∨x=1
theorem HB.mem:∀{n:Nat}{h:List Int},HB h n->h∈bits n
 |0,h,H=>by
  have:=H.len;cases h with
  |nil=>simp[bits]
  |cons _ _=>simp at this
 |n+1,h,H=>by
  cases h with
  |nil=>have:=H.len;simp at this
  |cons x l=>
   have hl:HB l n:=⟨by have:=H.len;simpa using this,fun y hy=>H.bit y (by simp[hy])⟩
   have:=hl.mem;unfold bits;rw[List.mem_append,Zj,Zj]
   rcases H.bit x (by simp)with rfl|rfl
   ·exact .inl ⟨l,this,rfl⟩
   ·exact .inr ⟨l,this,rfl⟩
theorem c3T{h:List Int}(h1:1≤n)(h6:n≤6)(H:HB h n):chk h=true:=by
 have hm:=H.mem
 match n,h1,h6 with
 |1,_,_=>exact Qb.mp c3N h hm
 |2,_,_=>exact Qb.mp c3O h hm
 |3,_,_=>exact Qb.mp c3P h hm
 |4,_,_=>exact Qb.mp c3Q h hm
 |5,_,_=>exact Qb.mp c3R h hm
 |6,_,_=>exact Qb.mp c3S h hm
structure LineOk(h r:List Int):Prop where
 len:r.length=h.length
 tt:tt 0 r=true
 bit:∀x∈a0k h r,x=0∨x=1
theorem c3U{h:List Int}(h1:1≤n)(h6:n≤6)(H:HB h n)(hs:∃x∈h,x≠1):∃(rows:OI) (ws':List W),a3b [.dat (dR h)]=some (.l (rows.map dR),ws')/\1≤rows.length/\rows.length≤1000/\∀r∈rows,LineOk h r:=by
 have hc:=c3T h1 h6 H
 unfold chk at hc;split at hc
 ·rename_i ds ws' e
  rw[Qw]at hc;have hl:1≤ds.length/\ds.length≤1000:=by
   have h2:=hc.2
   rw[Xe]at h2
   rcases h2 with h2|h2
   ·obtain⟨x,hx,hne⟩:=hs
    have:=Qb.mp h2 x hx
    simp at this
    exact absurd this hne
   ·rw[Qw,Zz,Zz]at h2
    exact h2
  have ok:∀d∈ds,d=dR (unR d)/\LineOk h (unR d):=fun d hd=>by
   have:=Qb.mp hc.1 d hd;unfold b4t at this;rw[Qw,Qw]at this;obtain⟨a1,a2⟩:=a5A this.1;exact⟨a1,by omega,this.2.1,fun x hx=>by simpa using Qb.mp this.2.2 x hx⟩
  refine⟨ds.map unR,ws',?_,by rw[Qv];exact hl.1,by rw[Qv];exact hl.2,fun r hr=>?_⟩
  ·rw[e,Qe]
   have:ds.map (dR∘unR)=ds:=by
    conv=>rhs;rw[←Vd ds]
    exact Zw fun d hd=>(ok d hd).1.symm
   rw[this]
  ·obtain⟨d,hd,rfl⟩:=Zj.mp hr
   exact(ok d hd).2
 ·cases hc
theorem c3V(l:List Int):∀s,tt s l=true->s+l.sum=1:=by
 induction l with
 |nil=>intro s h;simpa [tt]using h
 |cons x l ih=>
  intro s h;simp only[tt,Qw]at h;have:=ih (s+x) h.2;simp only[Vs]
  omega
theorem b4u{h r:List Int}(e:r.length=h.length):(a0k h r).length=h.length:=by simp[a0k,e]
theorem b4v:∀{h r:List Int},r.length=h.length->(a0k h r).sum=h.sum+r.sum
 |[],[],_=>rfl
 |x::h,y::r,e=>by
  have:=b4v (h:=h) (r:=r) (by simpa using e)
  simp only[a0k,List.zipWith_cons_cons,Vs]at this ⊢
  omega
 |[],_::_,e=>by simp at e
 |_::_,[],e=>by simp at e
def run:Int->List Int->Option Int
 |s,[]=>some s
 |s,x::l=>if s+x=0∨s+x=1 then run (s+x) l else none
theorem c3W(l:List Int):∀s,tt s l=(run s l==some 1):=by
 induction l with
 |nil=>intro s;rfl
 |cons x l ih=>
  intro s;simp only[tt,run]
  by_cases h:s+x=0∨s+x=1
  ·rw[Qn h,←ih]
   have:(s+x==0||s+x==1)=true:=by simpa using h
   rw[this,Yu]
  ·rw[Ql h]
   have:(s+x==0||s+x==1)=false:=by simpa using h
   rw[this];rfl
theorem c3X(l:List Int)(x:Int):∀s t,run s l=some t->(t+x=0∨t+x=1)->run s (l++[x])=some (t+x):=by
 induction l with
 |nil=>intro s t h hx;cases h;simp[run,hx]
 |cons y l ih=>
  intro s t h hx;simp only[run,List.cons_append]at h ⊢;split at h
  ·rename_i hy
   rw[Qn hy];exact ih (s+y) t h hx
  ·cases h
theorem b4w:∀{h:List Int},(∀x∈h,x=0∨x=1)->h.sum≤h.length/\(h.sum=h.length->∀x∈h,x=1)
 |[],_=>⟨by simp,fun _ x hx=>by cases hx⟩
 |y::h,H=>by
  obtain⟨h1,h2⟩:=b4w (h:=h) fun x hx=>H x (by simp[hx])
  have hy:=H y (by simp)
  simp only[Vs,Yy];refine⟨by omega,fun e x hx=>?_⟩
  rcases Qr.mp hx with rfl|hx
  ·omega
  ·exact h2 (by omega) x hx
theorem b0q{g:OZ}{b:Mo Fl}:∀{ds:List D}{P:Nat->Env'->Prop}{env:Env'},(∀i d e,ds[i]? =some d->P i e->∃e1 e2,g d e=some e1/\b e1=some (.nx,e2)/\P (i+1) e2)->P 0 env->∃env',loop g b ds env=some (.nx,env')/\P ds.length env'
 |[],P,env,_,p=>⟨env,rfl,p⟩
 |d::ds,P,env,h,p=>by
  obtain⟨e1,e2,h1,h2,h3⟩:=h 0 d env rfl p;obtain⟨e3,h4,h5⟩:=b0q (ds:=ds) (P:=fun i e=>P (i+1) e) (fun i x e hi q=>h (i+1) x e (by simpa using hi) q) h3
  refine⟨e3,?_,h5⟩;unfold loop;rw[h1];simp only[Qj];rw[h2];exact h4
theorem b4x{h r:List Int}(e:r.length=h.length)(hj:j<h.length):(a0k h r).getD j 0=h.getD j 0+r.getD j 0:=by
 have hj2:j<r.length:=by omega
 simp[a0k,Jz,Zv hj,Zv hj2]
theorem c3Y{h r:List Int}:a1d (h.map D.int) (r.map D.int)=(h.zip r).map fun p=>.tup [.int p.1,.int p.2]:=by
 unfold a1d;rw[List.zip_map,Qe];rfl
theorem b4y(f:Nat->Nat->Bool):∀k,argBest f k≤k
 |0=>Qy _
 |k+1=>by
  have:=b4y f k;unfold argBest;split<;>omega
theorem c3Z(h:1≤l.length):a0o false l∈l:=by
 unfold a0o;have hl:=b4y (fun i j=>if false then decide (l.getD i 0>l.getD j 0)else decide (l.getD i 0<l.getD j 0)) (l.length-1)
 rw[List.getD_eq_getElem?_getD,Zv (by omega)]
 exact Jq _
theorem b4z(h:1≤l.length):a0p false [dR l]=some (.int (a0o false l)):=by
 unfold dR;show(ints? (l.map D.int)).bind _=_;rw[a2u,Qj,Ql];cases l with
 |nil=>simp at h
 |cons _ _=>simp
theorem c4a(h:1≤l.length):a0p false [.lst (l.map D.int)]=some (.int (a0o false l)):=by
 show(ints? (l.map D.int)).bind _=_;rw[a2u,Qj,Ql];cases l with
 |nil=>simp at h
 |cons _ _=>simp
abbrev b0r:Mo Fl:=(q1_ (v2_ 6 (mF (a0e 1 a3b (z6_ (z0_ 2) z8_)))) (q1_ (y4_ (mT (z4_ (dEq false) (z0_ 4) (mC (.int 0)))) (q1_ (v2_ 8 (mCB (a0p false) (z1_ (mF (v1_ (y0_ (z0_ 6)) [false,false,false,false,false,false,false,false,false] 1 (gN 9) v3_ (mCB (a0p false) (z1_ (z0_ 9) z3_)))) z3_))) (j5_ 6 (v1_ (y0_ (z0_ 6)) [false,false,false,false,false,false,false,false,true] 1 (gN 9) (mT (z4_ (dEq false) (mCB (a0p false) (z1_ (z0_ 9) z3_)) (z0_ 8))) (z0_ 9)))) mNx) (q1_ (v2_ 7 (z4_ dIx (z0_ 6) (mCD 2 w5_ (k4_ 0 (z6_ (mCB v8_ (z1_ (z0_ 6) z3_)) z8_))))) (q1_ (v2_ 3 (z4_ v7_ (z0_ 3) (v6_ (z1_ (z0_ 7) z3_)))) (v2_ 2 (mCD 2 a3A (z6_ (z0_ 2) (z6_ (z0_ 7) z8_))))))))
abbrev c4b:Mo Fl:=(y4_ (mT (z4_ (dEq false) (z0_ 4) (mC (.int 0)))) (q1_ (v2_ 8 (mCB (a0p false) (z1_ (mF (v1_ (y0_ (z0_ 6)) [false,false,false,false,false,false,false,false,false] 1 (gN 9) v3_ (mCB (a0p false) (z1_ (z0_ 9) z3_)))) z3_))) (j5_ 6 (v1_ (y0_ (z0_ 6)) [false,false,false,false,false,false,false,false,true] 1 (gN 9) (mT (z4_ (dEq false) (mCB (a0p false) (z1_ (z0_ 9) z3_)) (z0_ 8))) (z0_ 9)))) mNx)
def LW(w:W)(ds:List D):Prop:=w=.dat (.lst ds)∨w=.own ds
theorem c4c{a:Int}(h1:1≤rows.length)(h2:rows.length≤1000)(hr:∀r∈rows,1≤r.length):
  ∃(rows':OI) (w6 x8:W),c4b [.par [.int a,.bl b],w1,w2,w3,.dat (.int few),w5,.dat (.lst (rows.map dR)),w7,w8]=some (.nx,[.par [.int a,.bl b],w1,w2,w3,.dat (.int few),w5,w6,w7,x8])/\LW w6 (rows'.map dR)/\1≤rows'.length/\rows'.length≤1000/\∀r∈rows',r∈rows:=by
 by_cases hf:few=0
 ·subst hf
  let most:Int:=a0o false (rows.map (a0o false))
  have hm:most∈rows.map (a0o false):=c3Z (by simpa using h1)
  obtain⟨r0,hr0,e0⟩:=Zj.mp hm;refine⟨rows.filter fun r=>(a0o false r==most),.own ((rows.filter fun r=>(a0o false r==most)).map dR),.dat (.int most),?_,.inr rfl,?_,?_,fun r hq=>(Uk.mp hq).1⟩
  ·refine a5p (e1:=[.par [.int a,.bl b],w1,w2,w3,.dat (.int 0),w5,.dat (.lst (rows.map dR)),w7,w8]) rfl ?_
   have c1:=a1L (mi:=y0_ (z0_ 6)) (keep:=[false,false,false,false,false,false,false,false,false]) (m:=mCB (a0p false) (z1_ (z0_ 9) z3_)) (env:=[.par [.int a,.bl b],w1,w2,w3,.dat (.int 0),w5,.dat (.lst (rows.map dR)),w7,w8]) (base:=[.nil,.nil,.nil,.nil,.nil,.nil,.nil,.nil,.nil]) (l:=rows) (q:=dR) (f:=fun r=>.int (a0o false r)) (k:=9) rfl (by omega) rfl rfl
    (fun r hq=>k2_ (q3_ (e1:=[.nil,.nil,.nil,.nil,.nil,.nil,.nil,.nil,.nil,.dat (dR r)]) rfl rfl) (b4z (hr r hq))) (fun w=>rfl)
   have s1:(v2_ 8 (mCB (a0p false) (z1_ (mF (v1_ (y0_ (z0_ 6)) [false,false,false,false,false,false,false,false,false] 1 (gN 9) v3_ (mCB (a0p false) (z1_ (z0_ 9) z3_)))) z3_))) [.par [.int a,.bl b],w1,w2,w3,.dat (.int 0),w5,.dat (.lst (rows.map dR)),w7,w8]=some (.nx,[.par [.int a,.bl b],w1,w2,w3,.dat (.int 0),w5,.dat (.lst (rows.map dR)),w7,.dat (.int most)]):=by
    refine a1w (e1:=[.par [.int a,.bl b],w1,w2,w3,.dat (.int 0),w5,.dat (.lst (rows.map dR)),w7,w8]) (k2_ (q3_ (k3_ c1) rfl) ?_);have:=c4a (l:=rows.map (a0o false)) (by simpa using h1)
    rw[Qe]at this;exact this
   have c2:=a8S (mi:=y0_ (z0_ 6)) (keep:=[false,false,false,false,false,false,false,false,true]) (t:=mT (z4_ (dEq false) (mCB (a0p false) (z1_ (z0_ 9) z3_)) (z0_ 8))) (m:=z0_ 9) (env:=[.par [.int a,.bl b],w1,w2,w3,.dat (.int 0),w5,.dat (.lst (rows.map dR)),w7,.dat (.int most)]) (base:=[.nil,.nil,.nil,.nil,.nil,.nil,.nil,.nil,.dat (.int most)]) (l:=rows) (q:=dR) (f:=dR) (p:=fun r=>(a0o false r==most)) (k:=9) rfl (by omega) rfl rfl
    (fun r hq=>⟨j4_ (q5_ (a:=.int (a0o false r)) (b:=.int most) (e1:=[.nil,.nil,.nil,.nil,.nil,.nil,.nil,.nil,.dat (.int most),.dat (dR r)]) (k2_ (q3_ (e1:=[.nil,.nil,.nil,.nil,.nil,.nil,.nil,.nil,.dat (.int most),.dat (dR r)]) rfl rfl) (b4z (hr r hq))) rfl rfl),fun _=>rfl⟩) (fun w=>rfl)
   refine y6_ s1 ?_
   unfold j5_;rw[c2];rfl
  ·have:r0∈rows.filter fun r=>(a0o false r==most):=Uk.mpr ⟨hr0,by simp[e0]⟩
   exact List.length_pos_of_mem this
  ·exact Zp (Uc _ _) h2
 ·refine⟨rows,.dat (.lst (rows.map dR)),w8,?_,.inl rfl,h1,h2,fun r hq=>hq⟩
  refine a0v (e1:=[.par [.int a,.bl b],w1,w2,w3,.dat (.int few),w5,.dat (.lst (rows.map dR)),w7,w8]) ?_ rfl;refine j4_ (q5_ rfl rfl ?_);rw[b2q]
  simp[hf]
theorem c4d(h:LW w6 ds):z0_ 6 [w0,w1,w2,w3,w4,w5,w6,w7,w8]=some (.lst ds,[w0,w1,w2,w3,w4,w5,.dat (.lst ds),w7,w8]):=by
 rcases h with rfl|rfl<;>rfl
theorem c4e{h r:List Int}(hl:r.length=h.length)(h6:h.length≤6):∃ws',a3A [.dat (dR h),.dat (dR r)]=some (.d (dR (a0k h r)),ws'):=by
 have ez:(h.zip r).map (fun p=>D.int (p.1+p.2))=(a0k h r).map D.int:=by
  unfold a0k;rw[List.map_zipWith,List.zip_eq_zipWith,List.map_zipWith]
 have c:=a5n (mi:=a0Q (z1_ (z0_ 0) (z1_ (z0_ 1) z3_))) (keep:=[false,false]) (m:=z4_ v7_ (z0_ 2) (z0_ 3)) (env:=[.dat (dR h),.dat (dR r)]) (base:=[.nil,.nil]) (l:=h.zip r) (q:=fun p=>D.int p.1) (q2:=fun p=>D.int p.2) (f:=fun p=>.int (p.1+p.2)) (k:=2) (by
   show some (a1d (h.map D.int) (r.map D.int),_)=_;rw[c3Y]) (by rw[List.length_zip];omega) rfl rfl (fun p _=>rfl) (fun w w2=>rfl)
 rw[ez]at c;refine⟨_,(w0_ (d:=dR (a0k h r)) (env:=[.dat (dR h),.dat (dR r)]) ?_).trans rfl⟩;show b0d [.dat (dR h),.dat (dR r)]=_;unfold b0d;exact u0_ (k2_ (q3_ (k3_ c) rfl) rfl)
structure TbI(b:Bool)(n i:Nat)(few:Int)(e:Env')(a:Int)(h:List Int)(rows:OI)(w5 w6 w7 w8:W):Prop where
 eq:e=[.par [.int a,.bl b],.dat (.int n),.dat (dR h),.dat (dT rows),.dat (.int few),w5,w6,w7,w8]
 a0:0≤a
 hb:HB h n
 len:rows.length=i
 row:∀r∈rows,r.length=n/\tt 0 r=true
 sum:h.sum=i
 col:∀j,j<n->run 0 (rows.map fun r=>r.getD j 0)=some (h.getD j 0)
theorem c4f{a:Int}{h:List Int}(h1:1≤n)(h6:n≤6)(hi:i<n)(I:TbI b n i few e a h rows w5 w6 w7 w8):
  ∃e2 a' h' rows' x5 x6 x7 x8,b0r e=some (.nx,e2)/\TbI b n (i+1) few e2 a' h' rows' x5 x6 x7 x8:=by
 obtain⟨rfl,a0,hb,hlen,hrow,hsum,hcol⟩:=I;have hs:∃x∈h,x≠1:=by
  refine Je fun hn=>?_
  have hall:∀x∈h,x=1:=fun x hx=>Je fun z=>hn ⟨x,hx,z⟩
  have:h.sum=h.length:=by
   clear hcol hsum hn hb
   induction h with
   |nil=>rfl
   |cons y h ih=>
    have h1:=hall y (by simp)
    have:=ih fun x hx=>hall x (by simp[hx])
    simp only[Vs,Yy]
    omega
  have:=hb.len
  omega
 obtain⟨lines0,ws',el,l10,l20,lok0⟩:=c3U h1 h6 hb hs;have hnl:h.length=n:=hb.len;obtain⟨lines,w6',x8,ef,lw,l1,l2,lsub⟩:=c4c (b:=b) (a:=a) (few:=few) (w1:=.dat (.int n)) (w2:=.dat (dR h)) (w3:=.dat (dT rows)) (w5:=w5) (w7:=w7) (w8:=w8) l10 l20 (fun r hq=>by rw[(lok0 r hq).len,hnl];exact h1)
 have lok:∀r∈lines,LineOk h r:=fun r hq=>lok0 r (lsub r hq)
 obtain⟨v,a',et,v0,v1,a0'⟩:=a5D (a:=a) (m:=(lines.length:Int)) (b:=b) a0 (by omega) (by omega)
 have hv:v.toNat<lines.length:=by omega
 have hvv:((v.toNat:Nat):Int)=v:=by omega
 generalize hr:lines[v.toNat]=r;have rok:LineOk h r:=lok r (by rw[←hr];exact Jq hv)
 have rl:r.length=n:=by rw[rok.len,hb.len]
 obtain⟨wh,eh⟩:=c4e (h:=h) (r:=r) rok.len (by omega)
 refine⟨[.par [.int a',.bl b],.dat (.int n),.dat (dR (a0k h r)),.dat (dT (rows++[r])),.dat (.int few),w5,.dat (.lst (lines.map dR)),.dat (dR r),x8],a',a0k h r,rows++[r],w5,.dat (.lst (lines.map dR)),.dat (dR r),x8,?_,rfl,a0',⟨by rw[b4u rok.len];exact hnl,rok.bit⟩,by simp[hlen],?_,?_,?_⟩
 ·have s1:(v2_ 6 (mF (a0e 1 a3b (z6_ (z0_ 2) z8_)))) [.par [.int a,.bl b],.dat (.int n),.dat (dR h),.dat (dT rows),.dat (.int few),w5,w6,w7,w8]=some (.nx,[.par [.int a,.bl b],.dat (.int n),.dat (dR h),.dat (dT rows),.dat (.int few),w5,.dat (.lst (lines0.map dR)),w7,w8]):=
   a1w (e1:=[.par [.int a,.bl b],.dat (.int n),.dat (dR h),.dat (dT rows),.dat (.int few),w5,w6,w7,w8]) (k3_ (a3Z (a0S (av:=[.d (dR h)]) rfl rfl rfl el)))
  have tk:(mCD 2 w5_ (k4_ 0 (z6_ (mCB v8_ (z1_ (z0_ 6) z3_)) z8_))) [.par [.int a,.bl b],.dat (.int n),.dat (dR h),.dat (dT rows),.dat (.int few),w5,.dat (.lst (lines.map dR)),w7,x8]=some (.int v,[.par [.int a',.bl b],.dat (.int n),.dat (dR h),.dat (dT rows),.dat (.int few),w5,.dat (.lst (lines.map dR)),w7,x8]):=by
   refine a1f ((a4Z (e1:=[.par [.int a,.bl b],.dat (.int n),.dat (dR h),.dat (dT rows),.dat (.int few),w5,.dat (.lst (lines.map dR)),w7,x8]) (w:=.par [.int a,.bl b]) (av:=[.sl 0,.d (.int (lines.length:Int))]) (i:=0) (c:=[.int a,.bl b]) (c':=[.int a',.bl b]) ?_ rfl rfl rfl rfl et rfl).trans rfl);show some ([Ar.sl 0,Ar.d (.int ((lines.map dR).length:Nat))],_)=_;rw[Qv]
  have s2:(v2_ 7 (z4_ dIx (z0_ 6) (mCD 2 w5_ (k4_ 0 (z6_ (mCB v8_ (z1_ (z0_ 6) z3_)) z8_))))) [.par [.int a,.bl b],.dat (.int n),.dat (dR h),.dat (dT rows),.dat (.int few),w5,w6',w7,x8]=some (.nx,[.par [.int a',.bl b],.dat (.int n),.dat (dR h),.dat (dT rows),.dat (.int few),w5,.dat (.lst (lines.map dR)),.dat (dR r),x8]):=by
   refine a1w (e1:=[.par [.int a',.bl b],.dat (.int n),.dat (dR h),.dat (dT rows),.dat (.int few),w5,.dat (.lst (lines.map dR)),w7,x8]) (q5_ (c4d lw) tk ?_);rw[←hvv];exact a0z (xs:=lines.map dR) (by rw[Qa,Zv hv,hr];rfl)
  have s4:(v2_ 3 (z4_ v7_ (z0_ 3) (v6_ (z1_ (z0_ 7) z3_)))) [.par [.int a',.bl b],.dat (.int n),.dat (dR h),.dat (dT rows),.dat (.int few),w5,.dat (.lst (lines.map dR)),.dat (dR r),x8]=some (.nx,[.par [.int a',.bl b],.dat (.int n),.dat (dR h),.dat (dT (rows++[r])),.dat (.int few),w5,.dat (.lst (lines.map dR)),.dat (dR r),x8]):=by
   refine a1w (e1:=[.par [.int a',.bl b],.dat (.int n),.dat (dR h),.dat (dT rows),.dat (.int few),w5,.dat (.lst (lines.map dR)),.dat (dR r),x8]) (q5_ rfl rfl ?_);show(if(rows.map dR).length+[dR r].length≤10000 then _ else none)=_
   rw[Qn (by rw[Qv];simp;omega)]
   unfold dT;rw[Zo];rfl
  have s3:(v2_ 2 (mCD 2 a3A (z6_ (z0_ 2) (z6_ (z0_ 7) z8_)))) [.par [.int a',.bl b],.dat (.int n),.dat (dR h),.dat (dT (rows++[r])),.dat (.int few),w5,.dat (.lst (lines.map dR)),.dat (dR r),x8]=some (.nx,[.par [.int a',.bl b],.dat (.int n),.dat (dR (a0k h r)),.dat (dT (rows++[r])),.dat (.int few),w5,.dat (.lst (lines.map dR)),.dat (dR r),x8]):=
   a1w (e1:=[.par [.int a',.bl b],.dat (.int n),.dat (dR h),.dat (dT (rows++[r])),.dat (.int few),w5,.dat (.lst (lines.map dR)),.dat (dR r),x8]) (a1f (a0S (av:=[.d (dR h),.d (dR r)]) rfl rfl rfl eh))
  unfold b0r;exact y6_ s1 (y6_ ef (y6_ s2 (y6_ s4 s3)))
 ·intro r' hr'
  rcases Ur.mp hr' with z|z
  ·exact hrow r' z
  ·have:r'=r:=by simpa using z
   subst this;exact⟨rl,rok.tt⟩
 ·have:=c3V r 0 rok.tt
  rw[b4v rok.len]
  omega
 ·intro j hj
  rw[Zo,Qu,Uo,b4x rok.len (by omega)]
  refine c3X _ _ 0 _ (hcol j hj) ?_
  rw[←b4x rok.len (by omega)]
  have hjl:j<(a0k h r).length:=by rw[b4u rok.len];omega
  have:(a0k h r).getD j 0=(a0k h r)[j]:=by simp[hjl]
  rw[this];exact rok.bit _ (Jq hjl)
structure Tab(T:OI):Prop where
 lo:1≤T.length
 hi:T.length≤6
 len:∀r∈T,r.length=T.length
 ok:isT (dT T)=true
theorem c4g{a:Int}(ha:0≤a)(n1:1≤n)(n6:n≤6):∃T a',a4v [.par [.int a,.bl b],.dat (.int n)]=some (.d (dT T),[.par [.int a',.bl b],.dat (.int n)])/\0≤a'/\Tab T/\T.length=n:=by
 obtain⟨v,a1,et,v0,v1,a10⟩:=a5D (a:=a) (m:=3) (b:=b) ha (by omega) (by omega)
 have s1:(v2_ 2 (z4_ a0c (v6_ (z1_ (mC (.int 0)) z3_)) (z0_ 1))) [.par [.int a,.bl b],.dat (.int n),.nil,.nil,.nil,.nil,.nil,.nil,.nil]=some (.nx,[.par [.int a,.bl b],.dat (.int n),.dat (dR (List.replicate n 0)),.nil,.nil,.nil,.nil,.nil,.nil]):=by
  refine a1w (e1:=[.par [.int a,.bl b],.dat (.int n),.nil,.nil,.nil,.nil,.nil,.nil,.nil]) (q5_ rfl rfl ?_);show(if 1≤(n:Int)/\(n:Int)≤1000 then some (D.tup (List.replicate (n:Int).toNat (.int 0)))else none)=_
  rw[Qn (by omega),Yd]
  unfold dR;rw[List.map_replicate]
 have s2:(v2_ 3 (v6_ z3_)) [.par [.int a,.bl b],.dat (.int n),.dat (dR (List.replicate n 0)),.nil,.nil,.nil,.nil,.nil,.nil]=some (.nx,[.par [.int a,.bl b],.dat (.int n),.dat (dR (List.replicate n 0)),.dat (dT []),.nil,.nil,.nil,.nil,.nil]):=rfl
 have s3:(v2_ 4 (mCD 2 w5_ (k4_ 0 (z6_ (mC (.int 3)) z8_)))) [.par [.int a,.bl b],.dat (.int n),.dat (dR (List.replicate n 0)),.dat (dT []),.nil,.nil,.nil,.nil,.nil]=some (.nx,[.par [.int a1,.bl b],.dat (.int n),.dat (dR (List.replicate n 0)),.dat (dT []),.dat (.int v),.nil,.nil,.nil,.nil]):=
  a1w (e1:=[.par [.int a1,.bl b],.dat (.int n),.dat (dR (List.replicate n 0)),.dat (dT []),.nil,.nil,.nil,.nil,.nil]) (a1f ((a4Z (e1:=[.par [.int a,.bl b],.dat (.int n),.dat (dR (List.replicate n 0)),.dat (dT []),.nil,.nil,.nil,.nil,.nil]) (w:=.par [.int a,.bl b]) (av:=[.sl 0,.d (.int 3)]) (i:=0) (c:=[.int a,.bl b]) (c':=[.int a1,.bl b]) rfl rfl rfl rfl rfl et rfl).trans rfl))
 have start:TbI b n 0 v [.par [.int a1,.bl b],.dat (.int n),.dat (dR (List.replicate n 0)),.dat (dT []),.dat (.int v),.nil,.nil,.nil,.nil] a1 (List.replicate n 0) [] .nil .nil .nil .nil:=by
  refine⟨rfl,a10,⟨by simp,fun x hx=>.inl (List.eq_of_mem_replicate hx)⟩,rfl,fun r hr=>(by cases hr),by simp,fun j hj=>?_⟩
  simp[run,Ju,hj]
 obtain⟨e',h1,a',h',rows',x5,x6,x7,x8,I⟩:=b0q (g:=gN 5) (b:=b0r) (ds:=a0i 0 n) (P:=fun i e=>∃a h rows w5 w6 w7 w8,TbI b n i v e a h rows w5 w6 w7 w8) (env:=[.par [.int a1,.bl b],.dat (.int n),.dat (dR (List.replicate n 0)),.dat (dT []),.dat (.int v),.nil,.nil,.nil,.nil])
  (fun i d e hi ⟨a,h,rows,w5,w6,w7,w8,I⟩=>by
   have hil:i<n:=by
    have:=(Qh.mp hi).1;rw[a4z]at this
    simpa using this
   obtain⟨rfl,r1,r2,r3,r4,r5,r6⟩:=I;obtain⟨e2,a',h',rows',x5,x6,x7,x8,t1,t2⟩:=c4f (b:=b) (few:=v) (w5:=.dat d) (w6:=w6) (w7:=w7) (w8:=w8) n1 n6 hil ⟨rfl,r1,r2,r3,r4,r5,r6⟩;exact⟨_,e2,rfl,t1,a',h',rows',x5,x6,x7,x8,t2⟩) ⟨_,_,_,_,_,_,_,start⟩
 have hlen:(a0i 0 n).length=n:=by rw[a4z];simp
 rw[hlen]at I;obtain⟨rfl,r1,r2,r3,r4,r5,r6⟩:=I;have ones:=(b4w r2.bit).2 (by rw[r2.len];exact r5)
 have tab:Tab rows':=by
  refine⟨by omega,by omega,fun r hr=>by rw[r3];exact(r4 r hr).1,?_⟩
  unfold isT;rw[b4h (by omega) (by omega) (fun r hr=>by rw[r3];exact(r4 r hr).1),a6Y,Yu,Tq,Qw,Qb,Qb]
  refine⟨fun r hr=>(r4 r hr).2,fun c hc=>?_⟩
  unfold flip at hc;obtain⟨j,hj,rfl⟩:=Zj.mp hc;have hj':j<n:=by rw[r3]at hj;exact Zl.mp hj
  rw[c3W,r6 j hj'];have hjl:j<h'.length:=by rw[r2.len];exact hj'
  have:h'.getD j 0=h'[j]:=by simp[hjl]
  rw[this,ones _ (Jq hjl)];rfl
 refine⟨rows',a',(w0_ (d:=dT rows') (env:=[.par [.int a',.bl b],.dat (.int n),.dat (dR h'),.dat (dT rows'),.dat (.int v),x5,x6,x7,x8]) ?_).trans rfl,r1,tab,r3⟩;show b0e [.par [.int a,.bl b],.dat (.int n),.nil,.nil,.nil,.nil,.nil,.nil,.nil]=_;unfold b0e;have rg:=a6u (ms:=z1_ (z0_ 1) z3_) (env:=[.par [.int a1,.bl b],.dat (.int n),.dat (dR (List.replicate n 0)),.dat (dT []),.dat (.int v),.nil,.nil,.nil,.nil]) (e1:=[.par [.int a1,.bl b],.dat (.int n),.dat (dR (List.replicate n 0)),.dat (dT []),.dat (.int v),.nil,.nil,.nil,.nil]) (j:=(n:Int)) rfl (by omega) (by omega)
 rw[Yd]at rg;rw[j3_ s1,j3_ s2,j3_ s3,j3_ ((a1F rg).trans h1)];rfl
theorem a1E{m:Mo D}{as:Mo (List Ar)}{q:List Ar}(h:m e=some (d,e1))(h2:as e1=some (q,e2)):z6_ m as e=some (.d d::q,e2):=by unfold z6_;rw[h,Qj,h2];rfl
def Pl(w:W):Prop:=w=.nil∨ ∃d,w=.dat d
def a0W(n:Nat)(d:D):Bool:=match d with
 |.tup xs=>(xs.length==n)&&(xs.all (fun x=>inB x (-1) 1)&&tt2 (unR d))
 |_=>false
theorem b0s{x:D}(h:inB x (-1) 1=true):isW x=true/\small (unI x)=true:=by
 cases x<;>first|cases h|skip
 exact⟨rfl,h⟩
theorem a5E(n:Nat)(d:D):a0W n d=(isR d n&&tt 0 (unR d)):=by
 cases d with
 |tup xs=>
  simp only[a0W,isR]
  by_cases hl:xs.length=n
  ·subst hl
   rw[c3K];simp only[Xs,Yu,←Bool.and_assoc]
   congr 1
   by_cases h:xs.all (fun x=>inB x (-1) 1)=true
   ·rw[h]
    have h1:=Qb.mp h
    have a1:xs.all isW=true:=Qb.mpr fun x hx=>(b0s (h1 x hx)).1
    have a2:(unR (.tup xs)).all small=true:=Qb.mpr fun y hy=>by
     obtain⟨x,hx,rfl⟩:=Zj.mp hy;exact(b0s (h1 x hx)).2
    rw[a1,a2];rfl
   ·have h':xs.all (fun x=>inB x (-1) 1)=false:=by simpa using h
    rw[h'];cases hw:(xs.all isW&&(unR (.tup xs)).all small)with
    |false=>rfl
    |true=>
     rw[Qw]at hw
     exfalso
     apply h
     refine Qb.mpr fun x hx=>?_
     have b1:=Qb.mp hw.1 x hx
     have b2:=Qb.mp hw.2 (unI x) (Zj.mpr ⟨x,hx,rfl⟩)
     cases x<;>first|exact b2|cases b1
  ·have h1:(xs.length==n)=false:=by simpa using hl
   have h2:((xs.length:Int)==(n:Int))=false:=by
    rw[Yr];omega
   rw[h1,h2];rfl
 |_=>rfl
abbrev a6Z:Mo D:=a0h (mCD 1 a4w (z6_ (z0_ 2) z8_)) (a1a dLe dLe (u5_ (mC (.int 1))) (z0_ 2) (mC (.int 1)))
theorem c4h(x:D):a6Z [.nil,.nil,.dat x]=some (.bl (inB x (-1) 1),[.nil,.nil,.dat x]):=by
 cases x with
 |int i=>
  unfold a6Z a0h;have c:=b4m (e:=[.nil,.nil,.dat (.int i)]) (ma:=u5_ (mC (.int 1))) (mb:=z0_ 2) (mc:=mC (.int 1)) (a:=-1) (i:=i) (b:=1) rfl rfl rfl;exact c
 |_=>rfl
abbrev a5F:Mo Fl:=(q1_ (y4_ (j0_ (x2_ (mT (mIs "tuple" (z0_ 1)))) (mT (z4_ (dEq true) (mCB v8_ (z1_ (z0_ 1) z3_)) (mCB v8_ (z1_ (z0_ 0) z3_))))) (v0_ (mC (.bl false))) mNx) (y4_ (j0_ (x2_ (mT (mCB a1C (z1_ (mF (v1_ (y0_ (z0_ 1)) [false,false] 1 (gN 2) v3_ (a0h (mCD 1 a4w (z6_ (z0_ 2) z8_)) (a1a dLe dLe (u5_ (mC (.int 1))) (z0_ 2) (mC (.int 1)))))) z3_)))) (x2_ (mT (mCD 1 a2y (z6_ (z0_ 1) z8_))))) (v0_ (mC (.bl false))) mNx))
theorem c4i(hn:es.length≤6)(d:D):a5F [.dat (.tup es),.dat d]=some (stop (a0W es.length d) (.bl false),[.dat (.tup es),.dat d]):=by
 cases d with
 |tup xs=>
  by_cases hl:xs.length=es.length
  ·have t:(j0_ (x2_ (mT (mIs "tuple" (z0_ 1)))) (mT (z4_ (dEq true) (mCB v8_ (z1_ (z0_ 1) z3_)) (mCB v8_ (z1_ (z0_ 0) z3_))))) [.dat (.tup es),.dat (.tup xs)]=some (false,[.dat (.tup es),.dat (.tup xs)]):=by
    show some (!((xs.length:Int)==(es.length:Int)),_)=_;rw[hl];simp
   have al:(x2_ (mT (mCB a1C (z1_ (mF (v1_ (y0_ (z0_ 1)) [false,false] 1 (gN 2) v3_ a6Z)) z3_)))) [.dat (.tup es),.dat (.tup xs)]=some (!xs.all (fun x=>inB x (-1) 1),[.dat (.tup es),.dat (.tup xs)]):=by
    obtain⟨e',h1,w,rfl⟩:=a3G (g:=gN 2) (m:=a6Z) (P:=fun e=>∃w,e=[.nil,.nil,w]) (q:=id) (f:=fun x=>.bl (inB x (-1) 1)) (l:=xs) (env:=[.nil,.nil,.nil])
     (fun x _ e ⟨w,he⟩=>by
      subst he;exact⟨[.nil,.nil,.dat x],[.nil,.nil,.dat x],rfl,c4h x,_,rfl⟩) ⟨.nil,rfl⟩
    rw[Vd]at h1;refine a0G (j4_ (k2_ (q3_ (k3_ (a2N (e2:=[.nil,.nil,w]) (a0R rfl rfl) (by omega) h1 rfl)) rfl) ?_))
    show(a0t (xs.map fun x=>D.bl (inB x (-1) 1))).map _=_
    rw[b9E];rfl
   unfold a5F;rw[j3_ (by rw[a1e t];rfl)]
   cases ha:xs.all (fun x=>inB x (-1) 1)with
   |false=>
    rw[ha]at al;rw[a1v (b3y al)]
    simp[a0W,hl,ha,stop,v0_,mC]
   |true=>
    rw[ha]at al;have h2:xs=(xs.map unI).map .int:=b4d (Qb.mpr fun x hx=>(b0s (Qb.mp ha x hx)).1)
    have c:(x2_ (mT (mCD 1 a2y (z6_ (z0_ 1) z8_)))) [.dat (.tup es),.dat (.tup xs)]=some (!tt2 (unR (.tup xs)),[.dat (.tup es),.dat (.tup xs)]):=
     a0G (j4_ (a1f (a0S (av:=[.d (.tup xs)]) rfl rfl rfl (b4n (.tup xs) (xs.map unI) (by show some xs=_;rw[←h2]) (by rw[Qv];omega)))))
    cases hb:tt2 (unR (.tup xs))with
    |true=>rw[hb]at c;rw[a1e (a5q al c)];simp[a0W,hl,ha,hb,stop,mNx]
    |false=>rw[hb]at c;rw[a1v (a5q al c)];simp[a0W,hl,ha,hb,stop,v0_,mC]
  ·have t:(j0_ (x2_ (mT (mIs "tuple" (z0_ 1)))) (mT (z4_ (dEq true) (mCB v8_ (z1_ (z0_ 1) z3_)) (mCB v8_ (z1_ (z0_ 0) z3_))))) [.dat (.tup es),.dat (.tup xs)]=some (true,[.dat (.tup es),.dat (.tup xs)]):=by
    show some (!((xs.length:Int)==(es.length:Int)),_)=_;have:((xs.length:Int)==(es.length:Int))=false:=by rw[Yr];omega
    rw[this];rfl
   unfold a5F;rw[a1u (d:=.bl false) (by rw[a1v t];rfl)]
   have:(xs.length==es.length)=false:=by simpa using hl
   simp[a0W,this,stop]
 |_=>rfl
theorem c4j(hok:es.all (a0W es.length)=true):(flip es.length (es.map unR)).all (tt 0)=(List.range es.length).all fun j=>tt2 ((es.map unR).map fun r=>r.getD j 0):=by
 unfold flip;rw[List.all_map];have e:∀j∈List.range es.length,((tt 0)∘fun j=>(es.map unR).map fun r=>r.getD j 0) j=tt2 ((es.map unR).map fun r=>r.getD j 0):=fun j hj=>by
  apply b4p
  intro x hx;obtain⟨r,hr,rfl⟩:=Zj.mp hx;obtain⟨d,hd,rfl⟩:=Zj.mp hr;have h1:=Qb.mp hok d hd;rw[a5E,Qw]at h1;have h2:=b4q _ 0 (.inl rfl) h1.2
  by_cases hj':j<(unR d).length
  ·have:(unR d).getD j 0=(unR d)[j]:=by simp[hj']
   rw[this];exact h2 _ (Jq hj')
  ·have:(unR d).getD j 0=0:=by simp[Nat.le_of_not_lt hj']
   rw[this];rfl
 rw[Bool.eq_iff_iff,Qb,Qb];exact⟨fun h j hj=>(e j hj) ▸ h j hj,fun h j hj=>(e j hj).symm ▸ h j hj⟩
theorem c4k(es:List D):isT (.tup es)=((decide (1≤(es.length:Int))&&decide ((es.length:Int)≤6))&&(es.all (a0W es.length)&&(List.range es.length).all fun j=>tt2 ((es.map unR).map fun r=>r.getD j 0))):=by
 unfold isT isS;simp only[Bool.and_assoc]
 congr 1
 congr 1
 have hu:unT (.tup es)=es.map unR:=rfl
 rw[hu,Tq,Qv];cases hk:es.all (a0W es.length)with
 |true=>
  have h1:es.all (fun r=>isR r es.length)=true:=Qb.mpr fun d hd=>by
   have:=Qb.mp hk d hd;rw[a5E,Qw]at this;exact this.1
  have h2:(es.map unR).all (tt 0)=true:=Qb.mpr fun r hr=>by
   obtain⟨d,hd,rfl⟩:=Zj.mp hr;have:=Qb.mp hk d hd;rw[a5E,Qw]at this;exact this.2
  rw[h1,h2,c4j hk];rfl
 |false=>
  rw[Jo];cases h1:es.all (fun r=>isR r es.length)with
  |false=>rfl
  |true=>
   have h2:(es.map unR).all (tt 0)=false:=by
    cases h3:(es.map unR).all (tt 0)with
    |false=>rfl
    |true=>
     have:es.all (a0W es.length)=true:=Qb.mpr fun d hd=>by
      rw[a5E,Qw];exact⟨Qb.mp h1 d hd,Qb.mp h3 (unR d) (Zj.mpr ⟨d,hd,rfl⟩)⟩
     rw[hk]at this;cases this
   rw[h2];rfl
theorem b4A(d:D):a1Z [.dat d]=some (.d (.bl (isT d)),[.dat d]):=by
 cases d with
 |tup es=>
  have t:(j0_ (x2_ (mT (mIs "tuple" (z0_ 0)))) (x2_ (mT (a1a dLe dLe (mC (.int 1)) (mCB v8_ (z1_ (z0_ 0) z3_)) (mC (.int 6)))))) [.dat (.tup es),.nil]=some (!(decide (1≤(es.length:Int))&&decide ((es.length:Int)≤6)),[.dat (.tup es),.nil]):=by
   have c:=b4m (e:=[.dat (.tup es),.nil]) (ma:=mC (.int 1)) (mb:=mCB v8_ (z1_ (z0_ 0) z3_)) (mc:=mC (.int 6)) (a:=1) (i:=es.length) (b:=6) rfl rfl rfl
   exact a5q rfl (a0G (j4_ c))
  rw[c4k];cases hb:(decide (1≤(es.length:Int))&&decide ((es.length:Int)≤6))with
  |false=>
   rw[hb]at t;refine(w0_ (d:=.bl false) (env:=[.dat (.tup es),.nil]) ?_).trans rfl;show a3B [.dat (.tup es),.nil]=_;unfold a3B;rw[a1u (d:=.bl false) (by rw[a1v t];rfl)]
  |true=>
   rw[hb]at t;have hn:1≤es.length/\es.length≤6:=by
    rw[Qw,Zz,Zz]at hb
    omega
   obtain⟨e',h1,w1,hw,rfl⟩:=b2r (g:=gN 1) (b:=a5F) (P:=fun e=>∃w1,Pl w1/\e=[.dat (.tup es),w1]) (ok:=a0W es.length) (r:=.bl false) (ds:=es) (env:=[.dat (.tup es),.nil])
    (fun x _ e ⟨w1,_,he⟩=>by
     subst he;exact⟨_,_,rfl,c4i hn.2 x,_,.inr ⟨_,rfl⟩,rfl⟩) ⟨_,.inl rfl,rfl⟩
   have fr:(u2_ (y0_ (z0_ 0)) (gN 1) a5F) [.dat (.tup es),.nil]=some (stop (es.all (a0W es.length)) (.bl false),[.dat (.tup es),w1]):=(a1F (a0R rfl rfl)).trans h1
   cases hk:es.all (a0W es.length)with
   |false=>
    rw[hk]at fr;refine(w0_ (d:=.bl false) (env:=[.dat (.tup es),w1]) ?_).trans rfl;show a3B [.dat (.tup es),.nil]=_;unfold a3B;rw[j3_ (by rw[a1e t];rfl),a1u (d:=.bl false) fr]
   |true=>
    rw[hk]at fr;have hlen:∀d∈es,d=.tup ((unR d).map .int)/\(unR d).length=es.length:=fun d hd=>by
     have:=Qb.mp hk d hd;rw[a5E,Qw]at this;obtain⟨a1,a2⟩:=a5A this.1;exact⟨a1,by omega⟩
    have inner:∀j,j<es.length->(mCD 1 a2y (z6_ (mF (v1_ (y0_ (z0_ 0)) [false,false,true] 1 (gN 3) v3_ (z4_ dIx (z0_ 3) (z0_ 2)))) z8_)) [.dat (.tup es),w1,.dat (.int (j:Int))]=some (.bl (tt2 ((es.map unR).map fun r=>r.getD j 0)),[.dat (.tup es),w1,.dat (.int (j:Int))]):=fun j hj=>by
     have c:(v1_ (y0_ (z0_ 0)) [false,false,true] 1 (gN 3) v3_ (z4_ dIx (z0_ 3) (z0_ 2))) [.dat (.tup es),w1,.dat (.int (j:Int))]=some (((es.map unR).map fun r=>r.getD j 0).map .int,[.dat (.tup es),w1,.dat (.int (j:Int))]):=by
      rw[Qe,Qe];refine a1L (α:=D) (q:=id) (f:=fun d=>.int ((unR d).getD j 0)) (l:=es) (base:=[.nil,.nil,.dat (.int (j:Int))]) (by rw[Vd];exact a0R rfl rfl) (by omega) rfl rfl (fun d hd=>q5_ rfl rfl ?_) (fun w=>?_)
      ·obtain⟨a1,a2⟩:=hlen d hd
       show dIx d _=_;rw[a1,b4f (unR d)|>fun h=>(show unR (.tup ((unR d).map .int))=unR d from h)]
       exact a0z (by simp[Zv (show j<(unR d).length by omega)])
      ·rcases hw with rfl|⟨d,rfl⟩<;>rfl
     exact a8V (av:=[.d (.lst (((es.map unR).map fun r=>r.getD j 0).map .int))]) (a1E (k3_ c) rfl) rfl rfl (b4n _ _ rfl (by simp;omega))
    refine(w0_ (d:=.bl ((List.range es.length).all fun j=>tt2 ((es.map unR).map fun r=>r.getD j 0))) (env:=[.dat (.tup es),w1]) ?_).trans (by simp;rfl)
    show a3B [.dat (.tup es),.nil]=_;unfold a3B;rw[j3_ (by rw[a1e t];rfl),j3_ fr]
    refine u0_ (k2_ (q3_ (k3_ (a1L (α:=Nat) (q:=fun j=>D.int (j:Int)) (f:=fun j=>.bl (tt2 ((es.map unR).map fun(r:List Int)=>r.getD j 0))) (l:=List.range es.length) (base:=[.dat (.tup es),w1]) (a3v (n:=es.length) rfl rfl (by omega)) (by simp;omega) ?_ rfl (fun j hj=>inner j (Zl.mp hj)) (fun w=>?_))) rfl) ?_)
    ·rcases hw with rfl|⟨d,rfl⟩<;>rfl
    ·rcases hw with rfl|⟨d,rfl⟩<;>rfl
    ·show(a0t _).map _=_
     rw[a2M];rfl
 |_=>rfl
def S(g:Nat->Int):Nat->Int
 |0=>0
 |k+1=>S g k+g k
def HH(f:OO)(i j:Nat):Int:=S (fun c=>S (fun r=>f r c) i) j
def U(h:OO)(i j:Nat):Int:=(h (i+1) (j+1)-h i (j+1))-(h (i+1) j-h i j)
theorem b4B{g g':Nat->Int}:∀{n:Nat},(∀k<n,g k=g' k)->S g n=S g' n
 |0,_=>rfl
 |n+1,h=>by
  show S g n+g n=S g' n+g' n;rw[b4B (n:=n) fun k hk=>h k (by omega),h n (by omega)]
theorem b0t(g:Nat->Int):∀n,S (fun k=>g (k+1)-g k) n=g n-g 0
 |0=>by show(0:Int)=_;omega
 |n+1=>by
  show S (fun k=>g (k+1)-g k) n+(g (n+1)-g n)=_
  rw[b0t g n];omega
theorem b4C(g g':Nat->Int):∀n,S (fun k=>g k+g' k) n=S g n+S g' n
 |0=>rfl
 |n+1=>by
  show S (fun k=>g k+g' k) n+(g n+g' n)=S g n+g n+(S g' n+g' n)
  rw[b4C g g' n];omega
theorem a3H:∀n,S (fun _=>0) n=0
 |0=>rfl
 |n+1=>by show S (fun _=>0) n+0=0;rw[a3H n];rfl
theorem a5G(g:Nat->Int):∀n,S g (n+1)=g 0+S (fun k=>g (k+1)) n
 |0=>by show(0:Int)+g 0=g 0+0;omega
 |n+1=>by
  show S g (n+1)+g (n+1)=g 0+(S (fun k=>g (k+1)) n+g (n+1))
  rw[a5G g n];omega
theorem b4D(f:OO)(i j:Nat):HH f i (j+1)=HH f i j+S (fun r=>f r j) i:=rfl
theorem a5H(f:OO)(i j:Nat):HH f (i+1) j=HH f i j+S (f i) j:=b4C _ _ j
structure TabF(n:Nat)(f:OO):Prop where
 row:∀i<n,∀k≤n,S (f i) k=0∨S (f i) k=1
 rowN:∀i<n,S (f i) n=1
 col:∀j<n,∀k≤n,S (fun r=>f r j) k=0∨S (fun r=>f r j) k=1
 colN:∀j<n,S (fun r=>f r j) n=1
structure HtF(n:Nat)(h:OO):Prop where
 r0:∀i≤n,h i 0=0
 d0:∀j≤n,h 0 j=0
 rN:∀i≤n,h i n=i
 dN:∀j≤n,h n j=j
 dd:∀i<n,∀j≤n,h (i+1) j=h i j∨h (i+1) j=h i j+1
 rr:∀i≤n,∀j<n,h i (j+1)=h i j∨h i (j+1)=h i j+1
theorem TabF.ht{f:OO}(T:TabF n f):HtF n (HH f):=by
 refine⟨fun i _=>rfl,fun j _=>?_,fun i hi=>?_,fun j hj=>?_,fun i hi j hj=>?_,fun i hi j hj=>?_⟩
 ·exact a3H j
 ·induction i with
  |zero=>exact a3H n
  |succ i ih=>rw[a5H,ih (by omega),T.rowN i (by omega)];omega
 ·induction j with
  |zero=>rfl
  |succ j ih=>rw[b4D,ih (by omega),T.colN j (by omega)];omega
 ·rw[a5H];have:=T.row i hi j hj;omega
 ·rw[b4D];have:=T.col j hj i hi;omega
theorem a7a(h:OO)(i j:Nat):S (U h i) j=(h (i+1) j-h i j)-(h (i+1) 0-h i 0):=
 b0t (fun j=>h (i+1) j-h i j) j
theorem b4E(h:OO)(i j:Nat):S (fun r=>U h r j) i=(h i (j+1)-h i j)-(h 0 (j+1)-h 0 j):=by
 have:=b0t (fun i=>h i (j+1)-h i j) i
 rw[←this]
 apply b4B
 intro k _;unfold U;omega
theorem HtF.tab(H:HtF n h):TabF n (U h):=by
 refine⟨fun i hi k hk=>?_,fun i hi=>?_,fun j hj k hk=>?_,fun j hj=>?_⟩
 ·rw[a7a,H.r0 i (by omega),H.r0 (i+1) (by omega)]
  have:=H.dd i hi k hk;omega
 ·rw[a7a,H.r0 i (by omega),H.r0 (i+1) (by omega),H.rN i (by omega),H.rN (i+1) (by omega)];omega
 ·rw[b4E,H.d0 j (by omega),H.d0 (j+1) (by omega)]
  have:=H.rr k hk j hj;omega
 ·rw[b4E,H.d0 j (by omega),H.d0 (j+1) (by omega),H.dN j (by omega),H.dN (j+1) (by omega)];omega
theorem HtF.back(H:HtF n h)(hi:i≤n)(hj:j≤n):HH (U h) i j=h i j:=by
 induction i with
 |zero=>rw[H.d0 j hj];exact a3H j
 |succ i ih=>
  rw[a5H,ih (by omega),a7a,H.r0 i (by omega),H.r0 (i+1) (by omega)];omega
def mn(x y:Int):Int:=if x≤y then x else y
def mx(x y:Int):Int:=if x≤y then y else x
theorem HtF.min{k:OO}(H:HtF n h)(K:HtF n k):HtF n (fun i j=>mn (h i j) (k i j)):=by
 refine⟨fun i hi=>?_,fun i hi=>?_,fun i hi=>?_,fun i hi=>?_,fun i hi j hj=>?_,fun i hi j hj=>?_⟩
 ·show mn _ _=_;rw[H.r0 i hi,K.r0 i hi];rfl
 ·show mn _ _=_;rw[H.d0 i hi,K.d0 i hi];rfl
 ·show mn _ _=_;rw[H.rN i hi,K.rN i hi];simp[mn]
 ·show mn _ _=_;rw[H.dN i hi,K.dN i hi];simp[mn]
 ·have:=H.dd i hi j hj;have:=K.dd i hi j hj
  show mn _ _=mn _ _∨mn _ _=mn _ _+1;unfold mn;split<;>split<;>omega
 ·have:=H.rr i hi j hj;have:=K.rr i hi j hj
  show mn _ _=mn _ _∨mn _ _=mn _ _+1;unfold mn;split<;>split<;>omega
theorem HtF.max{k:OO}(H:HtF n h)(K:HtF n k):HtF n (fun i j=>mx (h i j) (k i j)):=by
 refine⟨fun i hi=>?_,fun i hi=>?_,fun i hi=>?_,fun i hi=>?_,fun i hi j hj=>?_,fun i hi j hj=>?_⟩
 ·show mx _ _=_;rw[H.r0 i hi,K.r0 i hi];rfl
 ·show mx _ _=_;rw[H.d0 i hi,K.d0 i hi];rfl
 ·show mx _ _=_;rw[H.rN i hi,K.rN i hi];simp[mx]
 ·show mx _ _=_;rw[H.dN i hi,K.dN i hi];simp[mx]
 ·have:=H.dd i hi j hj;have:=K.dd i hi j hj
  show mx _ _=mx _ _∨mx _ _=mx _ _+1;unfold mx;split<;>split<;>omega
 ·have:=H.rr i hi j hj;have:=K.rr i hi j hj
  show mx _ _=mx _ _∨mx _ _=mx _ _+1;unfold mx;split<;>split<;>omega
def tr(n:Nat)(h:OO)(i j:Nat):Int:=(i:Int)+j-n+h (n-i) (n-j)
theorem HtF.turned(H:HtF n h):HtF n (tr n h):=by
 refine⟨fun i hi=>?_,fun i hi=>?_,fun i hi=>?_,fun i hi=>?_,fun i hi j hj=>?_,fun i hi j hj=>?_⟩
 ·unfold tr;rw[Nat.sub_zero,H.rN (n-i) (by omega)];omega
 ·unfold tr;rw[Nat.sub_zero,H.dN (n-i) (by omega)];omega
 ·unfold tr;rw[Xr,H.r0 (n-i) (by omega)];omega
 ·unfold tr;rw[Xr,H.d0 (n-i) (by omega)];omega
 ·have:=H.dd (n-(i+1)) (by omega) (n-j) (by omega)
  rw[show n-(i+1)+1=n-i by omega]at this
  unfold tr;omega
 ·have:=H.rr (n-i) (by omega) (n-(j+1)) (by omega)
  rw[show n-(j+1)+1=n-j by omega]at this
  unfold tr;omega
theorem b0u:∀(n:Nat) (g:Nat->Int) (s:Int),tt s ((List.range n).map g)=true↔(∀k<n,s+S g (k+1)=0∨s+S g (k+1)=1)/\s+S g n=1
 |0,g,s=>by
  show(s==1)=true↔_;rw[Ye]
  constructor
  ·intro h;exact⟨fun k hk=>by omega,by show s+0=1;omega⟩
  ·rintro⟨_,h⟩;have:S g 0=0:=rfl;omega
 |n+1,g,s=>by
  rw[Vl,Qu,Qe];show((s+g 0==0||s+g 0==1)&&tt (s+g 0) ((List.range n).map fun k=>g (k+1)))=true↔_
  rw[Qw,Xe,Ye,Ye,b0u n (fun k=>g (k+1)) (s+g 0),a5G g n]
  constructor
  ·rintro⟨h1,h2,h3⟩
   refine⟨fun k hk=>?_,by omega⟩
   rw[a5G g k];cases k with
   |zero=>show s+(g 0+0)=0∨s+(g 0+0)=1;omega
   |succ k=>have:=h2 k (by omega);omega
  ·rintro⟨h1,h2⟩
   refine⟨?_,fun k hk=>?_,by omega⟩
   ·have:=h1 0 (by omega)
    rw[a5G g 0]at this;have e:S (fun k=>g (k+1)) 0=0:=rfl
    omega
   ·have:=h1 (k+1) (by omega)
    rw[a5G g (k+1)]at this;omega
def gm(n m:Nat)(f:OO):OI:=(List.range n).map fun i=>(List.range m).map (f i)
theorem a1M{f:OO}:(gm n m f).length=n:=by simp[gm]
theorem a7b{f:OO}:∀r∈gm n m f,r.length=m:=by
 intro r hr;obtain⟨i,_,rfl⟩:=Zj.mp hr
 simp
theorem c4l{f g:OO}(h:∀i<n,∀j<m,f i j=g i j):gm n m f=gm n m g:=by
 unfold gm
 apply Zw
 intro i hi
 apply Zw
 intro j hj;exact h i (Zl.mp hi) j (Zl.mp hj)
def at2(R:OI)(i j:Nat):Int:=(R.getD i []).getD j 0
theorem c4m(h1:R.length=n)(h2:∀r∈R,r.length=n):R=gm n n (at2 R):=by
 subst h1;unfold gm
 apply Ve
 ·simp
 ·intro i hi hi'
  have hr:=h2 R[i] (Jq hi)
  rw[Vo,Vy]
  apply Ve
  ·simp[hr]
  ·intro j hj hj'
   rw[Vo,Vy]
   simp[at2,hi,hj]
theorem b4F(n m:Nat)(f:OO):flip m (gm n m f)=gm m n (fun i j=>f j i):=by
 unfold flip gm
 apply Zw
 intro j hj;have hj:=Zl.mp hj;rw[Qe]
 apply Zw
 intro i hi
 simp[hj]
theorem a3I{f:OO}:isT (dT (gm n n f))=true↔(1≤n/\n≤6)/\TabF n f:=by
 unfold isT;rw[a6Y,a1M,b4F,Qw,Tq,Qw,Qb,Qb];have row:∀g:OO,(∀x∈gm n n g,tt 0 x=true)↔ ∀i<n,(∀k≤n,S (g i) k=0∨S (g i) k=1)/\S (g i) n=1:=by
  intro g
  constructor
  ·intro h i hi
   have h1:=(b0u n (g i) 0).mp (h _ (Zj.mpr ⟨i,Zl.mpr hi,rfl⟩))
   refine⟨fun k hk=>?_,by have:=h1.2;omega⟩
   cases k with
   |zero=>exact .inl rfl
   |succ k=>have:=h1.1 k (by omega);omega
  ·intro h x hx
   obtain⟨i,hi,rfl⟩:=Zj.mp hx;have h1:=h i (Zl.mp hi);refine(b0u n (g i) 0).mpr ⟨fun k hk=>?_,by have:=h1.2;omega⟩
   have:=h1.1 (k+1) (by omega);omega
 rw[row,row]
 constructor
 ·rintro⟨h1,h2,h3⟩
  have:=b4e h1;rw[a6Y,a1M]at this;exact⟨⟨by omega,by omega⟩,⟨fun i hi=>(h2 i hi).1,fun i hi=>(h2 i hi).2,fun i hi=>(h3 i hi).1,fun i hi=>(h3 i hi).2⟩⟩
 ·rintro⟨⟨h1,h2⟩,T⟩
  refine⟨b4h (by rw[a1M];omega) (by rw[a1M];omega) (by rw[a1M];exact a7b),fun i hi=>⟨T.row i hi,T.rowN i hi⟩,fun i hi=>⟨T.col i hi,T.colN i hi⟩⟩
theorem b1q(xs:List α)(x:α):atI (xs++[x]) (-1)=some x:=by
 unfold atI ixN;rw[Ql (by omega),Qn (by rw[Qs];simp;omega)]
 have:((-1:Int)+((xs++[x]).length:Nat)).toNat=xs.length:=by rw[Qs];simp;omega
 rw[this]
 simp
abbrev rw'(n:Nat)(g:Nat->Int):List Int:=(List.range n).map g
theorem b0v{g:Nat->Int}(h:j<n):dIx (dR (rw' n g)) (.int (j:Int))=some (.int (g j)):=by
 show atI ((rw' n g).map D.int) (j:Int)=_;exact a0z (by simp[h])
theorem b4G{f:OO}(h:j<n):dIx (dT (gm n m f)) (.int (j:Int))=some (dR (rw' m (f j))):=by
 show atI ((gm n m f).map dR) (j:Int)=_;exact a0z (by simp[gm,h])
theorem c4n(n:Nat)(g:Nat->Int)(hn:n≤1000):a4o [.dat (dR (rw' n g))]=some (.d (dR (rw' (n+1) (S g))),[.dat (dR (rw' n g))]):=by
 generalize hL:dR (rw' n g)=L;have hLi:L.items=some ((rw' n g).map D.int):=by rw[←hL];rfl
 obtain⟨e',h1,w,rfl⟩:=b0q (g:=gN 2) (b:=a0q 1 (z4_ v7_ (a0b 1 (u5_ (mC (.int 1)))) (z0_ 2))) (ds:=(rw' n g).map D.int) (P:=fun i e=>∃w,e=[.dat L,.own ((rw' (i+1) (S g)).map D.int),w]) (env:=[.dat L,.own [.int 0],.nil])
  (fun i d e hi ⟨w,he⟩=>by
   subst he;have hil:i<n:=by
    have:=(Qh.mp hi).1
    simpa using this
   have hd:d=.int (g i):=by
    simp[hil]at hi
    exact hi.symm
   subst hd;have ea:(rw' (i+1) (S g)).map D.int=(rw' i (S g)).map D.int++[D.int (S g i)]:=by
    unfold rw';rw[Up,Zo,Zo];rfl
   have eb:(rw' (i+1+1) (S g)).map D.int=(rw' (i+1) (S g)).map D.int++[D.int (S g i+g i)]:=by
    unfold rw';rw[Up (n:=i+1),Zo,Zo];rfl
   have ix:(a0b 1 (u5_ (mC (.int 1)))) [.dat L,.own ((rw' (i+1) (S g)).map D.int),.dat (.int (g i))]=some (.int (S g i),[.dat L,.own ((rw' (i+1) (S g)).map D.int),.dat (.int (g i))]):=by
    show(atI ((rw' (i+1) (S g)).map D.int) (-1)).map _=_;rw[ea,b1q];rfl
   refine⟨[.dat L,.own ((rw' (i+1) (S g)).map D.int),.dat (.int (g i))],[.dat L,.own ((rw' (i+1+1) (S g)).map D.int),.dat (.int (g i))],rfl,?_,_,rfl⟩;unfold a0q;show((z4_ v7_ (a0b 1 (u5_ (mC (.int 1)))) (z0_ 2)) [.dat L,.own ((rw' (i+1) (S g)).map D.int),.dat (.int (g i))]).bind _=_;rw[q5_ ix (b:=.int (g i)) (e2:=[.dat L,.own ((rw' (i+1) (S g)).map D.int),.dat (.int (g i))]) rfl (c:=.int (S g i+g i)) rfl];show(if((rw' (i+1) (S g)).map D.int).length<100000 then some (Fl.nx,[W.dat L,.own ((rw' (i+1) (S g)).map D.int++[D.int (S g i+g i)]),.dat (.int (g i))])else none)=_
   rw[Qn (by simp;omega),eb]) ⟨.nil,rfl⟩
 have hlen:((rw' n g).map D.int).length=n:=by simp
 rw[hlen]at h1;refine(w0_ (d:=dR (rw' (n+1) (S g))) (env:=[.dat L,.dat (.lst ((rw' (n+1) (S g)).map D.int)),w]) ?_).trans rfl;show a9N [.dat L,.nil,.nil]=_;unfold a9N;rw[j3_ (e1:=[.dat L,.own [.int 0],.nil]) rfl,j3_ ((a1F (a0R rfl hLi)).trans h1)]
 rfl
theorem c4o(n:Nat)(g:Nat->Int)(hn:n≤1000):a4p [.dat (dR (rw' (n+1) g))]=some (.d (dR (rw' n fun k=>g (k+1)-g k)),[.dat (dR (rw' (n+1) g))]):=by
 have ix:∀j,j<n+1->dIx (dR (rw' (n+1) g)) (.int (j:Int))=some (.int (g j)):=fun j hj=>b0v hj
 have hlen:v8_ [dR (rw' (n+1) g)]=some (.int ((n+1:Nat):Int)):=by
  show some (D.int (((rw' (n+1) g).map D.int).length:Nat))=_
  simp
 generalize dR (rw' (n+1) g)=L at *;obtain⟨e',h1,w,rfl⟩:=a3G (g:=gN 1) (m:=z4_ k6_ (z4_ dIx (z0_ 0) (z0_ 1)) (z4_ dIx (z0_ 0) (z4_ k6_ (z0_ 1) (mC (.int 1))))) (P:=fun e=>∃w,e=[.dat L,w]) (q:=fun(k:Nat)=>D.int (1+k)) (f:=fun k=>.int (g (k+1)-g k)) (l:=List.range n) (env:=[.dat L,.nil])
  (fun k hk e ⟨w,he⟩=>by
   subst he;have hk:=Zl.mp hk;refine⟨[.dat L,.dat (.int (1+k))],[.dat L,.dat (.int (1+k))],rfl,q5_ (a:=.int (g (k+1))) (b:=.int (g k)) (e1:=[.dat L,.dat (.int (1+k))]) (q5_ (a:=L) (b:=.int (1+k)) (e1:=[.dat L,.dat (.int (1+k))]) rfl rfl ?_) (q5_ (a:=L) (b:=.int (1+k-1)) (e1:=[.dat L,.dat (.int (1+k))]) rfl (q5_ (a:=.int (1+k)) (b:=.int 1) (e1:=[.dat L,.dat (.int (1+k))]) rfl rfl rfl) ?_) rfl,_,rfl⟩
   ·have:=ix (k+1) (by omega)
    rw[show(((k+1:Nat):Int))=1+k by omega]at this
    exact this
   ·have:=ix k (by omega)
    rw[show((k:Nat):Int)=1+k-1 by omega]at this
    exact this) ⟨.nil,rfl⟩
 have hr:(a1s (z1_ (mC (.int 1)) (z1_ (mCB v8_ (z1_ (z0_ 0) z3_)) z3_))) [.dat L]=some ((List.range n).map fun(k:Nat)=>D.int (1+k),[.dat L]):=by
  have:=b9F (ms:=z1_ (mC (.int 1)) (z1_ (mCB v8_ (z1_ (z0_ 0) z3_)) z3_)) (env:=[.dat L]) (e1:=[.dat L]) (i:=1) (j:=((n+1:Nat):Int)) (q3_ rfl (q3_ (k2_ (q3_ rfl rfl) hlen) rfl)) (by decide) (by decide) (by omega) (by omega)
  rw[show(((n+1:Nat):Int)-1).toNat=n by omega]at this
  exact this
 refine(w0_ (d:=dR (rw' n fun k=>g (k+1)-g k)) (env:=[.dat L]) ?_).trans rfl
 show a9O [.dat L]=_;unfold a9O;refine u0_ (k2_ (q3_ (k3_ (a2N (e2:=[.dat L,w]) hr (by simp;omega) h1 rfl)) rfl) ?_)
 show some (D.tup _)=_;unfold dR rw';rw[Qe];rfl
theorem b4H{f:Fn}{m':Nat}{k:OO}(hf:∀i,i<n->f [.dat (dR (rw' m (h i)))]=some (.d (dR (rw' m' (k i))),[.dat (dR (rw' m (h i)))]))(hn:n≤1000):fnM 1 (v0_ (mCB g1_ (z1_ (mF (v1_ (y0_ (z0_ 0)) [false] 1 (gN 1) v3_ (mCD 1 f (z6_ (z0_ 1) z8_)))) z3_))) [.dat (dT (gm n m h))]=some (.d (dT (gm n m' k)),[.dat (dT (gm n m h))]):=by
 obtain⟨e',h1,w,rfl⟩:=a3G (g:=gN 1) (m:=mCD 1 f (z6_ (z0_ 1) z8_)) (P:=fun e=>∃w,e=[.nil,w]) (q:=fun(i:Nat)=>dR (rw' m (h i))) (f:=fun i=>dR (rw' m' (k i))) (l:=List.range n) (env:=[.nil,.nil])
  (fun i hi e ⟨w,he⟩=>by
   subst he;refine⟨[.nil,.dat (dR (rw' m (h i)))],[.nil,.dat (dR (rw' m (h i)))],rfl,a1f (a0S (av:=[.d (dR (rw' m (h i)))]) rfl rfl rfl (hf i (Zl.mp hi))),_,rfl⟩) ⟨.nil,rfl⟩
 have it:(y0_ (z0_ 0)) [.dat (dT (gm n m h))]=some ((List.range n).map fun(i:Nat)=>dR (rw' m (h i)),[.dat (dT (gm n m h))]):=by
  refine a0R rfl ?_
  show some ((gm n m h).map dR)=_;unfold gm;rw[Qe];rfl
 refine(w0_ (d:=dT (gm n m' k)) (env:=[.dat (dT (gm n m h))]) ?_).trans rfl;refine u0_ (k2_ (q3_ (k3_ (a2N (e2:=[.nil,w]) it (by simp;omega) h1 rfl)) rfl) ?_)
 show some (D.tup _)=_;unfold dT gm;rw[Qe];rfl
theorem b4I(f:OO)(hn:n≤1000)(hm:m≤1000):a2X [.dat (dT (gm n m f))]=some (.d (dT (gm n (m+1) fun i=>S (f i))),[.dat (dT (gm n m f))]):=by
 unfold a2X b3E;exact b4H (f:=a4o) (h:=f) (k:=fun i=>S (f i)) (fun i _=>c4n m (f i) hm) hn
theorem b4J(f:OO)(hn:n≤1000)(hm:m≤1000):a2Y [.dat (dT (gm n (m+1) f))]=some (.d (dT (gm n m fun i j=>f i (j+1)-f i j)),[.dat (dT (gm n (m+1) f))]):=by
 unfold a2Y b3F;exact b4H (f:=a4p) (h:=f) (k:=fun i j=>f i (j+1)-f i j) (fun i _=>c4o m (f i) hm) hn
theorem a7c(f:OO)(h1:1≤n)(hn:n≤1000)(hm:m≤1000):a0y [.dat (dT (gm n m f))]=some (.d (dT (gm m n fun i j=>f j i)),[.dat (dT (gm n m f))]):=by
 have q:=b4i (R:=gm n m f) (n:=m) (by intro z;have:=a1M (n:=n) (m:=m) (f:=f);rw[z]at this;simp at this;omega) a7b hm (by rw[a1M];exact hn)
 rw[b4F]at q;exact q
theorem c1{f:Fn}{m:Mo D}{r:D}(h:m env=some (d,env))(hf:f [.dat d]=some (.d r,ws)):mCD 1 f (z6_ m z8_) env=some (r,env):=
 a1f (a0S (av:=[.d d]) (a1E h rfl) rfl rfl hf)
theorem c4p(f:OO)(h1:1≤n)(h2:1≤m)(hn:n≤900)(hm:m≤900):a5u [.dat (dT (gm n m f))]=some (.d (dT (gm (n+1) m fun i j=>S (fun k=>f k j) i)),[.dat (dT (gm n m f))]):=by
 have q1:=a7c f h1 (by omega:n≤1000) (by omega:m≤1000)
 have q2:=b4I (fun i j=>f j i) (by omega:m≤1000) (by omega:n≤1000)
 have q3:=a7c (fun i=>S ((fun i j=>f j i) i)) h2 (by omega:m≤1000) (by omega:n+1≤1000)
 refine(w0_ (d:=dT (gm (n+1) m fun i j=>S (fun k=>f k j) i)) (env:=[.dat (dT (gm n m f))]) ?_).trans rfl
 show a9P [.dat (dT (gm n m f))]=_;unfold a9P;have p1:=c1 (m:=z0_ 0) (env:=[.dat (dT (gm n m f))]) rfl q1;exact u0_ (c1 (c1 p1 q2) q3)
theorem c4q(f:OO)(h2:1≤m)(hn:n≤900)(hm:m≤900):a5v [.dat (dT (gm (n+1) m f))]=some (.d (dT (gm n m fun i j=>f (i+1) j-f i j)),[.dat (dT (gm (n+1) m f))]):=by
 have q1:=a7c f (by omega:1≤n+1) (by omega:n+1≤1000) (by omega:m≤1000)
 have q2:=b4J (fun i j=>f j i) (by omega:m≤1000) (by omega:n≤1000)
 have q3:=a7c (fun i j=>(fun i j=>f j i) i (j+1)-(fun i j=>f j i) i j) h2 (by omega:m≤1000) (by omega:n≤1000)
 refine(w0_ (d:=dT (gm n m fun i j=>f (i+1) j-f i j)) (env:=[.dat (dT (gm (n+1) m f))]) ?_).trans rfl
 show a9Q [.dat (dT (gm (n+1) m f))]=_;unfold a9Q;have p1:=c1 (m:=z0_ 0) (env:=[.dat (dT (gm (n+1) m f))]) rfl q1;exact u0_ (c1 (c1 p1 q2) q3)
theorem a7d(f:OO)(h1:1≤n)(hn:n≤900):a1i [.dat (dT (gm n n f))]=some (.d (dT (gm (n+1) (n+1) (HH f))),[.dat (dT (gm n n f))]):=by
 have q1:=c4p f h1 h1 hn hn
 have q2:=b4I (fun i j=>S (fun k=>f k j) i) (by omega:n+1≤1000) (by omega:n≤1000)
 refine(w0_ (d:=dT (gm (n+1) (n+1) (HH f))) (env:=[.dat (dT (gm n n f))]) ?_).trans rfl;show a9U [.dat (dT (gm n n f))]=_;unfold a9U;have p1:=c1 (m:=z0_ 0) (env:=[.dat (dT (gm n n f))]) rfl q1;exact u0_ (c1 p1 q2)
theorem c4r(h:OO)(hn:n≤800):a4q [.dat (dT (gm (n+1) (n+1) h))]=some (.d (dT (gm n n (U h))),[.dat (dT (gm (n+1) (n+1) h))]):=by
 have q1:=c4q h (by omega:1≤n+1) (by omega:n≤900) (by omega:n+1≤900)
 have q2:=b4J (fun i j=>h (i+1) j-h i j) (by omega:n≤1000) (by omega:n≤1000)
 refine(w0_ (d:=dT (gm n n (U h))) (env:=[.dat (dT (gm (n+1) (n+1) h))]) ?_).trans rfl;show a9V [.dat (dT (gm (n+1) (n+1) h))]=_;unfold a9V;have p1:=c1 (m:=z0_ 0) (env:=[.dat (dT (gm (n+1) (n+1) h))]) rfl q1;exact u0_ (c1 p1 q2)
theorem a7e(l:List Int):shp (dR l)=true:=by
 unfold shp SeqAt.shaped;show(PyData.canLayAll0 (x0_ (l.map D.int))&&decide (PyData.depthAll (x0_ (l.map D.int))+1≤64))=true;rw[a2a,a4f,a5C];rfl
theorem b4K(l k:List Int):PyData.eqv (toP (dR l)) (toP (dR k))=decide (l=k):=by
 show PyData.eqvAll (x0_ (l.map D.int)) (x0_ (k.map D.int))=_;rw[a2a,a2a,b0o]
theorem c4s(neg:Bool)(l k:List Int):dEq neg (dR l) (dR k)=some (.bl (if neg then !decide (l=k)else decide (l=k))):=by
 unfold dEq;rw[a7e,a7e,b4K];rfl
theorem b0w:∀R:OI,PyData.canLayAll0 (x0_ (R.map dR))=true
 |[]=>rfl
 |r::R=>by
  show(PyData.canLayAll0 (x0_ (r.map D.int))&&PyData.canLayAll0 (x0_ (R.map dR)))=true;rw[b0w R,a2a,a4f];rfl
theorem b4L:∀R:OI,PyData.depthAll (x0_ (R.map dR))≤1
 |[]=>by decide
 |r::R=>by
  show max (PyData.depthAll (x0_ (r.map D.int))+1) (PyData.depthAll (x0_ (R.map dR)))≤1;have:=b4L R;rw[a2a,a5C];omega
theorem c4t(R:OI):shp (dT R)=true:=by
 unfold shp SeqAt.shaped;show(PyData.canLayAll0 (x0_ (R.map dR))&&decide (PyData.depthAll (x0_ (R.map dR))+1≤64))=true;have:=b4L R;rw[b0w,Yu,Zz];omega
theorem a7f{f:OO}(h1:1≤n)(h6:n≤6)(T:TabF n f):a0J [.dat (dT (gm n n f))]=some (.d .non,[.dat (dT (gm n n f))]):=by
 refine(b9G (env:=[.dat (dT (gm n n f))]) ?_).trans rfl;show a9S [.dat (dT (gm n n f))]=_;unfold a9S;rw[a1e (e1:=[.dat (dT (gm n n f))]) ?_]
 ·rfl
 ·have:=b0n (dT (gm n n f))
  rw[a3I.mpr ⟨⟨h1,h6⟩,T⟩]at this;exact a0G (b:=true) (j4_ (c1 rfl this))
theorem a7g{f:OO}:v8_ [dT (gm n m f)]=some (.int (n:Int)):=by
 show some (D.int (((gm n m f).map dR).length:Nat))=_
 simp[gm]
theorem b4M{f:OO}:(dT (gm n m f)).items=some ((List.range n).map fun i=>dR (rw' m (f i))):=by
 show some ((gm n m f).map dR)=_;unfold gm;rw[Qe];rfl
theorem b4N{α β:Type}(z:α->List β)(c:Nat):∀l:List α,(∀x∈l,(z x).length≤c)->(l.flatMap z).length≤l.length * c
 |[],_=>by simp
 |x::l,h=>by
  rw[Jy,Qs,Yy,Nat.succ_mul];have a:=h x (Zg ..);have b:=b4N z c l fun y hy=>h y (Zx _ hy)
  omega
abbrev LO(f g:OO):OO:=U fun i j=>mx (HH f i j) (HH g i j)
abbrev HI(f g:OO):OO:=U fun i j=>mn (HH f i j) (HH g i j)
theorem c2{f:Fn}{m n:Mo D}{a b r:D}(h:m env=some (a,env))(h':n env=some (b,env))(hf:f [.dat a,.dat b]=some (.d r,ws)):mCD 2 f (z6_ m (z6_ n z8_)) env=some (r,env):=
 a1f (a0S (av:=[.d a,.d b]) (a1E h (a1E h' rfl)) rfl rfl hf)
theorem b0x:g1_ [.lst ((List.range N).map fun i=>dR (rw' N (a i)))]=some (dT (gm N N a)):=by
 show some (D.tup _)=_;unfold dT gm;rw[Qe];rfl
theorem b0y{a:Nat->Int}:g1_ [.lst ((List.range N).map fun i=>D.int (a i))]=some (dR (rw' N a)):=by
 show some (D.tup _)=_;unfold dR rw';rw[Qe];rfl
def SS(N:Nat)(a:OO):Int:=((List.range N).map fun i=>((List.range N).map (a i)).sum).sum
def okI(r:Option (Rr×List W)):Option Int:=match r with
 |some (.d (.int c),_)=>some c
 |_=>none
theorem c4u{r:Option (Rr×List W)}{c:Int}(h:okI r=some c):∃ws,r=some (.d (.int c),ws):=by
 unfold okI at h;split at h
 ·cases h;exact⟨_,rfl⟩
 ·cases h
def ltv(n:Nat):Int:=(okI (a2x [.dat (.int (n:Int))])).getD 0
def ltk(n:Nat):Bool:=(okI (a2x [.dat (.int (n:Int))])).isSome
theorem c4v:ltk 1=true:=by decide+kernel
theorem c4w:ltk 2=true:=by decide+kernel
theorem c4x:ltk 3=true:=by decide+kernel
theorem c4y:ltk 4=true:=by decide+kernel
theorem c4z:ltk 5=true:=by decide+kernel
theorem c4A:ltk 6=true:=by decide+kernel
theorem c4B(h1:1≤n)(h6:n≤6):ltk n=true:=by
 have:n=1∨n=2∨n=3∨n=4∨n=5∨n=6:=by omega
 rcases this with rfl|rfl|rfl|rfl|rfl|rfl
 ·exact c4v
 ·exact c4w
 ·exact c4x
 ·exact c4y
 ·exact c4z
 ·exact c4A
theorem c4C(h1:1≤n)(h6:n≤6):∃ws,a2x [.dat (.int (n:Int))]=some (.d (.int (ltv n)),ws):=by
 have h:=c4B h1 h6
 unfold ltk at h;unfold ltv;generalize a2x [.dat (.int (n:Int))]=r at *;obtain⟨c,hc⟩:=Yq.mp h;rw[hc];exact c4u hc
theorem c4D{f:OO}(h1:1≤n)(h6:n≤6)(F:TabF n f):a1Y [.dat (dT (gm n n f))]=some (.d (.int (ltv n-SS (n+1) (HH f))),[.dat (dT (gm n n f))]):=by
 obtain⟨ws,hl⟩:=c4C h1 h6;have q1:=a7f h1 h6 F;have q2:=a7d f h1 (by omega)
 have q3:=a7g (n:=n) (m:=n) (f:=f)
 have q4:=b4M (n:=n+1) (m:=n+1) (f:=HH f)
 generalize dT (gm n n f)=A at *;generalize dT (gm (n+1) (n+1) (HH f))=P at *;refine a3w (d:=.int (ltv n-SS (n+1) (HH f))) (env:=[.dat A]) ?_ rfl;show b0c [.dat A]=_;unfold b0c;refine y6_ (a6v (c1 rfl q1)) (u0_ (q5_ (c1 (k2_ (q3_ rfl rfl) q3) hl) (k2_ (q3_ (k3_ (a1L (α:=Nat) (l:=List.range (n+1)) (q:=fun i=>dR (rw' (n+1) (HH f i))) (f:=fun i=>D.int (((List.range (n+1)).map (HH f i)).sum)) (base:=[.nil]) (a0R (c1 rfl q2) q4) (by simp;omega) rfl rfl (fun i _=>k2_ (q3_ rfl rfl) (a8X _)) (fun _=>rfl))) rfl) (d:=.int (SS (n+1) (HH f))) ?_) rfl))
 have:((List.range (n+1)).map fun i=>D.int (((List.range (n+1)).map (HH f i)).sum))=((List.range (n+1)).map fun i=>((List.range (n+1)).map (HH f i)).sum).map D.int:=by rw[Qe];rfl
 rw[this];exact a8W _
theorem TabF.lo{f g:OO}(F:TabF n f)(G:TabF n g):TabF n (LO f g):=(F.ht.max G.ht).tab
theorem TabF.hi{f g:OO}(F:TabF n f)(G:TabF n g):TabF n (HI f g):=(F.ht.min G.ht).tab
theorem c3{f:Fn}{m n o:Mo D}{a b c r:D}(h:m env=some (a,env))(h':n env=some (b,env))(h'':o env=some (c,env))(hf:f [.dat a,.dat b,.dat c]=some (.d r,ws)):mCD 3 f (z6_ m (z6_ n (z6_ o z8_))) env=some (r,env):=
 a1f (a0S (av:=[.d a,.d b,.d c]) (a1E h (a1E h' (a1E h'' rfl))) rfl rfl hf)
section
variable{f g:OO}(h1:1≤n)(h6:n≤6)(F:TabF n f)(G:TabF n g)(H:TabF n h)
include F G in
end
theorem c4E{f:OO}(j:Nat)(e:z=(j:Int))(h:j<n):dIx (dT (gm n m f)) (.int z)=some (dR (rw' m (f j))):=by subst e;exact b4G h
theorem a5I{g:Nat->Int}(j:Nat)(e:z=(j:Int))(h:j<n):dIx (dR (rw' n g)) (.int z)=some (.int (g j)):=by subst e;exact b0v h
def cf(a:OO)(r c:Nat):Bool:=decide (a (r-1) c=a r c-1/\a r (c-1)=a r c-1)&&decide (a (r+1) c=a r c/\a r (c+1)=a r c)
theorem b4O(x y u v:Int):dEq false (.tup [.int x,.int y]) (.tup [.int u,.int v])=some (.bl (decide (x=u/\y=v))):=by
 have:=c4s false [x,y] [u,v];simp only[Uw,and_true,Zq,Yj]at this;exact this
theorem c4F(hr:1≤r)(hr':r+1<N)(hc:1≤c)(hc':c+1<N):∃ws,a4r [.dat (dT (gm N N a)),.dat (.int (r:Int)),.dat (.int (c:Int))]=some (.d (.bl (cf a r c)),ws):=by
 have ix:∀(z:Int) (i:Nat),z=(i:Int)->i<N->dIx (dT (gm N N a)) (.int z)=some (dR (rw' N (a i))):=fun z i e h=>c4E i e h
 generalize dT (gm N N a)=P at *;refine⟨_,w0_ (d:=.bl (cf a r c)) (env:=[.dat P,.dat (.int (r:Int)),.dat (.int (c:Int)),.dat (.int (a r c)),.dat (.tup [.int (a (r-1) c),.int (a r (c-1))]),.dat (.tup [.int (a (r+1) c),.int (a r (c+1))])]) ?_⟩;show a9W [.dat P,.dat (.int (r:Int)),.dat (.int (c:Int)),.nil,.nil,.nil]=_;unfold a9W;refine y6_ (g2_ (e1:=[.dat P,.dat (.int (r:Int)),.dat (.int (c:Int)),.nil,.nil,.nil]) (q5_ (q5_ rfl rfl (ix _ r rfl (by omega))) rfl (a5I c rfl (by omega))) rfl) ?_
 refine y6_ (g2_ (e1:=[.dat P,.dat (.int (r:Int)),.dat (.int (c:Int)),.dat (.int (a r c)),.nil,.nil]) (a2W (q3_ (q5_ (q5_ rfl (q5_ rfl rfl rfl) (ix _ (r-1) (by omega) (by omega))) rfl (a5I c rfl (by omega))) (q3_ (q5_ (q5_ rfl rfl (ix _ r rfl (by omega))) (q5_ rfl rfl rfl) (a5I (c-1) (by omega) (by omega))) rfl)) (by simp)) rfl) ?_
 refine y6_ (g2_ (e1:=[.dat P,.dat (.int (r:Int)),.dat (.int (c:Int)),.dat (.int (a r c)),.dat (.tup [.int (a (r-1) c),.int (a r (c-1))]),.nil]) (a2W (q3_ (q5_ (q5_ rfl (q5_ rfl rfl rfl) (ix _ (r+1) (by omega) (by omega))) rfl (a5I c rfl (by omega))) (q3_ (q5_ (q5_ rfl rfl (ix _ r rfl (by omega))) (q5_ rfl rfl rfl) (a5I (c+1) (by omega) (by omega))) rfl)) (by simp)) rfl) (u0_ ?_)
 have q1:(z4_ (dEq false) (z0_ 4) (v6_ (z1_ (z4_ k6_ (z0_ 3) (mC (.int 1))) (z1_ (z4_ k6_ (z0_ 3) (mC (.int 1))) z3_)))) [.dat P,.dat (.int (r:Int)),.dat (.int (c:Int)),.dat (.int (a r c)),.dat (.tup [.int (a (r-1) c),.int (a r (c-1))]),.dat (.tup [.int (a (r+1) c),.int (a r (c+1))])]=some (.bl (decide (a (r-1) c=a r c-1/\a r (c-1)=a r c-1)),[.dat P,.dat (.int (r:Int)),.dat (.int (c:Int)),.dat (.int (a r c)),.dat (.tup [.int (a (r-1) c),.int (a r (c-1))]),.dat (.tup [.int (a (r+1) c),.int (a r (c+1))])]):=
  q5_ rfl (a2W (q3_ (q5_ rfl rfl rfl) (q3_ (q5_ rfl rfl rfl) rfl)) (by simp)) (b4O _ _ _ _)
 have q2:(z4_ (dEq false) (z0_ 5) (v6_ (z1_ (z0_ 3) (z1_ (z0_ 3) z3_)))) [.dat P,.dat (.int (r:Int)),.dat (.int (c:Int)),.dat (.int (a r c)),.dat (.tup [.int (a (r-1) c),.int (a r (c-1))]),.dat (.tup [.int (a (r+1) c),.int (a r (c+1))])]=some (.bl (decide (a (r+1) c=a r c/\a r (c+1)=a r c)),[.dat P,.dat (.int (r:Int)),.dat (.int (c:Int)),.dat (.int (a r c)),.dat (.tup [.int (a (r-1) c),.int (a r (c-1))]),.dat (.tup [.int (a (r+1) c),.int (a r (c+1))])]):=
  q5_ rfl (a2W (q3_ rfl (q3_ rfl rfl)) (by simp)) (b4O _ _ _ _)
 unfold cf;cases hb:decide (a (r-1) c=a r c-1/\a r (c-1)=a r c-1)
 ·rw[hb]at q1;rw[Jo];exact a8Y q1
 ·rw[hb]at q1;rw[Yu];exact a6Q q1 q2
def PL(n:Nat)(a:OO):OI:=(up 1 n).flatMap fun r=>((up 1 n).filter (cf a r)).map fun(c:Nat)=>[(r:Int),(c:Int)]
theorem c4G(n:Nat)(a:OO):((up 1 n).flatMap fun r=>((up 1 n).filter (cf a r)).map fun(c:Nat)=>D.tup [.int (r:Int),.int (c:Int)])=(PL n a).map dR:=by
 unfold PL;rw[List.map_flatMap];simp only[Qe]
 rfl
theorem c4H(h6:n≤6):((up 1 n).flatMap fun r=>((up 1 n).filter (cf a r)).map fun(c:Nat)=>D.tup [.int (r:Int),.int (c:Int)]).length≤100000:=by
 have l6:(up 1 n).length≤6:=by simp[up];omega
 have:=b4N (fun r=>((up 1 n).filter (cf a r)).map fun(c:Nat)=>D.tup [.int (r:Int),.int (c:Int)]) 6 (up 1 n) (fun r _=>by rw[Qv];exact Zp (Uc ..) l6)
 omega
theorem b0z(h6:n≤6):∃ws,a1z [.dat (dT (gm (n+1) (n+1) a))]=some (.l ((PL n a).map dR),ws):=by
 have ec:∀r∈up 1 n,∀c∈up 1 n,∃ws,a4r [.dat (dT (gm (n+1) (n+1) a)),.dat (.int (r:Int)),.dat (.int (c:Int))]=some (.d (.bl (cf a r c)),ws):=fun r hr c hc=>by
  have:=a8Z hr;have:=a8Z hc;exact c4F (by omega) (by omega) (by omega) (by omega)
 have hl:=a7g (n:=n+1) (m:=n+1) (f:=a)
 generalize dT (gm (n+1) (n+1) a)=P at *;refine⟨_,a6t (d:=(PL n a).map dR) (env:=[.dat P,.dat (.lst ((up 1 n).map qN))]) ?_⟩;show a9X [.dat P,.nil]=_;unfold a9X;refine y6_ (g2_ (e1:=[.dat P,.nil]) (d:=.lst ((up 1 n).map qN)) (e2:=[.dat P,.dat (.lst ((up 1 n).map qN))]) (k3_ (a9a (a:=1) (n:=n) rfl (q5_ (k2_ (q3_ rfl rfl) hl) rfl rfl) rfl (by omega) (by omega) (by omega))) rfl) ?_
 rw[←c4G];refine a8n (c1B (α:=Nat) (β:=Nat) (l:=up 1 n) (l2:=fun _=>up 1 n) (q:=qN) (q2:=fun _=>qN) (p:=cf a) (f:=fun r c=>D.tup [.int (r:Int),.int (c:Int)]) (base:=[.dat P,.dat (.lst ((up 1 n).map qN))]) (a0R rfl rfl) rfl rfl (fun _ _ w=>a0R rfl rfl) (fun r hr c hc=>?_) (c4H h6) (fun _ _=>rfl))
 obtain⟨ws,h⟩:=ec r hr c hc;exact⟨j4_ (c3 rfl rfl rfl h),fun _=>a2W (q3_ rfl (q3_ rfl rfl)) (by simp)⟩
theorem c4I{f:OO}(h1:1≤n)(h6:n≤6)(F:TabF n f):∃ws,a1X [.dat (dT (gm n n f))]=some (.l ((PL n (HH f)).map dR),ws):=by
 have q1:=a7f h1 h6 F
 have q2:=a7d f h1 (by omega)
 obtain⟨ws,q3⟩:=b0z (a:=HH f) h6;generalize dT (gm n n f)=A at *;generalize dT (gm (n+1) (n+1) (HH f))=P at *;refine⟨_,a6t (d:=(PL n (HH f)).map dR) (env:=[.dat A]) ?_⟩;show a9Z [.dat A]=_;unfold a9Z;exact y6_ (a6v (c1 rfl q1)) (a8n (a3Z (a0S (av:=[.d P]) (a1E (c1 rfl q2) rfl) rfl rfl q3)))
theorem b0A{x:List Int}:x∈PL n a↔ ∃r c:Nat,(1≤r/\r<n)/\(1≤c/\c<n)/\cf a r c=true/\x=[(r:Int),(c:Int)]:=by
 unfold PL;simp only[List.mem_flatMap,Zj,List.mem_filter]
 constructor
 ·rintro⟨r,hr,c,⟨hc,h⟩,rfl⟩
  exact⟨r,c,a4l.mp (by simpa using hr),a4l.mp (by simpa using hc),h,rfl⟩
 ·rintro⟨r,c,hr,hc,h,rfl⟩
  exact⟨r,by simpa using a4l.mpr hr,c,⟨by simpa using a4l.mpr hc,h⟩,rfl⟩
def fl(a:OO)(r c i j:Nat):Int:=if i=r/\j=c then a i j-1 else a i j
theorem b4P(n r:Nat)(h:r<n)(g:Nat->α)(x:α):((List.range n).map g).take r++[x]++((List.range n).map g).drop (r+1)=(List.range n).map fun i=>if i=r then x else g i:=by
 apply List.ext_getElem?
 intro i;rw[List.getElem?_append,List.getElem?_append];simp only[Qs,Yk,Qv,Xn,List.length_singleton];have e:min r n=r:=by omega
 rw[e]
 by_cases h1:i<r
 ·rw[Qn (by omega),Qn h1,List.getElem?_take,Qn h1,Qa,Qa,Ys (by omega)]
  simp;omega
 ·by_cases h2:i=r
  ·subst h2
   rw[Qn (by omega),Ql h1,Qa,Ys h]
   simp
  ·rw[Ql (by omega),List.getElem?_drop,show r+1+(i-(r+1))=i by omega,Qa,Qa]
   by_cases h3:i<n
   ·rw[Ys h3];simp;omega
   ·rw[List.getElem?_eq_none (by simpa using h3)];rfl
theorem c4J(hN:N≤7)(hr:r<N)(hc:c<N):∃ws,a4s [.dat (dT (gm N N a)),.dat (.tup [.int (r:Int),.int (c:Int)])]=some (.d (dT (gm N N (fl a r c))),ws):=by
 have hg:dT (gm N N a)=.tup ((List.range N).map fun i=>dR (rw' N (a i))):=by
  unfold dT gm;rw[Qe];rfl
 have hrow:dR (rw' N (a r))=.tup ((List.range N).map fun j=>D.int (a r j)):=by
  unfold dR rw';rw[Qe];rfl
 have ix:=b4G (n:=N) (m:=N) (f:=a) hr
 have ix2:=b0v (n:=N) (g:=a r) hc
 have lower:(D.tup (((List.range N).map fun j=>D.int (a r j)).take c++[D.int (a r c-1)]++((List.range N).map fun j=>D.int (a r j)).drop (c+1)))=dR (rw' N (fl a r c r)):=by
  rw[b4P N c hc];unfold dR rw';rw[Qe];refine Zc D.tup (Zw fun j _=>?_)
  show _=D.int (fl a r c r j);unfold fl
  by_cases h:j=c
  ·simp[h]
  ·simp[h]
 have whole:(D.tup (((List.range N).map fun i=>dR (rw' N (a i))).take r++[dR (rw' N (fl a r c r))]++((List.range N).map fun i=>dR (rw' N (a i))).drop (r+1)))=dT (gm N N (fl a r c)):=by
  rw[b4P N r hr];unfold dT gm;rw[Qe];refine Zc D.tup (Zw fun i _=>?_)
  show _=dR (rw' N (fl a r c i))
  by_cases h:i=r
  ·subst h;simp
  ·rw[Ql h]
   refine Zc (fun g=>dR (rw' N g)) ?_
   funext j
   unfold fl;simp[h]
 have hl1:((List.range N).map fun j=>D.int (a r j)).length=N:=by simp
 have hl2:((List.range N).map fun i=>dR (rw' N (a i))).length=N:=by simp
 rw[hrow]at ix ix2;rw[hg]at ix ⊢;generalize ((List.range N).map fun i=>dR (rw' N (a i)))=LP at *
 generalize ((List.range N).map fun j=>D.int (a r j))=LR at *
 generalize dR (rw' N (fl a r c r))=LW at *;generalize dT (gm N N (fl a r c))=RES at *;refine⟨_,w0_ (d:=RES) (env:=[.dat (.tup LP),.dat (.tup [.int (r:Int),.int (c:Int)]),.dat (.tup LR),.dat LW,.dat (.int (r:Int)),.dat (.int (c:Int))]) ?_⟩;show a9Y [.dat (.tup LP),.dat (.tup [.int (r:Int),.int (c:Int)]),.nil,.nil,.nil,.nil]=_;unfold a9Y;refine y6_ (c1E (e1:=[.dat (.tup LP),.dat (.tup [.int (r:Int),.int (c:Int)]),.nil,.nil,.nil,.nil]) (e2:=[.dat (.tup LP),.dat (.tup [.int (r:Int),.int (c:Int)]),.nil,.nil,.dat (.int (r:Int)),.dat (.int (c:Int))]) rfl rfl) ?_
 refine y6_ (g2_ (e1:=[.dat (.tup LP),.dat (.tup [.int (r:Int),.int (c:Int)]),.nil,.nil,.dat (.int (r:Int)),.dat (.int (c:Int))]) (e2:=[.dat (.tup LP),.dat (.tup [.int (r:Int),.int (c:Int)]),.dat (.tup LR),.nil,.dat (.int (r:Int)),.dat (.int (c:Int))]) (q5_ rfl rfl ix) rfl) ?_
 have lw:(g7_ LR none (some (c:Int))).length≤N:=by rw[a4j,Yk];omega
 have lw2:(g7_ LR (some ((c:Int)+1)) none).length≤N:=by rw[show(c:Int)+1=((c+1:Nat):Int) by omega,a5o,Uj];omega
 have lv:(g7_ LP none (some (r:Int))).length≤N:=by rw[a4j,Yk];omega
 have lv2:(g7_ LP (some ((r:Int)+1)) none).length≤N:=by rw[show(r:Int)+1=((r+1:Nat):Int) by omega,a5o,Uj];omega
 refine y6_ (g2_ (e1:=[.dat (.tup LP),.dat (.tup [.int (r:Int),.int (c:Int)]),.dat (.tup LR),.nil,.dat (.int (r:Int)),.dat (.int (c:Int))]) (d:=LW) (e2:=[.dat (.tup LP),.dat (.tup [.int (r:Int),.int (c:Int)]),.dat (.tup LR),.dat LW,.dat (.int (r:Int)),.dat (.int (c:Int))]) (q5_ (q5_ (a2A (lo:=none) (hi:=some (c:Int)) rfl rfl rfl) (a2W (q3_ (q5_ (q5_ rfl rfl ix2) rfl rfl) rfl) (by simp)) (a0w (by simp;omega))) (a2A (lo:=some ((c:Int)+1)) (hi:=none) rfl rfl rfl) ?_) rfl) ?_
 ·rw[a0w (by simp;omega),a4j,show(c:Int)+1=((c+1:Nat):Int) by omega,a5o,lower]
 ·refine u0_ (q5_ (q5_ (a2A (lo:=none) (hi:=some (r:Int)) rfl rfl rfl) (a2W (q3_ rfl rfl) (by simp)) (a0w (by simp;omega))) (a2A (lo:=some ((r:Int)+1)) (hi:=none) rfl rfl rfl) ?_)
  rw[a0w (by simp;omega),a4j,show(r:Int)+1=((r+1:Nat):Int) by omega,a5o,whole]
theorem HtF.fall(H:HtF n a)(hr:1≤r)(hr':r<n)(hc:1≤c)(hc':c<n)(h:cf a r c=true):HtF n (fl a r c):=by
 unfold cf at h;simp only[Qw,Zz]at h;obtain⟨⟨a1,a2⟩,a3,a4⟩:=h;refine⟨fun i hi=>?_,fun i hi=>?_,fun i hi=>?_,fun i hi=>?_,fun i hi j hj=>?_,fun i hi j hj=>?_⟩
 ·unfold fl;rw[Ql (by omega)];exact H.r0 i hi
 ·unfold fl;rw[Ql (by omega)];exact H.d0 i hi
 ·unfold fl;rw[Ql (by omega)];exact H.rN i hi
 ·unfold fl;rw[Ql (by omega)];exact H.dN i hi
 ·have:=H.dd i hi j hj
  unfold fl
  by_cases e1:i+1=r/\j=c
  ·obtain⟨rfl,rfl⟩:=e1
   rw[Qn ⟨rfl,rfl⟩,Ql (by omega)]
   simp only[Nat.add_sub_cancel]at a1
   omega
  ·by_cases e2:i=r/\j=c
   ·obtain⟨rfl,rfl⟩:=e2
    rw[Ql (by omega),Qn ⟨rfl,rfl⟩]
    omega
   ·rw[Ql e1,Ql e2];exact this
 ·have:=H.rr i hi j hj
  unfold fl
  by_cases e1:i=r/\j+1=c
  ·obtain⟨rfl,rfl⟩:=e1
   rw[Qn ⟨rfl,rfl⟩,Ql (by omega)]
   simp only[Nat.add_sub_cancel]at a2
   omega
  ·by_cases e2:i=r/\j=c
   ·obtain⟨rfl,rfl⟩:=e2
    rw[Ql (by omega),Qn ⟨rfl,rfl⟩]
    omega
   ·rw[Ql e1,Ql e2];exact this
abbrev ST(f:OO)(r c:Nat):OO:=U (fl (HH f) r c)
theorem b4Q(neg:Bool)(x:List Int)(R:OI):a3u neg (dR x) (.lst (R.map dR))=some (.bl (if neg then !decide (x∈R)else decide (x∈R))):=by
 have hd:decide ((toP (dR x)).depth≤60)=true:=by
  rw[Zz];show PyData.depthAll (x0_ (x.map D.int))+1≤60;rw[a2a,a5C];omega
 have ha:((x0_ (R.map dR)).any fun y=>PyData.eqv y (toP (dR x)))=decide (x∈R):=by
  induction R with
  |nil=>simp[x0_]
  |cons r R ih=>
   show(PyData.eqv (toP (dR r)) (toP (dR x))||(x0_ (R.map dR)).any fun y=>PyData.eqv y (toP (dR x)))=_
   rw[ih,b4K]
   by_cases h:r=x
   ·subst h;simp
   ·simp only[Qr]
    have:¬ x=r:=fun z=>h z.symm
    simp[h,this]
 unfold a3u;show(if shp (dR x)&&decide ((toP (dR x)).depth≤60)&&PyData.canLayAll0 (x0_ (R.map dR))then _ else none)=_
 rw[a7e,hd,b0w,ha];rfl
theorem c4K{f:OO}(h1:1≤n)(h6:n≤6)(F:TabF n f)(hr:1≤r/\r<n)(hc:1≤c/\c<n)(h:cf (HH f) r c=true):∃ws,a0K [.dat (dT (gm n n f)),.dat (.tup [.int (r:Int),.int (c:Int)])]=some (.d (dT (gm n n (ST f r c))),ws):=by
 have q1:=a7f h1 h6 F
 have q2:=a7d f h1 (by omega)
 obtain⟨w3,q3⟩:=b0z (a:=HH f) h6;obtain⟨w4,q4⟩:=c4J (N:=n+1) (a:=HH f) (r:=r) (c:=c) (by omega) (by omega) (by omega)
 have q5:=c4r (n:=n) (fl (HH f) r c) (by omega)
 have q6:=b0m (.tup [.int (r:Int),.int (c:Int)]) 2 (by decide)
 have q7:isR (.tup [.int (r:Int),.int (c:Int)]) 2=true:=b4g [(r:Int),(c:Int)]
 have q8:[(r:Int),(c:Int)]∈PL n (HH f):=b0A.mpr ⟨r,c,hr,hc,h,rfl⟩
 have q9:=b4Q true [(r:Int),(c:Int)] (PL n (HH f))
 rw[q7]at q6;simp only[q8,decide_true,Bool.not_true,Zy]at q9;generalize dT (gm n n f)=A at *;generalize dT (gm (n+1) (n+1) (HH f))=P at *;refine⟨_,w0_ (d:=dT (gm n n (ST f r c))) (env:=[.dat A,.dat (.tup [.int (r:Int),.int (c:Int)]),.dat P]) ?_⟩;show b0a [.dat A,.dat (.tup [.int (r:Int),.int (c:Int)]),.nil]=_;unfold b0a;refine y6_ (a6v (c1 rfl q1)) (y6_ (g2_ (e1:=[.dat A,.dat (.tup [.int (r:Int),.int (c:Int)]),.nil]) (e2:=[.dat A,.dat (.tup [.int (r:Int),.int (c:Int)]),.dat P]) (c1 rfl q2) rfl) (y6_ (a0v (a5q (a0G (b:=true) (j4_ (c2 rfl rfl q6))) (j4_ (q5_ rfl (k3_ (a3Z (a0S (av:=[.d P]) rfl rfl rfl q3))) q9))) rfl) (u0_ (c1 (c2 rfl rfl q4) q5))))
def lw0(n i j:Nat):Int:=max 0 ((i:Int)+j-n)
def hst(n i j:Nat):Int:=if(i:Int)+j=(n:Int)-1 then 1 else 0
def idf(i j:Nat):Int:=if(i:Int)=(j:Int)then 1 else 0
def idk(n:Nat):Bool:=isT (dT (gm n n idf))&&(ltv n-SS (n+1) (HH idf)==0)&&decide (SS (n+1) (HH idf)-SS (n+1) (lw0 n)<60)
theorem c4L:idk 1=true:=by decide+kernel
theorem c4M:idk 2=true:=by decide+kernel
theorem c4N:idk 3=true:=by decide+kernel
theorem c4O:idk 4=true:=by decide+kernel
theorem c4P:idk 5=true:=by decide+kernel
theorem c4Q:idk 6=true:=by decide+kernel
theorem b4R(h1:1≤n)(h6:n≤6):idk n=true:=by
 have:n=1∨n=2∨n=3∨n=4∨n=5∨n=6:=by omega
 rcases this with rfl|rfl|rfl|rfl|rfl|rfl
 ·exact c4L
 ·exact c4M
 ·exact c4N
 ·exact c4O
 ·exact c4P
 ·exact c4Q
theorem b0B{a b:Mo D}{p q:Bool}(h:a e=some (.bl p,e))(h2:p=true->b e=some (.bl q,e)):a0h a b e=some (.bl (p&&q),e):=by
 cases p with
 |false=>exact a8Y h
 |true=>exact a6Q h (h2 rfl)
theorem b4S:∀{es:List D}{x:D},PyData.canLayAll0 (x0_ es)=true->x∈es->(toP x).canLay0=true/\(toP x).depth≤PyData.depthAll (x0_ es)
 |[],x,_,h=>by cases h
 |y::es,x,hc,h=>by
  have hc:((toP y).canLay0&&PyData.canLayAll0 (x0_ es))=true:=hc
  rw[Qw]at hc;have hd:PyData.depthAll (x0_ (y::es))=max (toP y).depth (PyData.depthAll (x0_ es)):=rfl
  rcases Qr.mp h with rfl|h
  ·exact⟨hc.1,by omega⟩
  ·have:=b4S hc.2 h
   exact⟨this.1,by omega⟩
theorem c4R(h:shp (.tup es)=true):∀x∈es,shp x=true:=fun x hx=>by
 have h:(PyData.canLayAll0 (x0_ es)&&decide (PyData.depthAll (x0_ es)+1≤64))=true:=h
 rw[Qw,Zz]at h;have:=b4S h.1 hx;unfold shp SeqAt.shaped;rw[Qw,Zz];exact⟨this.1,by omega⟩
noncomputable def eqD (a b:D):Bool:=@decide (a=b) (Classical.propDecidable _)
theorem a5J{a b:D}:eqD a b=true↔a=b:=by unfold eqD;exact@decide_eq_true_iff _ (Classical.propDecidable _)
theorem a5K{a b:D}(h:a≠b):eqD a b=false:=by
 cases e:eqD a b with
 |false=>rfl
 |true=>exact absurd (a5J.mp e) h
theorem c4S(i j:Int):eqD (.int i) (.int j)=(i==j):=by
 by_cases h:i=j
 ·subst h;rw[a5J.mpr rfl];simp
 ·rw[a5K (fun z=>h (by injection z)),Yr.mpr h]
theorem b4T(i:Int):shp (.int i)=true:=rfl
theorem b4U{i:Int}(hd:shp d=true):j7_ (k+1) [.dat d,.dat (.int i)]=some (.d (.bl (eqD d (.int i))),[.dat d,.dat (.int i)]):=by
 refine(w0_ (d:=.bl (eqD d (.int i))) (env:=[.dat d,.dat (.int i)]) ?_).trans rfl;show a3D (j7_ k) [.dat d,.dat (.int i)]=_;unfold a3D;refine y6_ (a0v rfl rfl) (u0_ ?_);have e1:(z4_ (dEq false) (z0_ 0) (z0_ 1)) [.dat d,.dat (.int i)]=some (.bl (PyData.eqv (toP d) (toP (.int i))),[.dat d,.dat (.int i)]):=by
  refine q5_ rfl rfl ?_
  unfold dEq;rw[hd,b4T];rfl
 cases d with
 |int j=>
  rw[c4S];refine(b0B (q:=true) e1 fun _=>rfl).trans ?_
  rw[Bool.and_true];rfl
 |bl b=>
  rw[a5K (fun z=>by cases z)]
  refine(b0B (q:=false) e1 fun _=>rfl).trans ?_
  rw[Bool.and_false]
 |obj o=>cases hd
 |_=>
  rw[a5K (fun z=>by cases z)]
  refine(b0B (p:=false) (q:=false) (e1.trans rfl) fun h=>nomatch h).trans rfl
theorem b4V(hd:shp d=true)(hl:es.length≤1000)(h:∀x∈es,∀y,shp y=true->∃ws,j7_ k [.dat y,.dat x]=some (.d (.bl (eqD y x)),ws)):
  j7_ (k+1) [.dat d,.dat (.tup es)]=some (.d (.bl (eqD d (.tup es))),[.dat d,.dat (.tup es)]):=by
 cases d with
 |tup xs=>
  refine(w0_ (d:=.bl (eqD (.tup xs) (.tup es))) (env:=[.dat (.tup xs),.dat (.tup es)]) ?_).trans rfl;show a3D (j7_ k) [.dat (.tup xs),.dat (.tup es)]=_;unfold a3D;refine a1u (a5p (e1:=[.dat (.tup xs),.dat (.tup es)]) rfl (y6_ (e1:=[.dat (.tup xs),.dat (.tup es)]) (a0v (e1:=[.dat (.tup xs),.dat (.tup es)]) rfl rfl) (u0_ ?_)));have e1:(z4_ (dEq false) (mCB v8_ (z1_ (z0_ 0) z3_)) (mCB v8_ (z1_ (z0_ 1) z3_))) [.dat (.tup xs),.dat (.tup es)]=some (.bl ((xs.length:Int)==(es.length:Int)),[.dat (.tup xs),.dat (.tup es)]):=rfl
  by_cases hn:xs.length=es.length
  ·have hx:=c4R hd
   have c:=a5n (mi:=a0Q (z1_ (z0_ 0) (z1_ (z0_ 1) z3_))) (keep:=[false,false]) (m:=mCD 2 (j7_ k) (z6_ (z0_ 2) (z6_ (z0_ 3) z8_))) (env:=[.dat (.tup xs),.dat (.tup es)]) (base:=[.nil,.nil]) (l:=xs.zip es) (q:=fun p=>p.1) (q2:=fun p=>p.2) (f:=fun p=>.bl (eqD p.1 p.2)) (k:=2) rfl (by rw[List.length_zip];omega) rfl rfl (fun p hp=>by
     obtain⟨ws,q⟩:=h p.2 (Uv hp).2 p.1 (hx p.1 (Uv hp).1);exact a8V (av:=[.d p.1,.d p.2]) rfl rfl rfl q) (fun w w2=>rfl)
   have hq:eqD (.tup xs) (.tup es)=(xs.zip es).all fun p=>eqD p.1 p.2:=by
    clear c e1 h hx hd hl;have key:∀(xs es:List D),xs.length=es.length->((xs.zip es).all (fun p=>eqD p.1 p.2)=true↔xs=es):=by
     intro xs
     induction xs with
     |nil=>intro es hn;cases es with
      |nil=>simp
      |cons _ _=>simp at hn
     |cons x xs ih=>intro es hn;cases es with
      |nil=>simp at hn
      |cons y es=>
       rw[Xu,Ux,Qw,ih es (by simpa using hn),a5J]
       constructor
       ·intro z;have z1:x=y:=z.1;rw[z1,z.2]
       ·intro z;injection z with z1 z2;exact⟨z1,z2⟩
    rw[Bool.eq_iff_iff,a5J,key xs es hn]
    constructor
    ·intro z;injection z
    ·rintro rfl;rfl
   refine(a6Q (e1.trans ?_) (k2_ (d:=.bl (eqD (.tup xs) (.tup es))) (q3_ (k3_ c) rfl) ?_))
   ·rw[hn,Xs]
   ·show(a0t _).map _=_
    rw[a2M,hq];rfl
  ·have e2:((xs.length:Int)==(es.length:Int))=false:=by rw[Yr];omega
   rw[e2]at e1;rw[a5K (fun z=>hn (by injection z with z;rw[z]))]
   exact a8Y e1
 |obj o=>cases hd
 |_=>
  rw[a5K (fun z=>by cases z)]
  rfl
theorem b4W(hd:shp d=true)(hl:l.length≤1000):j7_ (k+2) [.dat d,.dat (dR l)]=some (.d (.bl (eqD d (dR l))),[.dat d,.dat (dR l)]):=
 b4V hd (by simpa using hl) fun x hx y hy=>by
  obtain⟨i,_,rfl⟩:=Zj.mp hx;exact⟨_,b4U hy⟩
theorem c4T(hd:shp d=true)(hl:R.length≤1000)(h:∀r∈R,r.length≤1000):j7_ (k+3) [.dat d,.dat (dT R)]=some (.d (.bl (eqD d (dT R))),[.dat d,.dat (dT R)]):=
 b4V hd (by simpa using hl) fun x hx y hy=>by
  obtain⟨r,hr,rfl⟩:=Zj.mp hx;exact⟨_,b4W hy (h r hr)⟩
theorem b0C(g:Nat->Int):∀n,((List.range n).map g).sum=S g n
 |0=>rfl
 |n+1=>by
  rw[Up,Zo,List.sum_append,b0C g n];show S g n+(g n+0)=S g n+g n
  omega
theorem b4X(f:OO)(j:Nat):∀i,S (fun r=>S (f r) j) i=HH f i j
 |0=>by
  show 0=S (fun c=>0) j
  rw[a3H]
 |i+1=>by
  show S (fun r=>S (f r) j) i+S (f i) j=_
  rw[b4X f j i,a5H]
theorem b4Y(g:Nat->α)(h:i≤n):((List.range n).map g).take i=(List.range i).map g:=by
 rw[←List.map_take,List.take_range,Xo h]
abbrev hIn:Mo D:=mCB g5_ (z1_ (mF (v1_ (y0_ (mSl (z0_ 0) x8_ (x9_ (z0_ 3)))) [false,false,false,false,true] 1 (gN 5) v3_ (mCB g5_ (z1_ (mSl (z0_ 5) x8_ (x9_ (z0_ 4))) z3_)))) z3_)
abbrev b4Z:Mo D:=mCB g1_ (z1_ (mF (v1_ (j1_ (z1_ (z4_ v7_ (z0_ 1) (mC (.int 1))) z3_)) [true,false,false,true] 1 (gN 4) v3_ hIn)) z3_)
theorem c4U{f:OO}:dT (gm n m f)=.tup ((List.range n).map fun r=>dR (rw' m (f r))):=by
 unfold dT gm;rw[Qe];rfl
theorem c4V{f:OO}(h6:n≤6)(hi:i≤n)(hj:j≤n):
  hIn [.dat (dT (gm n n f)),.nil,.nil,.dat (.int (i:Int)),.dat (.int (j:Int))]=some (.int (HH f i j),[.dat (dT (gm n n f)),.nil,.nil,.dat (.int (i:Int)),.dat (.int (j:Int))]):=by
 refine k2_ (q3_ (k3_ (a1L (α:=Nat) (l:=List.range i) (q:=fun r=>dR (rw' n (f r))) (f:=fun r=>.int (S (f r) j)) (base:=[.nil,.nil,.nil,.nil,.dat (.int (j:Int))]) (a0R (a2A (xs:=(List.range n).map fun r=>dR (rw' n (f r))) (Zc (fun d=>some (d,_)) c4U) rfl rfl) ?_) (by simp;omega) rfl rfl (fun r _=>k2_ (q3_ (a2A (xs:=(rw' n (f r)).map D.int) rfl rfl rfl) rfl) ?_) (fun _=>rfl))) rfl) ?_
 ·show some _=_
  rw[a4j,b4Y _ hi]
 ·rw[a4j,←List.map_take,b4Y _ hj,a8X,b0C]
 ·have:((List.range i).map fun r=>D.int (S (f r) j))=((List.range i).map fun r=>S (f r) j).map D.int:=by rw[Qe];rfl
  rw[this,a8W,b0C,b4X]
theorem c4W{f:OO}(h6:n≤6)(hi:i≤n):
  b4Z [.dat (dT (gm n n f)),.dat (.int (n:Int)),.own ds,.dat (.int (i:Int))]=some (dR (rw' (n+1) (HH f i)),[.dat (dT (gm n n f)),.dat (.int (n:Int)),.own ds,.dat (.int (i:Int))]):=by
 refine k2_ (q3_ (k3_ (a1L (α:=Nat) (l:=List.range (n+1)) (q:=fun(j:Nat)=>.int (j:Int)) (f:=fun j=>.int (HH f i j)) (base:=[.dat (dT (gm n n f)),.nil,.nil,.dat (.int (i:Int))]) (a3v (n:=n+1) (q5_ rfl rfl rfl) (by push_cast;rfl) (by omega)) (by simp;omega) rfl rfl (fun j hj=>c4V h6 hi (by have:=Zl.mp hj;omega)) (fun _=>rfl))) rfl) b0y
theorem b5a{f:OO}(h6:n≤6):a1j [.dat (dT (gm n n f))]=some (.d (dT (gm (n+1) (n+1) (HH f))),[.dat (dT (gm n n f))]):=by
 obtain⟨e',h,w,rfl⟩:=a8T (g:=gN 3) (b:=a0q 2 b4Z) (n:=n+1) (fun i e=>∃w,e=[.dat (dT (gm n n f)),.dat (.int (n:Int)),.own ((List.range i).map fun i=>dR (rw' (n+1) (HH f i))),w]) (env:=[.dat (dT (gm n n f)),.dat (.int (n:Int)),.own [],.nil]) (fun i hi e ⟨w,he⟩=>by
  subst he;refine⟨[.dat (dT (gm n n f)),.dat (.int (n:Int)),.own ((List.range i).map fun i=>dR (rw' (n+1) (HH f i))),.dat (.int (i:Int))],_,rfl,a8U rfl rfl (c4W h6 (by omega)) rfl rfl (by simp;omega),.dat (.int (i:Int)),?_⟩
  rw[Up,Zo]
  rfl) ⟨_,rfl⟩
 refine a3w (d:=dT (gm (n+1) (n+1) (HH f))) (env:=[.dat (dT (gm n n f)),.dat (.int (n:Int)),.dat (.lst ((List.range (n+1)).map fun i=>dR (rw' (n+1) (HH f i)))),w]) ?_ rfl
 show b0i [.dat (dT (gm n n f)),.nil,.nil,.nil]=_;unfold b0i;refine y6_ (g2_ (k2_ (q3_ rfl rfl) a7g) rfl) (y6_ (e1:=[.dat (dT (gm n n f)),.dat (.int (n:Int)),.own [],.nil]) rfl (y6_ ((a1F (a3v (n:=n+1) (q5_ rfl rfl rfl) (by push_cast;rfl) (by omega))).trans h) (u0_ (k2_ (q3_ rfl rfl) b0x))))
def sq(b:Bool)(ds:List D):D:=if b then .tup ds else .lst ds
theorem c4X:v8_ [sq b ds]=some (.int (ds.length:Int)):=by cases b<;>rfl
theorem b5b:(sq b ds).items=some ds:=by cases b<;>rfl
theorem c4Y{x:D}(e:z=(k:Int))(h:ds[k]? =some x):dIx (sq b ds) (.int z)=some x:=by
 subst e;have:atI ds (k:Int)=some x:=by
  exact a0z h
 cases b<;>exact this
theorem c4Z{m:Mo D}{lo hi:Option Int}(h:m e=some (sq b xs,e))(h1:ml e=some (lo,e))(h2:mh e=some (hi,e)):a4h m ml mh e=some (sq b (g7_ xs lo hi),e):=by
 unfold a4h;rw[h,Qj,h1,Qj,h2];cases b<;>rfl
def RD(b:Bool)(n:Nat)(g:Nat->Int):D:=sq b ((List.range n).map fun j=>D.int (g j))
def HD(b:Bool)(n:Nat)(a:OO):D:=sq b ((List.range (n+1)).map fun i=>RD b (n+1) (a i))
theorem c5a:HD false n a=a2V (gm (n+1) (n+1) a):=by
 show D.lst _=D.lst _;unfold gm;rw[Qe];refine Zc D.lst (Zw fun i _=>?_)
 show D.lst _=D.lst _;rw[Qe];rfl
theorem b5c{α:Type}(p q:α->D)(r:List D):∀l:List α,a1d (l.map p++r) (l.map q)=l.map fun a=>.tup [p a,q a]
 |[]=>by simp[a1d]
 |a::l=>by
  have:=b5c p q r l;unfold a1d at this ⊢;rw[Qu,Qu,List.cons_append,Xu,Qu,this,Qu]
abbrev fDf(mi:Mo D):Mo (List D):=v1_ (a0Q (z1_ (z4_ dIx (z0_ 0) mi) (z1_ (a4h (z4_ dIx (z0_ 0) mi) (x9_ (mC (.int 1))) x8_) z3_))) [false,false,false,false,false,false] 2 (gT 2 (gCn (gN 6) (gCn (gN 7) gNl))) v3_ (z4_ k6_ (z0_ 7) (z0_ 6))
theorem b5d{mi:Mo D}(hn:n≤6)(hk:k≤n)(hz:z=(k:Int))(hmi:mi [.dat (HD b n a),w1,w2,w3,w4,w5]=some (.int z,[.dat (HD b n a),w1,w2,w3,w4,w5])):
  fDf mi [.dat (HD b n a),w1,w2,w3,w4,w5]=some ((List.range n).map fun j=>D.int (a k (j+1)-a k j),[.dat (HD b n a),w1,w2,w3,w4,w5]):=by
 have ix:z4_ dIx (z0_ 0) mi [.dat (HD b n a),w1,w2,w3,w4,w5]=some (RD b (n+1) (a k),[.dat (HD b n a),w1,w2,w3,w4,w5]):=q5_ rfl hmi (c4Y hz (by rw[Qa,Ys (by omega)];rfl))
 refine a5n (α:=Nat) (l:=List.range n) (q:=fun j=>.int (a k j)) (q2:=fun j=>.int (a k (j+1))) (f:=fun j=>.int (a k (j+1)-a k j)) (base:=[.nil,.nil,.nil,.nil,.nil,.nil]) ?_ (by simp;omega) rfl rfl (fun j _=>rfl) (fun _ _=>rfl)
 unfold a0Q;rw[q3_ ix (q3_ (c4Z (lo:=some 1) (hi:=none) ix rfl rfl) rfl),Qj];show(RD b (n+1) (a k)).items.bind _=_;unfold RD;rw[b5b,Qj,b5b,Xa];have e1:g7_ ((List.range (n+1)).map fun j=>D.int (a k j)) (some 1) none=(List.range n).map fun j=>D.int (a k (j+1)):=by
  have:=a5o (xs:=(List.range (n+1)).map fun j=>D.int (a k j)) (i:=1)
  rw[show((1:Nat):Int)=1 from rfl]at this
  rw[this,Vl,Qu,List.drop_succ_cons,List.drop_zero,Qe]
  rfl
 rw[e1,Up,Zo,b5c]
theorem c5b{m:Mo D}{l:List α}{q q2 f:α->D}(hi:mi env=some (l.map (fun a=>.tup [q a,q2 a]),e1))(hl:l.length≤100000)(hb:k5_ keep 0 e1=base)(hk:base.length=k)
  (h:∀a∈l,m (base++[.dat (q a),.dat (q2 a)])=some (f a,base++[.dat (q a),.dat (q2 a)]))(ho:∀w w2,j2_ keep e1 (base++[w,w2])=some e1):v1_ mi keep 2 (gT 2 (gCn (gN k) (gCn (gN (k+1)) gNl))) v3_ m env=some (l.map f,e1):=by
 have:=a5n (mi:=fun e=>some (l.map (fun a=>.tup [q a,q2 a]),e)) (env:=e1) rfl hl hb hk h ho
 unfold v1_ at this ⊢;rw[hi];exact this
abbrev fBd:Mo Fl:=q1_ (j5_ 4 (fDf (z0_ 3))) (q1_ (j5_ 5 (fDf (z4_ v7_ (z0_ 3) (mC (.int 1))))) (a0q 2 (mCB g1_ (z1_ (mF (v1_ (a0Q (z1_ (z0_ 4) (z1_ (z0_ 5) z3_))) [false,false,false,false,false,false] 2 (gT 2 (gCn (gN 6) (gCn (gN 7) gNl))) v3_ (z4_ k6_ (z0_ 7) (z0_ 6)))) z3_))))
theorem c5c(hn:n≤6)(hi:i<n)(hd:ds.length<100000):
  ∃w4' w5',fBd [.dat (HD b n a),w1,.own ds,.dat (.int (i:Int)),w4,w5]=some (.nx,[.dat (HD b n a),w1,.own (ds++[dR (rw' n (U a i))]),.dat (.int (i:Int)),w4',w5']):=by
 refine⟨.dat (.lst ((List.range n).map fun j=>D.int (a i (j+1)-a i j))),.dat (.lst ((List.range n).map fun j=>D.int (a (i+1) (j+1)-a (i+1) j))),?_⟩
 refine y6_ (a4k (b5d hn (by omega:i≤n) rfl rfl) rfl) (y6_ (a4k (b5d hn (by omega:i+1≤n) (by push_cast;rfl) (q5_ rfl rfl rfl)) rfl) ?_)
 refine(a8U (w:=.own ds) (d:=dR (rw' n (U a i))) (env':=[.dat (HD b n a),w1,.own ds,.dat (.int (i:Int)),.dat (.lst ((List.range n).map fun j=>D.int (a i (j+1)-a i j))),.dat (.lst ((List.range n).map fun j=>D.int (a (i+1) (j+1)-a (i+1) j)))]) rfl rfl (k2_ (q3_ (k3_ (c5b (α:=Nat) (l:=List.range n) (q:=fun j=>D.int (a i (j+1)-a i j)) (q2:=fun j=>D.int (a (i+1) (j+1)-a (i+1) j)) (f:=fun j=>.int ((a (i+1) (j+1)-a (i+1) j)-(a i (j+1)-a i j))) (base:=[.nil,.nil,.nil,.nil,.nil,.nil]) (b3C rfl rfl rfl) (by simp;omega) rfl rfl (fun j _=>rfl) (fun _ _=>rfl))) rfl) ?_) rfl rfl hd).trans rfl
 rw[b0y];refine Zc some (Zc dR (Zw fun j _=>?_))
 show _=U a i j;unfold U
 omega
theorem c5d(hn:n≤6):a3C [.dat (HD b n a)]=some (.d (dT (gm n n (U a))),[.dat (HD b n a)]):=by
 obtain⟨e',h,w3,w4,w5,rfl⟩:=a8T (g:=gN 3) (b:=fBd) (n:=n) (fun i e=>∃w3 w4 w5,e=[.dat (HD b n a),.dat (.int (n:Int)),.own ((List.range i).map fun i=>dR (rw' n (U a i))),w3,w4,w5]) (env:=[.dat (HD b n a),.dat (.int (n:Int)),.own [],.nil,.nil,.nil]) (fun i hi e ⟨w3,w4,w5,he⟩=>by
  subst he;obtain⟨w4',w5',q⟩:=c5c (b:=b) (n:=n) (a:=a) (w1:=.dat (.int (n:Int))) (w4:=w4) (w5:=w5) (ds:=(List.range i).map fun i=>dR (rw' n (U a i))) hn hi (by simp;omega)
  refine⟨_,_,rfl,q,.dat (.int (i:Int)),w4',w5',?_⟩;rw[Up,Zo]
  rfl) ⟨_,_,_,rfl⟩
 refine a3w (d:=dT (gm n n (U a))) (env:=[.dat (HD b n a),.dat (.int (n:Int)),.dat (.lst ((List.range n).map fun i=>dR (rw' n (U a i)))),w3,w4,w5]) ?_ rfl
 show b0j [.dat (HD b n a),.nil,.nil,.nil,.nil,.nil]=_;unfold b0j;have hl:v8_ [HD b n a]=some (.int (((n+1:Nat)):Int)):=by
  unfold HD;rw[c4X]
  simp
 refine y6_ (g2_ (q5_ (k2_ (q3_ rfl rfl) hl) rfl (c:=.int (n:Int)) ?_) rfl) (y6_ (e1:=[.dat (HD b n a),.dat (.int (n:Int)),.own [],.nil,.nil,.nil]) rfl (y6_ ((a1F (a3v (n:=n) rfl rfl (by omega))).trans h) (u0_ (k2_ (q3_ rfl rfl) b0x))))
 show some (D.int (((n+1:Nat):Int)-1))=_
 congr 2
 omega
theorem b0D{m n:MoN Fl}{q1:Ro}{r:Option (Fl×Env'×Ro)}(h:m e q=some (.nx,e1,q1))(h2:n e1 q1=r):a2t m n e q=r:=by unfold a2t;rw[h];exact h2
theorem b5e:∀l:List Int,lfL (l.map D.int)=true
 |[]=>rfl
 |_::l=>by
  show(true&&lfL (l.map D.int))=true;rw[b5e l];rfl
theorem b5f:∀R:OI,(dT R).lf=true
 |[]=>rfl
 |r::R=>by
  show(lfL (r.map D.int)&&lfL (R.map dR))=true;rw[b5e r];exact b5f R
theorem c5e(h6:n≤6):mCallN a3C e (some (gm (n+1) (n+1) a))=some (dT (gm n n (U a)),e):=by
 unfold mCallN;rw[Qj,←c5a,c5d h6,Qj];dsimp only;rw[Qn (b5f _)]
theorem c5f(r0:∀i,h i 0=0)(d0:∀j,h 0 j=0)(i j:Nat):HH (U h) i j=h i j:=by
 induction i with
 |zero=>rw[d0 j];exact a3H j
 |succ i ih=>rw[a5H,ih,a7a,r0 i,r0 (i+1)];omega
def pk(a:OO)(r c:Nat)(y:Int)(i j:Nat):Int:=if i=r/\j=c then y else a i j
theorem c5g{y:Int}(hr:r<N)(hc:c<N):(gm N N a).set r (((List.range N).map (a r)).set c y)=gm N N (pk a r c y):=by
 apply Ve
 ·simp[gm]
 intro i h1 h2;rw[List.getElem_set];simp only[gm,Vo,Vy];split
 ·rename_i e
  subst e
  apply Ve
  ·simp
  intro j h3 h4;rw[List.getElem_set];simp only[Vo,Vy];unfold pk;split
  ·rename_i e2
   subst e2
   simp
  ·rename_i e2
   rw[Ql (fun z=>e2 z.2.symm)]
 ·rename_i e
  apply Zw
  intro j _;unfold pk;rw[Ql (fun z=>e z.1.symm)]
theorem a3J{w:W}{a k:Int}{M:Mo D}(hw:e[i]? =some w)(hm:w.mutL=some [.int a,.bl b])(hM:M e=some (.int k,e))(ha:0≤a)(h1:1≤k)(h2:k<1073741824):
  ∃v a',mCD 2 w5_ (k4_ i (z6_ M z8_)) e=some (.int v,e.set i (w.put [.int a',.bl b]))/\0≤v/\v<k/\0≤a':=by
 obtain⟨v,a',et,v0,v1,a0⟩:=a5D (a:=a) (m:=k) (b:=b) ha h1 h2;refine⟨v,a',a1f (a4Z (av:=[.sl i,.d (.int k)]) (c:=[.int a,.bl b]) ?_ rfl rfl hw hm et rfl),v0,v1,a0⟩;unfold k4_;rw[hw];simp only[Qj];have hm':∃m,w.mut=some m:=by
  cases w<;>first|cases hm;done|exact⟨_,rfl⟩
 obtain⟨m,hm'⟩:=hm';rw[hm'];simp only[Qj];rw[a1E hM rfl];rfl
theorem a4B(h0:0≤v)(h1:v<ds.length):∃d,d∈ds/\dIx (.lst ds) (.int v)=some d:=by
 have hv:v.toNat<ds.length:=by omega
 refine⟨ds[v.toNat],Jq hv,?_⟩;have:((v.toNat:Nat):Int)=v:=by omega
 have h:=a0z (Zv hv)
 rw[this]at h;exact h
theorem b5g{L:List Int}(h0:0≤v)(h1:v<L.length):∃j,j∈L/\dIx (.lst (L.map .int)) (.int v)=some (.int j):=by
 obtain⟨d,hd,e⟩:=a4B (ds:=L.map .int) h0 (by rw[Qv];exact h1)
 obtain⟨j,hj,rfl⟩:=Zj.mp hd;exact⟨j,hj,e⟩
theorem b5h(xs:List D)(lo hi:Option Int):(g7_ xs lo hi).length≤xs.length:=by
 unfold g7_;rw[Yk,Uj];omega
theorem a0X{m:Mo D}{lo hi:Option Int}(h:m e=some (.tup xs,e))(h1:ml e=some (lo,e))(h2:mh e=some (hi,e)):mSl m ml mh e=some (.tup (g7_ xs lo hi),e):=by
 unfold mSl;rw[h];simp only[Qj];rw[h1];simp only[Qj];rw[h2];rfl
theorem a2b{ms:Mo (List D)}(h:ms e=some (ds,e1))(hl:ds.length≤1000):x5_ ms e=some (ds,e1):=by
 unfold x5_;rw[h];exact Qn hl
theorem a7h{ys:List D}(h1:ma e=some (.lst xs,e1))(h2:mb e1=some (.lst ys,e2))(hl:xs.length+ys.length≤10000):a0P ma mb e=some (xs++ys,e2):=by
 unfold a0P;rw[h1];simp only[Qj];rw[h2];exact Qn hl
def b5i(o:Option D)(x:Str):Bool:=match o with
 |some (.str y)=>decide (y=x)
 |_=>false
theorem b5j{x:Str}(h:b5i o x=true):o=some (.str x):=by
 unfold b5i at h;split at h
 ·rw[of_decide_eq_true h]
 ·cases h
def b5k(o:Option D):Bool:=match o with
 |some (.bl false)=>true
 |_=>false
theorem b5l(h:b5k o=true):o=some (.bl false):=by
 unfold b5k at h;split at h
 ·rfl
 ·cases h
theorem b0E:dEq true (.str "table") (.str "table")=some (.bl false):=b5l (by decide+kernel)
theorem b0F:a0j (some ("NoTable":Str))=some (.str "table"):=b5j (by decide+kernel)
theorem b5m{t:Mo Bool}(h:t e=some (true,e1)):xIf t x y e=x e1:=by unfold xIf;rw[h];rfl
theorem c5h{t:Mo Bool}(h:t e=some (false,e1)):xIf t x y e=y e1:=by unfold xIf;rw[h];rfl
theorem a7i{n:Str}(h:x e=some n):a1H x s y e=some n:=by unfold a1H;rw[h]
theorem b5n(h:x e=none)(h2:s e=some (.nx,e1)):a1H x s y e=y e1:=by unfold a1H;rw[h];dsimp only;rw[h2]
theorem a7j(d:D):a1y [.dat d]=if isT d then none else some ("NoTable":Str):=by
 show a9T [.dat d]=_;unfold a9T;cases h:isT d with
 |true=>
  have e:=b0n d
  rw[h]at e;exact(c5h (e1:=[.dat d]) (a0G (j4_ (c1 rfl e)))).trans rfl
 |false=>
  have e:=b0n d
  rw[h]at e;exact(b5m (e1:=[.dat d]) (a0G (j4_ (c1 rfl e)))).trans rfl
theorem b0G:a0N (.int 10) (.int 29)=some (.int 100000000000000000000000000000):=b4r (by decide+kernel) (by decide+kernel)
theorem c5i{a:Int}(h1:1≤n)(h6:n≤6)(hl:R.length=n)(hr:∀r∈R,r.length=n)(ha:0≤a):∃d a',a4y [.par [.int a,.bl b],.dat (dT R)]=some (.d d,[.par [.int a',.bl b],.dat (dT R)])/\0≤a':=by
 obtain⟨v1,a1,t1,p1,q1,a10⟩:=a3J (i:=0) (e:=[.par [.int a,.bl b],.dat (dT R),.nil,.nil,.nil,.nil,.nil,.nil,.nil,.nil]) (w:=.par [.int a,.bl b]) (k:=(n:Int)) (M:=mCB v8_ (z1_ (z0_ 1) z3_)) rfl rfl (by show some (D.int ((R.map dR).length:Nat),_)=_;rw[Qv,hl]) ha (by omega) (by omega)
 change mCD 2 _ _ _=some (_,[.par [.int a1,.bl b],.dat (dT R),.nil,.nil,.nil,.nil,.nil,.nil,.nil,.nil])at t1;obtain⟨v2,a2,t2,p2,q2,a20⟩:=a3J (i:=0) (e:=[.par [.int a1,.bl b],.dat (dT R),.nil,.nil,.nil,.nil,.nil,.nil,.nil,.nil]) (w:=.par [.int a1,.bl b]) (k:=(n:Int)) (M:=mCB v8_ (z1_ (z0_ 1) z3_)) rfl rfl (by show some (D.int ((R.map dR).length:Nat),_)=_;rw[Qv,hl]) a10 (by omega) (by omega)
 change mCD 2 _ _ _=some (_,[.par [.int a2,.bl b],.dat (dT R),.nil,.nil,.nil,.nil,.nil,.nil,.nil,.nil])at t2;have s1:(a4R 8 9 (z1_ (mCD 2 w5_ (k4_ 0 (z6_ (mCB v8_ (z1_ (z0_ 1) z3_)) z8_))) (z1_ (mCD 2 w5_ (k4_ 0 (z6_ (mCB v8_ (z1_ (z0_ 1) z3_)) z8_))) z3_))) [.par [.int a,.bl b],.dat (dT R),.nil,.nil,.nil,.nil,.nil,.nil,.nil,.nil]=some (.nx,[.par [.int a2,.bl b],.dat (dT R),.nil,.nil,.nil,.nil,.nil,.nil,.dat (.int v1),.dat (.int v2)]):=c1F (e1:=[.par [.int a2,.bl b],.dat (dT R),.nil,.nil,.nil,.nil,.nil,.nil,.nil,.nil]) (q3_ t1 (q3_ t2 rfl)) rfl;have hv1:v1.toNat<R.length:=by omega
 have hv1':((v1.toNat:Nat):Int)=v1:=by omega
 generalize hrr:R[v1.toNat]=r;have hrl:r.length=n:=by rw[←hrr];exact hr _ (Jq hv1)
 have ixr:dIx (dT R) (.int v1)=some (dR r):=by
  rw[←hv1'];exact a0z (xs:=R.map dR) (by rw[Qa,Zv hv1,hrr];rfl)
 have s2':(v2_ 2 (z4_ dIx (z0_ 1) (z0_ 8))) [.par [.int a2,.bl b],.dat (dT R),.nil,.nil,.nil,.nil,.nil,.nil,.dat (.int v1),.dat (.int v2)]=some (.nx,[.par [.int a2,.bl b],.dat (dT R),.dat (dR r),.nil,.nil,.nil,.nil,.nil,.dat (.int v1),.dat (.int v2)]):=g2_ (e1:=[.par [.int a2,.bl b],.dat (dT R),.nil,.nil,.nil,.nil,.nil,.nil,.dat (.int v1),.dat (.int v2)]) (q5_ rfl rfl ixr) rfl
 obtain⟨v3,a3,t3,p3,q3,a30⟩:=a3J (i:=0) (e:=[.par [.int a2,.bl b],.dat (dT R),.dat (dR r),.nil,.nil,.nil,.nil,.nil,.dat (.int v1),.dat (.int v2)]) (w:=.par [.int a2,.bl b]) (k:=12) (M:=mC (.int 12)) rfl rfl rfl a20 (by omega) (by omega)
 change mCD 2 _ _ _=some (_,[.par [.int a3,.bl b],.dat (dT R),.dat (dR r),.nil,.nil,.nil,.nil,.nil,.dat (.int v1),.dat (.int v2)])at t3;have hv2:v2.toNat<r.length:=by omega
 have hv2':((v2.toNat:Nat):Int)=v2:=by omega
 obtain⟨xk,ixk⟩:∃x,dIx (dR r) (.int v2)=some (.int x):=by
  rw[←hv2'];exact⟨_,a0z (xs:=r.map D.int) (by rw[Qa,Zv hv2];rfl)⟩
 obtain⟨odd,_,hodd⟩:=a4B (ds:=[.int 0,.int 1,.int (-1),.int 2,.int (-2),.bl true,.bl false,.non,.str "1",.tup [.int 1],.int 100000000000000000000000000000,.int (-xk)]) p3 q3;have ng:u5_ (z4_ dIx (z0_ 2) (z0_ 9)) [.par [.int a2,.bl b],.dat (dT R),.dat (dR r),.nil,.nil,.nil,.nil,.nil,.dat (.int v1),.dat (.int v2)]=some (.int (-xk),[.par [.int a2,.bl b],.dat (dT R),.dat (dR r),.nil,.nil,.nil,.nil,.nil,.dat (.int v1),.dat (.int v2)]):=by
  unfold u5_;rw[q5_ (e1:=[.par [.int a2,.bl b],.dat (dT R),.dat (dR r),.nil,.nil,.nil,.nil,.nil,.dat (.int v1),.dat (.int v2)]) (e2:=[.par [.int a2,.bl b],.dat (dT R),.dat (dR r),.nil,.nil,.nil,.nil,.nil,.dat (.int v1),.dat (.int v2)]) rfl rfl ixk]
  rfl
 have s3':(v2_ 3 (z4_ dIx (mF (x5_ (z1_ (mC (.int 0)) (z1_ (mC (.int 1)) (z1_ (u5_ (mC (.int 1))) (z1_ (mC (.int 2)) (z1_ (u5_ (mC (.int 2))) (z1_ (mC (.bl true)) (z1_ (mC (.bl false)) (z1_ (mC .non) (z1_ (mC (.str "1")) (z1_ (v6_ (z1_ (mC (.int 1)) z3_)) (z1_ (z4_ a0N (mC (.int 10)) (mC (.int 29))) (z1_ (u5_ (z4_ dIx (z0_ 2) (z0_ 9))) z3_)))))))))))))) (mCD 2 w5_ (k4_ 0 (z6_ (mC (.int 12)) z8_))))) [.par [.int a2,.bl b],.dat (dT R),.dat (dR r),.nil,.nil,.nil,.nil,.nil,.dat (.int v1),.dat (.int v2)]=some (.nx,[.par [.int a3,.bl b],.dat (dT R),.dat (dR r),.dat odd,.nil,.nil,.nil,.nil,.dat (.int v1),.dat (.int v2)]):=g2_ (e1:=[.par [.int a3,.bl b],.dat (dT R),.dat (dR r),.nil,.nil,.nil,.nil,.nil,.dat (.int v1),.dat (.int v2)]) (q5_ (k3_ (a2b (q3_ rfl (q3_ rfl (q3_ rfl (q3_ rfl (q3_ rfl (q3_ rfl (q3_ rfl (q3_ rfl (q3_ rfl (q3_ rfl (q3_ (q5_ rfl rfl b0G) (q3_ ng rfl)))))))))))) (by simp))) t3 hodd) rfl
 have cl:∀lo hi,(g7_ (r.map D.int) lo hi).length≤6:=fun lo hi=>Zp (b5h _ _ _) (by rw[Qv];omega)
 have cl2:∀lo hi,(g7_ (R.map dR) lo hi).length≤6:=fun lo hi=>Zp (b5h _ _ _) (by rw[Qv];omega)
 obtain⟨rw4,hrw4,s4'⟩:∃rw4:List D,rw4.length=4/\(v2_ 4 (mF (x5_ (z1_ (z4_ v7_ (z4_ v7_ (mSl (z0_ 2) x8_ (x9_ (z0_ 9))) (v6_ (z1_ (z0_ 3) z3_))) (mSl (z0_ 2) (x9_ (z4_ v7_ (z0_ 9) (mC (.int 1)))) x8_)) (z1_ (z4_ v7_ (z4_ v7_ (mSl (z0_ 2) x8_ (x9_ (z0_ 9))) (v6_ (z1_ (z0_ 3) z3_))) (mSl (z0_ 2) (x9_ (z0_ 9)) x8_)) (z1_ (z4_ v7_ (mSl (z0_ 2) x8_ (x9_ (z0_ 9))) (mSl (z0_ 2) (x9_ (z4_ v7_ (z0_ 9) (mC (.int 1)))) x8_)) (z1_ (mF (mCL a1T (z1_ (z0_ 2) z3_))) z3_))))))) [.par [.int a3,.bl b],.dat (dT R),.dat (dR r),.dat odd,.nil,.nil,.nil,.nil,.dat (.int v1),.dat (.int v2)]=some (.nx,[.par [.int a3,.bl b],.dat (dT R),.dat (dR r),.dat odd,.dat (.lst rw4),.nil,.nil,.nil,.dat (.int v1),.dat (.int v2)]):=by
  refine⟨[_,_,_,_],?_,g2_ (e1:=[.par [.int a3,.bl b],.dat (dT R),.dat (dR r),.dat odd,.nil,.nil,.nil,.nil,.dat (.int v1),.dat (.int v2)]) (k3_ (a2b (q3_
   (q5_ (q5_ (a0X rfl rfl rfl) rfl (a0w ?_)) (a0X rfl rfl rfl) (a0w ?_)) (q3_
   (q5_ (q5_ (a0X rfl rfl rfl) rfl (a0w ?_)) (a0X rfl rfl rfl) (a0w ?_)) (q3_
   (q5_ (a0X rfl rfl rfl) (a0X rfl rfl rfl) (a0w ?_)) (q3_ rfl rfl)))) (by simp))) rfl⟩
  ·rfl
  ·have:=cl none (some v2);simp;omega
  ·have:=cl none (some v2);have:=cl (some (v2+1)) none;simp;omega
  ·have:=cl none (some v2);simp;omega
  ·have:=cl none (some v2);have:=cl (some v2) none;simp;omega
  ·have:=cl none (some v2);have:=cl (some (v2+1)) none;omega
 obtain⟨v4,a4,t4,p4,q4,a40⟩:=a3J (i:=0) (e:=[.par [.int a3,.bl b],.dat (dT R),.dat (dR r),.dat odd,.dat (.lst rw4),.nil,.nil,.nil,.dat (.int v1),.dat (.int v2)]) (w:=.par [.int a3,.bl b]) (k:=10) (M:=mC (.int 10)) rfl rfl rfl a30 (by omega) (by omega)
 change mCD 2 _ _ _=some (_,[.par [.int a4,.bl b],.dat (dT R),.dat (dR r),.dat odd,.dat (.lst rw4),.nil,.nil,.nil,.dat (.int v1),.dat (.int v2)])at t4;obtain⟨j4,hj4,ej4⟩:=b5g (L:=[0,0,0,0,0,1,2,3,4,5]) p4 q4;obtain⟨one,_,hone⟩:=a4B (ds:=rw4++[dR r.reverse,.non]) (v:=j4) (by simp at hj4;omega) (by simp at hj4;simp[hrw4];omega)
 have rv:a1V (z0_ 2) [.par [.int a3,.bl b],.dat (dT R),.dat (dR r),.dat odd,.dat (.lst rw4),.nil,.nil,.nil,.dat (.int v1),.dat (.int v2)]=some (dR r.reverse,[.par [.int a3,.bl b],.dat (dT R),.dat (dR r),.dat odd,.dat (.lst rw4),.nil,.nil,.nil,.dat (.int v1),.dat (.int v2)]):=by
  show some (D.tup (r.map D.int).reverse,_)=_;rw[←List.map_reverse]
  rfl
 have s5:(v2_ 5 (z4_ dIx (mF (a0P (z0_ 4) (mF (x5_ (z1_ (a1V (z0_ 2)) (z1_ (mC .non) z3_)))))) (z4_ dIx (mF (x5_ (z1_ (mC (.int 0)) (z1_ (mC (.int 0)) (z1_ (mC (.int 0)) (z1_ (mC (.int 0)) (z1_ (mC (.int 0)) (z1_ (mC (.int 1)) (z1_ (mC (.int 2)) (z1_ (mC (.int 3)) (z1_ (mC (.int 4)) (z1_ (mC (.int 5)) z3_)))))))))))) (mCD 2 w5_ (k4_ 0 (z6_ (mC (.int 10)) z8_)))))) [.par [.int a3,.bl b],.dat (dT R),.dat (dR r),.dat odd,.dat (.lst rw4),.nil,.nil,.nil,.dat (.int v1),.dat (.int v2)]=some (.nx,[.par [.int a4,.bl b],.dat (dT R),.dat (dR r),.dat odd,.dat (.lst rw4),.dat one,.nil,.nil,.dat (.int v1),.dat (.int v2)]):=g2_ (e1:=[.par [.int a4,.bl b],.dat (dT R),.dat (dR r),.dat odd,.dat (.lst rw4),.nil,.nil,.nil,.dat (.int v1),.dat (.int v2)]) (q5_ (k3_ (a7h (e1:=[.par [.int a3,.bl b],.dat (dT R),.dat (dR r),.dat odd,.dat (.lst rw4),.nil,.nil,.nil,.dat (.int v1),.dat (.int v2)]) (e2:=[.par [.int a3,.bl b],.dat (dT R),.dat (dR r),.dat odd,.dat (.lst rw4),.nil,.nil,.nil,.dat (.int v1),.dat (.int v2)]) rfl (k3_ (a2b (q3_ rv (q3_ rfl rfl)) (by simp))) (by simp[hrw4]))) (q5_ rfl t4 ej4) hone) rfl
 obtain⟨v5,a5,t5,p5,q5,a50⟩:=a3J (i:=0) (e:=[.par [.int a4,.bl b],.dat (dT R),.dat (dR r),.dat odd,.dat (.lst rw4),.dat one,.nil,.nil,.dat (.int v1),.dat (.int v2)]) (w:=.par [.int a4,.bl b]) (k:=(n:Int)) (M:=mCB v8_ (z1_ (z0_ 1) z3_)) rfl rfl (by show some (D.int ((R.map dR).length:Nat),_)=_;rw[Qv,hl]) a40 (by omega) (by omega)
 change mCD 2 _ _ _=some (_,[.par [.int a5,.bl b],.dat (dT R),.dat (dR r),.dat odd,.dat (.lst rw4),.dat one,.nil,.nil,.dat (.int v1),.dat (.int v2)])at t5;have hv5:v5.toNat<R.length:=by omega
 have hv5':((v5.toNat:Nat):Int)=v5:=by omega
 obtain⟨oth,hoth⟩:∃oth,dIx (dT R) (.int v5)=some oth:=by
  rw[←hv5'];exact⟨_,a0z (xs:=R.map dR) (by rw[Qa,Zv hv5];rfl)⟩
 have s6:(v2_ 6 (z4_ dIx (z0_ 1) (mCD 2 w5_ (k4_ 0 (z6_ (mCB v8_ (z1_ (z0_ 1) z3_)) z8_))))) [.par [.int a4,.bl b],.dat (dT R),.dat (dR r),.dat odd,.dat (.lst rw4),.dat one,.nil,.nil,.dat (.int v1),.dat (.int v2)]=some (.nx,[.par [.int a5,.bl b],.dat (dT R),.dat (dR r),.dat odd,.dat (.lst rw4),.dat one,.dat oth,.nil,.dat (.int v1),.dat (.int v2)]):=g2_ (e1:=[.par [.int a5,.bl b],.dat (dT R),.dat (dR r),.dat odd,.dat (.lst rw4),.dat one,.nil,.nil,.dat (.int v1),.dat (.int v2)]) (q5_ rfl t5 hoth) rfl
 obtain⟨s2,hs2,s7⟩:∃s2:List D,s2.length=2/\(v2_ 7 (mF (x5_ (z1_ (z4_ v7_ (z4_ v7_ (mSl (z0_ 1) x8_ (x9_ (z0_ 8))) (v6_ (z1_ (z0_ 5) z3_))) (mSl (z0_ 1) (x9_ (z4_ v7_ (z0_ 8) (mC (.int 1)))) x8_)) (z1_ (z4_ v7_ (z4_ v7_ (mSl (z0_ 1) x8_ (x9_ (z0_ 8))) (v6_ (z1_ (z0_ 6) z3_))) (mSl (z0_ 1) (x9_ (z4_ v7_ (z0_ 8) (mC (.int 1)))) x8_)) z3_))))) [.par [.int a5,.bl b],.dat (dT R),.dat (dR r),.dat odd,.dat (.lst rw4),.dat one,.dat oth,.nil,.dat (.int v1),.dat (.int v2)]=some (.nx,[.par [.int a5,.bl b],.dat (dT R),.dat (dR r),.dat odd,.dat (.lst rw4),.dat one,.dat oth,.dat (.lst s2),.dat (.int v1),.dat (.int v2)]):=by
  refine⟨[_,_],?_,g2_ (e1:=[.par [.int a5,.bl b],.dat (dT R),.dat (dR r),.dat odd,.dat (.lst rw4),.dat one,.dat oth,.nil,.dat (.int v1),.dat (.int v2)]) (k3_ (a2b (q3_
   (q5_ (q5_ (a0X rfl rfl rfl) rfl (a0w ?_)) (a0X rfl rfl rfl) (a0w ?_)) (q3_
   (q5_ (q5_ (a0X rfl rfl rfl) rfl (a0w ?_)) (a0X rfl rfl rfl) (a0w ?_)) rfl)) (by simp))) rfl⟩
  ·rfl
  ·have:=cl2 none (some v1);simp;omega
  ·have:=cl2 none (some v1);have:=cl2 (some (v1+1)) none;simp;omega
  ·have:=cl2 none (some v1);simp;omega
  ·have:=cl2 none (some v1);have:=cl2 (some (v1+1)) none;simp;omega
 obtain⟨s4,hs4,s8⟩:∃s4:List D,s4.length=4/\(v2_ 7 (mF (a0P (z0_ 7) (mF (x5_ (z1_ (z4_ v7_ (mSl (z0_ 1) x8_ (x9_ (z0_ 8))) (mSl (z0_ 1) (x9_ (z4_ v7_ (z0_ 8) (mC (.int 1)))) x8_)) (z1_ (z4_ v7_ (z4_ v7_ (mSl (z0_ 1) x8_ (x9_ (z0_ 8))) (v6_ (z1_ (z0_ 2) z3_))) (mSl (z0_ 1) (x9_ (z0_ 8)) x8_)) (z1_ (mF (mCL a1T (z1_ (z0_ 1) z3_))) (z1_ (a1V (z0_ 1)) z3_))))))))) [.par [.int a5,.bl b],.dat (dT R),.dat (dR r),.dat odd,.dat (.lst rw4),.dat one,.dat oth,.dat (.lst s2),.dat (.int v1),.dat (.int v2)]=some (.nx,[.par [.int a5,.bl b],.dat (dT R),.dat (dR r),.dat odd,.dat (.lst rw4),.dat one,.dat oth,.dat (.lst (s2++s4)),.dat (.int v1),.dat (.int v2)]):=by
  refine⟨[_,_,_,_],?_,g2_ (e1:=[.par [.int a5,.bl b],.dat (dT R),.dat (dR r),.dat odd,.dat (.lst rw4),.dat one,.dat oth,.dat (.lst s2),.dat (.int v1),.dat (.int v2)]) (k3_ (a7h (e1:=[.par [.int a5,.bl b],.dat (dT R),.dat (dR r),.dat odd,.dat (.lst rw4),.dat one,.dat oth,.dat (.lst s2),.dat (.int v1),.dat (.int v2)]) (e2:=[.par [.int a5,.bl b],.dat (dT R),.dat (dR r),.dat odd,.dat (.lst rw4),.dat one,.dat oth,.dat (.lst s2),.dat (.int v1),.dat (.int v2)]) rfl (k3_ (a2b (q3_
   (q5_ (a0X rfl rfl rfl) (a0X rfl rfl rfl) (a0w ?_)) (q3_
   (q5_ (q5_ (a0X rfl rfl rfl) rfl (a0w ?_)) (a0X rfl rfl rfl) (a0w ?_)) (q3_ rfl (q3_ rfl rfl)))) (by simp))) (by simp[hs2]))) rfl⟩
  ·rfl
  ·have:=cl2 none (some v1);have:=cl2 (some (v1+1)) none;omega
  ·have:=cl2 none (some v1);simp;omega
  ·have:=cl2 none (some v1);have:=cl2 (some v1) none;simp;omega
 obtain⟨s3,hs3,s9⟩:∃s3:List D,s3.length=3/\(v2_ 7 (mF (a0P (z0_ 7) (mF (x5_ (z1_ (v6_ (z1_ (z0_ 1) z3_)) (z1_ (mC .non) (z1_ (z0_ 2) z3_)))))))) [.par [.int a5,.bl b],.dat (dT R),.dat (dR r),.dat odd,.dat (.lst rw4),.dat one,.dat oth,.dat (.lst (s2++s4)),.dat (.int v1),.dat (.int v2)]=some (.nx,[.par [.int a5,.bl b],.dat (dT R),.dat (dR r),.dat odd,.dat (.lst rw4),.dat one,.dat oth,.dat (.lst (s2++s4++s3)),.dat (.int v1),.dat (.int v2)]):=
  ⟨[_,_,_],rfl,g2_ (e1:=[.par [.int a5,.bl b],.dat (dT R),.dat (dR r),.dat odd,.dat (.lst rw4),.dat one,.dat oth,.dat (.lst (s2++s4)),.dat (.int v1),.dat (.int v2)]) (k3_ (a7h (e1:=[.par [.int a5,.bl b],.dat (dT R),.dat (dR r),.dat odd,.dat (.lst rw4),.dat one,.dat oth,.dat (.lst (s2++s4)),.dat (.int v1),.dat (.int v2)]) (e2:=[.par [.int a5,.bl b],.dat (dT R),.dat (dR r),.dat odd,.dat (.lst rw4),.dat one,.dat oth,.dat (.lst (s2++s4)),.dat (.int v1),.dat (.int v2)]) rfl (k3_ (a2b (q3_ rfl (q3_ rfl (q3_ rfl rfl))) (by simp))) (by simp[hs2,hs4]))) rfl⟩
 obtain⟨v6,a6,t6,p6,q6,a60⟩:=a3J (i:=0) (e:=[.par [.int a5,.bl b],.dat (dT R),.dat (dR r),.dat odd,.dat (.lst rw4),.dat one,.dat oth,.dat (.lst (s2++s4++s3)),.dat (.int v1),.dat (.int v2)]) (w:=.par [.int a5,.bl b]) (k:=13) (M:=mC (.int 13)) rfl rfl rfl a50 (by omega) (by omega)
 change mCD 2 _ _ _=some (_,[.par [.int a6,.bl b],.dat (dT R),.dat (dR r),.dat odd,.dat (.lst rw4),.dat one,.dat oth,.dat (.lst (s2++s4++s3)),.dat (.int v1),.dat (.int v2)])at t6;obtain⟨j6,hj6,ej6⟩:=b5g (L:=[0,0,0,0,1,1,2,3,4,5,6,7,8]) p6 q6;obtain⟨d,_,hd⟩:=a4B (ds:=s2++s4++s3) (v:=j6) (by simp at hj6;omega) (by simp at hj6;simp[hs2,hs4,hs3];omega)
 refine⟨d,a6,a3w (env:=[.par [.int a6,.bl b],.dat (dT R),.dat (dR r),.dat odd,.dat (.lst rw4),.dat one,.dat oth,.dat (.lst (s2++s4++s3)),.dat (.int v1),.dat (.int v2)]) ?_ rfl,a60⟩;show b0h [.par [.int a,.bl b],.dat (dT R),.nil,.nil,.nil,.nil,.nil,.nil,.nil,.nil]=_;unfold b0h;exact y6_ s1 (y6_ s2' (y6_ s3' (y6_ s4' (y6_ s5 (y6_ s6 (y6_ s7 (y6_ s8 (y6_ s9 (u0_ (q5_ rfl (q5_ rfl t6 ej6) hd))))))))))
theorem c5j{a:Int}(ha:0≤a):∃d a',a4x [.par [.int a,.bl b]]=some (.d d,[.par [.int a',.bl b]])/\0≤a':=by
 obtain⟨v,a1,t,p,q,a10⟩:=a3J (i:=0) (e:=[.par [.int a,.bl b],.dat (.lst [.non,.bl true,.bl false,.int (-1),.int 0,.int 1,.str "",.str "+",.tup [],.lst [],.tup [.bl true],.lst [.tup [.int 1]],.emp,.tup [.non],.tup [.tup [.bl true]]])]) (w:=.par [.int a,.bl b]) (k:=20) (M:=mC (.int 20)) rfl rfl rfl ha (by omega) (by omega)
 change mCD 2 _ _ _=some (_,[.par [.int a1,.bl b],.dat (.lst [.non,.bl true,.bl false,.int (-1),.int 0,.int 1,.str "",.str "+",.tup [],.lst [],.tup [.bl true],.lst [.tup [.int 1]],.emp,.tup [.non],.tup [.tup [.bl true]]])])at t;obtain⟨d,hd,ed⟩:=a4B (ds:=[.non,.bl true,.bl false,.int (-1),.int 0,.int 1,.str "",.str "+",.tup [],.lst [],.tup [.bl true],.lst [.tup [.int 1]],.emp,.tup [.non],.tup [.tup [.bl true]],.int 100000000000000000000000000000,.tup [.tup []],.tup [.tup [.int 0]],.tup [.tup [.int 1],.tup [.int 1]],.tup [.tup [.tup [.int 1]]]]) p q;refine⟨d,a1,a3w (d:=d) (env:=[.par [.int a1,.bl b],.dat (.lst [.non,.bl true,.bl false,.int (-1),.int 0,.int 1,.str "",.str "+",.tup [],.lst [],.tup [.bl true],.lst [.tup [.int 1]],.emp,.tup [.non],.tup [.tup [.bl true]]])]) ?_ rfl,a10⟩;show b0g [.par [.int a,.bl b],.nil]=_;unfold b0g;refine y6_ (e1:=[.par [.int a,.bl b],.dat (.lst [.non,.bl true,.bl false,.int (-1),.int 0,.int 1,.str "",.str "+",.tup [],.lst [],.tup [.bl true],.lst [.tup [.int 1]],.emp,.tup [.non],.tup [.tup [.bl true]]])]) rfl (u0_ (q5_ (k3_ (a7h rfl (k3_ (a2b (q3_ (q5_ rfl rfl b0G) (q3_ rfl (q3_ rfl (q3_ rfl (q3_ rfl rfl))))) (by simp))) (by simp))) t ed))
theorem b5o(h:r<N):ixN N (r:Int)=some r:=by
 unfold ixN;rw[Qn (by omega)]
 simpa using h
theorem b5p(h:r<N):(gm N N a)[r]? =some ((List.range N).map (a r)):=by
 unfold gm;rw[Qa,Ys h]
 rfl
theorem c5k{a:Nat->Int}(h:r<N):((List.range N).map a)[r]? =some (a r):=by
 rw[Qa,Ys h]
 rfl
theorem c5l{f:OO}(h1:1≤n)(h6:n≤6)(F:TabF n f)(hr:1≤r/\r<n)(hc:1≤c/\c<n):isT (dT (gm n n (ST f r c)))=cf (HH f) r c:=by
 cases hq:cf (HH f) r c with
 |true=>exact a3I.mpr ⟨⟨h1,h6⟩,(F.ht.fall hr.1 hr.2 hc.1 hc.2 hq).tab⟩
 |false=>
  rw[Bool.eq_false_iff];intro h;have G:=(a3I.mp h).2.ht;have H:=F.ht;have e:∀i j,HH (ST f r c) i j=fl (HH f) r c i j:=fun i j=>c5f (fun i=>by unfold fl;rw[Ql (by omega)];rfl) (fun j=>by unfold fl;rw[Ql (by omega)];exact a3H j) i j
  have z1:fl (HH f) r c r c=HH f r c-1:=by unfold fl;rw[Qn ⟨rfl,rfl⟩]
  have z2:fl (HH f) r c (r-1) c=HH f (r-1) c:=by unfold fl;rw[Ql (by omega)]
  have z3:fl (HH f) r c r (c-1)=HH f r (c-1):=by unfold fl;rw[Ql (by omega)]
  have z4:fl (HH f) r c (r+1) c=HH f (r+1) c:=by unfold fl;rw[Ql (by omega)]
  have z5:fl (HH f) r c r (c+1)=HH f r (c+1):=by unfold fl;rw[Ql (by omega)]
  have g1:=G.dd (r-1) (by omega) c (by omega)
  have g2:=G.dd r (by omega) c (by omega)
  have g3:=G.rr r (by omega) (c-1) (by omega)
  have g4:=G.rr r (by omega) c (by omega)
  have k1:=H.dd (r-1) (by omega) c (by omega)
  have k2:=H.dd r (by omega) c (by omega)
  have k3:=H.rr r (by omega) (c-1) (by omega)
  have k4:=H.rr r (by omega) c (by omega)
  rw[show r-1+1=r by omega]at g1 k1
  rw[show c-1+1=c by omega]at g3 k3
  simp only[e,z1,z2,z3,z4,z5]at g1 g2 g3 g4;have:cf (HH f) r c=true:=by
   unfold cf;rw[Qw,Zz,Zz]
   omega
  rw[hq]at this;cases this
abbrev bMk:MoN Fl:=mkN 2 (y0_ (mCD 1 a1j (z6_ (z0_ 0) z8_))) [false,false,false,false] 1 (gN 4) (mCL a1T (z1_ (z0_ 4) z3_))
theorem b5q:∀(R:OI) (w:W),∃w',compR (gN 4) (mCL a1T (z1_ (z0_ 4) z3_)) (R.map dR) [.nil,.nil,.nil,.nil,w]=some (R,[.nil,.nil,.nil,.nil,w'])
 |[],w=>⟨w,rfl⟩
 |r::R,w=>by
  obtain⟨w',h⟩:=b5q R (.dat (dR r));refine⟨w',?_⟩;rw[Qu];unfold compR;have h1:gN 4 (dR r) [.nil,.nil,.nil,.nil,w]=some [.nil,.nil,.nil,.nil,.dat (dR r)]:=rfl;have h2:mCL a1T (z1_ (z0_ 4) z3_) [.nil,.nil,.nil,.nil,.dat (dR r)]=some (r.map D.int,[.nil,.nil,.nil,.nil,.dat (dR r)]):=rfl;rw[h1,Qj,h2,Qj,a2u,Qj,h]
  rfl
theorem c5m{f:OO}(h6:n≤6):bMk [.dat (dT (gm n n f)),w1,.nil,w3] q=some (.nx,[.dat (dT (gm n n f)),w1,.nil,w3],some (gm (n+1) (n+1) (HH f))):=by
 obtain⟨w',h⟩:=b5q (gm (n+1) (n+1) (HH f)) .nil;unfold bMk mkN;rw[a0R (c1 rfl (b5a h6)) (ds:=(gm (n+1) (n+1) (HH f)).map dR) rfl,Qj];dsimp only;rw[Qn (by rw[Qv,a1M];omega)]
 show(compR (gN 4) (mCL a1T (z1_ (z0_ 4) z3_)) ((gm (n+1) (n+1) (HH f)).map dR) [.nil,.nil,.nil,.nil,.nil]).bind _=_;rw[h]
 rfl
abbrev bSt:MoN Fl:=a6O (r:=2) (z4_ dIx (z0_ 1) (mC (.int 0))) (z4_ dIx (z0_ 1) (mC (.int 1))) (a5k (r:=2) k6_ (a5l (z4_ dIx (z0_ 1) (mC (.int 0))) (z4_ dIx (z0_ 1) (mC (.int 1)))) (a6K (mC (.int 1))))
theorem c5n{A:OO}{T:D}(hr:r<n+1)(hc:c<n+1):
  bSt [.dat T,.dat (dR [(r:Int),(c:Int)]),.nil,w3] (some (gm (n+1) (n+1) A))=some (.nx,[.dat T,.dat (dR [(r:Int),(c:Int)]),.nil,w3],some (gm (n+1) (n+1) (fl A r c))):=by
 have h1:a5l (z4_ dIx (z0_ 1) (mC (.int 0))) (z4_ dIx (z0_ 1) (mC (.int 1))) [.dat T,.dat (dR [(r:Int),(c:Int)]),.nil,w3] (some (gm (n+1) (n+1) A))=some (.int (A r c),[.dat T,.dat (dR [(r:Int),(c:Int)]),.nil,w3]):=by
  show(atI (gm (n+1) (n+1) A) (r:Int)).bind _=_;rw[a0z (b5p hr),Qj,a0z (c5k hc)]
  rfl
 have h2:a5k (r:=2) k6_ (a5l (z4_ dIx (z0_ 1) (mC (.int 0))) (z4_ dIx (z0_ 1) (mC (.int 1)))) (a6K (mC (.int 1))) [.dat T,.dat (dR [(r:Int),(c:Int)]),.nil,w3] (some (gm (n+1) (n+1) A))=some (.int (A r c-1),[.dat T,.dat (dR [(r:Int),(c:Int)]),.nil,w3]):=by
  unfold a5k;rw[h1,Qj]
  rfl
 unfold bSt a6O;rw[h2,Qj];show(ixN (gm (n+1) (n+1) A).length (r:Int)).bind _=_;rw[a1M,b5o hr,Qj,b5p hr,Qj,Qv,Xn,b5o hc,Qj,c5g hr hc];have e:gm (n+1) (n+1) (pk A r c (A r c-1))=gm (n+1) (n+1) (fl A r c):=c4l fun i _ j _=>by
  unfold pk fl
  by_cases h:i=r/\j=c
  ·obtain⟨rfl,rfl⟩:=h
   rw[Qn ⟨rfl,rfl⟩]
  ·simp only[Ql h]
 rw[e]
 rfl
def beh(n:Nat)(f:OO)(r c:Nat):D:=if cf (HH f) r c then dT (gm n n (ST f r c))else .non
theorem c5o{f:OO}(h1:1≤n)(h6:n≤6)(F:TabF n f)(hr:1≤r/\r<n)(hc:1≤c/\c<n):∃ws,a3E [.dat (dT (gm n n f)),.dat (dR [(r:Int),(c:Int)])]=some (.d (beh n f r c),ws):=by
 have t:=b4A (dT (gm n n (ST f r c)))
 rw[c5l h1 h6 F hr hc]at t;refine⟨_,a3w (env:=[.dat (dT (gm n n f)),.dat (dR [(r:Int),(c:Int)]),.nil,.dat (dT (gm n n (ST f r c)))]) ?_ rfl⟩;show b0l [.dat (dT (gm n n f)),.dat (dR [(r:Int),(c:Int)]),.nil,.nil]=_;unfold b0l a6J;rw[Qn (show a2U 2 [.dat (dT (gm n n f)),.dat (dR [(r:Int),(c:Int)]),.nil,.nil]=true from rfl)]
 have hb:a2t bMk (a2t bSt (a2t (a6N (r:=2) 3 (mCallN a3C)) (a6M (mIf (mT (mCD 1 a1Z (z6_ (z0_ 3) z8_))) (z0_ 3) (mC .non))))) [.dat (dT (gm n n f)),.dat (dR [(r:Int),(c:Int)]),.nil,.nil] none=some (.ret (beh n f r c),[.dat (dT (gm n n f)),.dat (dR [(r:Int),(c:Int)]),.nil,.dat (dT (gm n n (ST f r c)))],some (gm (n+1) (n+1) (fl (HH f) r c))):=by
  refine b0D (c5m h6) (b0D (c5n (by omega) (by omega)) (b0D (e1:=[.dat (dT (gm n n f)),.dat (dR [(r:Int),(c:Int)]),.nil,.dat (dT (gm n n (ST f r c)))]) (q1:=some (gm (n+1) (n+1) (fl (HH f) r c))) ?_ ?_))
  ·unfold a6N
   rw[c5e h6]
   rfl
  ·unfold a6M mIf
   generalize dT (gm n n f)=A at *;unfold beh;generalize dT (gm n n (ST f r c))=C at *;rw[j4_ (c1 rfl t),Qj];cases cf (HH f) r c<;>rfl
 exact Zc (Option.map _) hb
theorem c5p{t:Mo Bool}{m:Mo D}{l:List α}{q f:α->D}{p:α->Bool}(hi:mi env=some (l.map q,e1))(hl:l.length≤100000)(hb:k5_ keep 0 e1=base)(hk:base.length=k)
  (h:∀a∈l,t (base++[.dat (q a)])=some (p a,base++[.dat (q a)])/\(p a=true->m (base++[.dat (q a)])=some (f a,base++[.dat (q a)])))(ho:∀w,j2_ keep e1 (base++[w])=some e1):v1_ mi keep 1 (gN k) t m env=some ((l.filter p).map f,e1):=by
 have:=a8S (mi:=fun e=>some (l.map q,e)) (env:=e1) rfl hl hb hk h ho
 unfold v1_ at this ⊢;rw[hi];exact this
theorem c5q{m:Mo D}{l:List α}{q f:α->D}(hi:mi env=some (l.map q,e1))(hl:l.length≤100000)(hb:k5_ keep 0 e1=base)(hk:base.length=k)
  (h:∀a∈l,m (base++[.dat (q a)])=some (f a,base++[.dat (q a)]))(ho:∀w,j2_ keep e1 (base++[w])=some e1):v1_ mi keep 1 (gN k) v3_ m env=some (l.map f,e1):=by
 have:=a1L (mi:=fun e=>some (l.map q,e)) (env:=e1) rfl hl hb hk h ho
 unfold v1_ at this ⊢;rw[hi];exact this
theorem c5r{m:Mo (List D)}{d:List D}(h:m env=some (d,env))(hw:env[i]? =some (.own ds))(hl:ds.length+d.length≤100000)(he:env.set i (.own (ds++d))=e2):a5a i m env=some (.nx,e2):=by
 unfold a5a;rw[hw];show(m env).bind _=_;rw[h,Qj];dsimp only;rw[hw];show(if ds.length+d.length≤100000 then _ else none)=_
 rw[Qn hl];exact Zc (fun e=>some (Fl.nx,e)) he
theorem b5r{α:Type}{g:OZ}{b:Mo Fl}{q:α->D}{z:α->List D}{P:List D->Env'->Prop}:∀{l:List α}{s:List D}{e:Env'},(s++l.flatMap z).length≤100000->(∀x∈l,∀s e,P s e->(s++z x).length≤100000->∃e1 e2,g (q x) e=some e1/\b e1=some (.nx,e2)/\P (s++z x) e2)->
  P s e->∃e',loop g b (l.map q) e=some (.nx,e')/\P (s++l.flatMap z) e'
 |[],s,e,_,_,p=>⟨e,rfl,by simpa using p⟩
 |x::l,s,e,hl,h,p=>by
  rw[Jy]at hl;obtain⟨e1,e2,h1,h2,p2⟩:=h x (Zg ..) s e p (by simp only[Qs]at hl ⊢;omega)
  obtain⟨e',h3,p3⟩:=b5r (l:=l) (s:=s++z x) (e:=e2) (by rw[Yb];exact hl) (fun y hy=>h y (Zx _ hy)) p2
  refine⟨e',?_,?_⟩
  ·rw[Qu]
   unfold loop;rw[h1,Qj,h2];exact h3
  ·rw[Jy,←Yb];exact p3
def PA(n:Nat):OI:=(up 1 n).flatMap fun(r:Nat)=>(up 1 n).map fun(c:Nat)=>[(r:Int),(c:Int)]
theorem b0H(h:p∈PA n):∃r c:Nat,(1≤r/\r<n)/\(1≤c/\c<n)/\p=[(r:Int),(c:Int)]:=by
 unfold PA at h;obtain⟨r,hr,h⟩:=List.mem_flatMap.mp h;obtain⟨c,hc,rfl⟩:=Zj.mp h;exact⟨r,c,a4l.mp hr,a4l.mp hc,rfl⟩
theorem c5s(h6:n≤6):(PA n).Nodup:=by
 have:n=0∨n=1∨n=2∨n=3∨n=4∨n=5∨n=6:=by omega
 rcases this with rfl|rfl|rfl|rfl|rfl|rfl|rfl<;>decide+kernel
theorem b5s(h6:n≤6):(PA n).length≤25:=by
 have:n=0∨n=1∨n=2∨n=3∨n=4∨n=5∨n=6:=by omega
 rcases this with rfl|rfl|rfl|rfl|rfl|rfl|rfl<;>decide+kernel
theorem b5t(n:Nat):(PA n).map dR=(up 1 n).flatMap fun(r:Nat)=>(up 1 n).map fun(c:Nat)=>D.tup [.int (r:Int),.int (c:Int)]:=by
 unfold PA;rw[List.map_flatMap]
 congr 1
 funext r
 rw[Qe]
 rfl
def cfp(a:OO)(p:List Int):Bool:=cf a (p.getD 0 0).toNat (p.getD 1 0).toNat
theorem b0I(n:Nat)(a:OO):(PA n).filter (cfp a)=PL n a:=by
 unfold PA PL;rw[List.filter_flatMap]
 congr 1
 funext r
 rw[List.filter_map]
 rfl
def bp(n:Nat)(f:OO)(p:List Int):D:=beh n f (p.getD 0 0).toNat (p.getD 1 0).toNat
theorem b5u(n:Nat)(f:OO)(r c:Nat):bp n f [(r:Int),(c:Int)]=beh n f r c:=rfl
theorem b5v(n:Nat)(f:OO)(p:List Int):a4c (bp n f p)=!cfp (HH f) p:=by
 unfold bp beh cfp;cases cf (HH f) (p.getD 0 0).toNat (p.getD 1 0).toNat<;>rfl
theorem b5w(b:List Int->D):∀l:OI,pairs? (l.map fun p=>D.tup [dR p,b p])=some (l.map fun p=>(p,b p))
 |[]=>rfl
 |p::l=>by
  rw[Qu];unfold pairs?;have:a2s (dR p)=some p:=a2u p;rw[this,Qj,b5w b l]
  rfl
theorem b5x(b:List Int->D):∀(l ks:OI),(ks++l).Nodup->a1h ks (ks.map b) (l.map fun p=>(p,b p))=(ks++l,(ks++l).map b)
 |[],ks,_=>by simp[a1h]
 |p::l,ks,h=>by
  rw[Qu];unfold a1h;have hn:ks.contains p=false:=by
   rw[List.contains_eq_mem];rw[decide_eq_false_iff_not];intro hp;rw[List.nodup_append]at h;exact h.2.2 p hp p (Zg ..) rfl
  unfold a6F a6G;simp only[hn,Zq,Yj];have e:ks.map b++[b p]=(ks++[p]).map b:=by simp
  rw[e,b5x b l (ks++[p]) (by rw[Yb];exact h),Yb]
  rfl
theorem c5t(b:List Int->D){l:OI}(h:l.Nodup):a5m [.lst (l.map fun p=>D.tup [dR p,b p])]=some (.dct l (l.map b)):=by
 show(pairs? (l.map fun p=>D.tup [dR p,b p])).map (fun ps=>D.dct (a1h [] [] ps).1 (a1h [] [] ps).2)=_
 rw[b5w b l];show some (D.dct (a1h [] [] (l.map fun p=>(p,b p))).1 (a1h [] [] (l.map fun p=>(p,b p))).2)=_
 have:=b5x b l [] (by simpa using h)
 rw[show([]:List D)=([]:OI).map b from rfl,this]
 rfl
theorem b5y(b:List Int->D):∀{l:OI}{p:List Int},p∈l->lkD l (l.map b) p=some (b p)
 |k::l,p,h=>by
  rw[Qu];unfold lkD
  by_cases e:k=p
  ·rw[Qn e,e]
  ·rw[Ql e]
   rcases Qr.mp h with z|z
   ·exact absurd z.symm e
   ·exact b5y b z
theorem c5u(b:List Int->D){l:OI}(h:p∈l):a1K (.dct l (l.map b)) (dR p)=some (b p):=by
 show(a2s (dR p)).bind _=_;have:a2s (dR p)=some p:=a2u p;rw[this,Qj];exact b5y b h
theorem c5v(hl:es.length≤1000)(h:∀x∈es,∃ws,j7_ k [.dat x,.dat x]=some (.d (.bl true),ws)):
  ∃ws,j7_ (k+1) [.dat (.lst es),.dat (.lst es)]=some (.d (.bl true),ws):=by
 refine⟨_,(w0_ (d:=.bl true) (env:=[.dat (.lst es),.dat (.lst es)]) ?_)⟩;show a3D (j7_ k) [.dat (.lst es),.dat (.lst es)]=_;unfold a3D;refine a1u (a5p (e1:=[.dat (.lst es),.dat (.lst es)]) rfl (y6_ (e1:=[.dat (.lst es),.dat (.lst es)]) (a0v (e1:=[.dat (.lst es),.dat (.lst es)]) rfl rfl) (u0_ ?_)));have e1:(z4_ (dEq false) (mCB v8_ (z1_ (z0_ 0) z3_)) (mCB v8_ (z1_ (z0_ 1) z3_))) [.dat (.lst es),.dat (.lst es)]=some (.bl ((es.length:Int)==(es.length:Int)),[.dat (.lst es),.dat (.lst es)]):=rfl;have c:=a5n (mi:=a0Q (z1_ (z0_ 0) (z1_ (z0_ 1) z3_))) (keep:=[false,false]) (m:=mCD 2 (j7_ k) (z6_ (z0_ 2) (z6_ (z0_ 3) z8_))) (env:=[.dat (.lst es),.dat (.lst es)]) (base:=[.nil,.nil]) (l:=es) (q:=fun p=>p) (q2:=fun p=>p) (f:=fun p=>.bl true) (k:=2) (b3C (a:=.lst es) (b:=.lst es) rfl (by show some es=some (es.map fun p=>p);simp) (by show some es=some (es.map fun p=>p);simp)) (by omega) rfl rfl (fun p hp=>by
   obtain⟨ws,q⟩:=h p hp;exact a8V (av:=[.d p,.d p]) rfl rfl rfl q) (fun w w2=>rfl)
 refine(a6Q (e1.trans ?_) (k2_ (d:=.bl true) (q3_ (k3_ c) rfl) ?_))
 ·rw[Xs]
 ·show(a0t _).map _=_
  rw[a2M]
  simp
theorem b0J(d:D):eqD d d=true:=a5J.mpr rfl
theorem c5w(hl:R.length≤1000)(h:∀r∈R,r.length≤1000):∃ws,j7_ (k+3) [.dat (.lst (R.map dR)),.dat (.lst (R.map dR))]=some (.d (.bl true),ws):=
 c5v (by simpa using hl) fun x hx=>by
  obtain⟨r,hr,rfl⟩:=Zj.mp hx;have:=b4W (k:=k) (d:=dR r) (l:=r) (a7e r) (h r hr);rw[b0J]at this;exact⟨_,this⟩
theorem b5z:dEq true (.str "step") (.str "step")=some (.bl false):=b5l (by decide+kernel)
theorem b5A:a0j (some ("NoStep":Str))=some (.str "step"):=b5j (by decide+kernel)
theorem c5x{e:D}(h:isT d=false):a0V [.dat d,.dat e]=some ("NoTable":Str):=a7i (a2v (av:=[.d d]) rfl rfl rfl (by show a1y [.dat d]=_;rw[a7j,h];rfl))
theorem c5y(h:isT d=false):a3a [.dat d]=some ("NoTable":Str):=a7i (a2v (av:=[.d d]) rfl rfl rfl (by show a1y [.dat d]=_;rw[a7j,h];rfl))
theorem c5z(h:isT d=false):a3z [.dat d]=some ("NoTable":Str):=a7i (a2v (av:=[.d d]) rfl rfl rfl (by show a1y [.dat d]=_;rw[a7j,h];rfl))
theorem b5B{f:OO}(h1:1≤n)(h6:n≤6)(F:TabF n f)(h:∀p∈PL n (HH f),d≠dR p):a0V [.dat (dT (gm n n f)),.dat d]=some ("NoStep":Str):=by
 have q0:=a7j (dT (gm n n f))
 rw[a3I.mpr ⟨⟨h1,h6⟩,F⟩]at q0;have q1:=a7f h1 h6 F;have q2:=a7d f h1 (by omega)
 obtain⟨w3,q3⟩:=b0z (a:=HH f) h6;have q6:=b0m d 2 (by decide)
 generalize dT (gm n n f)=A at *;generalize dT (gm (n+1) (n+1) (HH f))=P at *;have hc:(j0_ (x2_ (mT (mCD 2 a0x (z6_ (z0_ 1) (z6_ (mC (.int 2)) z8_))))) (mT (z4_ (a3u true) (z0_ 1) (mF (a0e 1 a1z (z6_ (z0_ 2) z8_)))))) [.dat A,.dat d,.dat P]=some (true,[.dat A,.dat d,.dat P]):=by
  cases hr:isR d 2 with
  |false=>
   rw[hr]at q6;exact b3y (a0G (b:=false) (j4_ (c2 rfl rfl q6)))
  |true=>
   rw[hr]at q6;obtain⟨e,_⟩:=a5A hr;have q9:=b4Q true (unR d) (PL n (HH f));have hn:unR d∉PL n (HH f):=fun z=>h _ z e
   simp only[hn,decide_false,Bool.not_false,Zy]at q9;rw[←e]at q9;exact a5q (a0G (b:=true) (j4_ (c2 rfl rfl q6))) (j4_ (q5_ rfl (k3_ (a3Z (a0S (av:=[.d P]) rfl rfl rfl q3))) q9))
 show b0b [.dat A,.dat d,.nil]=_;unfold b0b;refine(b5n (e1:=[.dat A,.dat d,.nil]) (a2v (av:=[.d A]) rfl rfl rfl q0) (a6v (c1 rfl q1))).trans ?_
 refine(b5n (e1:=[.dat A,.dat d,.dat P]) rfl (g2_ (e1:=[.dat A,.dat d,.nil]) (c1 rfl q2) rfl)).trans ?_
 exact a7i ((b5m hc).trans rfl)
theorem c5A{f:Fn}{is:List Nat}(h:a5h env is=some ds)(hn:ds.length=n)(hf:f (ds.map W.dat)=some (.d (.bl b),ws)):a5i n f is env=some (.bl b,env):=by
 unfold a5i;rw[h,Qj,Qn hn,hf,Qj]
 rfl
theorem c5B(R:OI):shp (dT R)=true:=c4t R
abbrev rB1:Mo Fl:=(a5a 1 (v1_ (a1s (z1_ (mC (.int 1)) (z1_ (mCB v8_ (z1_ (z0_ 0) z3_)) z3_))) [false,false,true,false,false,false,false,false] 1 (gN 8) v3_ (v6_ (z1_ (z0_ 2) (z1_ (z0_ 8) z3_)))))
abbrev rB2:Mo Fl:=(q1_ (j5_ 7 (a0e 1 a1X (z6_ (z0_ 0) z8_))) (q1_ (y4_ (x2_ (mT (a5i 2 (j7_ 6) [7,4]))) (v0_ (mC (.bl false))) mNx) (a0q 7 (v6_ z3_))))
abbrev rB3:Mo Fl:=(y4_ (mT (z4_ a4d (z4_ a1K (z0_ 3) (z0_ 6)) (mC .non))) (y4_ (mT (z4_ (dEq true) (a0u xN [true,false,false,false,false,false,true,false] (mCD 2 a0K (z6_ (z0_ 0) (z6_ (z0_ 6) z8_))) (a0f 2 a0V (z6_ (z0_ 0) (z6_ (z0_ 6) z8_))) a0j) (mC (.str "step")))) (v0_ (mC (.bl false))) mNx) (y4_ (x2_ (mT (mCD 2 (j7_ 6) (z6_ (mCD 2 a0K (z6_ (z0_ 0) (z6_ (z0_ 6) z8_))) (z6_ (z4_ a1K (z0_ 3) (z0_ 6)) z8_))))) (v0_ (mC (.bl false))) mNx))
theorem b5C(h6:n≤6):(PL n a).length≤25:=by
 rw[←b0I];exact Zp (Uc ..) (b5s h6)
theorem c5C{a b:List Int}(h:dR a=dR b):a=b:=by
 have h1:a2s (dR a)=some a:=a2u a
 have h2:a2s (dR b)=some b:=a2u b
 rw[h,h2]at h1;injection h1 with h1
 exact h1.symm
theorem c5D{f:OO}(h1:1≤n)(h6:n≤6)(F:TabF n f):∃ws,a3F [.dat (dT (gm n n f))]=some (.d (.bl true),ws):=by
 have hB:∀p∈PA n,∃ws,a3E [.dat (dT (gm n n f)),.dat (dR p)]=some (.d (bp n f p),ws):=fun p hp=>by
  obtain⟨r,c,hr,hc,rfl⟩:=b0H hp;exact c5o h1 h6 F hr hc
 have hS:=c4I h1 h6 F
 have hX:∀p∈PA n,cfp (HH f) p=false->a0V [.dat (dT (gm n n f)),.dat (dR p)]=some ("NoStep":Str):=fun p hp hq=>b5B h1 h6 F fun p' hp' e=>by
  have:p=p':=c5C e;subst this;rw[←b0I]at hp';have:=(Uk.mp hp').2;rw[hq]at this;cases this
 have hY:∀p∈PA n,cfp (HH f) p=true->∃ws,a0K [.dat (dT (gm n n f)),.dat (dR p)]=some (.d (bp n f p),ws):=fun p hp hq=>by
  obtain⟨r,c,hr,hc,rfl⟩:=b0H hp;have hq':cf (HH f) r c=true:=hq;obtain⟨ws,e⟩:=c4K h1 h6 F hr hc hq';refine⟨ws,?_⟩;rw[b5u];unfold beh;rw[hq',Qn rfl];exact e
 have hZ:∀p∈PA n,cfp (HH f) p=true->∃ws,j7_ 6 [.dat (bp n f p),.dat (bp n f p)]=some (.d (.bl true),ws):=fun p hp hq=>by
  obtain⟨r,c,hr,hc,rfl⟩:=b0H hp;have hq':cf (HH f) r c=true:=hq;rw[b5u];unfold beh;rw[hq',Qn rfl];have:=c4T (k:=3) (d:=dT (gm n n (ST f r c))) (R:=gm n n (ST f r c)) (c5B _) (by rw[a1M];omega) (fun x hx=>by rw[a7b x hx];omega)
  rw[b0J]at this;exact⟨_,this⟩
 obtain⟨wL,hL⟩:=c5w (k:=3) (R:=PL n (HH f)) (by have:=b5C (a:=HH f) h6;omega) (fun r hr=>by
  rw[b0A]at hr;obtain⟨_,_,_,_,_,rfl⟩:=hr;exact(by decide:(2:Nat)≤1000))
 have hl:v8_ [dT (gm n n f)]=some (.int (n:Int)):=a7g
 obtain⟨wS,hS⟩:=hS;have lenP:=b5s h6;have lenL:=b5C (a:=HH f) h6;have lu:(up 1 n).length≤6:=by simp[up];omega
 generalize dT (gm n n f)=T at *;obtain⟨e1,l1,x2,rfl⟩:=b5r (g:=gN 2) (b:=rB1) (q:=qN) (z:=fun(r:Nat)=>(up 1 n).map fun(c:Nat)=>D.tup [.int (r:Int),.int (c:Int)]) (P:=fun s e=>∃x2,e=[.dat T,.own s,x2,.nil,.nil,.nil,.nil,.nil]) (l:=up 1 n) (s:=[]) (e:=[.dat T,.own [],.nil,.nil,.nil,.nil,.nil,.nil])
  (by rw[Ua,←b5t,Qv];omega)
  (fun r hr s e ⟨x2,he⟩ hle=>by
   subst he;refine⟨[.dat T,.own s,.dat (.int (r:Int)),.nil,.nil,.nil,.nil,.nil],[.dat T,.own (s++(up 1 n).map fun(c:Nat)=>D.tup [.int (r:Int),.int (c:Int)]),.dat (.int (r:Int)),.nil,.nil,.nil,.nil,.nil],rfl,?_,_,rfl⟩
   refine c5r (ds:=s) (a1L (α:=Nat) (l:=up 1 n) (q:=qN) (f:=fun(c:Nat)=>D.tup [.int (r:Int),.int (c:Int)]) (base:=[.nil,.nil,.dat (.int (r:Int)),.nil,.nil,.nil,.nil,.nil]) (a9a rfl (k2_ (q3_ rfl rfl) hl) rfl rfl (by omega) (by omega)) (by omega) rfl rfl (fun c _=>rfl) (fun _=>rfl)) rfl ?_ rfl
   rw[Qs]at hle;exact hle) ⟨_,rfl⟩
 rw[Ua,←b5t]at l1;have d1:(mCB a5m (z1_ (mF (v1_ (y0_ (z0_ 1)) [true,false,false,false,false,false,false,false] 1 (gN 8) v3_ (v6_ (z1_ (z0_ 8) (z1_ (mCD 2 a3E (z6_ (z0_ 0) (z6_ (z0_ 8) z8_))) z3_))))) z3_)) [.dat T,.own ((PA n).map dR),x2,.nil,.nil,.nil,.nil,.nil]=some (.dct (PA n) ((PA n).map (bp n f)),[.dat T,.dat (.lst ((PA n).map dR)),x2,.nil,.nil,.nil,.nil,.nil]):=
  k2_ (q3_ (k3_ (c5q (α:=List Int) (e1:=[.dat T,.dat (.lst ((PA n).map dR)),x2,.nil,.nil,.nil,.nil,.nil]) (l:=PA n) (q:=dR) (f:=fun p=>.tup [dR p,bp n f p]) (base:=[.dat T,.nil,.nil,.nil,.nil,.nil,.nil,.nil]) rfl (by omega) rfl rfl (fun p hp=>by
   obtain⟨ws,e⟩:=hB p hp;exact a2W (q3_ rfl (q3_ (c2 rfl rfl e) rfl)) (by simp)) (fun _=>rfl))) rfl) (c5t (bp n f) (c5s h6))
 have hg:∀p∈PA n,a1K (.dct (PA n) ((PA n).map (bp n f))) (dR p)=some (bp n f p):=fun p hp=>c5u (bp n f) hp
 generalize D.dct (PA n) ((PA n).map (bp n f))=Dc at *;have d2:(v1_ (y0_ (z0_ 1)) [false,false,false,true,false,false,false,false] 1 (gN 8) (mT (z4_ a6C (z4_ a1K (z0_ 3) (z0_ 8)) (mC .non))) (z0_ 8)) [.dat T,.dat (.lst ((PA n).map dR)),x2,.dat Dc,.nil,.nil,.nil,.nil]=some ((PL n (HH f)).map dR,[.dat T,.dat (.lst ((PA n).map dR)),x2,.dat Dc,.nil,.nil,.nil,.nil]):=by
  rw[←b0I];refine c5p (α:=List Int) (l:=PA n) (q:=dR) (f:=dR) (p:=cfp (HH f)) (base:=[.nil,.nil,.nil,.dat Dc,.nil,.nil,.nil,.nil]) rfl (by omega) rfl rfl (fun p hp=>⟨?_,fun _=>rfl⟩) (fun _=>rfl)
  refine j4_ (q5_ (q5_ rfl rfl (hg p hp)) rfl ?_);show some (D.bl (!a4c (bp n f p)))=_;rw[b5v,Bool.not_not]
 obtain⟨e2,l2,x5,x7,rfl⟩:=a4Y (g:=gN 5) (b:=rB2) (P:=fun e=>∃x5 x7,e=[.dat T,.dat (.lst ((PA n).map dR)),x2,.dat Dc,.own ((PL n (HH f)).map dR),x5,.nil,x7]) (ds:=rgD 2) (env:=[.dat T,.dat (.lst ((PA n).map dR)),x2,.dat Dc,.own ((PL n (HH f)).map dR),.nil,.nil,.nil]) (fun d hd e ⟨x5,x7,he⟩=>by
  subst he;refine⟨[.dat T,.dat (.lst ((PA n).map dR)),x2,.dat Dc,.own ((PL n (HH f)).map dR),.dat d,.nil,x7],[.dat T,.dat (.lst ((PA n).map dR)),x2,.dat Dc,.own ((PL n (HH f)).map dR),.dat d,.nil,.own ((PL n (HH f)).map dR++[.tup []])],rfl,?_,_,_,rfl⟩;refine y6_ (a4k (e1:=[.dat T,.dat (.lst ((PA n).map dR)),x2,.dat Dc,.own ((PL n (HH f)).map dR),.dat d,.nil,x7]) (e2:=[.dat T,.dat (.lst ((PA n).map dR)),x2,.dat Dc,.own ((PL n (HH f)).map dR),.dat d,.nil,.own ((PL n (HH f)).map dR)]) (a3Z (a0S (av:=[.d T]) rfl rfl rfl hS)) rfl) ?_
  refine y6_ (a0v (a0G (b:=true) (j4_ (c5A (ds:=[.lst ((PL n (HH f)).map dR),.lst ((PL n (HH f)).map dR)]) rfl rfl hL))) rfl) ?_
  exact(a8U (w:=.own ((PL n (HH f)).map dR)) (w':=.own ((PL n (HH f)).map dR)) (ds:=(PL n (HH f)).map dR) rfl rfl rfl rfl rfl (by rw[Qv];omega)).trans rfl) ⟨_,_,rfl⟩
 obtain⟨e3,l3,x6,rfl⟩:=a4Y (g:=gN 6) (b:=rB3) (P:=fun e=>∃x6,e=[.dat T,.dat (.lst ((PA n).map dR)),x2,.dat Dc,.own ((PL n (HH f)).map dR),x5,x6,x7]) (ds:=(PA n).map dR) (env:=[.dat T,.dat (.lst ((PA n).map dR)),x2,.dat Dc,.own ((PL n (HH f)).map dR),x5,.nil,x7]) (fun d hd e ⟨x6,he⟩=>by
  subst he;obtain⟨p,hp,rfl⟩:=Zj.mp hd;refine⟨[.dat T,.dat (.lst ((PA n).map dR)),x2,.dat Dc,.own ((PL n (HH f)).map dR),x5,.dat (dR p),x7],[.dat T,.dat (.lst ((PA n).map dR)),x2,.dat Dc,.own ((PL n (HH f)).map dR),x5,.dat (dR p),x7],rfl,?_,_,rfl⟩;have hn:=b5v n f p;have gp:=hg p hp;have tt:(mT (z4_ a4d (z4_ a1K (z0_ 3) (z0_ 6)) (mC .non))) [.dat T,.dat (.lst ((PA n).map dR)),x2,.dat Dc,.own ((PL n (HH f)).map dR),x5,.dat (dR p),x7]=some (!cfp (HH f) p,[.dat T,.dat (.lst ((PA n).map dR)),x2,.dat Dc,.own ((PL n (HH f)).map dR),x5,.dat (dR p),x7]):=by
   refine j4_ (q5_ (q5_ rfl rfl gp) rfl ?_);show some (D.bl (a4c (bp n f p)))=_;rw[hn]
  cases hq:cfp (HH f) p with
  |false=>
   rw[hq]at tt;have gx:=hX p hp hq;generalize dR p=dp at *;refine a5p tt (a0v (j4_ (q5_ (a5r (lw:=[.dat T,.nil,.nil,.nil,.nil,.nil,.dat dp,.nil]) rfl (a2v (av:=[.d T,.d dp]) rfl rfl rfl gx) (by decide+kernel) b5A) rfl b5z)) rfl)
  |true=>
   rw[hq]at tt;obtain⟨_,ey⟩:=hY p hp hq;obtain⟨_,ez⟩:=hZ p hp hq;generalize dR p=dp at *;generalize bp n f p=Y at *;exact a0v tt (a0v (a0G (b:=true) (j4_ (c2 (c2 rfl rfl ey) (q5_ rfl rfl gp) ez))) rfl)) ⟨_,rfl⟩
 refine⟨_,a3w (env:=[.dat T,.dat (.lst ((PA n).map dR)),x2,.dat Dc,.own ((PL n (HH f)).map dR),x5,x6,x7]) ?_ rfl⟩;show a6W [.dat T,.nil,.nil,.nil,.nil,.nil,.nil,.nil]=_;unfold a6W;refine y6_ (a4k (e1:=[.dat T,.nil,.nil,.nil,.nil,.nil,.nil,.nil]) (e2:=[.dat T,.own [],.nil,.nil,.nil,.nil,.nil,.nil]) rfl rfl) ?_
 refine y6_ ((a1F (a9a rfl (k2_ (q3_ rfl rfl) hl) rfl rfl (by omega) (by omega))).trans l1) ?_
 refine y6_ (g2_ (e2:=[.dat T,.dat (.lst ((PA n).map dR)),x2,.dat Dc,.nil,.nil,.nil,.nil]) d1 rfl) ?_
 refine y6_ (a4k (e2:=[.dat T,.dat (.lst ((PA n).map dR)),x2,.dat Dc,.own ((PL n (HH f)).map dR),.nil,.nil,.nil]) d2 rfl) ?_
 refine y6_ ((a1F (ds:=rgD 2) rfl).trans l2) ?_
 refine y6_ ((a1F (ds:=(PA n).map dR) rfl).trans l3) rfl
theorem Tab.fn{T:OI}(t:Tab T)(hn:T.length=n):∃f,T=gm n n f/\TabF n f:=by
 have e:=c4m (n:=n) hn (by rw[←hn];exact t.len)
 refine⟨at2 T,e,?_⟩;have:=t.ok;rw[e]at this;exact(a3I.mp this).2
def idr(n i j:Nat):Int:=idf (n-1-i) j
theorem b5D(h1:1≤n)(h6:n≤6):(gm n n idf).reverse=gm n n (idr n)/\TabF n (idr n):=by
 have:n=1∨n=2∨n=3∨n=4∨n=5∨n=6:=by omega
 have key:(gm n n idf).reverse=gm n n (idr n)/\isT (dT (gm n n (idr n)))=true:=by
  rcases this with rfl|rfl|rfl|rfl|rfl|rfl<;>exact⟨by decide+kernel,by decide+kernel⟩
 exact⟨key.1,(a3I.mp key.2).2⟩
theorem b5E{n:Nat}{f:OO}{M:Mo D}{w0 w1 w2 w3 w4 w5 w6 w7 w8 w9 w10:W}(h6:n≤6)(hM:M [w0,w1,w2,w3,w4,w5,w6,w7,w8,w9,w10]=some (dT (gm n n f),[w0,w1,w2,w3,w4,w5,w6,w7,w8,w9,w10])):
  mCB g5_ (z1_ (mF (v1_ (y0_ (mCD 1 a1j (z6_ M z8_))) [false,false,false,false,false,false,false,false,false,false,false] 1 (gN 11) v3_ (mCB g5_ (z1_ (z0_ 11) z3_)))) z3_) [w0,w1,w2,w3,w4,w5,w6,w7,w8,w9,w10]=some (.int (SS (n+1) (HH f)),[w0,w1,w2,w3,w4,w5,w6,w7,w8,w9,w10]):=by
 have q4:=b4M (n:=n+1) (m:=n+1) (f:=HH f)
 refine k2_ (q3_ (k3_ (a1L (α:=Nat) (l:=List.range (n+1)) (q:=fun i=>dR (rw' (n+1) (HH f i))) (f:=fun i=>D.int (((List.range (n+1)).map (HH f i)).sum)) (base:=[.nil,.nil,.nil,.nil,.nil,.nil,.nil,.nil,.nil,.nil,.nil]) (a0R (c1 hM (b5a h6)) q4) (by simp;omega) rfl rfl (fun i _=>k2_ (q3_ rfl rfl) (a8X _)) (fun _=>rfl))) rfl) (d:=.int (SS (n+1) (HH f))) ?_
 have:((List.range (n+1)).map fun i=>D.int (((List.range (n+1)).map (HH f i)).sum))=((List.range (n+1)).map fun i=>((List.range (n+1)).map (HH f i)).sum).map D.int:=by rw[Qe];rfl
 rw[this];exact a8W _
def od(n:Nat):List D:=[.tup [.int 0,.int 1],.tup [.int (n:Int),.int 1],.tup [.int 1,.int (n:Int)],.tup [.int 1],.lst [.int 1,.int 1],.tup [.bl true,.bl true],.tup [.int 1,.int 1,.int 1],.non,.str "11",.int 100000000000000000000000000000,.tup [.int 1,.non]]
theorem c5E(h:d∈od n):∀p∈PL n a,d≠dR p:=by
 intro p hp e;obtain⟨r,c,hr,hc,_,rfl⟩:=b0A.mp hp;have e':d=.tup [.int (r:Int),.int (c:Int)]:=e;subst e';simp only[od,Qr,Zi,Js,D.tup.injEq,Uw,D.int.injEq,and_true,reduceCtorEq,and_false,false_and,false_or]at h
 omega
abbrev lw:Mo Fl:=(q1_ (j5_ 2 (a0e 2 a4u (z6_ (z0_ 0) (z6_ (z0_ 1) z8_)))) (q1_ (v2_ 3 (z4_ v7_ (mC (.int 1)) (mCD 2 w5_ (k4_ 2 (z6_ (mC (.int 6)) z8_))))) (q1_ (v2_ 4 (mCB g1_ (z1_ (mF (v1_ (j1_ (z1_ (z0_ 3) z3_)) [false,false,false,true,false,false,false,false,false,false,false] 1 (gN 11) v3_ (mCB g1_ (z1_ (mF (v1_ (j1_ (z1_ (z0_ 3) z3_)) [false,false,false,false,false,false,false,false,false,false,false,true] 1 (gN 12) v3_ (mCB a3W (z1_ (z4_ (dEq false) (z0_ 11) (z0_ 12)) z3_)))) z3_)))) z3_))) (q1_ (v2_ 5 (mCD 2 a4v (k4_ 2 (z6_ (z0_ 3) z8_)))) (q1_ (v2_ 6 (mCB g5_ (z1_ (mF (v1_ (y0_ (mCD 1 a1j (z6_ (z0_ 4) z8_))) [false,false,false,false,false,false,false,false,false,false,false] 1 (gN 11) v3_ (mCB g5_ (z1_ (z0_ 11) z3_)))) z3_))) (q1_ (u2_ (y0_ (mF (x5_ (z1_ (z0_ 5) (z1_ (z0_ 4) (z1_ (a1V (z0_ 4)) z3_)))))) (gN 7) (q1_ (y4_ (x2_ (mT (mCD 1 a3F (z6_ (z0_ 7) z8_)))) (v0_ (mC (.bl false))) mNx) (q1_ (v2_ 10 (z4_ k6_ (z0_ 6) (mCB g5_ (z1_ (mF (v1_ (y0_ (mCD 1 a1j (z6_ (z0_ 7) z8_))) [false,false,false,false,false,false,false,false,false,false,false] 1 (gN 11) v3_ (mCB g5_ (z1_ (z0_ 11) z3_)))) z3_)))) (y4_ (x2_ (mT (mCD 2 (j7_ 6) (z6_ (mCD 1 a1Y (z6_ (z0_ 7) z8_)) (z6_ (z0_ 10) z8_))))) (v0_ (mC (.bl false))) mNx)))) (q1_ (v2_ 8 (mF (x5_ (z1_ (v6_ (z1_ (mC (.int 0)) (z1_ (mC (.int 1)) z3_))) (z1_ (v6_ (z1_ (z0_ 3) (z1_ (mC (.int 1)) z3_))) (z1_ (v6_ (z1_ (mC (.int 1)) (z1_ (z0_ 3) z3_))) (z1_ (v6_ (z1_ (mC (.int 1)) z3_)) (z1_ (mF (x5_ (z1_ (mC (.int 1)) (z1_ (mC (.int 1)) z3_)))) (z1_ (v6_ (z1_ (mC (.bl true)) (z1_ (mC (.bl true)) z3_))) (z1_ (v6_ (z1_ (mC (.int 1)) (z1_ (mC (.int 1)) (z1_ (mC (.int 1)) z3_)))) (z1_ (mC .non) (z1_ (mC (.str "11")) (z1_ (z4_ a0N (mC (.int 10)) (mC (.int 29))) (z1_ (v6_ (z1_ (mC (.int 1)) (z1_ (mC .non) z3_))) z3_)))))))))))))) (q1_ (v2_ 8 (z4_ dIx (z0_ 8) (mCD 2 w5_ (k4_ 2 (z6_ (mC (.int 11)) z8_))))) (q1_ (y4_ (mT (z4_ (dEq true) (a0u xN [false,false,false,false,false,true,false,false,true,false,false] (mCD 2 a0K (z6_ (z0_ 5) (z6_ (z0_ 8) z8_))) (a0f 2 a0V (z6_ (z0_ 5) (z6_ (z0_ 8) z8_))) a0j) (mC (.str "step")))) (v0_ (mC (.bl false))) mNx) (u2_ (y0_ (mF (x5_ (z1_ (mCD 2 a4y (k4_ 2 (z6_ (z0_ 5) z8_))) (z1_ (mCD 1 a4x (k4_ 2 z8_)) z3_))))) (gN 9) (y4_ (x2_ (mT (mCD 1 a1Z (z6_ (z0_ 9) z8_)))) (q1_ (y4_ (mT (z4_ (dEq true) (a0u xN [false,false,false,false,false,false,false,false,true,true,false] (mCD 2 a0K (z6_ (z0_ 9) (z6_ (z0_ 8) z8_))) (a0f 2 a0V (z6_ (z0_ 9) (z6_ (z0_ 8) z8_))) a0j) (mC (.str "table")))) (v0_ (mC (.bl false))) mNx) (q1_ (y4_ (mT (z4_ (dEq true) (a0u xN [false,false,false,false,false,false,false,false,false,true,false] (mF (a0e 1 a1X (z6_ (z0_ 9) z8_))) (a0f 1 a3a (z6_ (z0_ 9) z8_)) a0j) (mC (.str "table")))) (v0_ (mC (.bl false))) mNx) (y4_ (mT (z4_ (dEq true) (a0u xN [false,false,false,false,false,false,false,false,false,true,false] (mCD 1 a1Y (z6_ (z0_ 9) z8_)) (a0f 1 a3z (z6_ (z0_ 9) z8_)) a0j) (mC (.str "table")))) (v0_ (mC (.bl false))) mNx))) mNx)))))))))))
abbrev tB:Mo Fl:=(q1_ (y4_ (x2_ (mT (mCD 1 a3F (z6_ (z0_ 7) z8_)))) (v0_ (mC (.bl false))) mNx) (q1_ (v2_ 10 (z4_ k6_ (z0_ 6) (mCB g5_ (z1_ (mF (v1_ (y0_ (mCD 1 a1j (z6_ (z0_ 7) z8_))) [false,false,false,false,false,false,false,false,false,false,false] 1 (gN 11) v3_ (mCB g5_ (z1_ (z0_ 11) z3_)))) z3_)))) (y4_ (x2_ (mT (mCD 2 (j7_ 6) (z6_ (mCD 1 a1Y (z6_ (z0_ 7) z8_)) (z6_ (z0_ 10) z8_))))) (v0_ (mC (.bl false))) mNx)))
abbrev gB:Mo Fl:=(y4_ (x2_ (mT (mCD 1 a1Z (z6_ (z0_ 9) z8_)))) (q1_ (y4_ (mT (z4_ (dEq true) (a0u xN [false,false,false,false,false,false,false,false,true,true,false] (mCD 2 a0K (z6_ (z0_ 9) (z6_ (z0_ 8) z8_))) (a0f 2 a0V (z6_ (z0_ 9) (z6_ (z0_ 8) z8_))) a0j) (mC (.str "table")))) (v0_ (mC (.bl false))) mNx) (q1_ (y4_ (mT (z4_ (dEq true) (a0u xN [false,false,false,false,false,false,false,false,false,true,false] (mF (a0e 1 a1X (z6_ (z0_ 9) z8_))) (a0f 1 a3a (z6_ (z0_ 9) z8_)) a0j) (mC (.str "table")))) (v0_ (mC (.bl false))) mNx) (y4_ (mT (z4_ (dEq true) (a0u xN [false,false,false,false,false,false,false,false,false,true,false] (mCD 1 a1Y (z6_ (z0_ 9) z8_)) (a0f 1 a3z (z6_ (z0_ 9) z8_)) a0j) (mC (.str "table")))) (v0_ (mC (.bl false))) mNx))) mNx)
theorem b0K{f:OO}(h1:1≤n)(h6:n≤6)(F:TabF n f)(w0 w1 w2 w3 w4 w5 w8 w9 w10:W):∃y10,tB [w0,w1,w2,w3,w4,w5,.dat (.int (SS (n+1) (HH idf))),.dat (dT (gm n n f)),w8,w9,w10]=some (.nx,[w0,w1,w2,w3,w4,w5,.dat (.int (SS (n+1) (HH idf))),.dat (dT (gm n n f)),w8,w9,y10]):=by
 have h:=b4R h1 h6
 unfold idk at h;simp only[Qw,Ye,Zz]at h;obtain⟨⟨_,a2⟩,_⟩:=h;obtain⟨_,q1⟩:=c5D h1 h6 F;have q2:=c4D h1 h6 F;have q3:∀v:Int,∃ws,j7_ 6 [.dat (.int v),.dat (.int v)]=some (.d (.bl true),ws):=fun v=>by
  have:=b4U (k:=5) (d:=.int v) (i:=v) (b4T v);rw[b0J]at this;exact⟨_,this⟩
 have e0:ltv n-SS (n+1) (HH f)=SS (n+1) (HH idf)-SS (n+1) (HH f):=by omega
 rw[e0]at q2;obtain⟨_,q3⟩:=q3 (SS (n+1) (HH idf)-SS (n+1) (HH f));have q4:=b5E (n:=n) (f:=f) (M:=z0_ 7) (w0:=w0) (w1:=w1) (w2:=w2) (w3:=w3) (w4:=w4) (w5:=w5) (w6:=.dat (.int (SS (n+1) (HH idf)))) (w7:=.dat (dT (gm n n f))) (w8:=w8) (w9:=w9) (w10:=w10) h6 rfl;generalize dT (gm n n f)=A at *;generalize SS (n+1) (HH idf)=L at *;generalize SS (n+1) (HH f)=M at *;refine⟨.dat (.int (L-M)),?_⟩;refine y6_ (a0v (a0G (b:=true) (j4_ (c1 rfl q1))) rfl) ?_
 refine y6_ (g2_ (e1:=[w0,w1,w2,w3,w4,w5,.dat (.int L),.dat A,w8,w9,w10]) (e2:=[w0,w1,w2,w3,w4,w5,.dat (.int L),.dat A,w8,w9,.dat (.int (L-M))]) (q5_ rfl q4 rfl) rfl) ?_
 exact a0v (a0G (b:=true) (j4_ (c2 (c1 rfl q2) rfl q3))) rfl
theorem c5F(d o:D)(w0 w1 w2 w3 w4 w5 w6 w7 w10:W):gB [w0,w1,w2,w3,w4,w5,w6,w7,.dat o,.dat d,w10]=some (.nx,[w0,w1,w2,w3,w4,w5,w6,w7,.dat o,.dat d,w10]):=by
 have t:=b4A d
 cases h:isT d with
 |true=>
  rw[h]at t;exact a0v (a0G (b:=true) (j4_ (c1 rfl t))) rfl
 |false=>
  rw[h]at t;refine a5p (a0G (b:=false) (j4_ (c1 rfl t))) ?_
  refine y6_ (a0v (j4_ (q5_ (a5r (lw:=[.nil,.nil,.nil,.nil,.nil,.nil,.nil,.nil,.dat o,.dat d,.nil]) rfl (a2v (av:=[.d d,.d o]) rfl rfl rfl (c5x h)) (by decide+kernel) b0F) rfl b0E)) rfl) ?_
  refine y6_ (a0v (j4_ (q5_ (a5r (lw:=[.nil,.nil,.nil,.nil,.nil,.nil,.nil,.nil,.nil,.dat d,.nil]) rfl (a2v (av:=[.d d]) rfl rfl rfl (c5y h)) (by decide+kernel) b0F) rfl b0E)) rfl) ?_
  exact a0v (j4_ (q5_ (a5r (lw:=[.nil,.nil,.nil,.nil,.nil,.nil,.nil,.nil,.nil,.dat d,.nil]) rfl (a2v (av:=[.d d]) rfl rfl rfl (c5z h)) (by decide+kernel) b0F) rfl b0E)) rfl
abbrev st(a:Int)(b:Bool):W:=.own [.int a,.bl b]
theorem s2{fn:Fn}{mm:Mo D}{a:Int}{x r:D}(hm:mm (w0::w1::st a b::ws)=some (x,w0::w1::st a b::ws))(h:fn [.par [.int a,.bl b],.dat x]=some (.d r,.par [.int a',.bl b]::ws')):
  mCD 2 fn (k4_ 2 (z6_ mm z8_)) (w0::w1::st a b::ws)=some (r,w0::w1::st a' b::ws):=by
 refine a1f ((a4Z (e1:=w0::w1::st a b::ws) (w:=st a b) (av:=[.sl 2,.d x]) (i:=2) (c:=[.int a,.bl b]) (c':=[.int a',.bl b]) ?_ rfl rfl rfl rfl h rfl).trans rfl);unfold k4_;rw[a1E hm rfl]
 rfl
theorem s1{fn:Fn}{a:Int}{r:D}(h:fn [.par [.int a,.bl b]]=some (.d r,.par [.int a',.bl b]::ws')):
  mCD 1 fn (k4_ 2 z8_) (w0::w1::st a b::ws)=some (r,w0::w1::st a' b::ws):=
 a1f ((a4Z (e1:=w0::w1::st a b::ws) (w:=st a b) (av:=[.sl 2]) (i:=2) (c:=[.int a,.bl b]) (c':=[.int a',.bl b]) rfl rfl rfl rfl rfl h rfl).trans rfl)
theorem c5G{n:Nat}{w0 w1 w2 w4 w5 w6 w7 w8 w9 w10:W}(h6:n≤6):(mCB g1_ (z1_ (mF (v1_ (j1_ (z1_ (z0_ 3) z3_)) [false,false,false,true,false,false,false,false,false,false,false] 1 (gN 11) v3_ (mCB g1_ (z1_ (mF (v1_ (j1_ (z1_ (z0_ 3) z3_)) [false,false,false,false,false,false,false,false,false,false,false,true] 1 (gN 12) v3_ (mCB a3W (z1_ (z4_ (dEq false) (z0_ 11) (z0_ 12)) z3_)))) z3_)))) z3_)) [w0,w1,w2,.dat (.int (n:Int)),w4,w5,w6,w7,w8,w9,w10]=some (dT (gm n n idf),[w0,w1,w2,.dat (.int (n:Int)),w4,w5,w6,w7,w8,w9,w10]):=by
 refine k2_ (q3_ (k3_ (a1L (α:=Nat) (l:=List.range n) (q:=qN) (f:=fun i=>dR (rw' n (idf i))) (base:=[.nil,.nil,.nil,.dat (.int (n:Int)),.nil,.nil,.nil,.nil,.nil,.nil,.nil]) (a3v (n:=n) rfl rfl (by omega)) (by simp;omega) rfl rfl (fun i _=>k2_ (q3_ (k3_ (a1L (α:=Nat) (l:=List.range n) (q:=qN) (f:=fun j=>D.int (idf i j)) (base:=[.nil,.nil,.nil,.nil,.nil,.nil,.nil,.nil,.nil,.nil,.nil,.dat (.int (i:Int))]) (a3v (n:=n) rfl rfl (by omega)) (by simp;omega) rfl rfl (fun j _=>k2_ (q3_ (q5_ rfl rfl (b2q _ _ _)) rfl) ?_) (fun _=>rfl))) rfl) b0y) (fun _=>rfl))) rfl) b0x
 show some (D.int (if((i:Int)==(j:Int))then 1 else 0))=_
 unfold idf
 by_cases h:(i:Int)=j<;>simp[h]
theorem c5H{n:Nat}{M:Mo D}{e:Env'}(h1:1≤n)(h6:n≤6)(hM:M e=some (dT (gm n n idf),e)):a1V M e=some (dT (gm n n (idr n)),e):=by
 unfold a1V;rw[hM,Qj];show some (D.tup ((gm n n idf).map dR).reverse,e)=_;rw[←List.map_reverse,(b5D h1 h6).1]
 rfl
theorem c5I(ns:List Int)(k:Nat)(hk:k<1000)(w2 w3 w4 w5 w6 w7 w8 w9 w10:W):∃ws':List W,ws'.length=10/\lw [.dat (.lst (ns.map .int)),.dat (.int k),w2,w3,w4,w5,w6,w7,w8,w9,w10]=some (.nx,.dat (.lst (ns.map .int))::ws'):=by
 obtain⟨a,b,a0,est⟩:=c3M ns k hk;generalize D.lst (ns.map .int)=Z at *;obtain⟨v,a1,et,v0,v1,a10⟩:=a5D (a:=a) (m:=6) (b:=b) a0 (by decide) (by decide)
 obtain⟨n,hn⟩:∃n:Nat,(1:Int)+v=(n:Int):=⟨(1+v).toNat,by omega⟩
 have h1:1≤n:=by omega
 have h6:n≤6:=by omega
 obtain⟨T1,a2,et1,a20,t1,l1⟩:=c4g (a:=a1) (b:=b) a10 h1 h6;obtain⟨f,rfl,F⟩:=t1.fn l1;obtain⟨u,a3,eu,u0,u1,a30⟩:=a5D (a:=a2) (m:=11) (b:=b) a20 (by decide) (by decide)
 obtain⟨o,ho,hdo⟩:=a4B (ds:=od n) u0 (by simpa [od]using u1)
 have gs:=b5B h1 h6 F (c5E ho)
 obtain⟨d1,a4,eb1,a40⟩:=c5i (b:=b) (R:=gm n n f) h1 h6 a1M a7b a30;obtain⟨d2,a5,eo,a50⟩:=c5j (b:=b) a40;have I:TabF n idf:=by
  have h:=b4R h1 h6
  unfold idk at h;simp only[Qw]at h;exact(a3I.mp h.1.1).2
 have J:=(b5D h1 h6).2
 have p1:=@c5G n (.dat Z) (.dat (.int k)) (st a1 b) w4 w5 w6 w7 w8 w9 w10 h6
 have p2:=@b5E n idf (z0_ 4) (.dat Z) (.dat (.int k)) (st a2 b) (.dat (.int (n:Int))) (.dat (dT (gm n n idf))) (.dat (dT (gm n n f))) w6 w7 w8 w9 w10 h6 rfl
 have p3:=@c5H n (z0_ 4) [.dat Z,.dat (.int k),st a2 b,.dat (.int (n:Int)),.dat (dT (gm n n idf)),.dat (dT (gm n n f)),.dat (.int (SS (n+1) (HH idf))),w7,w8,w9,w10] h1 h6 rfl
 have c1':=fun y7=>b0K h1 h6 F (.dat Z) (.dat (.int k)) (st a2 b) (.dat (.int (n:Int))) (.dat (dT (gm n n idf))) (.dat (dT (gm n n f))) w8 w9 y7
 have c2':=fun y7=>b0K h1 h6 I (.dat Z) (.dat (.int k)) (st a2 b) (.dat (.int (n:Int))) (.dat (dT (gm n n idf))) (.dat (dT (gm n n f))) w8 w9 y7
 have c3':=fun y7=>b0K h1 h6 J (.dat Z) (.dat (.int k)) (st a2 b) (.dat (.int (n:Int))) (.dat (dT (gm n n idf))) (.dat (dT (gm n n f))) w8 w9 y7
 generalize dT (gm n n f)=A at *;generalize dT (gm n n idf)=C at *;generalize dT (gm n n (idr n))=E at *;generalize SS (n+1) (HH idf)=L at *;obtain⟨e',hl,y7,y10,rfl⟩:=a4Y (g:=gN 7) (b:=tB) (P:=fun e=>∃y7 y10,e=[.dat Z,.dat (.int k),st a2 b,.dat (.int (n:Int)),.dat C,.dat A,.dat (.int L),y7,w8,w9,y10]) (ds:=[A,C,E]) (env:=[.dat Z,.dat (.int k),st a2 b,.dat (.int (n:Int)),.dat C,.dat A,.dat (.int L),w7,w8,w9,w10]) (fun d hd e ⟨y7,y10,he⟩=>by
  subst he;simp only[Qr,Zi,Js]at hd
  rcases hd with rfl|rfl|rfl
  ·obtain⟨z,hz⟩:=c1' y10
   exact⟨_,_,rfl,hz,_,_,rfl⟩
  ·obtain⟨z,hz⟩:=c2' y10
   exact⟨_,_,rfl,hz,_,_,rfl⟩
  ·obtain⟨z,hz⟩:=c3' y10
   exact⟨_,_,rfl,hz,_,_,rfl⟩) ⟨_,_,rfl⟩
 obtain⟨e',hh,y9,rfl⟩:=a4Y (g:=gN 9) (b:=gB) (P:=fun e=>∃y9,e=[.dat Z,.dat (.int k),st a5 b,.dat (.int (n:Int)),.dat C,.dat A,.dat (.int L),y7,.dat o,y9,y10]) (ds:=[d1,d2]) (env:=[.dat Z,.dat (.int k),st a5 b,.dat (.int (n:Int)),.dat C,.dat A,.dat (.int L),y7,.dat o,w9,y10]) (fun d hd e ⟨y9,he⟩=>by
  subst he;exact⟨_,_,rfl,c5F d o _ _ _ _ _ _ _ _ _,_,rfl⟩) ⟨_,rfl⟩
 refine⟨[.dat (.int k),st a5 b,.dat (.int (n:Int)),.dat C,.dat A,.dat (.int L),y7,.dat o,y9,y10],rfl,?_⟩;unfold lw;refine y6_ (a4k (e1:=[.dat Z,.dat (.int k),w2,w3,w4,w5,w6,w7,w8,w9,w10]) (e2:=[.dat Z,.dat (.int k),st a b,w3,w4,w5,w6,w7,w8,w9,w10]) (a3Z (a0S (av:=[.d Z,.d (.int k)]) rfl rfl rfl est)) rfl) ?_
 refine y6_ (g2_ (d:=.int (n:Int)) (e2:=[.dat Z,.dat (.int k),st a1 b,.dat (.int (n:Int)),w4,w5,w6,w7,w8,w9,w10]) (q5_ rfl (s2 rfl et) (by show some (D.int (1+v))=_;rw[hn])) rfl) ?_
 refine y6_ (g2_ (e2:=[.dat Z,.dat (.int k),st a1 b,.dat (.int (n:Int)),.dat C,w5,w6,w7,w8,w9,w10]) p1 rfl) ?_
 refine y6_ (g2_ (e2:=[.dat Z,.dat (.int k),st a2 b,.dat (.int (n:Int)),.dat C,.dat A,w6,w7,w8,w9,w10]) (s2 rfl et1) rfl) ?_
 refine y6_ (g2_ (e2:=[.dat Z,.dat (.int k),st a2 b,.dat (.int (n:Int)),.dat C,.dat A,.dat (.int L),w7,w8,w9,w10]) p2 rfl) ?_
 refine y6_ ((a1F (ds:=[A,C,E]) (e1:=[.dat Z,.dat (.int k),st a2 b,.dat (.int (n:Int)),.dat C,.dat A,.dat (.int L),w7,w8,w9,w10]) (a0R (k3_ (a2b (q3_ rfl (q3_ rfl (q3_ p3 rfl))) (by simp))) rfl)).trans hl) ?_
 refine y6_ (g2_ (d:=.lst (od n)) (e1:=[.dat Z,.dat (.int k),st a2 b,.dat (.int (n:Int)),.dat C,.dat A,.dat (.int L),y7,w8,w9,y10]) (e2:=[.dat Z,.dat (.int k),st a2 b,.dat (.int (n:Int)),.dat C,.dat A,.dat (.int L),y7,.dat (.lst (od n)),w9,y10]) (k3_ (a2b (q3_ rfl (q3_ rfl (q3_ rfl (q3_ rfl (q3_ rfl (q3_ rfl (q3_ rfl (q3_ rfl (q3_ rfl (q3_ (q5_ rfl rfl b0G) (q3_ rfl rfl))))))))))) (by simp[od]))) rfl) ?_
 refine y6_ (g2_ (d:=o) (e2:=[.dat Z,.dat (.int k),st a3 b,.dat (.int (n:Int)),.dat C,.dat A,.dat (.int L),y7,.dat o,w9,y10]) (q5_ rfl (s2 rfl eu) hdo) rfl) ?_
 refine y6_ (a0v (j4_ (q5_ (a5r (lw:=[.nil,.nil,.nil,.nil,.nil,.dat A,.nil,.nil,.dat o,.nil,.nil]) rfl (a2v (av:=[.d A,.d o]) rfl rfl rfl gs) (by decide+kernel) b5A) rfl b5z)) rfl) ?_
 exact(a1F (ds:=[d1,d2]) (a0R (k3_ (a2b (q3_ (s2 rfl eb1) (q3_ (s1 eo) rfl)) (by simp))) rfl)).trans hh
theorem c5J:∀ns:List Int,ns.length≤63->∃ws',a6X [.dat (.lst (ns.map D.int))]=some (.d (.bl true),ws'):=by
 intro ns hns;refine c1v (C:=6) (N:=9) (by decide) (by decide) (fun k hk ws hw=>?_) fun ws hw=>?_
 ·match ws,hw with
  |[w2,w3,w4,w5,w6,w7,w8,w9,w10],_=>exact c5I ns k hk w2 w3 w4 w5 w6 w7 w8 w9 w10
 ·exact⟨_,rfl⟩
end K63
namespace K63
open L2 L2.Mir PySem
theorem c5K{P:Program}(w:World)(mg:OU)(fa:Addr)(h:Heap)(X:(hK w.params).In h)(G:h.Ns mainGlobals mg)(hfa:mg "law"=some (.ref fa)):
 ∃fd:FuncData,(∀(s:Shared) (v:Value),BindsTo s fd ⟨[v],[]⟩ [("_law_script",v)])/\PySem.W.noTabs (hK w.params)=true/\(∀p∈[418,423],∃c,PySem.W.codeHdIn (hK w.params) c p=true)/\∀base:Heap,(hK w.params).In base->base.Ns mainGlobals mg->a2q mg base->FnOk P w (hK w.params) mg base CX0 11 fa fd ["_law_script"] (SpT (hK w.params) [418,423] 1 a6X):=by
 have A1:DfAt (hK w.params) "is_whole" a9b 190 (.str "turnsigns.grids" 415) 189:=by constructor<;>kernel_rfl
 have A2:DfAt (hK w.params) "is_row" a9c 195 (.str "turnsigns.grids" 415) 194:=by constructor<;>kernel_rfl
 have A3:DfAt (hK w.params) "is_grid" a9d 200 (.str "turnsigns.grids" 415) 199:=by constructor<;>kernel_rfl
 have A4:DfAt (hK w.params) "is_square" a9e 207 (.str "turnsigns.grids" 415) 206:=by constructor<;>kernel_rfl
 have A5:DfAt (hK w.params) "flipped" a9f 212 (.str "turnsigns.grids" 415) 211:=by constructor<;>kernel_rfl
 have A6:DfAt (hK w.params) "running_sums" a9g 219 (.str "turnsigns.grids" 415) 218:=by constructor<;>kernel_rfl
 have A7:DfAt (hK w.params) "rises" a9h 224 (.str "turnsigns.grids" 415) 223:=by constructor<;>kernel_rfl
 have A8:DfAt (hK w.params) "sums_across" a9i 229 (.str "turnsigns.grids" 415) 228:=by constructor<;>kernel_rfl
 have A9:DfAt (hK w.params) "sums_down" a9j 236 (.str "turnsigns.grids" 415) 235:=by constructor<;>kernel_rfl
 have A10:DfAt (hK w.params) "rises_across" a9k 241 (.str "turnsigns.grids" 415) 240:=by constructor<;>kernel_rfl
 have A11:DfAt (hK w.params) "rises_down" a9l 248 (.str "turnsigns.grids" 415) 247:=by constructor<;>kernel_rfl
 have A12:DfAt (hK w.params) "takes_turns" a9m 255 (.str "turnsigns.tables" 492) 254:=by constructor<;>kernel_rfl
 have A13:DfAt (hK w.params) "is_table" a9n 260 (.str "turnsigns.tables" 492) 259:=by constructor<;>kernel_rfl
 have A14:DfAt (hK w.params) "must_be_table" a6R 267 (.str "turnsigns.tables" 492) 266:=by constructor<;>kernel_rfl
 have A15:DfAt (hK w.params) "summed" a9o 274 (.str "turnsigns.tables" 492) 273:=by constructor<;>kernel_rfl
 have A16:DfAt (hK w.params) "unsummed" a9p 281 (.str "turnsigns.tables" 492) 280:=by constructor<;>kernel_rfl
 have A17:DfAt (hK w.params) "can_fall" a9q 288 (.str "turnsigns.orders" 532) 287:=by constructor<;>kernel_rfl
 have A18:DfAt (hK w.params) "steps_in" a9r 293 (.str "turnsigns.orders" 532) 292:=by constructor<;>kernel_rfl
 have A19:DfAt (hK w.params) "fallen" a9s 300 (.str "turnsigns.orders" 532) 299:=by constructor<;>kernel_rfl
 have A20:DfAt (hK w.params) "steps_of" a6S 307 (.str "turnsigns.orders" 532) 306:=by constructor<;>kernel_rfl
 have A21:DfAt (hK w.params) "stepped" a6T 314 (.str "turnsigns.orders" 532) 313:=by constructor<;>kernel_rfl
 have A22:DfAt (hK w.params) "lowest_total" a9t 319 (.str "turnsigns.orders" 532) 318:=by constructor<;>kernel_rfl
 have A23:DfAt (hK w.params) "steps_from_lowest" a6U 324 (.str "turnsigns.orders" 532) 323:=by constructor<;>kernel_rfl
 have A24:DfAt (hK w.params) "_law_cell_at" a9u 331 (.str "law_turnsigns_k63_steps_up" 592) 330:=by constructor<;>kernel_rfl
 have A25:DfAt (hK w.params) "_law_state" a9v 338 (.str "law_turnsigns_k63_steps_up" 592) 337:=by constructor<;>kernel_rfl
 have A26:DfAt (hK w.params) "_law_take" a9w 345 (.str "law_turnsigns_k63_steps_up" 592) 344:=by constructor<;>kernel_rfl
 have A27:DfAt (hK w.params) "_law_rows" a9x 350 (.str "law_turnsigns_k63_steps_up" 592) 349:=by constructor<;>kernel_rfl
 have A28:DfAt (hK w.params) "_law_held" a9y 355 (.str "law_turnsigns_k63_steps_up" 592) 354:=by constructor<;>kernel_rfl
 have A29:DfAt (hK w.params) "_law_table" a9z 360 (.str "law_turnsigns_k63_steps_up" 592) 359:=by constructor<;>kernel_rfl
 have A30:DfAt (hK w.params) "_law_whole" a9A 367 (.str "law_turnsigns_k63_steps_up" 592) 366:=by constructor<;>kernel_rfl
 have A31:DfAt (hK w.params) "_law_turns" a9B 372 (.str "law_turnsigns_k63_steps_up" 592) 371:=by constructor<;>kernel_rfl
 have A32:DfAt (hK w.params) "_law_is_table" a9C 377 (.str "law_turnsigns_k63_steps_up" 592) 376:=by constructor<;>kernel_rfl
 have A33:DfAt (hK w.params) "_law_odd" a9D 384 (.str "law_turnsigns_k63_steps_up" 592) 383:=by constructor<;>kernel_rfl
 have A34:DfAt (hK w.params) "_law_bent" a9E 391 (.str "law_turnsigns_k63_steps_up" 592) 390:=by constructor<;>kernel_rfl
 have A35:DfAt (hK w.params) "_law_heights" a9F 396 (.str "law_turnsigns_k63_steps_up" 592) 395:=by constructor<;>kernel_rfl
 have A36:DfAt (hK w.params) "_law_from" a9G 401 (.str "law_turnsigns_k63_steps_up" 592) 400:=by constructor<;>kernel_rfl
 have A37:DfAt (hK w.params) "_law_same" a9H 406 (.str "law_turnsigns_k63_steps_up" 592) 405:=by constructor<;>kernel_rfl
 have A38:DfAt (hK w.params) "_law_refused" a9I 411 (.str "law_turnsigns_k63_steps_up" 592) 410:=by constructor<;>kernel_rfl
 have A39:DfAt (hK w.params) "_law_behind" a9J 416 (.str "law_turnsigns_k63_steps_up" 592) 415:=by constructor<;>kernel_rfl
 have A40:DfAt (hK w.params) "_law_right" a9K 421 (.str "law_turnsigns_k63_steps_up" 592) 420:=by constructor<;>kernel_rfl
 have A41:DfAt (hK w.params) "law" a4m 426 (.str "law_turnsigns_k63_steps_up" 592) 425:=by constructor<;>kernel_rfl
 have e:=hfa.symm.trans (Xf X G A41.a)
 cases e;have T:Txt (hK w.params) mg:=⟨by kernel_rfl,Zf X G (by kernel_rfl),Zf X G (by kernel_rfl),Zf X G (by kernel_rfl),Zf X G (by kernel_rfl),Zf X G (by kernel_rfl),Zf X G (by kernel_rfl),Zf X G (by kernel_rfl),Zf X G (by kernel_rfl),Zf X G (by kernel_rfl),Zf X G (by kernel_rfl),Zf X G (by kernel_rfl),Zf X G (by kernel_rfl),Zf X G (by kernel_rfl),Zf X G (by kernel_rfl),⟨494,Xf X G (by kernel_rfl)⟩⟩
 have F1:=A1.f
 have b1:=F1.binds (ps:=["thing"]) fun _ _ _ _ _ _=>us1 fun _=>rfl
 have F2:=A2.f
 have b2:=F2.binds (ps:=["thing","width"]) fun _ _ _ _ _ _=>us2 fun _ _=>rfl
 have F3:=A3.f
 have b3:=F3.binds (ps:=["thing","many","width"]) fun _ _ _ _ _ _=>us3 fun _ _ _=>rfl
 have F4:=A4.f
 have b4:=F4.binds (ps:=["thing","least","greatest"]) fun _ _ _ _ _ _=>us3 fun _ _ _=>rfl
 have F5:=A5.f
 have b5:=F5.binds (ps:=["grid"]) fun _ _ _ _ _ _=>us1 fun _=>rfl
 have F6:=A6.f
 have b6:=F6.binds (ps:=["row"]) fun _ _ _ _ _ _=>us1 fun _=>rfl
 have F7:=A7.f
 have b7:=F7.binds (ps:=["row"]) fun _ _ _ _ _ _=>us1 fun _=>rfl
 have F8:=A8.f
 have b8:=F8.binds (ps:=["grid"]) fun _ _ _ _ _ _=>us1 fun _=>rfl
 have F9:=A9.f
 have b9:=F9.binds (ps:=["grid"]) fun _ _ _ _ _ _=>us1 fun _=>rfl
 have F10:=A10.f
 have b10:=F10.binds (ps:=["grid"]) fun _ _ _ _ _ _=>us1 fun _=>rfl
 have F11:=A11.f
 have b11:=F11.binds (ps:=["grid"]) fun _ _ _ _ _ _=>us1 fun _=>rfl
 have F12:=A12.f
 have b12:=F12.binds (ps:=["line"]) fun _ _ _ _ _ _=>us1 fun _=>rfl
 have F13:=A13.f
 have b13:=F13.binds (ps:=["thing"]) fun _ _ _ _ _ _=>us1 fun _=>rfl
 have F14:=A14.f
 have b14:=F14.binds (ps:=["thing"]) fun _ _ _ _ _ _=>us1 fun _=>rfl
 have F15:=A15.f
 have b15:=F15.binds (ps:=["table"]) fun _ _ _ _ _ _=>us1 fun _=>rfl
 have F16:=A16.f
 have b16:=F16.binds (ps:=["heights"]) fun _ _ _ _ _ _=>us1 fun _=>rfl
 have F17:=A17.f
 have b17:=F17.binds (ps:=["heights","row","column"]) fun _ _ _ _ _ _=>us3 fun _ _ _=>rfl
 have F18:=A18.f
 have b18:=F18.binds (ps:=["heights"]) fun _ _ _ _ _ _=>us1 fun _=>rfl
 have F19:=A19.f
 have b19:=F19.binds (ps:=["heights","place"]) fun _ _ _ _ _ _=>us2 fun _ _=>rfl
 have F20:=A20.f
 have b20:=F20.binds (ps:=["table"]) fun _ _ _ _ _ _=>us1 fun _=>rfl
 have F21:=A21.f
 have b21:=F21.binds (ps:=["table","place"]) fun _ _ _ _ _ _=>us2 fun _ _=>rfl
 have F22:=A22.f
 have b22:=F22.binds (ps:=["side"]) fun _ _ _ _ _ _=>us1 fun _=>rfl
 have F23:=A23.f
 have b23:=F23.binds (ps:=["table"]) fun _ _ _ _ _ _=>us1 fun _=>rfl
 have F24:=A24.f
 have b24:=F24.binds (ps:=["_law_script","_law_k"]) fun _ _ _ _ _ _=>us2 fun _ _=>rfl
 have F25:=A25.f
 have b25:=F25.binds (ps:=["_law_script","_law_k"]) fun _ _ _ _ _ _=>us2 fun _ _=>rfl
 have F26:=A26.f
 have b26:=F26.binds (ps:=["_law_state_here","_law_many"]) fun _ _ _ _ _ _=>us2 fun _ _=>rfl
 have F27:=A27.f
 have b27:=F27.binds (ps:=["_law_held_here"]) fun _ _ _ _ _ _=>us1 fun _=>rfl
 have F28:=A28.f
 have b28:=F28.binds (ps:=["_law_held_here","_law_row"]) fun _ _ _ _ _ _=>us2 fun _ _=>rfl
 have F29:=A29.f
 have b29:=F29.binds (ps:=["_law_state_here","_law_side"]) fun _ _ _ _ _ _=>us2 fun _ _=>rfl
 have F30:=A30.f
 have b30:=F30.binds (ps:=["_law_thing"]) fun _ _ _ _ _ _=>us1 fun _=>rfl
 have F31:=A31.f
 have b31:=F31.binds (ps:=["_law_row"]) fun _ _ _ _ _ _=>us1 fun _=>rfl
 have F32:=A32.f
 have b32:=F32.binds (ps:=["_law_thing"]) fun _ _ _ _ _ _=>us1 fun _=>rfl
 have F33:=A33.f
 have b33:=F33.binds (ps:=["_law_state_here"]) fun _ _ _ _ _ _=>us1 fun _=>rfl
 have F34:=A34.f
 have b34:=F34.binds (ps:=["_law_state_here","_law_table_here"]) fun _ _ _ _ _ _=>us2 fun _ _=>rfl
 have F35:=A35.f
 have b35:=F35.binds (ps:=["_law_table_here"]) fun _ _ _ _ _ _=>us1 fun _=>rfl
 have F36:=A36.f
 have b36:=F36.binds (ps:=["_law_heights_here"]) fun _ _ _ _ _ _=>us1 fun _=>rfl
 have F37:=A37.f
 have b37:=F37.binds (ps:=["_law_found","_law_due"]) fun _ _ _ _ _ _=>us2 fun _ _=>rfl
 have F38:=A38.f
 have b38:=F38.binds (ps:=["_law_call"]) fun _ _ _ _ _ _=>us1 fun _=>rfl
 have F39:=A39.f
 have b39:=F39.binds (ps:=["_law_table_here","_law_place"]) fun _ _ _ _ _ _=>us2 fun _ _=>rfl
 have F40:=A40.f
 have b40:=F40.binds (ps:=["_law_table_here"]) fun _ _ _ _ _ _=>us1 fun _=>rfl
 have F41:=A41.f
 have b41:=F41.binds (ps:=["_law_script"]) fun _ _ _ _ _ _=>us1 fun _=>rfl
 have tc__law_right:a5f (hK w.params) (.ref 420) 418=true:=by kernel_rfl
 have tc_law:a5f (hK w.params) (.ref 425) 423=true:=by kernel_rfl
 refine⟨PySem.W.fnOf "law" "law" (a3h a4m) (a1n a4m) (y2_ a4m) .none .none .none (.str "law_turnsigns_k63_steps_up" 592) none (.ref 425) .none,fun s v=>.of_eq rfl,by kernel_rfl,fun p hp=>?_,fun base _ _ hBm=>?_⟩
 ·simp only[Qr,Zi,Js]at hp
  rcases hp with rfl|rfl
  ·obtain⟨c,_,hc⟩:=a8A tc__law_right
   exact⟨c,hc⟩
  ·obtain⟨c,_,hc⟩:=a8A tc_law
   exact⟨c,hc⟩
 have d_is_whole:Def P w (hK w.params) mg base "is_whole" 1 1 a2w:=⟨_,_,_,c1I F1 T,rfl,A1.g X G,A1.k,b1⟩
 have d_is_row:Def P w (hK w.params) mg base "is_row" 2 2 a0x:=⟨_,_,_,c1K F2 T d_is_whole,rfl,A2.g X G,A2.k,b2⟩
 have d_is_grid:Def P w (hK w.params) mg base "is_grid" 3 3 a4n:=⟨_,_,_,c1M F3 T d_is_row,rfl,A3.g X G,A3.k,b3⟩
 have d_is_square:Def P w (hK w.params) mg base "is_square" 4 3 a3x:=⟨_,_,_,c1O F4 T d_is_grid,rfl,A4.g X G,A4.k,b4⟩
 have d_flipped:Def P w (hK w.params) mg base "flipped" 1 1 a0y:=⟨_,_,_,c1Q F5 T,rfl,A5.g X G,A5.k,b5⟩
 have d_running_sums:Def P w (hK w.params) mg base "running_sums" 1 1 a4o:=⟨_,_,_,c1R F6 T,rfl,A6.g X G,A6.k,b6⟩
 have d_rises:Def P w (hK w.params) mg base "rises" 1 1 a4p:=⟨_,_,_,c1T F7 T,rfl,A7.g X G,A7.k,b7⟩
 have d_sums_across:Def P w (hK w.params) mg base "sums_across" 2 1 a2X:=⟨_,_,_,c1V F8 T d_running_sums,rfl,A8.g X G,A8.k,b8⟩
 have d_sums_down:Def P w (hK w.params) mg base "sums_down" 3 1 a5u:=⟨_,_,_,c1X F9 T d_flipped d_sums_across,rfl,A9.g X G,A9.k,b9⟩
 have d_rises_across:Def P w (hK w.params) mg base "rises_across" 2 1 a2Y:=⟨_,_,_,c1Z F10 T d_rises,rfl,A10.g X G,A10.k,b10⟩
 have d_rises_down:Def P w (hK w.params) mg base "rises_down" 3 1 a5v:=⟨_,_,_,c2b F11 T d_flipped d_rises_across,rfl,A11.g X G,A11.k,b11⟩
 have d_takes_turns:Def P w (hK w.params) mg base "takes_turns" 1 1 a2Z:=⟨_,_,_,c2c F12 T,rfl,A12.g X G,A12.k,b12⟩
 have d_is_table:Def P w (hK w.params) mg base "is_table" 5 1 a3y:=⟨_,_,_,c2e F13 T d_is_square d_takes_turns d_flipped,rfl,A13.g X G,A13.k,b13⟩
 have d_must_be_table:Def P w (hK w.params) mg base "must_be_table" 6 1 a0J:=⟨_,_,_,c2f F14 T d_is_table,rfl,A14.g X G,A14.k,b14⟩
 have dx_must_be_table:DefX P w (hK w.params) mg base "must_be_table" 6 1 a1y:=⟨_,_,_,c2g F14 T d_is_table,rfl,A14.g X G,A14.k,b14⟩
 have d_summed:Def P w (hK w.params) mg base "summed" 4 1 a1i:=⟨_,_,_,c2i F15 T d_sums_across d_sums_down,rfl,A15.g X G,A15.k,b15⟩
 have d_unsummed:Def P w (hK w.params) mg base "unsummed" 4 1 a4q:=⟨_,_,_,c2k F16 T d_rises_across d_rises_down,rfl,A16.g X G,A16.k,b16⟩
 have d_can_fall:Def P w (hK w.params) mg base "can_fall" 1 3 a4r:=⟨_,_,_,c2l F17 T,rfl,A17.g X G,A17.k,b17⟩
 have d_steps_in:Def P w (hK w.params) mg base "steps_in" 2 1 a1z:=⟨_,_,_,c2m F18 T d_can_fall,rfl,A18.g X G,A18.k,b18⟩
 have d_fallen:Def P w (hK w.params) mg base "fallen" 1 2 a4s:=⟨_,_,_,c2n F19 T,rfl,A19.g X G,A19.k,b19⟩
 have d_steps_of:Def P w (hK w.params) mg base "steps_of" 7 1 a1X:=⟨_,_,_,c2o F20 T d_must_be_table d_steps_in d_summed,rfl,A20.g X G,A20.k,b20⟩
 have dx_steps_of:DefX P w (hK w.params) mg base "steps_of" 7 1 a3a:=⟨_,_,_,c2q F20 T d_must_be_table d_steps_in d_summed dx_must_be_table,rfl,A20.g X G,A20.k,b20⟩
 have d_stepped:Def P w (hK w.params) mg base "stepped" 7 2 a0K:=⟨_,_,_,c2r F21 T d_must_be_table d_summed d_unsummed d_fallen d_is_row d_steps_in,rfl,A21.g X G,A21.k,b21⟩
 have dx_stepped:DefX P w (hK w.params) mg base "stepped" 7 2 a0V:=⟨_,_,_,c2s F21 T d_must_be_table d_summed d_unsummed d_fallen d_is_row d_steps_in dx_must_be_table,rfl,A21.g X G,A21.k,b21⟩
 have d_lowest_total:Def P w (hK w.params) mg base "lowest_total" 1 1 a2x:=⟨_,_,_,c2v F22 T,rfl,A22.g X G,A22.k,b22⟩
 have d_steps_from_lowest:Def P w (hK w.params) mg base "steps_from_lowest" 7 1 a1Y:=⟨_,_,_,c2x F23 T d_must_be_table d_lowest_total d_summed,rfl,A23.g X G,A23.k,b23⟩
 have dx_steps_from_lowest:DefX P w (hK w.params) mg base "steps_from_lowest" 7 1 a3z:=⟨_,_,_,c2z F23 T d_must_be_table d_lowest_total d_summed dx_must_be_table,rfl,A23.g X G,A23.k,b23⟩
 have d__law_cell_at:Def P w (hK w.params) mg base "_law_cell_at" 1 2 a4t:=⟨_,_,_,c2B F24 T,rfl,A24.g X G,A24.k,b24⟩
 have d__law_state:Def P w (hK w.params) mg base "_law_state" 2 2 a4u:=⟨_,_,_,c2C F25 T d__law_cell_at,rfl,A25.g X G,A25.k,b25⟩
 have d__law_take:Def P w (hK w.params) mg base "_law_take" 1 2 w5_:=⟨_,_,_,c2D F26 T,rfl,A26.g X G,A26.k,b26⟩
 have d__law_rows:Def P w (hK w.params) mg base "_law_rows" 1 1 a3b:=⟨_,_,_,c2G F27 T,rfl,A27.g X G,A27.k,b27⟩
 have d__law_held:Def P w (hK w.params) mg base "_law_held" 1 2 a3A:=⟨_,_,_,c2J F28 T,rfl,A28.g X G,A28.k,b28⟩
 have d__law_table:Def P w (hK w.params) mg base "_law_table" 2 2 a4v:=⟨_,_,_,c2M F29 T d__law_take d__law_rows d__law_held,rfl,A29.g X G,A29.k,b29⟩
 have d__law_whole:Def P w (hK w.params) mg base "_law_whole" 1 1 a4w:=⟨_,_,_,c2P F30 T,rfl,A30.g X G,A30.k,b30⟩
 have d__law_turns:Def P w (hK w.params) mg base "_law_turns" 1 1 a2y:=⟨_,_,_,c2S F31 T,rfl,A31.g X G,A31.k,b31⟩
 have d__law_is_table:Def P w (hK w.params) mg base "_law_is_table" 2 1 a1Z:=⟨_,_,_,c2W F32 T d__law_turns d__law_whole,rfl,A32.g X G,A32.k,b32⟩
 have d__law_odd:Def P w (hK w.params) mg base "_law_odd" 2 1 a4x:=⟨_,_,_,c2X F33 T d__law_take,rfl,A33.g X G,A33.k,b33⟩
 have d__law_bent:Def P w (hK w.params) mg base "_law_bent" 2 2 a4y:=⟨_,_,_,c2Y F34 T d__law_take,rfl,A34.g X G,A34.k,b34⟩
 have d__law_heights:Def P w (hK w.params) mg base "_law_heights" 1 1 a1j:=⟨_,_,_,c3b F35 T,rfl,A35.g X G,A35.k,b35⟩
 have d__law_from:Def P w (hK w.params) mg base "_law_from" 1 1 a3C:=⟨_,_,_,c3f F36 T,rfl,A36.g X G,A36.k,b36⟩
 have d__law_same:Def P w (hK w.params) mg base "_law_same" 7 2 (j7_ 6):=⟨_,_,_,b3Y F37 T (A37.g X G) A37.k b37 6,rfl,A37.g X G,A37.k,b37⟩
 have d__law_refused:=c3l (P:=P) (w:=w) (mg:=mg) (base:=base) F38 T (A38.g X G) b38
 have d__law_behind:Def P w (hK w.params) mg base "_law_behind" 3 2 a3E:=⟨_,_,_,c3n F39 T d__law_from d__law_is_table d__law_heights,rfl,A39.g X G,A39.k,b39⟩
 have d__law_right:DefT P w (hK w.params) mg base "_law_right" 10 1 a3F [418]:=⟨_,_,_,c3r F40 rfl T (b2M tc__law_right A40.c (by kernel_rfl) hBm) d_steps_of d__law_same d__law_behind d__law_refused d_stepped dx_steps_of dx_stepped,rfl,A40.g X G,A40.k,b40⟩
 exact c3w F41 rfl T (b2M tc_law A41.c (by kernel_rfl) hBm) d__law_state d__law_table d__law_take d__law_refused d__law_bent d__law_odd d__law_right d__law_same d__law_is_table d__law_heights d_steps_from_lowest d_stepped d_steps_of dx_steps_from_lowest dx_stepped dx_steps_of
end K63
open PySem PySem.W PyProof.Rows
set_option maxRecDepth 100000 in
set_option maxHeartbeats 0 in
theorem PySem.Challenge.cw_turnsigns_k63_steps_up_holds : PySem.Challenge.rw_turnsigns_k63_steps_up.Holds := by
 o_law
 refine PySem.W.holds_open (r:=PySem.Challenge.rw_turnsigns_k63_steps_up.row) (q:=K63.hQ) (loose:=[]) (Xt:=fun s=>xlAt K63.hQ [] s && recOk [] s) (XP:=XL K63.hQ []) (Yf:=Hook.obs K63.hHk) (Ya:=Hook.val K63.hHk) (YP:=Hook.says K63.hHk) (d:=K63.hDr) (kwd:=[]) (N:=8458) K63.hlf (Hook.of K63.hHk) (Hook.keeps K63.hHk) (fun s e=>xl_of s (Bool.and_eq_true_iff.mp e).1) XL.keeps (by kernel_rfl) (by kernel_rfl) (by kernel_rfl) (fun s e=>recFacts_of (Bool.and_eq_true_iff.mp e).2) rfl (by assumption) (by decide+kernel) ⟨rfl,rfl,rfl,rfl,rfl,by decide+kernel⟩ ⟨[.list []],by decide+kernel,by decide+kernel⟩ ?hc
 exact L2.Mir.c0G (l:=PySem.Challenge.rw_turnsigns_k63_steps_up) (k:=11) (x := "_law_script") (fn:=K63.a6X) rfl rfl ⟨rfl,by decide,by decide⟩ (fun w h Y=>⟨PySem.W.km_in_of Y,PySem.W.km_tabs_of Y⟩) K63.c5K K63.c5J
