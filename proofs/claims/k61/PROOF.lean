import PyProof.Rows.All
import Wide.All
import OpenK.AllK
import Wide.FinOn
import Lean
import PyProof.EqAt
import PyProof.EqKinds
import PyProof.TupleCall
import PySem.Challenge.RW_turnsigns_k61_below_and_above
set_option Elab.async false
set_option linter.all false
set_option maxRecDepth 100000
set_option maxHeartbeats 0
abbrev Qq:=@PySem.wpAny_bind
abbrev Qz:=PySem.W.Frag
abbrev Qj:=@Option.bind_some
abbrev Qx:=@PySem.Heap.get?_push_of_some
abbrev Qk:=@PySem.wpAny_pure
abbrev Qv:=@List.length_map
abbrev Qw:=@PySem.Heap.lt_size
abbrev Qy:=@Bool.and_eq_true
abbrev Qu:=@List.all_eq_true
abbrev Qp:=@Nat.le_refl
abbrev Qb:=@List.getElem?_eq_some_iff
abbrev Qg:=@PySem.Heap.get?_push_size
abbrev Qh:=@List.size_toArray
abbrev Qm:=@List.getElem?_set_ne
abbrev Qn:=@if_pos
abbrev Qc:=@Nat.lt_of_lt_of_le
abbrev Ql:=@List.mem_cons
abbrev Qd:=@Nat.ne_of_lt
abbrev Qr:=@List.map_cons
abbrev Qs:=@List.mem_cons_of_mem
abbrev Qi:=@PySem.wpAny_mono
abbrev Qt:=@List.mem_append_right
abbrev Qa:=@List.length_append
abbrev Qe:=@if_neg
abbrev Qo:=@Bool.false_eq_true
abbrev Zq:=@List.map_map
abbrev Zz:=@PySem.mem_of_lookup
abbrev Zj:=@List.getElem?_map
abbrev Zx:=@List.getElem?_eq_getElem
abbrev Zk:=@PyProof.Rows.slot_tuple_getitem
abbrev Zv:=@PySem.wpAny_field
abbrev Zw:=@List.not_mem_nil
abbrev Zy:=@Ne.symm
abbrev Zu:=@if_true
abbrev Zp:=@PySem.W.mg_none_of
abbrev Zb:=@List.map_congr_left
abbrev Zg:=@decide_eq_false
abbrev Zf:=@List.length_set
abbrev Zh:=@PySem.W.kia_one
abbrev Zm:=@Nat.le_trans
abbrev Zn:=@List.mem_map
abbrev Zc:=@PySem.Heap.size_push
abbrev Zl:=@PySem.wpAny_newObj_type
abbrev Zd:=@List.mem_cons_self
abbrev Zr:=@PySem.wpAny_callSpecial?_slot
abbrev Zs:=@decide_eq_true_eq
abbrev Zi:=@List.getElem?_set_self
abbrev Zt:=@List.mem_range
abbrev Za:=@List.length_replicate
abbrev Ze:=@Option.some.injEq
abbrev Zo:=@if_false
abbrev Yq:=@List.map_append
abbrev Yz:=@List.replicate_succ
abbrev Yj:=@PySem.wpAny_truthy_bool
abbrev Yx:=@congrArg
abbrev Yk:=@Option.isSome_iff_exists
abbrev Yv:=@PySem.F.slot_zip_next
abbrev Yw:=@PyProof.Rows.callWith_type1
abbrev Yy:=@Bool.false_ne_true
abbrev Yu:=@PySem.wpAny_holding
abbrev Yp:=@Bool.true_and
abbrev Yb:=@PySem.wpAny_seqItems
abbrev Yg:=@Int.toNat_natCast
abbrev Yh:=@List.length_zipWith
abbrev Ym:=@Option.some.inj
abbrev Yn:=@List.append_nil
abbrev Yc:=@PySem.wpAny_Call_Name_kw
abbrev Yl:=@PySem.wpAny_call_entry
abbrev Yd:=@PySem.W.Fast.te14364793385576792824
abbrev Yr:=@List.mem_of_getElem?
abbrev Ys:=@PySem.Heap.get?_update_other
abbrev Yi:=@Nat.lt_irrefl
abbrev Yt:=@beq_iff_eq
abbrev Ye:=@List.length_take
abbrev Yo:=@or_false
abbrev Jq:=@PySem.F.slot_tuple_iterator_next
abbrev Jz:=@List.getElem_mem
abbrev Jj:=@PySem.Heap.get?_update_self
abbrev Jx:=@List.getElem?_zipWith
abbrev Jk:=@PySem.wpAny_setField_rec
abbrev Jv:=@List.set_append_right
abbrev Jw:=@List.getElem?_append_left
abbrev Jy:=@List.drop_eq_getElem_cons
abbrev Ju:=@List.nodup_cons
abbrev Jp:=@PySem.wpAny_loadPart'
abbrev Jb:=@List.getElem?_replicate
abbrev Jg:=@beq_eq_false_iff_ne
abbrev Jf:=@List.filterMap_cons
abbrev Jh:=@List.take_of_length_le
abbrev Jm:=@PySem.W.hideAll_get
abbrev Jn:=@congrFun
abbrev Jc:=@PySem.wpAny_standAt
abbrev Jl:=@List.all_cons
abbrev Jd:=@PySem.wpAny_pyIter_list
abbrev Jr:=@Nat.le_of_succ_le
abbrev Js:=@Classical.byContradiction
abbrev Ji:=@PySem.F.plain_extend_loop
abbrev Jt:=@Nat.zero_le
abbrev Ja:=@Bool.false_and
abbrev Je:=@Prod.ext
abbrev Jo:=@Nat.le_of_lt
abbrev Uq:=@List.length_cons
abbrev Uz:=@PySem.F.args_zip_next_1
abbrev Uj:=@List.filter_cons_of_neg
abbrev Ux:=@List.filter_cons_of_pos
abbrev Uk:=@PySem.wpAny_ite_false
abbrev Uv:=@Int.emod_nonneg
abbrev Uw:=@List.range_succ
abbrev Uy:=@PySem.W.cellsFrom_some
abbrev Uu:=@PySem.SeqAt.canLay_of_shaped
abbrev Up:=@PySem.F.entry_zip_next
abbrev Ub:=@List.flatten_cons
abbrev Ug:=@List.append_assoc
abbrev Uf:=@PySem.wpAny_rule
abbrev Uh:=@List.drop_length
abbrev Um:=@PySem.codeAny_call_builtin
abbrev Uc:=@PyProof.Rows.LSm.kept_iter
abbrev Ul:=@List.getElem?_range
abbrev Ud:=@List.mem_filter
abbrev Ur:=@List.mem_append
abbrev Us:=@PySem.wpAny_execs_nil
abbrev Ui:=@PySem.wpAny_passesOwn
abbrev Ut:=@PySem.pushCells_keeps
abbrev Ua:=@Nat.ne_of_gt
abbrev Ue:=@Nat.lt_of_le_of_lt
abbrev Uo:=@PySem.wpAny_pyIter_tuple
abbrev Vq:=@PySem.wpAny_comprehension_free
abbrev Vz:=@PySem.F.args_tuple_add_2
abbrev Vj:=@List.mem_singleton
abbrev Vx:=@Int.emod_lt_of_pos
abbrev Vk:=@List.getElem_range
abbrev Vv:=@decide_eq_true
abbrev Vw:=@List.forIn_nil
abbrev Vy:=@PySem.F.entry_tuple_add
abbrev Vu:=@Nat.lt_succ_of_lt
abbrev Vp:=@PySem.F.args_tuple_iterator_next_1
abbrev Vb:=@List.flatMap_cons
abbrev Vg:=@PySem.F.slot_tuple_add
abbrev Vf:=@PySem.F.entry_tuple_iterator_next
abbrev Vh:=@List.map_id
abbrev Vm:=@PySem.wpAny_onRaise
abbrev Vn:=@List.sum_cons
abbrev Vc:=@Nat.lt_succ_self
abbrev Vl:=@PySem.F.slot_tuple_mul
abbrev Vd:=@Nat.le_add_right
abbrev Vr:=@List.ext_getElem
abbrev Vs:=@List.getElem_map
abbrev Vi:=@PySem.codeAny_mono
abbrev Vt:=@List.of_mem_zip
abbrev Va:=@PySem.wpAny_typeOf
abbrev Ve:=@List.find?_cons
abbrev Vo:=@Nat.lt_trans
abbrev Xq:=@List.nil_append
abbrev Xz:=@List.forIn_cons
abbrev Xj:=@PySem.wpAny_updateSeq_pair
abbrev Xx:=@PySem.codeAny_builtin
abbrev Xk:=@PySem.wpAny_updateSeq
abbrev Xv:=@Array.length_toList
abbrev Xw:=@Array.append_assoc
abbrev Xy:=@PySem.wpAny_Constant_int
abbrev Xu:=@List.mem_filterMap
abbrev Xp:=@PySem.Calls.spliced_cons
abbrev Xb:=@List.contains_cons
abbrev Xg:=@List.any_cons
abbrev Xf:=@PySem.wpAny_attempt
abbrev Xh:=@PySem.W.mg_of
abbrev Xm:=@PySem.W.kitx_list
abbrev Xn:=@List.reverse_cons
abbrev Xc:=@Bool.not_eq_true'
abbrev Xl:=@PySem.call_meets
abbrev Xd:=@Nat.le_of_eq
abbrev Xr:=@List.length_drop
abbrev Xs:=@List.lookup_cons
abbrev Xi:=@List.cons_append
abbrev Xa:=@Nat.sub_self
abbrev Xe:=@Option.map_some
abbrev Xo:=@Bool.or_eq_true
abbrev Tq:=@Nat.min_eq_left
abbrev Tz:=@List.all_append
namespace HG
open PySem PySem.W PySem.Calls PyProof.Rows
noncomputable def hnth {α:Type}(l:List α) (i:Nat) (d:α):α:=@List.rec α (fun _=>Nat->α) (fun _=>d) (fun a _ ih i=>@Nat.rec (fun _=>α) a (fun j _=>ih j) i) l i
def hsN(s:Stmt):Str:=match s with
 |.FunctionDef n ..=>n
 |.ClassDef n ..=>n
 |_=>Str.empty
def hsA(s:Stmt):Arguments:=match s with
 |.FunctionDef _ a ..=>a
 |_=>default
def hsB(s:Stmt):List Stmt:=match s with
 |.FunctionDef _ _ b ..=>b
 |.ClassDef _ _ _ b ..=>b
 |_=>[]
def hsS(s:Stmt):Scope:=match s with
 |.FunctionDef _ _ _ _ _ _ c ..=>c
 |_=>default
def hsP(s:Stmt):Pos:=match s with
 |.FunctionDef _ _ _ _ _ _ _ _ _ p=>p
 |_=>⟨0,0,0,0⟩
def hdep{α:Sort u}(_:α):Bool:=true
def hE(P:Params)(x:Str)(t:Tok)(v:Value):DictEntry:=⟨PyData.keyHash P x,.str x t,v⟩
def hZ:Obj:=⟨.type "tuple",none,.seq ⟨[]⟩ 0,⟨[]⟩⟩
def hU(l:List Value):Obj:=⟨.type "tuple",none,.seq ⟨l⟩ 0,⟨[]⟩⟩
def hN:Obj:=⟨.none,none,.fields ⟨[]⟩,⟨[]⟩⟩
def hC(n:Str)(t t2:Nat)(ln na fl:Int)(a:Addr)(g:Bool)(b:Addr)(v1 v2 v3 v4:Value):Obj:=
 ⟨.type "code",none,.fields ⟨[.str n t,.str n (Nat.add t 1),.str "/claim/cut.py" (Nat.add t 2),.int ln 0,.int na 0,.int 0 0,.int 0 0,.int fl 0,.ref a,.bool g,.int 181 0,.ref b,v1,v2,v3,v4,.int (Int.ofNat t2) 0,.int ln 0,.str "/claim/cut.py" (Nat.add t2 1)]⟩,⟨[]⟩⟩
def hX(s:Stmt)(q:Str)(g:Addr)(cl:List (Str×Addr))(d k dc m:Value)(an:Option Addr)(c ct:Value)(b:Addr):FuncData:=
 ⟨hsN s,q,hsA s,.stmts (hsB s),hsS s,g,cl,d,k,dc,m,an,c,ct,b⟩
def hR(s:Stmt):Obj:=⟨.none,none,.func (hX s (hsN s) 0 [] .none .none .none .none none .none .none 0),⟨[]⟩⟩
def hF(s:Stmt)(m c:Value):Obj:=⟨.type "function",none,.func (hX s (hsN s) 3 [] .none .none .none m none c .none 0),⟨[]⟩⟩
def hD5(s:Stmt)(a t:Nat)(ln na:Int)(m:Value):List Obj:=[hZ,hN,hR s,hC (hsN s) t (Nat.add t 3) ln na 3 a true (Nat.add a 1) .none .none .none (.ref (Nat.add a 2)),hF s m (.ref (Nat.add a 3))]
noncomputable def hvs (l:List Str) (t:Nat):List Value:=@List.rec Str (fun _=>Nat->List Value) (fun _=>[]) (fun x _ ih t=>.str x t::ih (Nat.succ t)) l t
noncomputable def hD7 (s:Stmt) (a t:Nat) (ln na:Int) (m:Value) (l:List Str):List Obj:=[hZ,hN,hU (hvs l (Nat.add t 3)),hZ,hR s,hC (hsN s) t (Nat.add (Nat.add t 3) l.length) ln na 3 a true (Nat.add a 1) .none (.ref (Nat.add a 2)) (.ref (Nat.add a 3)) (.ref (Nat.add a 4)),hF s m (.ref (Nat.add a 5))]
def hCl(P:Params)(s:Stmt)(a t:Nat)(ln:Int)(m:Value):List Obj:=
 [⟨.type "builtin_function_or_method",none,.fields ⟨[.builtin "type.__prepare__",.type "type"]⟩,⟨[]⟩⟩,
  ⟨.type "dict",none,.dict ⟨[hE P "__module__" (Nat.add t 7) m,hE P "__qualname__" (Nat.add t 9) (.str (hsN s) (Nat.add t 8)),hE P "__firstlineno__" (Nat.add t 11) (.int ln (Nat.add t 10)),hE P "__static_attributes__" (Nat.add t 12) (.ref (Nat.add a 6))]⟩ 4,⟨[]⟩⟩,
  hZ,hN,hC (hsN s) (Nat.add t 2) (Nat.add t 5) ln 0 0 (Nat.add a 2) false (Nat.add a 3) .none .none .none .none,
  ⟨.type "frame",none,.plain,⟨[some (.ref (Nat.add a 4)),some (.ref 3),some (.ref (Nat.add a 1)),none,some m,none,some (.ref 0)]⟩⟩,hZ,
  ⟨.type "dict",none,.dict ⟨[hE P "__module__" (Nat.add t 7) m,hE P "__firstlineno__" (Nat.add t 11) (.int ln (Nat.add t 10)),hE P "__static_attributes__" (Nat.add t 12) (.ref (Nat.add a 6)),hE P "__doc__" (Nat.add t 13) .none]⟩ 2,⟨[]⟩⟩,
  ⟨.type "type",none,.cls ⟨hsN s,[.ref 24],[.ref (Nat.add a 8),.ref 24,.type "ValueError",.type "Exception",.type "BaseException",.type "object"],Nat.add a 7,hsN s,true,[],[],false,none,false⟩,⟨[some (.ref (Nat.sub a 1)),none,some (.str (hsN s) t),some (.str (hsN s) (Nat.add t 8)),some (.builtin "ValueError.__new__"),some (.bool true)]⟩⟩,
  ⟨.type "super",none,.fields ⟨[.ref (Nat.add a 8),.ref (Nat.add a 8),.ref (Nat.add a 8)]⟩,⟨[]⟩⟩,
  ⟨.type "builtin_function_or_method",none,.fields ⟨[.builtin "object.__init_subclass__",.ref (Nat.add a 8)]⟩,⟨[]⟩⟩]
noncomputable def hfd (l:List (Nat×List Obj)) (b:Nat):Obj:=@List.rec (Nat×List Obj) (fun _=>Nat->Obj) (fun _=>hZ) (fun x _ ih b=>@Bool.rec (fun _=>Obj) (ih (Nat.sub b x.1)) (hnth x.2 b hZ) (Nat.blt b x.1)) l b
def hL3(l:List (Int×Addr)):List Value:=l.flatMap fun x=>[.int x.1 0,.int 0 0,.ref x.2]
noncomputable def hmk (f:Nat->Obj) (n:Nat) (fuel:Nat):Nat->Nat->BT:=
 @Nat.rec (fun _=>Nat->Nat->BT) (fun _ _=>.nil) (fun _ ih a b=>@Bool.rec (fun _=>BT) .nil (.node (f b) (ih (Nat.mul 2 a) (Nat.add a b)) (ih (Nat.mul 2 a) (Nat.add (Nat.mul 2 a) b))) (Nat.blt b n)) fuel
def hEnv(p:Program)(c:Value)(f:Addr):Env:={scope:=p.main.scope,locals:=mainNs,globals:=mainNs,cells:=[],code:=c,frame:=some f}
def hVw(p:Program)(l:List Nat):Program:={p with main:={p.main with body:=l.map fun i=>p.main.body.getD i (.Pass ⟨0,0,0,0⟩)}}
abbrev hSt(tr:Nat->Params->BT)(k n t:Nat)(w:World)(os:OsState):SharedT:=⟨tr k w.params,n,{},⟨[]⟩,{},t,os⟩
abbrev hCd(p:Program)(ev:Env):Code:=.body (behindTheImports p) ev
def hPre(m0:Nat)(ann:Option Value)(n n0 t0:Nat)(q q0:Pos)(tg:(String->Option Builtin)->Program->World->Nat->Option Value->Nat->Shared->Thread->Option (Shared×Thread))(dn:(String->Option Builtin)->Code->Sem Fin)(tb:String->Option Builtin)(p:Program)(tr:Nat->Params->BT)(ev:Env):Prop:=
 ∀w:World,(fun os=>tg tb p w m0 ann n ⟨boot_heap w.params,⟨[]⟩,boot_drawn,boot_toks,os⟩ (topStub p))=fun os=>some ((hSt tr 0 n0 t0 w os).abs,Thread.mk (dn tb (hCd p ev)) (hCd p ev) q0 [topFrame q])
def hBlk(m0:Nat)(ann:Option Value)(n n0 t0:Nat)(q q0 q1:Pos)(sr:(String->Option Builtin)->Program->World->Nat->Option Value->Nat->Nat->Shared->Thread->Option (Flow×Shared×Code×Pos))(tb:String->Option Builtin)(p:Program)(tr:Nat->Params->BT)(ev:Env):Prop:=
 ∀w:World,(fun os=>sr tb p w m0 ann 1 n (hSt tr 0 n0 t0 w os).abs (blockOf (behindTheImports p) ev (hCd p ev) q0 [topFrame q]))=fun os=>some (.next,(hSt tr 0 n0 t0 w os).abs,hCd p ev,q1)
def hPc(m0:Nat)(ann:Option Value)(n i j k n0 t0 n1 t1:Nat)(q q0 q1:Pos)(sr:(String->Option Builtin)->Program->World->Nat->Option Value->Nat->Nat->SharedT->Thread->Option (Flow×SharedT×Code×Pos))(tb:String->Option Builtin)(p:Program)(tr:Nat->Params->BT)(ev:Env):Prop:=
 ∀w:World,(fun os=>sr tb p w m0 ann 1 n (hSt tr k n0 t0 w os) (piecesOf (((behindTheImports p).drop i).take j) ev (hCd p ev) q0 [topFrame q]))=fun os=>some (.next,hSt tr (Nat.succ k) n1 t1 w os,hCd p ev,q1)
def hFin(m0:Nat)(ann:Option Value)(n k n0 t0:Nat)(q q0:Pos)(sr:(String->Option Builtin)->Program->World->Nat->Option Value->Nat->Shared->Thread->Option Shared)(tb:String->Option Builtin)(p:Program)(tr:Nat->Params->BT)(ev:Env):Prop:=
 ∀w:World,(fun os=>sr tb p w m0 ann n (hSt tr k n0 t0 w os).abs (Thread.mk (doneF .next) (hCd p ev) q0 [topFrame q]))=fun os=>some (hSt tr k n0 t0 w os).abs
variable{m0:Nat}{ann:Option Value}{q q0 q1:Pos}{tb:String->Option Builtin}{p:Program}{tr:Nat->Params->BT}{ev:Env}{n N i j k n0 t0 n1 t1:Nat}{r:Shared}
theorem hgo(h:hPre m0 ann n n0 t0 q q0 topGo denote tb p tr ev)(w:World)(os:OsState)(g:topRun tb p w m0 ann N (hSt tr 0 n0 t0 w os).abs (Thread.mk (denote tb (hCd p ev)) (hCd p ev) q0 [topFrame q])=some r):
  topRun tb p w m0 ann (Nat.add n N) ⟨boot_heap w.params,⟨[]⟩,boot_drawn,boot_toks,os⟩ (topStub p)=some r:=go_top (Jn (h w) os) g
theorem hblkk(h:hBlk m0 ann n n0 t0 q q0 q1 segRun tb p tr ev)(w:World)(os:OsState)(g:topRun tb p w m0 ann N (hSt tr 0 n0 t0 w os).abs (restOf ((behindTheImports p).drop 0) ev (hCd p ev) q1 [topFrame q])=some r):
  topRun tb p w m0 ann (Nat.add n N) (hSt tr 0 n0 t0 w os).abs (Thread.mk (denote tb (hCd p ev)) (hCd p ev) q0 [topFrame q])=some r:=piece_block (Jn (h w) os) g
theorem hpcs(h:hPc m0 ann n i j k n0 t0 n1 t1 q q0 q1 segRunT tb p tr ev)(w:World)(os:OsState)(g:topRun tb p w m0 ann N (hSt tr (Nat.succ k) n1 t1 w os).abs (restOf ((behindTheImports p).drop (Nat.add i j)) ev (hCd p ev) q1 [topFrame q])=some r):
  topRun tb p w m0 ann (Nat.add n N) (hSt tr k n0 t0 w os).abs (restOf ((behindTheImports p).drop i) ev (hCd p ev) q0 [topFrame q])=some r:=by
 have a:=piece_app (segRun_of (Jn (h w) os)) g
 have e:((behindTheImports p).drop i).take j++(behindTheImports p).drop (Nat.add i j)=(behindTheImports p).drop i:=by
  have:=List.take_append_drop j ((behindTheImports p).drop i);rw[List.drop_drop]at this;exact this
 rw[e]at a;exact a
theorem hfin'(e:(behindTheImports p).drop i=[])(h:hFin m0 ann n k n0 t0 q q0 topRun tb p tr ev)(w:World)(os:OsState):
  topRun tb p w m0 ann n (hSt tr k n0 t0 w os).abs (restOf ((behindTheImports p).drop i) ev (hCd p ev) q0 [topFrame q])=some (hSt tr k n0 t0 w os).abs:=by
 rw[e];exact Jn (h w) os
abbrev hSh(H:Params->Heap)(t:Nat)(w:World)(os:OsState):Shared:=⟨H w.params,⟨[]⟩,{},t,os⟩
structure hLk(p v:Program)(H:Params->Heap)(K:Params->Frag)(as ts:List Addr)(t:Nat):Prop where
 l1:∀w:World,(fun os=>staticsOk (PySem.W.Fast.tw5923862056798008813 p.main.body) (boot_heap w.params) (H w.params)&&namesBound p (H w.params)&&gensDone (hSh H t w os)&&laidKept (boot_heap w.params) (H w.params))=fun _=>true
 l2:∀w:World,(fun os=>PySem.W.Fast.tw5160383126252970620 (PySem.W.R.mapR (fun x=>x.name) (PySem.W.Fast.tw3399658132070893891 v)) (PySem.W.Fast.tw5991557255702980513 v) [] (hSh H t w os))=fun _=>expectedOf v
 l3:∀w:World,(H w.params).bltView=bltViewBooted
 l4:∀w:World,(fun os=>PySem.W.Fast.tw10880121769531294198 (H w.params) (PySem.W.Fast.tw821141287760084731 v []) (PySem.W.R.mapR (fun x=>x.name) (PySem.W.Fast.tw3399658132070893891 v)) (PySem.W.R.mapR (fun x=>x.1) (PySem.W.Fast.tw7409074990110511671 v)) (PySem.W.R.mapR (fun x=>x.name) (PySem.W.Fast.tw13664370479719496447 v (PySem.W.Fast.tw821141287760084731 v [])))&&PySem.W.Fast.tw14722251495701143533 (H w.params) (PySem.W.Fast.tw5923862056798008813 p.main.body)&&(H w.params).isNs mainGlobals&&(H w.params).isNs builtinsNs&&PySem.W.Fast.tw10994771534591457954 v (H w.params)&&(xlAt v [] (hSh H t w os)&&recOk [] (hSh H t w os))&&(if true then(hSh H t w os).gens.size==0 else !leftWithCleanup (hSh H t w os).gens))=fun _=>true
 l5:∀w:World,(fun os=>PySem.W.Fast.tw479339242167458305 v (hSh H t w os))=fun _=>true
 l6:∀w:World,(fun os=>PySem.W.Fast.tw16090120013241838585 v (PySem.W.Fast.tw3247288618530077131 v) (hSh H t w os))=fun _=>pinGoodD (PySem.W.Fast.tw3247288618530077131 v)
 l7:∀w:World,(fun os=>PySem.W.Fast.tw2386780881361962483 v (PySem.W.Fast.tw821141287760084731 v []) (hSh H t w os))=fun _=>plainGoodE v (PySem.W.Fast.tw821141287760084731 v [])
 l8:∀w:World,(fun os=>PySem.W.Fast.tw11698064438423848299 v [] (hSh H t w os))=fun _=>plainGoodD v []
 l9:∀w:World,(fun os=>PySem.W.Fast.tw7317090234206586261 v (hSh H t w os))=fun _=>wideGood v
 l10:∀w:World,(fun os=>PySem.W.Fast.tw7369524293546568484 v [] (hSh H t w os))=fun _=>clsGoodW v []
 l11:∀w:World,PySem.W.R.mapR (H w.params).get? as=PySem.W.R.mapR (fun p=>some p.2) (K w.params)
 l12:∀w:World,PySem.W.R.mapR (H w.params).get? ts=PySem.W.R.mapR (fun _=>some (tabObj #[])) ts
theorem hsize(w:World):((boot_heap w.params).isNs mainGlobals&&(Array.mk []:Array GenState).size==0,(boot_heap w.params).objs.size,(boot_heap w.params).nsMap mainGlobals "__annotations__")=(true,11,some (.ref 6)):=by
 rw[PySem.W.Fast.te8920871248978507458,show("__annotations__":Str)=⟨⟨[95,95,97,110,110,111,116,97,116,105,111,110,115,95,95]⟩⟩from PySem.W.Fast.ofString_ofList ['_','_','a','n','n','o','t','a','t','i','o','n','s','_','_']]
 kernel_rfl
theorem hleft{v:Program}{H:Params->Heap}{K:Params->Frag}{as ts:List Addr}{t M:Nat}(e:∀P,as=(K P).map (·.1))(eo:opening p=plainProg p.main.scope.names)(hf:∀s,fenceModules? p s=some s)(hN:Nat.ble 600 N=true)(le:Nat.ble M N=true)
  (run:∀(w:World) (os:OsState),topRun treeTable p w 11 (some (.ref 6)) M ⟨boot_heap w.params,⟨[]⟩,boot_drawn,boot_toks,os⟩ (topStub p)=some (hSh H t w os))(L:hLk p v H K as ts t):
  LeftO p v [] (fun s=>xlAt v [] s&&recOk [] s) (Hook.obs (kmHook K as e ts)) (Hook.val (kmHook K as e ts)) N:=by
 refine LeftO.of_pieces (boot_open eo hN hf) hsize run le fun w=>?_
 have q1:=L.l1 w;have q2:=L.l2 w;have q3:=L.l3 w;have q4:=L.l4 w;have q5:=L.l5 w;have q6:=L.l6 w;have q7:=L.l7 w;have q8:=L.l8 w;have q9:=L.l9 w;have q10:=L.l10 w;have q11:=L.l11 w;have q12:=L.l12 w
 simp only[←PySem.W.Fast.te5923862056798008813,←PySem.W.Fast.te5160383126252970620,←PySem.W.R.mapR_eq,←PySem.W.Fast.te3399658132070893891,←PySem.W.Fast.te5991557255702980513,←PySem.W.Fast.te10880121769531294198,←PySem.W.Fast.te821141287760084731,←PySem.W.Fast.te7409074990110511671,←PySem.W.Fast.te13664370479719496447,←PySem.W.Fast.te14722251495701143533,←PySem.W.Fast.te10994771534591457954,←PySem.W.Fast.te479339242167458305,←PySem.W.Fast.te16090120013241838585,←PySem.W.Fast.te3247288618530077131,←PySem.W.Fast.te2386780881361962483,←PySem.W.Fast.te11698064438423848299,←PySem.W.Fast.te7317090234206586261,←PySem.W.Fast.te7369524293546568484]at q1 q2 q4 q5 q6 q7 q8 q9 q10 q11 q12
 funext os
 unfold openSeen openGood;refine Je (Jn q1 os) (Je (Je (Jn q2 os) (Je q3 (Je (Jn q4 os) (Je (Jn q5 os) (Je (Jn q6 os) (Je (Jn q7 os) (Je (Jn q8 os) (Je (Jn q9 os) (Jn q10 os))))))))) (Je q11 q12))
end HG
namespace K61
noncomputable section
open PySem PySem.W PySem.Calls PyProof.Rows HG
def hS(i:Nat):Stmt:=PySem.Challenge.pw_turnsigns_k61_below_and_above.main.body.getD i (.Pass ⟨0,0,0,0⟩)
def hm0:Value:=(.str "turnsigns.errors" 187)
def hm1:Value:=(.str "turnsigns.grids" 415)
def hm2:Value:=(.str "turnsigns.tables" 492)
def hm3:Value:=(.str "turnsigns.orders" 532)
def hm4:Value:=(.str "law_turnsigns_k61_below_and_above" 566)
def hc0(P:Params):List (Nat×List Obj):=[(15,[boot_o_0 P,boot_o_1 P,boot_o_2 P,hZ,boot_o_4 P,boot_o_5 P,boot_o_6 P,boot_o_7 P,boot_o_8 P,boot_o_9 P,boot_o_10 P,hZ,hZ,hC "<module>" 182 185 1 0 0 11 false 12 .none .none .none .none,⟨(.type "frame"),none,.plain,⟨[(some (.ref 13)),(some (.ref 3)),(some (.ref 3)),none,(some (.str "__main__" 164)),none,(some (.ref 0))]⟩⟩]),(13,[hU [(.type "ValueError")],⟨(.type "builtin_function_or_method"),none,.fields ⟨[(.builtin "type.__prepare__"),(.type "type")]⟩,⟨[]⟩⟩,⟨(.type "dict"),none,.dict ⟨[hE P "__module__" 196 (.str "turnsigns.errors" 187),hE P "__qualname__" 198 (.str "SignError" 197),hE P "__firstlineno__" 200 (.int 2 199),hE P "__static_attributes__" 201 (.ref 22)]⟩ 4,⟨[]⟩⟩,hZ,hN,hC "SignError" 191 194 2 0 0 18 false 19 .none .none .none .none,⟨(.type "frame"),none,.plain,⟨[(some (.ref 20)),(some (.ref 3)),(some (.ref 17)),none,(some (.str "turnsigns.errors" 187)),none,(some (.ref 0))]⟩⟩,hZ,⟨(.type "dict"),none,.dict ⟨[hE P "__module__" 196 (.str "turnsigns.errors" 187),hE P "__firstlineno__" 200 (.int 2 199),hE P "__static_attributes__" 201 (.ref 22),hE P "__weakref__" 203 (.ref 25),hE P "__doc__" 204 .none]⟩ 3,⟨[]⟩⟩,hZ,⟨(.type "getset_descriptor"),none,.fields ⟨[(.str "__weakref__" 202),(.ref 24),(.builtin "ExceptionGroup.__weakref__"),.none]⟩,⟨[]⟩⟩,⟨(.type "super"),none,.fields ⟨[(.ref 24),(.ref 24),(.ref 24)]⟩,⟨[]⟩⟩,⟨(.type "builtin_function_or_method"),none,.fields ⟨[(.builtin "object.__init_subclass__"),(.ref 24)]⟩,⟨[]⟩⟩]),(1,[hU [.ref 24]]),(11,hCl P (hS 2) 29 207 4 hm0),(1,[hU [.ref 24]]),(11,hCl P (hS 3) 41 223 6 hm0),(1,[hU [.ref 24]]),(11,hCl P (hS 4) 53 239 8 hm0),(1,[hU [.ref 24]]),(11,hCl P (hS 5) 65 255 10 hm0)]
def hc1(P:Params):List (Nat×List Obj):=[(1,[hU [.ref 24]]),(11,hCl P (hS 6) 77 271 12 hm0),(1,[hU [.ref 24]]),(11,hCl P (hS 7) 89 287 14 hm0),(1,[hU [.ref 24]]),(11,hCl P (hS 8) 101 303 16 hm0),(1,[hU [.ref 24]]),(11,hCl P (hS 9) 113 319 18 hm0),(1,[hU [.ref 24]]),(11,hCl P (hS 10) 125 335 20 hm0)]
def hc2(P:Params):List (Nat×List Obj):=[(1,[hU [.ref 24]]),(11,hCl P (hS 11) 137 351 22 hm0),(1,[hU [.ref 24]]),(11,hCl P (hS 12) 149 367 24 hm0),(1,[hU [.ref 24]]),(11,hCl P (hS 13) 161 383 26 hm0),(1,[hU [.ref 24]]),(11,hCl P (hS 14) 173 399 28 hm0),(7,hD7 (hS 16) 184 417 31 1 hm1 ["thing"]),(5,hD5 (hS 17) 191 424 33 2 hm1)]
def hc3(P:Params):List (Nat×List Obj):=[(5,hD5 (hS 18) 196 430 37 3 hm1),(7,hD7 (hS 19) 201 436 41 3 hm1 ["thing","least","greatest"]),(5,hD5 (hS 20) 208 445 45 1 hm1),(7,hD7 (hS 21) 213 451 47 1 hm1 ["row","sums","number"]),(5,hD5 (hS 22) 220 460 52 1 hm1),(5,hD5 (hS 23) 225 466 54 1 hm1),(7,hD7 (hS 24) 230 472 56 1 hm1 ["grid"]),(5,hD5 (hS 25) 237 479 58 1 hm1),(7,hD7 (hS 26) 242 485 60 1 hm1 ["grid"]),(7,hD7 (hS 29) 249 496 64 1 hm2 ["line","total","number"])]
def hc4(P:Params):List (Nat×List Obj):=[(5,hD5 (hS 30) 256 505 71 1 hm2),(7,hD7 (hS 31) 261 511 75 1 hm2 ["thing"]),(7,hD7 (hS 32) 268 518 78 1 hm2 ["table"]),(7,hD7 (hS 33) 275 525 80 1 hm2 ["heights"]),(7,hD7 (hS 35) 282 534 83 2 hm3 ["one","other"]),(5,hD5 (hS 36) 289 542 89 2 hm3),(5,hD5 (hS 37) 294 548 91 2 hm3),(5,hD5 (hS 38) 299 554 94 2 hm3),(5,hD5 (hS 39) 304 560 97 2 hm3),(7,hD7 (hS 41) 309 568 101 2 hm4 ["_law_script","_law_k"])]
def hc5(P:Params):List (Nat×List Obj):=[(7,hD7 (hS 42) 316 576 105 2 hm4 ["_law_script","_law_k","_law_cell"]),(7,hD7 (hS 43) 323 585 110 2 hm4 ["_law_state_here","_law_many","_law_found","_law_mixed"]),(5,hD5 (hS 44) 330 595 119 1 hm4),(5,hD5 (hS 45) 335 601 131 2 hm4),(5,hD5 (hS 46) 340 607 133 2 hm4),(7,hD7 (hS 47) 345 613 146 1 hm4 ["_law_thing"]),(5,hD5 (hS 48) 352 620 148 1 hm4),(5,hD5 (hS 49) 357 626 151 1 hm4),(7,hD7 (hS 50) 362 632 160 1 hm4 ["_law_state_here","_law_some"]),(7,hD7 (hS 51) 369 640 163 2 hm4 ["_law_state_here","_law_table_here","_law_at","_law_k","_law_row","_law_odd_here","_law_rows_here","_law_one","_law_other","_law_some"])]
def hc6(P:Params):List (Nat×List Obj):=[(5,hD5 (hS 52) 376 656 174 1 hm4),(5,hD5 (hS 53) 381 662 180 1 hm4),(5,hD5 (hS 54) 386 668 188 2 hm4),(5,hD5 (hS 55) 391 674 198 1 hm4),(5,hD5 (hS 56) 396 680 215 2 hm4),(7,[hZ,hN,hU [(.str "_law_script" 689),(.str "_law_k" 690),(.str "_law_state_here" 691),(.str "_law_side" 692),(.str "_law_table_here" 693),(.str "_law_near_here" 694),(.str "_law_far" 695),(.str "_law_found" 696),(.str "_law_bent_here" 697),(.str "_law_bad" 698),(.str "_law_unlike" 699),(.str "_law_rows_here" 700),(.str "_law_word" 701)],hU [(.str "_law_call" 702),(.str "_law_one" 703),(.str "_law_other" 704)],hR (hS 57),hC "law" 686 705 221 1 3 401 true 402 .none (.ref 403) (.ref 404) (.ref 405),hF (hS 57) (.str "law_turnsigns_k61_below_and_above" 566) (.ref 406)])]
def hB(P:Params):Nat->Obj:=hfd (hc0 P++hc1 P++hc2 P++hc3 P++hc4 P++hc5 P++hc6 P)
def b4G(P:Params)(v:Value):List DictEntry:=[hE P "__name__" 165 v,hE P "__doc__" 166 .none,hE P "__package__" 167 .none,hE P "__loader__" 168 (.builtin "__main__.__loader__#opaque"),hE P "__spec__" 169 .none,hE P "__annotations__" 170 (.ref 6),hE P "__builtins__" 171 (.ref 4),hE P "__file__" 173 (.str "/claim/cut.py" 172),hE P "__cached__" 174 .none,hE P "SignError" 206 (.ref 24),hE P "NoTable" 222 (.ref 37),hE P "NoHeights" 238 (.ref 49),hE P "NoNet" 254 (.ref 61),hE P "NoPlace" 270 (.ref 73),hE P "NoTriangle" 286 (.ref 85),hE P "NoRow" 302 (.ref 97)]
def b4H(P:Params)(v:Value):List DictEntry:=[hE P "NoNumber" 318 (.ref 109),hE P "NoTurn" 334 (.ref 121),hE P "NotAlike" 350 (.ref 133),hE P "NoStep" 366 (.ref 145),hE P "NoRows" 382 (.ref 157),hE P "TooMany" 398 (.ref 169),hE P "BadNote" 414 (.ref 181),hE P "is_whole" 423 (.ref 190),hE P "is_row" 429 (.ref 195),hE P "is_grid" 435 (.ref 200),hE P "is_square" 444 (.ref 207),hE P "flipped" 450 (.ref 212),hE P "running_sums" 459 (.ref 219),hE P "rises" 465 (.ref 224),hE P "sums_across" 471 (.ref 229),hE P "sums_down" 478 (.ref 236)]
def b4I(P:Params)(v:Value):List DictEntry:=[hE P "rises_across" 484 (.ref 241),hE P "rises_down" 491 (.ref 248),hE P "GREATEST_SIDE" 495 (.int 6 494),hE P "takes_turns" 504 (.ref 255),hE P "is_table" 510 (.ref 260),hE P "must_be_table" 517 (.ref 267),hE P "summed" 524 (.ref 274),hE P "unsummed" 531 (.ref 281),hE P "heights_of_both" 541 (.ref 288),hE P "pairs_of" 547 (.ref 293),hE P "is_below" 553 (.ref 298),hE P "both_below" 559 (.ref 303),hE P "both_above" 565 (.ref 308),hE P "_law_cell_at" 575 (.ref 315),hE P "_law_state" 584 (.ref 322),hE P "_law_take" 594 (.ref 329)]
def b4J(P:Params)(v:Value):List DictEntry:=[hE P "_law_rows" 600 (.ref 334),hE P "_law_held" 606 (.ref 339),hE P "_law_table" 612 (.ref 344),hE P "_law_whole" 619 (.ref 351),hE P "_law_turns" 625 (.ref 356),hE P "_law_is_table" 631 (.ref 361),hE P "_law_odd" 639 (.ref 368),hE P "_law_bent" 655 (.ref 375),hE P "_law_heights" 661 (.ref 380),hE P "_law_from" 667 (.ref 385),hE P "_law_near" 673 (.ref 390),hE P "_law_refused" 679 (.ref 395),hE P "_law_due" 685 (.ref 400),hE P "law" 707 (.ref 407)]
def he3(P:Params)(v:Value):List DictEntry:=b4G P v++b4H P v++b4I P v++b4J P v
def ht3(k:Nat):Nat×Nat×Value:=hnth [(9,9,(.str "__main__" 164)),(10,10,(.str "turnsigns.errors" 187)),(11,11,(.str "turnsigns.errors" 187)),(12,12,(.str "turnsigns.errors" 187)),(13,13,(.str "turnsigns.errors" 187)),(14,14,(.str "turnsigns.errors" 187)),(15,15,(.str "turnsigns.errors" 187)),(16,16,(.str "turnsigns.errors" 187)),(17,17,(.str "turnsigns.errors" 187)),(18,18,(.str "turnsigns.errors" 187)),(19,19,(.str "turnsigns.errors" 187)),(20,20,(.str "turnsigns.errors" 187)),(21,21,(.str "turnsigns.errors" 187)),(22,22,(.str "turnsigns.errors" 187)),(29,29,(.str "turnsigns.grids" 415)),(43,43,(.str "turnsigns.orders" 532)),(56,56,(.str "law_turnsigns_k61_below_and_above" 566)),(62,62,(.str "law_turnsigns_k61_below_and_above" 566))] k (0,0,.none)
def hx3(P:Params)(k:Nat):Obj:=⟨(.type "dict"),none,.dict ⟨(he3 P (ht3 k).2.2).take (ht3 k).1⟩ (ht3 k).2.1,⟨[]⟩⟩
def b4K:List Value:=hL3 [(2,20),(4,33),(6,45),(8,57),(10,69),(12,81),(14,93),(16,105),(18,117),(20,129),(22,141),(24,153),(26,165),(28,177),(31,189),(33,194),(37,199),(41,206),(45,211),(47,218),(52,223),(54,228),(56,235),(58,240),(60,247),(64,254),(71,259),(75,266),(78,273),(80,280),(83,287),(89,292),(91,297),(94,302),(97,307),(101,314),(105,321),(110,328),(119,333),(131,338),(133,343),(146,350),(148,355),(151,360),(160,367),(163,374),(174,379),(180,384),(188,389),(198,394),(215,399),(221,406)]
def b4L(_:Params)(k:Nat):Obj:=⟨.none,none,.fields ⟨b4K.take (hnth [0,3,6,9,12,15,18,21,24,27,30,33,36,39,60,99,138,156] k 0)⟩,⟨[]⟩⟩
def b4M:List Value:=[(.ref 37),(.ref 49),(.ref 61),(.ref 73),(.ref 85),(.ref 97),(.ref 109),(.ref 121),(.ref 133),(.ref 145),(.ref 157),(.ref 169),(.ref 181)]
def b4N(_:Params)(k:Nat):Obj:=⟨(.type "type"),none,.cls ⟨"SignError",[(.type "ValueError")],[(.ref 24),(.type "ValueError"),(.type "Exception"),(.type "BaseException"),(.type "object")],23,"SignError",true,[],b4M.take (hnth [0,0,1,2,3,4,5,6,7,8,9,10,11,12,13,13,13,13] k 0),false,none,false⟩,⟨[(some (.ref 15)),none,(some (.str "SignError" 189)),(some (.str "SignError" 197)),(some (.builtin "ValueError.__new__")),(some (.bool true))]⟩⟩
def hO(P:Params)(k b:Nat):Obj:=match Nat.beq b 3 with|true=>hx3 P k|false=>match Nat.beq b 12 with|true=>b4L P k|false=>match Nat.beq b 24 with|true=>b4N P k|false=>hB P b
def hn(k:Nat):Nat:=hnth [15,28,40,52,64,76,88,100,112,124,136,148,160,172,220,299,376,408] k 0
noncomputable def hT (k:Nat) (P:Params):BT:=hmk (hO P k) (hn k) 12 1 0
def hV:Env:=hEnv PySem.Challenge.pw_turnsigns_k61_below_and_above (.ref 13) 14
def hQ:Program:=hVw PySem.Challenge.pw_turnsigns_k61_below_and_above [1,2,3,4,5,6,7,8,9,10,11,12,13,14,16,17,18,19,20,21,22,23,24,25,26,28,29,30,31,32,33,35,36,37,38,39,41,42,43,44,45,46,47,48,49,50,51,52,53,54,55,56,57]
def hA:List Nat:=[2,3,15,22,23,24,25,28,35,36,37,40,47,48,49,52,59,60,61,64,71,72,73,76,83,84,85,88,95,96,97,100,107,108,109,112,119,120,121,124,131,132,133,136,143,144,145,148,155,156,157,160,167,168,169,172,179,180,181,184,186,187,189,190,191,194,195,196,199,200,201,203,204,206,207,208,211,212,213,215,216,218,219,220,223,224,225,228,229,230,232,233,235,236,237,240,241,242,244,245,247,248,249,251,252,254,255,256,259,260,261,263,264,266,267,268,270,271,273,274,275,277,278,280,281,282,284,285,287,288,289,292,293,294,297,298,299,302,303,304,307,308,309,311,312,314,315,316,318,319,321,322,323,325,326,328,329,330,333,334,335,338,339,340,343,344,345,347,348,350,351,352,355,356,357,360,361,362,364,365,367,368,369,371,372,374,375,376,379,380,381,384,385,386,389,390,391,394,395,396,399,400,401,403,404,406,407]
def hK(P:Params):Frag:=hA.map fun a=>(a,hO P 17 a)
def hH(P:Params):Heap:=absHeap (hT 17 P) 408 {}
theorem htw:(hdep hT&&hdep hH&&hdep hV&&hdep hQ&&hdep hK&&hdep PySem.Challenge.pw_turnsigns_k61_below_and_above)=true:=by k_qdec
abbrev hpw:=PySem.Challenge.pw_turnsigns_k61_below_and_above
noncomputable abbrev fb:=PySem.W.Fast.tw14364793385576792824
noncomputable abbrev fp:=PySem.W.Fast.tw687832920312458587
noncomputable abbrev ft:=PySem.W.Fast.tw8967461512467586082
noncomputable abbrev fv:=PySem.W.Fast.tw16384784608494430018
theorem b4O:hPre 11 (some (.ref 6)) 12 15 187 ⟨0,0,0,0⟩ ⟨0,0,0,0⟩ PySem.W.Fast.tw15667345088766844465 PySem.W.Fast.tw11892475500146522536 fb fp ft fv:=fun w=>by kernel_rfl
theorem hpre:hPre 11 (some (.ref 6)) 12 15 187 ⟨0,0,0,0⟩ ⟨0,0,0,0⟩ topGo denote treeTable PySem.Challenge.pw_turnsigns_k61_below_and_above hT hV:=by rw[PySem.W.Fast.te15667345088766844465,PySem.W.Fast.te11892475500146522536,Yd,PySem.W.Fast.te687832920312458587,PySem.W.Fast.te8967461512467586082,PySem.W.Fast.te16384784608494430018];exact b4O
theorem b4P:hBlk 11 (some (.ref 6)) 1 15 187 ⟨0,0,0,0⟩ ⟨0,0,0,0⟩ ⟨0,0,0,0⟩ PySem.W.Fast.tw14374325043358763698 fb fp ft fv:=fun w=>by kernel_rfl
theorem hblk:hBlk 11 (some (.ref 6)) 1 15 187 ⟨0,0,0,0⟩ ⟨0,0,0,0⟩ ⟨0,0,0,0⟩ segRun treeTable PySem.Challenge.pw_turnsigns_k61_below_and_above hT hV:=by rw[PySem.W.Fast.te14374325043358763698,Yd,PySem.W.Fast.te687832920312458587,PySem.W.Fast.te8967461512467586082,PySem.W.Fast.te16384784608494430018];exact b4P
theorem hsl{m0:Nat}{ann:Option Value}{n i j k n0 t0 n1 t1:Nat}{q q0 q1:Pos}(h:hPc m0 ann n i j k n0 t0 n1 t1 q q0 q1 PySem.W.Fast.tw10110043849684766642 fb fp ft fv):hPc m0 ann n i j k n0 t0 n1 t1 q q0 q1 segRunT treeTable PySem.Challenge.pw_turnsigns_k61_below_and_above hT hV:=by rw[PySem.W.Fast.te10110043849684766642,Yd,PySem.W.Fast.te687832920312458587,PySem.W.Fast.te8967461512467586082,PySem.W.Fast.te16384784608494430018];exact h
theorem hp0:hPc 11 (some (.ref 6)) 196 0 2 0 15 187 28 207 ⟨0,0,0,0⟩ ⟨0,0,0,0⟩ ⟨2,0,3,8⟩ segRunT treeTable hpw hT hV:=hsl fun w=>by kernel_rfl
theorem hp1:hPc 11 (some (.ref 6)) 214 2 1 1 28 207 40 223 ⟨0,0,0,0⟩ ⟨2,0,3,8⟩ ⟨4,0,5,8⟩ segRunT treeTable hpw hT hV:=hsl fun w=>by kernel_rfl
theorem hp2:hPc 11 (some (.ref 6)) 214 3 1 2 40 223 52 239 ⟨0,0,0,0⟩ ⟨4,0,5,8⟩ ⟨6,0,7,8⟩ segRunT treeTable hpw hT hV:=hsl fun w=>by kernel_rfl
theorem hp3:hPc 11 (some (.ref 6)) 214 4 1 3 52 239 64 255 ⟨0,0,0,0⟩ ⟨6,0,7,8⟩ ⟨8,0,9,8⟩ segRunT treeTable hpw hT hV:=hsl fun w=>by kernel_rfl
theorem hp4:hPc 11 (some (.ref 6)) 214 5 1 4 64 255 76 271 ⟨0,0,0,0⟩ ⟨8,0,9,8⟩ ⟨10,0,11,8⟩ segRunT treeTable hpw hT hV:=hsl fun w=>by kernel_rfl
theorem hp5:hPc 11 (some (.ref 6)) 214 6 1 5 76 271 88 287 ⟨0,0,0,0⟩ ⟨10,0,11,8⟩ ⟨12,0,13,8⟩ segRunT treeTable hpw hT hV:=hsl fun w=>by kernel_rfl
theorem hp6:hPc 11 (some (.ref 6)) 214 7 1 6 88 287 100 303 ⟨0,0,0,0⟩ ⟨12,0,13,8⟩ ⟨14,0,15,8⟩ segRunT treeTable hpw hT hV:=hsl fun w=>by kernel_rfl
theorem hp7:hPc 11 (some (.ref 6)) 214 8 1 7 100 303 112 319 ⟨0,0,0,0⟩ ⟨14,0,15,8⟩ ⟨16,0,17,8⟩ segRunT treeTable hpw hT hV:=hsl fun w=>by kernel_rfl
theorem hp8:hPc 11 (some (.ref 6)) 214 9 1 8 112 319 124 335 ⟨0,0,0,0⟩ ⟨16,0,17,8⟩ ⟨18,0,19,8⟩ segRunT treeTable hpw hT hV:=hsl fun w=>by kernel_rfl
theorem hp9:hPc 11 (some (.ref 6)) 214 10 1 9 124 335 136 351 ⟨0,0,0,0⟩ ⟨18,0,19,8⟩ ⟨20,0,21,8⟩ segRunT treeTable hpw hT hV:=hsl fun w=>by kernel_rfl
theorem b4Q:hPc 11 (some (.ref 6)) 214 11 1 10 136 351 148 367 ⟨0,0,0,0⟩ ⟨20,0,21,8⟩ ⟨22,0,23,8⟩ segRunT treeTable hpw hT hV:=hsl fun w=>by kernel_rfl
theorem b4R:hPc 11 (some (.ref 6)) 214 12 1 11 148 367 160 383 ⟨0,0,0,0⟩ ⟨22,0,23,8⟩ ⟨24,0,25,8⟩ segRunT treeTable hpw hT hV:=hsl fun w=>by kernel_rfl
theorem b4S:hPc 11 (some (.ref 6)) 214 13 1 12 160 383 172 399 ⟨0,0,0,0⟩ ⟨24,0,25,8⟩ ⟨26,0,27,8⟩ segRunT treeTable hpw hT hV:=hsl fun w=>by kernel_rfl
theorem b4T:hPc 11 (some (.ref 6)) 392 14 8 13 172 399 220 460 ⟨0,0,0,0⟩ ⟨26,0,27,8⟩ ⟨47,0,51,22⟩ segRunT treeTable hpw hT hV:=hsl fun w=>by kernel_rfl
theorem b4U:hPc 11 (some (.ref 6)) 390 22 16 14 220 460 299 554 ⟨0,0,0,0⟩ ⟨47,0,51,22⟩ ⟨91,0,93,97⟩ segRunT treeTable hpw hT hV:=hsl fun w=>by kernel_rfl
theorem b4V:hPc 11 (some (.ref 6)) 382 38 14 15 299 554 376 656 ⟨0,0,0,0⟩ ⟨91,0,93,97⟩ ⟨163,0,173,93⟩ segRunT treeTable hpw hT hV:=hsl fun w=>by kernel_rfl
theorem b4W:hPc 11 (some (.ref 6)) 175 52 6 16 376 656 408 708 ⟨0,0,0,0⟩ ⟨163,0,173,93⟩ ⟨221,0,243,15⟩ segRunT treeTable hpw hT hV:=hsl fun w=>by kernel_rfl
theorem b4X:hFin 11 (some (.ref 6)) 2 17 408 708 ⟨0,0,0,0⟩ ⟨221,0,243,15⟩ PySem.W.Fast.tw14082659384304107361 fb fp ft fv:=fun w=>by kernel_rfl
theorem hfin:hFin 11 (some (.ref 6)) 2 17 408 708 ⟨0,0,0,0⟩ ⟨221,0,243,15⟩ topRun treeTable PySem.Challenge.pw_turnsigns_k61_below_and_above hT hV:=by rw[PySem.W.Fast.te14082659384304107361,Yd,PySem.W.Fast.te687832920312458587,PySem.W.Fast.te8967461512467586082,PySem.W.Fast.te16384784608494430018];exact b4X
theorem hrun(w:World)(os:OsState):topRun treeTable PySem.Challenge.pw_turnsigns_k61_below_and_above w 11 (some (.ref 6)) (Nat.add 12 (Nat.add 1 (Nat.add 196 (Nat.add 214 (Nat.add 214 (Nat.add 214 (Nat.add 214 (Nat.add 214 (Nat.add 214 (Nat.add 214 (Nat.add 214 (Nat.add 214 (Nat.add 214 (Nat.add 214 (Nat.add 214 (Nat.add 392 (Nat.add 390 (Nat.add 382 (Nat.add 175 (2)))))))))))))))))))) ⟨boot_heap w.params,⟨[]⟩,boot_drawn,boot_toks,os⟩ (topStub PySem.Challenge.pw_turnsigns_k61_below_and_above)=some (SharedT.abs ⟨hT 17 w.params,408,{},⟨[]⟩,{},708,os⟩):=hgo hpre w os (hblkk hblk w os (hpcs hp0 w os (hpcs hp1 w os (hpcs hp2 w os (hpcs hp3 w os (hpcs hp4 w os (hpcs hp5 w os (hpcs hp6 w os (hpcs hp7 w os (hpcs hp8 w os (hpcs hp9 w os (hpcs b4Q w os (hpcs b4R w os (hpcs b4S w os (hpcs b4T w os (hpcs b4U w os (hpcs b4V w os (hpcs b4W w os (hfin' (by kernel_rfl) hfin w os)))))))))))))))))))
theorem b4Y:hLk PySem.W.Fast.tw687832920312458587 PySem.W.Fast.tw2093585556067231054 PySem.W.Fast.tw9421450549755888879 PySem.W.Fast.tw6543813457895133605 hA [402] 708:=⟨fun _=>by kernel_rfl,fun _=>by kernel_rfl,fun _=>by kernel_rfl,fun _=>by kernel_rfl,fun _=>by kernel_rfl,fun _=>by kernel_rfl,fun _=>by kernel_rfl,fun _=>by kernel_rfl,fun _=>by kernel_rfl,fun _=>by kernel_rfl,fun _=>by kernel_rfl,fun _=>by kernel_rfl⟩
theorem hlk:hLk PySem.Challenge.pw_turnsigns_k61_below_and_above hQ hH hK hA [402] 708:=by rw[PySem.W.Fast.te687832920312458587,PySem.W.Fast.te2093585556067231054,PySem.W.Fast.te9421450549755888879,PySem.W.Fast.te6543813457895133605];exact b4Y
abbrev hHk:Hook:=kmHook hK hA (fun _=>by kernel_rfl) [402]
theorem hlf:LeftO PySem.Challenge.pw_turnsigns_k61_below_and_above hQ [] (fun s=>xlAt hQ [] s&&recOk [] s) (Hook.obs hHk) (Hook.val hHk) 8298:=hleft (fun _=>by kernel_rfl) (by kernel_rfl) (fun _=>by kernel_rfl) (by decide) (by decide) hrun hlk
abbrev hDr:DefRec:=⟨"law",hsA (hS 57),hsB (hS 57),hsS (hS 57),hsP (hS 57)⟩
end
end K61
namespace L2
open PySem PySem.Spec PyProof.Rows
variable{C b dx it:Addr}{E Q:Value->Shared->Prop}{M:Model}{P:Program}{body:List Stmt}{ch fp:List Addr}{d':Drawn}{e tg:Expr}{es:List Expr}{fd:FuncData}{g':Array GenState}{h h':Heap}{i j n t':Nat}{mA:Str->Option Value}{op op':CmpOp}{p pos pos':Pos}{pins:List (Addr×Obj)}{ps:List Str}{qual x:Str}{s s':Shared}{scope:Scope}{u:Value}{us:List Value}{α:Type}
abbrev Key:=Sum Int Str
def a7b:Key->Value->Bool
 |.inl k,v=>Value.isInt k v
 |.inr x,v=>Value.isStrOf x v
def b4Z(w:World):Key->Int
 |.inl k=>hashInt k
 |.inr x=>hashStr w x
theorem a1T:∀{k:Key}{v:Value},a7b k v=true->(∃i t,k=Sum.inl i/\v=Value.int i t)∨(∃x t,k=Sum.inr x/\v=Value.str x t)
 |.inl i,v,h=>by
  obtain⟨t,e⟩:=Value.isInt_shape (k:=i) (v:=v) h;exact .inl ⟨i,t,rfl,e⟩
 |.inr x,v,h=>by
  obtain⟨t,e⟩:=Value.isStrOf_shape (x:=x) (v:=v) h;exact .inr ⟨x,t,rfl,e⟩
theorem b5a(a b:Int):decide ((Sum.inl a:Key)=Sum.inl b)=(a==b):=by
 by_cases e:a=b
 ·subst e;simp
 ·have h:¬ (Sum.inl a:Key)=Sum.inl b:=fun q=>e (Sum.inl.inj q)
  rw[Zg h];exact(Jg.mpr e).symm
theorem b5b(a b:Str):decide ((Sum.inr a:Key)=Sum.inr b)=decide (a=b):=by
 by_cases e:a=b
 ·subst e;simp
 ·have h:¬ (Sum.inr a:Key)=Sum.inr b:=fun q=>e (Sum.inr.inj q)
  rw[Zg h,Zg e]
theorem b5c(a:Int)(b:Str):decide ((Sum.inl a:Key)=Sum.inr b)=false:=Zg (fun q=>nomatch q)
theorem b5d(a:Str)(b:Int):decide ((Sum.inr a:Key)=Sum.inl b)=false:=Zg (fun q=>nomatch q)
def a5A(prog:Program)(w:World):PySem.KeyKind prog w Key where
 is:=a7b
 hash:=b4Z w
 inj:=fun v a b ha hb=>by
  rcases a1T ha with⟨i,t,rfl,rfl⟩|⟨x,t,rfl,rfl⟩
  ·rcases a1T hb with⟨j,u,rfl,e⟩|⟨y,u,rfl,e⟩
   ·injection e with e1 _;rw[e1]
   ·exact nomatch e
  ·rcases a1T hb with⟨j,u,rfl,e⟩|⟨y,u,rfl,e⟩
   ·exact nomatch e
   ·injection e with e1 _;rw[e1]
 byValue:=fun k v h=>by
  rcases a1T h with⟨i,t,rfl,rfl⟩|⟨x,t,rfl,rfl⟩<;>rfl
 pyHash:=fun hv h=>by
  rcases a1T hv with⟨i,t,rfl,rfl⟩|⟨x,t,rfl,rfl⟩
  ·exact wpAny_pyHash_int h
  ·exact wpAny_pyHash_str h
 eqBool:=fun hu hv h=>by
  rcases a1T hu with⟨i,t,rfl,rfl⟩|⟨x,t,rfl,rfl⟩
  ·rcases a1T hv with⟨j,u,rfl,rfl⟩|⟨y,u,rfl,rfl⟩
   ·rw[b5a]at h;exact wpAny_eqBool_int h
   ·rw[b5c]at h;exact SeqAt.EqAt.int_str i t y u _ _ _ _ h
  ·rcases a1T hv with⟨j,u,rfl,rfl⟩|⟨y,u,rfl,rfl⟩
   ·rw[b5d]at h;exact SeqAt.EqAt.str_int x t j u _ _ _ _ h
   ·rw[b5b]at h;exact wpAny_eqBool_str h
 «strs»:=fun k x t v h=>by
  rcases a1T h with⟨i,u,rfl,e⟩|⟨y,u,rfl,e⟩
  ·exact nomatch e
  ·injection e with e1 _
   subst e1;cases v<;>rfl
inductive V where
 |non|bl (b:Bool)|int (i:Int)|str (x:Str)|byt (b:Array UInt8)|flt (b:UInt64)|ref (a:Addr)|ty (n:String)
 deriving DecidableEq
variable{v y:V}{vs:List V}
def y2_:V->Value->Prop
 |.non,u=>u=Value.none
 |.bl b,u=>u=Value.bool b
 |.int i,u=>∃t,u=Value.int i t
 |.str x,u=>∃t,u=Value.str x t
 |.byt b,u=>∃t,u=Value.bytes b t
 |.flt b,u=>∃t,u=Value.float b t
 |.ref a,u=>u=Value.ref a
 |.ty n,u=>u=Value.type n
abbrev q8_:List V->List Value->Prop:=Paired y2_
theorem q8_.length{xs:List V}(r:q8_ xs us):xs.length=us.length:=Paired.length r
theorem q8_.get:∀{xs:List V}{us:List Value}{i:Nat}{x:V},q8_ xs us->xs[i]? =some x->∃u,us[i]? =some u/\y2_ x u
 |_,_,_,_,.nil,e=>by simp at e
 |_,_,0,_,.cons r _,e=>by simp at e;subst e;exact⟨_,rfl,r⟩
 |_,_,i+1,x,.cons _ t,e=>by
  obtain⟨u,h1,h2⟩:=q8_.get (i:=i) (x:=x) t (by simpa using e)
  exact⟨u,by simpa using h1,h2⟩
theorem q8_.set{x:V}{u:Value}(r:y2_ x u):∀{xs:List V}{us:List Value}(i:Nat),q8_ xs us->q8_ (xs.set i x) (us.set i u)
 |_,_,_,.nil=>.nil
 |_,_,0,.cons _ t=>.cons r t
 |_,_,i+1,.cons q t=>.cons q (q8_.set r i t)
theorem q8_.append:∀{xs ys:List V}{us ws:List Value},q8_ xs us->q8_ ys ws->q8_ (xs++ys) (us++ws)
 |_,_,_,_,.nil,s=>s
 |_,_,_,_,.cons r t,s=>.cons r (q8_.append t s)
theorem q8_.take:∀{xs:List V}{us:List Value}(n:Nat),q8_ xs us->q8_ (xs.take n) (us.take n)
 |_,_,0,_=>.nil
 |_,_,_+1,.nil=>.nil
 |_,_,n+1,.cons r t=>.cons r (q8_.take n t)
theorem q8_.drop:∀{xs:List V}{us:List Value}(n:Nat),q8_ xs us->q8_ (xs.drop n) (us.drop n)
 |_,_,0,r=>r
 |_,_,_+1,.nil=>.nil
 |_,_,n+1,.cons _ t=>q8_.drop n t
def a3I:Option V->Option Value->Prop
 |some v,some u=>y2_ v u
 |none,none=>True
 |_,_=>False
def KV{κ:Type}:List (κ×V)->List (κ×Value)->Prop:=Paired fun(p:κ×V) (q:κ×Value)=>p.1=q.1/\y2_ p.2 q.2
def kV:Key->V
 |.inl i=>.int i
 |.inr x=>.str x
inductive HO where
 |lst (xs:List V)
 |tup (xs:List V)
 |dK (kvs:List (Key×V))|dT (C:Addr->List Key->Prop) (kvs:List (List Key×V))
 |set (S:Int->Bool) (n:Nat)
 |ins (C dx:Addr) (fs:List (Str×V))
 |own (x:Addr)
 |xd (fs:List (Str×V))
 |met (f x:Addr)
 |rng (lo hi:Int)
 |frz (o:Obj) (u:HO)
 |tbl (ps:Array Value)
 |ext (φ:Heap->Prop)
variable{o:HO}
abbrev Hp:=Addr->Option HO
variable{H H':Hp}{R:V->V->Hp->Prop}
def upd(H:Hp)(a:Addr)(o:HO):Hp:=fun b=>if b=a then some o else H b
theorem y5_{a:Addr}:upd H a o a=some o:=by unfold upd;rw[Qn rfl]
theorem q5_{a:Addr}(h:b≠a):upd H a o b=H b:=by unfold upd;rw[Qe h]
theorem a5B{a:Addr}{u:HO}:upd (upd H a o) a u=upd H a u:=by
 funext b;unfold upd;split<;>rfl
theorem g4_{a:Addr}(h:H a=some o)(h':H b=none):a≠b:=by
 intro e;subst e;rw[h]at h';cases h'
def a0K(h:Heap)(a:Addr)(items:Array Value):Prop:=∃o,h.get? a=some o/\o.cls=.type "tuple"/\o.dict=none/\∃n,o.data=.seq items n
theorem a0K.tup{a:Addr}{items:Array Value}:a0K h a items->IsTup h a items:=fun⟨o,e,c,_,d⟩=>⟨o,e,c,d⟩
theorem a0K.lt{a:Addr}{items:Array Value}(p:a0K h a items):a<h.objs.size:=p.tup.lt
theorem a0K.new(h:Heap)(items:Array Value):a0K (h.push {cls:=.type "tuple",data:=.seq items}) h.objs.size items:=⟨_,Qg _ rfl,rfl,rfl,_,rfl⟩
section
variable(P:Program)(w:World)
def j5_(H:Hp)(h:Heap)(a:Addr):HO->Prop
 |.lst xs=>xs.length≤sizeLine/\∃(its:List Value) (n:Nat),q8_ xs its/\h.get? a=some {cls:=.type "list",data:=.seq its.toArray n}
 |.tup xs=>xs.length≤sizeLine/\∃its:List Value,q8_ xs its/\a0K h a its.toArray
 |.dK kvs=>kvs.length≤sizeLine/\(a==sysModules)=false/\∃vs,KV kvs vs/\h.DictOf (a5A P w) a vs
 |.dT C kvs=>kvs.length≤sizeLine/\(a==sysModules)=false/\∃xs:List (List Key×Addr×Value),
   Paired (fun(p:List Key×V) (q:List Key×Addr×Value)=>p.1=q.1/\(H q.2.1=some (.tup (p.1.map kV))∨C q.2.1 p.1)/\y2_ p.2 q.2.2) kvs xs/\
   ∃o es ep,h.get? a=some o/\o.ExactDict/\o.data=.dict es ep/\es.toList=xs.map (entryOfKey (tupleKind (a5A P w)))/\(xs.map (·.1)).Nodup
 |.set S n=>h.SetOf (intKind P w) a S n
 |.ins C dx fs=>H dx=some (.own a)/\fs.length≤1000/\dx≠a/\h.get? a=some (PySem.W.instObj C dx)/\
   ∃mA,h.Ns1 dx mA/\(∀f,a3I (fs.lookup f) (mA f))/\PySem.Within mA (fs.map (·.1))
 |.own _=>∃o,h.get? a=some o
 |.xd fs=>∃mA,h.Ns1 a mA/\∀f,a3I (fs.lookup f) (mA f)
 |.rng lo hi=>∃t u v,h.get? a=some {cls:=.type "range",data:=.fields #[.int lo t,.int hi u,.int 1 v]}
 |.frz o u=>h.get? a=some o/\j5_ H h a u
 |.tbl ps=>h.get? a=some {cls:=.none,data:=.fields ps}
 |.met f x=>h.get? a=some (PySem.W.methodObj (.ref f) (.ref x))
 |.ext φ=>φ h/\(∃o,h.get? a=some o)/\∀h1 h2:Heap,φ h1->(∀o,h1.get? a=some o->h2.get? a=some o)->φ h2
def HOk(H:Hp)(h:Heap):Prop:=∀a o,H a=some o->j5_ P w H h a o
end
section
variable{w:World}{a:Addr}
theorem j5_.lt(x:j5_ P w H h a o):a<h.objs.size:=by
 cases o with
 |lst xs=>obtain⟨_,_,_,_,e⟩:=x;exact Qw e
 |tup xs=>obtain⟨_,_,_,p⟩:=x;exact p.lt
 |dK kvs=>obtain⟨_,_,_,_,o,_,_,e,_⟩:=x;exact Qw e
 |dT C kvs=>obtain⟨_,_,_,_,o,_,_,e,_⟩:=x;exact Qw e
 |set S n=>obtain⟨o,_,_,_,e,_⟩:=x;exact Qw e
 |ins C dx fs=>obtain⟨_,_,_,e,_⟩:=x;exact Qw e
 |own y=>obtain⟨_,e⟩:=x;exact Qw e
 |xd fs=>obtain⟨_,⟨_,_,_,e,_⟩,_⟩:=x;exact Qw e
 |rng lo hi=>obtain⟨_,_,_,e⟩:=x;exact Qw e
 |frz ob u=>obtain⟨e,_⟩:=x;exact Qw e
 |tbl ps=>exact Qw (show h.get? a=some _ from x)
 |met f y=>exact Qw (show h.get? a=some _ from x)
 |ext φ=>obtain⟨_,⟨_,e⟩,_⟩:=x;exact Qw e
theorem Paired.mapP{α β:Type}{F G:α->β->Prop}:∀{l₁:List α}{l₂:List β},Paired F l₁ l₂->(∀a b,F a b->G a b)->Paired G l₁ l₂
 |_,_,.nil,_=>.nil
 |_,_,.cons r t,f=>.cons (f _ _ r) (Paired.mapP t f)
theorem j5_.stay(x:j5_ P w H h a o)(k:∀b u,(b=a∨H b=some (.own a))->h.get? b=some u->h'.get? b=some u)
  (ho:∀b,H b=some (.own a)->H' b=some (.own a))(ht:∀b xs,H b=some (.tup xs)->H' b=some (.tup xs)):j5_ P w H' h' a o:=by
 induction o with
 |lst xs=>obtain⟨z,its,n,r,e⟩:=x;exact⟨z,its,n,r,k _ _ (.inl rfl) e⟩
 |tup xs=>obtain⟨z,its,r,ob,e,c⟩:=x;exact⟨z,its,r,ob,k _ _ (.inl rfl) e,c⟩
 |dK kvs=>obtain⟨z,y,vs,r,ob,es,ep,e,c⟩:=x;exact⟨z,y,vs,r,ob,es,ep,k _ _ (.inl rfl) e,c⟩
 |dT C kvs=>
  obtain⟨z,y,xs,r,ob,es,ep,e,c⟩:=x;exact⟨z,y,xs,Paired.mapP r fun p q z=>⟨z.1,z.2.1.imp (ht _ _) id,z.2.2⟩,ob,es,ep,k _ _ (.inl rfl) e,c⟩
 |set S n=>obtain⟨ob,es,ep,t,e,c⟩:=x;exact⟨ob,es,ep,t,k _ _ (.inl rfl) e,c⟩
 |ins C dx fs=>
  obtain⟨d,z,ne,e,mA,⟨od,es,ep,e2,c⟩,r⟩:=x;exact⟨ho _ d,z,ne,k _ _ (.inl rfl) e,mA,⟨od,es,ep,k _ _ (.inr d) e2,c⟩,r⟩
 |own y=>obtain⟨ob,e⟩:=x;exact⟨ob,k _ _ (.inl rfl) e⟩
 |xd fs=>obtain⟨mA,⟨od,es,ep,e,c⟩,r⟩:=x;exact⟨mA,⟨od,es,ep,k _ _ (.inl rfl) e,c⟩,r⟩
 |rng lo hi=>obtain⟨t,u,v,e⟩:=x;exact⟨t,u,v,k _ _ (.inl rfl) e⟩
 |frz ob u ih=>obtain⟨e,q⟩:=x;exact⟨k _ _ (.inl rfl) e,ih q⟩
 |tbl ps=>
  have e:h.get? a=some {cls:=.none,data:=.fields ps}:=x
  show h'.get? a=some {cls:=.none,data:=.fields ps};exact k a _ (.inl rfl) e
 |met f y=>
  have e:h.get? a=some (PySem.W.methodObj (.ref f) (.ref y)):=x
  show h'.get? a=some (PySem.W.methodObj (.ref f) (.ref y));exact k a _ (.inl rfl) e
 |ext φ=>obtain⟨p,⟨o,e⟩,st⟩:=x;exact⟨st _ _ p fun o q=>k _ _ (.inl rfl) q,⟨o,k _ _ (.inl rfl) e⟩,st⟩
theorem HOk.lt(x:HOk P w H h)(e:H a=some o):a<h.objs.size:=(x a o e).lt
theorem HOk.fresh(x:HOk P w H h)(e:h.objs.size≤a):H a=none:=by
 cases q:H a with
 |none=>rfl
 |some u=>exact absurd (Qc (x.lt q) e) (Yi _)
theorem HOk.kept(x:HOk P w H h)(k:∀b u,h.get? b=some u->h'.get? b=some u):HOk P w H h':=fun a o e=>
 (x a o e).stay (fun b u _ q=>k b u q) (fun _ q=>q) fun _ _ q=>q
theorem HOk.laid(x:HOk P w H h)(k:∀b u,h.get? b=some u->h'.get? b=some u)(hp:h.objs.size≤a)(new:j5_ P w (upd H a o) h' a o):HOk P w (upd H a o) h':=fun b u e=>by
 have hn:=x.fresh hp
 by_cases hb:b=a
 ·subst hb;rw[y5_]at e;cases e;exact new
 ·rw[q5_ hb]at e
  exact(x b u e).stay (fun c v _ q=>k c v q) (fun c q=>by rw[q5_ (g4_ q hn)];exact q) fun c xs q=>by rw[q5_ (g4_ q hn)];exact q
end
def Rd(H:Hp)(a:Addr)(u:HO):Prop:=H a=some u∨ ∃o,H a=some (.frz o u)
theorem Rd.of{a:Addr}{u:HO}(h:H a=some u):Rd H a u:=.inl h
theorem Rd.ok{w:World}{a:Addr}{u:HO}(r:Rd H a u)(x:HOk P w H h):j5_ P w H h a u:=by
 rcases r with r|⟨o,r⟩
 ·exact x a u r
 ·obtain⟨_,q⟩:=x a _ r
  exact q
def Mut:Option HO->Prop
 |some (.lst _)=>True
 |some (.dK _)=>True
 |some (.dT _ _)=>True
 |some (.set _ _)=>True
 |some (.ins _ _ _)=>True
 |some (.ext _)=>True
 |_=>False
section
variable{w:World}{x e:Addr}{o':HO}
theorem HOk.write(ok:HOk P w H h)(mu:Mut (H x))(he:e=x∨H e=some (.own x))(k:∀b u,b≠e->h.get? b=some u->h'.get? b=some u)(heo:∃u,h'.get? e=some u)
  (new:j5_ P w (upd H x o') h' x o'):HOk P w (upd H x o') h':=fun b u q=>by
 have nown:∀c y,H c=some (.own y)->c≠x:=fun c y r z=>by subst z;rw[r]at mu;exact mu
 have ntup:∀c xs,H c=some (.tup xs)->c≠x:=fun c xs r z=>by subst z;rw[r]at mu;exact mu
 by_cases hb:b=x
 ·subst hb;rw[y5_]at q;cases q;exact new
 ·rw[q5_ hb]at q
  by_cases hbe:b=e
  ·have q':H b=some (.own x):=by
    rcases he with z|z
    ·exact absurd (hbe.trans z) hb
    ·rw[hbe];exact z
   rw[q]at q';cases q';obtain⟨v,hv⟩:=heo;exact⟨v,by rw[hbe];exact hv⟩
  ·refine(ok b u q).stay (fun c v hc r=>k c v ?_ r) (fun c r=>by rw[q5_ (nown c b r)];exact r) fun c xs r=>by rw[q5_ (ntup c xs r)];exact r
   rcases hc with rfl|hc
   ·exact hbe
   ·rintro rfl
    rcases he with z|z
    ·exact nown c b hc z
    ·rw[hc]at z;cases z;exact hb rfl
end
structure Un(fs ex:List Addr)(H H':Hp)(h h':Heap):Prop where
 keep:∀b o,h.get? b=some o->H b=none->b∉fs->b∉ex->h'.get? b=some o
 slot:∀b o,h.get? b=some o->H b=none->b∈fs->b∉ex->∃sl,h'.get? b=some {o with slots:=sl}
 free:∀b o,h.get? b=some o->H b=none->b∉ex->H' b=none
 there:∀b o,h.get? b=some o->b∉ex->∃o',h'.get? b=some o'
 tups:∀b xs,H b=some (.tup xs)->H' b=some (.tup xs)
 frzs:∀b o u,H b=some (.frz o u)->H' b=some (.frz o u)
 tbls:∀b ps,H b=some (.tbl ps)->∃more,H' b=some (.tbl (ps++more))
section
variable{fs fs' ex ex':List Addr}{H1 H2:Hp}{h1 h2:Heap}{a x e:Addr}
theorem Un.any(u:Un fs ex H H1 h h1){ob:Obj}(q:h.get? b=some ob)(n:H b=none)(hx:b∉ex):∃sl,h1.get? b=some {ob with slots:=sl}:=by
 by_cases hb:b∈fs
 ·exact u.slot b ob q n hb hx
 ·exact⟨ob.slots,u.keep b ob q n hb hx⟩
theorem Un.trans(a:Un fs ex H H1 h h1)(b:Un fs ex H1 H2 h1 h2):Un fs ex H H2 h h2 where
 keep:=fun c ob q n hc hx=>b.keep c ob (a.keep c ob q n hc hx) (a.free c ob q n hx) hc hx
 slot:=fun c ob q n hc hx=>by
  obtain⟨sl,e1⟩:=a.slot c ob q n hc hx;obtain⟨sl',e2⟩:=b.slot c _ e1 (a.free c ob q n hx) hc hx;exact⟨sl',e2⟩
 free:=fun c ob q n hx=>by
  obtain⟨o',e1⟩:=a.there c ob q hx;exact b.free c o' e1 (a.free c ob q n hx) hx
 there:=fun c ob q hx=>by
  obtain⟨o',e1⟩:=a.there c ob q hx;exact b.there c o' e1 hx
 tups:=fun c xs q=>b.tups c xs (a.tups c xs q)
 frzs:=fun c ob xs q=>b.frzs c ob xs (a.frzs c ob xs q)
 tbls:=fun c ps q=>by
  obtain⟨m1,e1⟩:=a.tbls c ps q;obtain⟨m2,e2⟩:=b.tbls c _ e1;exact⟨m1++m2,by rw[e2,Xw]⟩
theorem Un.kept(k:∀b u,h.get? b=some u->h'.get? b=some u):Un fs ex H H h h':=
 ⟨fun b ob q _ _ _=>k b ob q,fun b ob q _ _ _=>⟨ob.slots,k b ob q⟩,fun _ _ _ n _=>n,fun b ob q _=>⟨ob,k b ob q⟩,fun _ _ q=>q,fun _ _ _ q=>q,fun _ ps q=>⟨#[],by rw[q];simp⟩⟩
theorem Un.refl:Un fs ex H H h h:=Un.kept fun _ _ q=>q
theorem Un.laid(k:∀b u,h.get? b=some u->h'.get? b=some u)(hp:h.objs.size≤a)(hn:H a=none):Un fs ex H (upd H a o) h h' where
 keep:=fun b u q _ _ _=>k b u q
 slot:=fun b u q _ _ _=>⟨u.slots,k b u q⟩
 free:=fun b u q n _=>by rw[q5_ (Qd (Qc (Qw q) hp))];exact n
 there:=fun b u q _=>⟨u,k b u q⟩
 tups:=fun b xs q=>by rw[q5_ (g4_ q hn)];exact q
 frzs:=fun b u xs q=>by rw[q5_ (g4_ q hn)];exact q
 tbls:=fun b ps q=>⟨#[],by rw[q5_ (g4_ q hn),q];simp⟩
theorem Un.write(mu:Mut (H x))(he:e=x∨H e=some (.own x))(k:∀b u,b≠e->h.get? b=some u->h'.get? b=some u)(heo:∃u,h'.get? e=some u):Un fs ex H (upd H x o) h h':=by
 have hx:∀b,H b=none->b≠x:=fun b n z=>by subst z;rw[n]at mu;exact mu
 have hb:∀b,H b=none->b≠e:=fun b n z=>by
  subst z
  rcases he with r|r
  ·exact hx b n r
  ·rw[n]at r;cases r
 have hm:∀b u,H b=some u-> ¬ Mut (some u)->b≠x:=fun b u q nm z=>by subst z;rw[q]at mu;exact nm mu
 refine⟨fun b u q n _ _=>k b u (hb b n) q,fun b u q n _ _=>⟨u.slots,k b u (hb b n) q⟩,fun b u q n _=>by rw[q5_ (hx b n)];exact n,fun b u q _=>?_,
  fun b xs q=>by rw[q5_ (hm b _ q fun z=>z)];exact q,fun b u xs q=>by rw[q5_ (hm b _ q fun z=>z)];exact q,fun b ps q=>⟨#[],by rw[q5_ (hm b _ q fun z=>z),q];simp⟩⟩
 by_cases hbe:b=e
 ·subst hbe;exact heo
 ·exact⟨u,k b u hbe q⟩
theorem Un.mono(u:Un fs ex H H1 h h1)(hs:∀b∈fs,b∈fs')(hx:∀b∈ex,b∈ex'):Un fs' ex' H H1 h h1:=
 ⟨fun b ob q n hb he=>u.keep b ob q n (fun z=>hb (hs b z)) fun z=>he (hx b z),fun _ _ q n _ he=>u.any q n fun z=>he (hx _ z),fun b ob q n he=>u.free b ob q n fun z=>he (hx b z),fun b ob q he=>u.there b ob q fun z=>he (hx b z),u.tups,u.frzs,u.tbls⟩
end
def trk(h:Heap)(H:Hp):List Addr:=(List.range h.objs.size).filter fun a=>(H a).isSome
def a1v(h:Heap)(H:Hp):Heap:=PySem.W.hideAll h (trk h H)
theorem b5e(h:Heap)(H:Hp):(a1v h H).objs.size=h.objs.size:=PySem.W.hideAll_size _ _
theorem b5f{o:Obj}(e:h.get? b=some o)(n:H b=none):(a1v h H).get? b=some o:=
 Jm _ e fun hm=>by
  have q:(H b).isSome=true:=(Ud.mp hm).2
  rw[n]at q;simp at q
theorem b5g{o:Obj}(e:(a1v h H).get? b=some o):h.get? b=some o/\H b=none:=by
 have e':h.get? b=some o:=PySem.W.of_hideAll (trk h H) e
 refine⟨e',?_⟩;cases q:H b with
 |none=>rfl
 |some x=>
  have hm:b∈trk h H:=Ud.mpr ⟨Zt.mpr (Qw e'),by simp[q]⟩
  have z:(a1v h H).get? b=none:=PySem.W.hideAll_none (trk h H) hm
  rw[z]at e;cases e
def b5h(g h:Heap)(L:Addr):List (Addr×Obj):=(List.range h.objs.size).filterMap fun a=>if a=L∨(g.get? a).isSome=true then none else(h.get? a).map fun o=>(a,o)
def rest(g h:Heap)(L d:Addr):List (Addr×Obj):=(b5h g h L).filter fun p=>decide (p.1≠d)
structure Mod(K:Qz)(mg:Str->Option Value)(base:Heap):Prop where
 kin:K.In base
 glob:base.Ns mainGlobals mg
 blt:∃mb,base.Ns builtinsNs mb/\∀x:Str,x≠"__name__"->mb x=bootBuiltins x
 nolimit:base.NoLimit
structure Cx where
 prog:Program
 w:World
 K:Qz
 mg:Str->Option Value
 base:Heap
 A:Around
 N:List Str
 s₀:Shared
 H₀:Hp
 env:Env
 outer:List Env
 stack:List Env
 ex:List Addr
 fn:Str->Bool
 calm:Bool
 pn:List (Addr×Obj)
 xe:Value->Shared->Prop
variable{X:Cx}
def frs(l:List Env):List Addr:=l.filterMap (·.frame)
abbrev Cx.fs(X:Cx):List Addr:=frs X.outer
def Vis(sc:Scope)(x:Str):Prop:=sc.names.lookup x=some .local∨sc.names.lookup x=some .cell∨sc.names.lookup x=some .free
def Loc(sc:Scope)(x:Str):Prop:=sc.names.lookup x=some .local∨sc.names.lookup x=some .cell
def b0a(env:Env)(h:Heap)(m:Str->Option Value)(x:Str)(u:Value):Prop:=
 (env.kindOf x=some .local/\m x=some u)∨((env.kindOf x=some .cell∨env.kindOf x=some .free)/\∃c,env.cells.lookup x=some c/\h.IsCell c (some u))
structure Cx.Ok(X:Cx):Prop where
 mod:Mod X.K X.mg X.base
 kind:X.env.scope.kind=.function
 glob:X.env.globals=mainGlobals
 blt:X.env.builtins=builtinsNs
 above:X.s₀.heap.objs.size≤X.env.locals
 inj:∀x y c,X.env.cells.lookup x=some c->X.env.cells.lookup y=some c->x=y
 has:∀x,(X.env.kindOf x=some .cell∨X.env.kindOf x=some .free)->∃c,X.env.cells.lookup x=some c
 cab:∀x c,X.fn x=true->X.env.cells.lookup x=some c->X.s₀.heap.objs.size≤c
 hd:X.calm=true->X.A.handled=none
 frames:X.A.frames=some X.stack
 stk:X.stack=X.outer∨(X.stack=X.env::X.outer/\X.env.frame=some X.env.locals)
 exf:∀b∈X.ex,b≠X.env.locals/\∀x c,X.env.cells.lookup x=some c->c≠b
 bs:∀b o,X.base.get? b=some o->X.s₀.heap.get? b=some o/\X.H₀ b=none
 bsz:X.base.objs.size≤X.s₀.heap.objs.size
 noex:∀b o,X.base.get? b=some o->b∉X.ex
 exfs:∀b∈X.ex,b∉X.fs
 funs:X.s₀.heap.FunFrames X.base X.outer
 frf:∀b∈X.fs,X.H₀ b=none
structure Inv(X:Cx)(pins:List (Addr×Obj))(σ:List (Option V))(H:Hp)(s:Shared):Prop where
 ok:X.Ok
 os:s.os=X.s₀.os
 bare:AllBare s.gens
 base:Un X.fs X.ex X.H₀ H X.s₀.heap s.heap
 loc:∃m,s.heap.Ns X.env.locals m/\∀(i:Nat) (x:Str) (v:V),X.N[i]? =some x->σ[i]? =some (some v)->Vis X.env.scope x->∃u,y2_ v u/\b0a X.env s.heap m x u
 cell:∀x c,X.env.cells.lookup x=some c->∃v,s.heap.IsCell c v
 free:H X.env.locals=none
 freeC:∀x c,X.env.cells.lookup x=some c->H c=none
 pin:∀p∈X.pn++pins,s.heap.get? p.1=some p.2/\H p.1=none/\p.1≠X.env.locals/\p.1∉X.fs/\∀v,p.2.data≠.cell v
 hok:HOk X.prog X.w H s.heap
 len:σ.length=X.N.length
section
variable{σ:List (Option V)}
theorem Cx.Ok.nofr(ok:X.Ok){o:Obj}(e:X.base.get? b=some o):b∉X.fs:=fun hb=>by
 have:=(ok.funs.mem hb).1;rw[e]at this;cases this
theorem Inv.bs(I:Inv X pins σ H s):∀b o,X.base.get? b=some o->s.heap.get? b=some o/\H b=none:=fun b o e=>
 ⟨I.base.keep b o (I.ok.bs b o e).1 (I.ok.bs b o e).2 (I.ok.nofr e) (I.ok.noex b o e),I.base.free b o (I.ok.bs b o e).1 (I.ok.bs b o e).2 (I.ok.noex b o e)⟩
theorem Inv.bk(I:Inv X pins σ H s):∀b o,X.base.get? b=some o->s.heap.get? b=some o:=fun b o e=>(I.bs b o e).1
theorem Inv.mod(I:Inv X pins σ H s):Mod X.K X.mg X.base:=I.ok.mod
theorem Inv.kIn(I:Inv X pins σ H s):X.K.In s.heap:=I.ok.mod.kin.keeps I.bk
theorem Inv.nolimit(I:Inv X pins σ H s):s.heap.NoLimit:=I.ok.mod.nolimit.keeps I.bk
theorem Inv.fr(I:Inv X pins σ H s):∃m,Fr X.base X.env.locals s.heap m:=
 let ⟨m,hn,_⟩:=I.loc
 ⟨m,hn,I.bk,Zm I.ok.bsz I.ok.above⟩
theorem Inv.lt(I:Inv X pins σ H s):X.env.locals<s.heap.objs.size:=let ⟨_,hn,_⟩:=I.loc;hn.lt
theorem Inv.sz(I:Inv X pins σ H s):X.s₀.heap.objs.size≤s.heap.objs.size:=Zm I.ok.above (Jo I.lt)
theorem Inv.nofs(I:Inv X pins σ H s){a:Addr}(h:s.heap.objs.size≤a):a∉X.fs:=fun hb=>by
 obtain⟨_,o,ho,_⟩:=I.ok.funs.mem hb;exact absurd (Qc (Qw ho) (Zm I.sz h)) (Yi _)
theorem Inv.cne(I:Inv X pins σ H s):∀x c,X.env.cells.lookup x=some c->c≠X.env.locals:=fun x c e z=>by
 obtain⟨v,o,ho,hd⟩:=I.cell x c e;obtain⟨m,⟨o',es,ep,ho',hd',_⟩,_⟩:=I.loc;rw[z,ho']at ho;cases ho;rw[hd']at hd;cases hd
theorem Inv.funs(I:Inv X pins σ H s):s.heap.FunFrames X.base X.outer:=by
 have all:∀(l:List Env),(∀b∈frs l,b∈X.fs)->X.s₀.heap.FunFrames X.base l->s.heap.FunFrames X.base l:=by
  intro l
  induction l with
  |nil=>intro _ _;trivial
  |cons env r ih=>
   intro hs hl;obtain⟨hk,⟨L,o,hf,hn,ho,hd⟩,hr⟩:=hl;have hL:L∈X.fs:=hs L (by unfold frs;rw[Jf,hf];exact Zd)
   obtain⟨sl,e⟩:=I.base.slot L o ho (I.ok.frf L hL) hL fun z=>I.ok.exfs L z hL
   exact⟨hk,⟨L,_,hf,hn,e,hd⟩,ih (fun b hb=>hs b (by unfold frs;rw[Jf,hf];exact Qs _ hb)) hr⟩
 exact all X.outer (fun _ hb=>hb) I.ok.funs
theorem Inv.stack(I:Inv X pins σ H s):s.heap.FunFrames X.base X.stack:=by
 rcases I.ok.stk with e|⟨e,hf⟩
 ·rw[e];exact I.funs
 ·rw[e]
  obtain⟨m,hn,_⟩:=I.loc;refine .cons (by rw[I.ok.kind];decide) hf hn ?_ I.funs
  exact Heap.get?_none_of_le (Zm I.ok.bsz I.ok.above)
theorem Inv.stkSub(I:Inv X pins σ H s):∀b∈frs X.stack,b∈X.env.locals::X.fs:=fun b hb=>by
 rcases I.ok.stk with e|⟨e,hf⟩
 ·rw[e]at hb;exact Qs _ hb
 ·rw[e]at hb
  unfold frs at hb;rw[Jf,hf]at hb;exact hb
theorem Inv.stkFree(I:Inv X pins σ H s):∀b∈frs X.stack,H b=none:=fun b hb=>by
 rcases Ql.mp (I.stkSub b hb)with e|hb
 ·rw[e];exact I.free
 ·obtain⟨_,o,ho,_⟩:=I.ok.funs.mem hb
  exact I.base.free b o ho (I.ok.frf b hb) fun z=>I.ok.exfs b z hb
theorem Inv.step(I:Inv X pins σ H s)
  (hch:∀b∈ch,(b∈X.ex∨X.s₀.heap.objs.size≤b)/\b≠X.env.locals/\(∀x c,X.env.cells.lookup x=some c->c≠b)/\∀p∈X.pn++pins,p.1≠b)
  (keep:∀b o,b≠X.env.locals->b∉X.fs->b∉ch->s.heap.get? b=some o->H b=none->h'.get? b=some o)
  (slot:∀b o,b≠X.env.locals->b∈X.fs->b∉ch->s.heap.get? b=some o->H b=none->∃sl,h'.get? b=some {o with slots:=sl})(free:∀b o,b∉ch->s.heap.get? b=some o->H b=none->H' b=none)
  (there:∀b o,b∉ch->s.heap.get? b=some o->∃o',h'.get? b=some o')
  (tups:∀b xs,H b=some (.tup xs)->H' b=some (.tup xs))(frzs:∀b o u,H b=some (.frz o u)->H' b=some (.frz o u))(tbls:∀b ps,H b=some (.tbl ps)->∃more,H' b=some (.tbl (ps++more)))
  (ns:∀m,s.heap.Ns X.env.locals m->h'.Ns X.env.locals m)(hok:HOk X.prog X.w H' h')(hg:AllBare g'):
  Inv X pins σ H' {s with heap:=h',gens:=g',drawn:=d',toks:=t'}:=by
 have neL:∀b o,X.s₀.heap.get? b=some o->b≠X.env.locals:=fun b o e=>Qd (Qc (Qw e) I.ok.above)
 have neC:∀b o,X.s₀.heap.get? b=some o->b∉X.ex->b∉ch:=fun b o e hx hb=>by
  rcases(hch b hb).1 with z|z
  ·exact hx z
  ·exact absurd (Qc (Qw e) z) (Yi _)
 have cellK:∀x c,X.env.cells.lookup x=some c->∀v,s.heap.IsCell c v->h'.IsCell c v:=fun x c e v ⟨o,ho,hd⟩=>by
  have nch:c∉ch:=fun z=>(hch c z).2.2.1 x c e rfl
  by_cases hc:c∈X.fs
  ·obtain⟨sl,q⟩:=slot c o (I.cne x c e) hc nch ho (I.freeC x c e)
   exact⟨_,q,hd⟩
  ·exact⟨o,keep c o (I.cne x c e) hc nch ho (I.freeC x c e),hd⟩
 refine⟨I.ok,I.os,hg,⟨fun b o e n hb hx=>?_,fun b o e n hb hx=>?_,fun b o e n hx=>?_,fun b o e hx=>?_,fun b xs e=>tups b xs (I.base.tups b xs e),fun b o xs e=>frzs b o xs (I.base.frzs b o xs e),fun b ps e=>?_⟩,?_,fun x c e=>?_,?_,fun x c e=>?_,fun p hp=>?_,hok,I.len⟩
 ·exact keep b o (neL b o e) hb (neC b o e hx) (I.base.keep b o e n hb hx) (I.base.free b o e n hx)
 ·obtain⟨sl,e1⟩:=I.base.slot b o e n hb hx
  obtain⟨sl',e2⟩:=slot b _ (neL b o e) hb (neC b o e hx) e1 (I.base.free b o e n hx);exact⟨sl',e2⟩
 ·obtain⟨o',e1⟩:=I.base.there b o e hx
  exact free b o' (neC b o e hx) e1 (I.base.free b o e n hx)
 ·obtain⟨o',e1⟩:=I.base.there b o e hx
  exact there b o' (neC b o e hx) e1
 ·obtain⟨m1,e1⟩:=I.base.tbls b ps e
  obtain⟨m2,e2⟩:=tbls b _ e1;exact⟨m1++m2,by rw[e2,Xw]⟩
 ·obtain⟨m,hn,hl⟩:=I.loc
  refine⟨m,ns m hn,fun i x v e1 e2 e3=>?_⟩
  obtain⟨u,r,l⟩:=hl i x v e1 e2 e3;refine⟨u,r,?_⟩
  rcases l with l|⟨k,c,e,z⟩
  ·exact .inl l
  ·exact .inr ⟨k,c,e,cellK x c e _ z⟩
 ·obtain⟨v,z⟩:=I.cell x c e
  exact⟨v,cellK x c e v z⟩
 ·obtain⟨m,⟨o,_,_,ho,_⟩,_⟩:=I.loc
  exact free _ o (fun z=>(hch _ z).2.1 rfl) ho I.free
 ·obtain⟨v,o,ho,hd⟩:=I.cell x c e
  exact free c o (fun z=>(hch c z).2.2.1 x c e rfl) ho (I.freeC x c e)
 ·obtain⟨e,n,ne,nf,d⟩:=I.pin p hp
  have nch:p.1∉ch:=fun z=>(hch p.1 z).2.2.2 p hp rfl
  exact⟨keep p.1 p.2 ne nf nch e n,free p.1 p.2 nch e n,ne,nf,d⟩
theorem Inv.un(I:Inv X pins σ H s)(u:Un X.fs [] H H' s.heap h')(hok:HOk X.prog X.w H' h'):Inv X pins σ H' {s with heap:=h',toks:=t'}:=by
 obtain⟨m,⟨o,es,ep,ho,r⟩,_⟩:=id I.loc;obtain⟨sl,hL⟩:=u.any ho I.free (by simp)
 exact I.step (g':=s.gens) (d':=s.drawn) (ch:=[]) (fun _ z=>nomatch z) (fun b o _ hb _ e n=>u.keep b o e n hb (by simp)) (fun b o _ hb _ e n=>u.slot b o e n hb (by simp)) (fun b o _ e n=>u.free b o e n (by simp)) (fun b o _ e=>u.there b o e (by simp)) u.tups u.frzs u.tbls (fun m' hm=>by
  obtain⟨o',es',ep',ho',r'⟩:=hm;rw[ho]at ho';cases ho';exact⟨_,es',ep',hL,r'⟩) hok I.bare
theorem Inv.call(I:Inv X pins σ H s)(u:Un (frs X.stack) ch H H' s.heap h')(hok:HOk X.prog X.w H' h')(hg:AllBare g')
  (hch:∀b∈ch,(b∈X.ex∨X.s₀.heap.objs.size≤b)/\b≠X.env.locals/\(∀x c,X.env.cells.lookup x=some c->c≠b)/\∀p∈X.pn++pins,p.1≠b):
  Inv X pins σ H' {s with heap:=h',gens:=g',drawn:=d',toks:=t'}:=by
 obtain⟨m,⟨o,es,ep,ho,r⟩,_⟩:=id I.loc;obtain⟨sl,hL⟩:=u.any ho I.free fun z=>(hch _ z).2.1 rfl
 exact I.step (ch:=ch) hch (fun b o hL hb hc e n=>u.keep b o e n (fun z=>(Ql.mp (I.stkSub b z)).elim hL hb) hc) (fun b o _ _ hc e n=>u.any e n hc) (fun b o hc e n=>u.free b o e n hc) (fun b o hc e=>u.there b o e hc) u.tups u.frzs u.tbls (fun m' hm=>by
  obtain⟨o',es',ep',ho',r'⟩:=hm;rw[ho]at ho';cases ho';exact⟨_,es',ep',hL,r'⟩) hok hg
theorem Inv.turned(I:Inv X pins σ H s)(k:∀b o,b≠it->s.heap.get? b=some o->h'.get? b=some o)(hn:H it=none)(hL:it≠X.env.locals)
  (h1:it∈X.ex∨X.s₀.heap.objs.size≤it)(h2:∀x c,X.env.cells.lookup x=some c->c≠it)(h3:∀p∈X.pn++pins,p.1≠it):Inv X pins σ H {s with heap:=h',toks:=t'}:=by
 have nit:∀b u,H b=some u->b≠it:=fun b u e z=>by rw[z,hn]at e;cases e
 refine I.step (g':=s.gens) (d':=s.drawn) (ch:=[it]) (fun b hb=>?_) (fun b o _ _ hc e _=>k b o (fun z=>hc (by simp[z])) e) (fun b o _ _ hc e _=>⟨o.slots,k b o (fun z=>hc (by simp[z])) e⟩) (fun _ _ _ _ n=>n)
  (fun b o hc e=>⟨o,k b o (fun z=>hc (by simp[z])) e⟩) (fun _ _ e=>e) (fun _ _ _ e=>e) (fun b ps e=>⟨#[],by rw[e];simp⟩) (fun m hm=>?_) (fun b u e=>?_) I.bare
 ·have e:b=it:=by simpa using hb
  subst e;exact⟨h1,hL,h2,h3⟩
 ·obtain⟨o,es,ep,ho,r⟩:=hm
  exact⟨o,es,ep,k _ o (Zy hL) ho,r⟩
 ·refine(I.hok b u e).stay (fun c v hc q=>k c v ?_ q) (fun _ q=>q) fun _ _ q=>q
  rcases hc with z|z
  ·rw[z];exact nit b u e
  ·exact nit c _ z
theorem Inv.tok(I:Inv X pins σ H s)(t:Nat):Inv X pins σ H {s with toks:=t}:=I.un (h':=s.heap) (t':=t) Un.refl I.hok
theorem Inv.kept(I:Inv X pins σ H s)(k:∀b u,s.heap.get? b=some u->h'.get? b=some u):Inv X pins σ H {s with heap:=h',toks:=t'}:=I.un (Un.kept k) (I.hok.kept k)
theorem Inv.laid{a:Addr}(I:Inv X pins σ H s)(k:∀b u,s.heap.get? b=some u->h'.get? b=some u)(hp:s.heap.objs.size≤a)(new:j5_ X.prog X.w (upd H a o) h' a o):
  Inv X pins σ (upd H a o) {s with heap:=h',toks:=t'}:=I.un (Un.laid k hp (I.hok.fresh hp)) (I.hok.laid k hp new)
theorem Inv.write{x e:Addr}(I:Inv X pins σ H s)(mu:Mut (H x))(he:e=x∨H e=some (.own x))(k:∀b u,b≠e->s.heap.get? b=some u->h'.get? b=some u)(heo:∃u,h'.get? e=some u)
  (new:j5_ X.prog X.w (upd H x o) h' x o):Inv X pins σ (upd H x o) {s with heap:=h',toks:=t'}:=I.un (Un.write mu he k heo) (I.hok.write mu he k heo new)
theorem Inv.pins_of{pins':List (Addr×Obj)}(I:Inv X pins σ H s)(h:∀p∈pins',s.heap.get? p.1=some p.2/\H p.1=none/\p.1≠X.env.locals/\p.1∉X.fs/\∀v,p.2.data≠.cell v):Inv X pins' σ H s:=
 ⟨I.ok,I.os,I.bare,I.base,I.loc,I.cell,I.free,I.freeC,fun p hp=>(Ur.mp hp).elim (fun z=>I.pin p (List.mem_append_left _ z)) (h p),I.hok,I.len⟩
theorem a7c{N:List Str}(hN:N.Nodup)(a:N[i]? =some x)(b:N[j]? =some x):i=j:=by
 obtain⟨h1,e1⟩:=Qb.mp a;obtain⟨h2,e2⟩:=Qb.mp b;exact(List.getElem_inj hN).mp (e1.trans e2.symm)
theorem b0b{A:Around}{Q:Unit->Shared->Prop}(I:Inv X pins σ H s)(hN:X.N.Nodup)(hi:X.N[i]? =some x)(hx:Loc X.env.scope x)(r:y2_ v u)
  (h:∀s',Inv X pins (σ.set i (some v)) H s'->(∃a,Heap.SameBut a s.heap s'.heap/\(a=X.env.locals∨X.env.cells.lookup x=some a))->Q () s')(hf:X.fn x=true∨X.env.scope.names.lookup x=some .local:=by first|exact .inl rfl|exact .inr rfl|assumption):wpAny M A (storeName X.env x u) Q E s:=by
 obtain⟨m,hn,hl⟩:=id I.loc;have hcls:(X.env.scope.kind==.class||(X.env.scope.kind==.module&&X.env.locals !=X.env.globals))=false:=by rw[I.ok.kind];rfl
 have hiσ:i<σ.length:=by rw[I.len];exact(Qb.mp hi).1
 have cne:=I.cne
 have tracked:∀{a:Addr}{h':Heap},(∃o,s.heap.get? a=some o/\H a=none)->Heap.SameBut a s.heap h'->HOk X.prog X.w H h':=fun{a h'} ha hs b ob e=>by
  obtain⟨_,_,hfree⟩:=ha;refine(I.hok b ob e).stay (fun c w' hc q=>(hs.2 c ?_).trans q) (fun _ q=>q) fun _ _ q=>q
  rintro rfl
  rcases hc with rfl|hc
  ·rw[hfree]at e;cases e
  ·rw[hfree]at hc;cases hc
 rcases hx with hk|hk
 ·refine wpAny_storeName_local hk hn (fun h' hn' hs=>?_) hcls
  obtain⟨oL,_,_,hoL,_⟩:=id hn;refine h _ ⟨I.ok,I.os,I.bare,⟨fun b o e n hb hx=>?_,fun b o e n hb hx=>?_,I.base.free,fun b o e hx=>?_,I.base.tups,I.base.frzs,I.base.tbls⟩,⟨_,hn',fun j y v' e1 e2 e3=>?_⟩,fun y c e=>?_,I.free,I.freeC,fun p hp=>?_,tracked ⟨oL,hoL,I.free⟩ hs,by simpa using I.len⟩ ⟨_,hs,.inl rfl⟩
  ·exact(hs.2 b (Qd (Qc (Qw e) I.ok.above))).trans (I.base.keep b o e n hb hx)
  ·obtain⟨sl,e1⟩:=I.base.slot b o e n hb hx
   exact⟨sl,(hs.2 b (Qd (Qc (Qw e) I.ok.above))).trans e1⟩
  ·obtain⟨o',e1⟩:=I.base.there b o e hx
   exact⟨o',(hs.2 b (Qd (Qc (Qw e) I.ok.above))).trans e1⟩
  ·by_cases hj:j=i
   ·subst hj
    rw[hi]at e1;cases e1;rw[Zi hiσ]at e2;cases e2;exact⟨u,r,.inl ⟨hk,by simp⟩⟩
   ·rw[Qm (Zy hj)]at e2
    obtain⟨u',r',q⟩:=hl j y v' e1 e2 e3;refine⟨u',r',?_⟩
    rcases q with⟨k,e⟩|⟨k,c,e,z⟩
    ·refine .inl ⟨k,?_⟩
     have:y≠x:=fun e=>hj (a7c hN e1 (e ▸ hi))
     simp[this,e]
    ·exact .inr ⟨k,c,e,z.sameBut hs (cne y c e)⟩
  ·obtain⟨w',z⟩:=I.cell y c e
   exact⟨w',z.sameBut hs (cne y c e)⟩
  ·obtain⟨e,n,ne,nf,d⟩:=I.pin p hp
   exact⟨(hs.2 p.1 ne).trans e,n,ne,nf,d⟩
 ·have hfn:X.fn x=true:=by
   rcases hf with z|z
   ·exact z
   ·rw[z]at hk;cases hk
  obtain⟨c,hc⟩:=I.ok.has x (.inl hk);obtain⟨w',z⟩:=I.cell x c hc;refine wpAny_storeName_cell I.ok.kind hk hc z (fun h' hc' hs=>?_)
  obtain⟨oc,hoc,hocd⟩:=id z;refine h {s with heap:=h'} ⟨I.ok,I.os,I.bare,⟨fun b o e n hb hx=>?_,fun b o e n hb hx=>?_,I.base.free,fun b o e hx=>?_,I.base.tups,I.base.frzs,I.base.tbls⟩,⟨m,hn.sameBut hs (Zy (cne x c hc)),fun j y v' e1 e2 e3=>?_⟩,fun y c' e=>?_,I.free,I.freeC,fun p hp=>?_,tracked ⟨oc,hoc,I.freeC x c hc⟩ hs,by simpa using I.len⟩ ⟨c,hs,.inr hc⟩
  ·exact(hs.2 b (Qd (Qc (Qw e) (I.ok.cab x c hfn hc)))).trans (I.base.keep b o e n hb hx)
  ·obtain⟨sl,e1⟩:=I.base.slot b o e n hb hx
   exact⟨sl,(hs.2 b (Qd (Qc (Qw e) (I.ok.cab x c hfn hc)))).trans e1⟩
  ·obtain⟨o',e1⟩:=I.base.there b o e hx
   exact⟨o',(hs.2 b (Qd (Qc (Qw e) (I.ok.cab x c hfn hc)))).trans e1⟩
  ·by_cases hj:j=i
   ·subst hj
    rw[hi]at e1;cases e1;rw[Zi hiσ]at e2;cases e2;exact⟨u,r,.inr ⟨.inl hk,c,hc,hc'⟩⟩
   ·rw[Qm (Zy hj)]at e2
    obtain⟨u',r',q⟩:=hl j y v' e1 e2 e3;refine⟨u',r',?_⟩
    rcases q with q|⟨k,c',e,z'⟩
    ·exact .inl q
    ·refine .inr ⟨k,c',e,z'.sameBut hs ?_⟩
     rintro rfl;exact hj (a7c hN e1 (I.ok.inj _ _ _ e hc ▸ hi))
  ·by_cases hcc:c'=c
   ·subst hcc;exact⟨_,hc'⟩
   ·obtain⟨w2,z2⟩:=I.cell y c' e
    exact⟨w2,z2.sameBut hs hcc⟩
  ·obtain⟨e,n,ne,nf,d⟩:=I.pin p hp
   refine⟨(hs.2 p.1 ?_).trans e,n,ne,nf,d⟩;intro q;rw[q,hoc]at e;have q':oc=p.2:=Ym e;exact d w' (by rw[←q'];exact hocd)
theorem a2W{A:Around}{Q:Unit->Shared->Prop}(I:Inv X pins σ H s)(hN:X.N.Nodup)(hi:X.N[i]? =some x)(hx:Loc X.env.scope x)(r:y2_ v u)
  (h:∀s',Inv X pins (σ.set i (some v)) H s'->Q () s')(hf:X.fn x=true∨X.env.scope.names.lookup x=some .local:=by first|exact .inl rfl|exact .inr rfl|assumption):wpAny M A (storeName X.env x u) Q E s:=
 b0b I hN hi hx r (fun s' I' _=>h s' I') hf
theorem Inv.call'(I:Inv X pins σ H s)(ho:s'.os=s.os)(u:Un (frs X.stack) ch H H' s.heap s'.heap)(hok:HOk X.prog X.w H' s'.heap)(hg:AllBare s'.gens)
  (hch:∀b∈ch,(b∈X.ex∨X.s₀.heap.objs.size≤b)/\b≠X.env.locals/\(∀x c,X.env.cells.lookup x=some c->c≠b)/\∀p∈X.pn++pins,p.1≠b):Inv X pins σ H' s':=by
 obtain⟨h',g',d',t',o'⟩:=s';have e:o'=s.os:=ho;subst e;exact I.call (g':=g') (t':=t') (d':=d') u hok hg hch
end
abbrev XK:=Value->Option Addr->Hp->Prop
abbrev St:=List (Option V)
variable{σ:St}
abbrev VK:=V->Hp->Prop
abbrev TE:=St->Hp->VK->Prop
variable{ta tb te:TE}
abbrev TT:=St->Hp->(Bool->Hp->Prop)->Prop
abbrev TA:=St->Hp->(List V->Hp->Prop)->Prop
structure Ends where
 nx:St->Hp->Prop
 rt:VK
 bk:St->Hp->Prop:=fun _ _=>False
 ct:St->Hp->Prop:=fun _ _=>False
abbrev TS:=Ends->St->Hp->Prop
def EP(X:Cx)(pins:List (Addr×Obj))(σ:St)(Q:VK)(u:Value)(s':Shared):Prop:=∃v H',Inv X pins σ H' s'/\y2_ v u/\Q v H'
def TP(X:Cx)(pins:List (Addr×Obj))(σ:St)(Q:Bool->Hp->Prop)(b:Bool)(s':Shared):Prop:=∃H',Inv X pins σ H' s'/\Q b H'
def AP(X:Cx)(pins:List (Addr×Obj))(σ:St)(Q:List V->Hp->Prop)(us:List Value)(s':Shared):Prop:=∃vs H',Inv X pins σ H' s'/\q8_ vs us/\Q vs H'
def SP(X:Cx)(pins:List (Addr×Obj))(D:Ends)(f:Flow)(s':Shared):Prop:=
 match f with
 |.next=>∃σ' H',Inv X pins σ' H' s'/\D.nx σ' H'
 |.brk=>∃σ' H',Inv X pins σ' H' s'/\D.bk σ' H'
 |.cont=>∃σ' H',Inv X pins σ' H' s'/\D.ct σ' H'
 |.ret u=>∃v σ' H',Inv X pins σ' H' s'/\y2_ v u/\D.rt v H'
def PE(X:Cx)(e:Expr)(t:TE):Prop:=
 ∀(pins:List (Addr×Obj)) (s:Shared) (σ:St) (H:Hp) (Q:VK),Inv X pins σ H s->t σ H Q->wpAny (model X.prog X.w) X.A (eval e X.env) (EP X pins σ Q) X.xe s
def PT(X:Cx)(e:Expr)(t:TT):Prop:=
 ∀(pins:List (Addr×Obj)) (s:Shared) (σ:St) (H:Hp) (Q:Bool->Hp->Prop),Inv X pins σ H s->t σ H Q->wpAny (model X.prog X.w) X.A (isTrue e X.env (eval e X.env)) (TP X pins σ Q) X.xe s
def PW(X:Cx)(e:Expr)(t:TT):Prop:=
 ∀(whole:Sem Value) (pins:List (Addr×Obj)) (s:Shared) (σ:St) (H:Hp) (Q:Bool->Hp->Prop),Inv X pins σ H s->t σ H Q->wpAny (model X.prog X.w) X.A (isTrue e X.env whole) (TP X pins σ Q) X.xe s
theorem PW.pt{t:TT}(h:PW X e t):PT X e t:=h _
def PA(X:Cx)(es:List Expr)(t:TA):Prop:=
 ∀(pos:Pos) (pins:List (Addr×Obj)) (s:Shared) (σ:St) (H:Hp) (Q:List V->Hp->Prop),Inv X pins σ H s->t σ H Q->wpAny (model X.prog X.w) X.A (spliced (backTo pos (starEach es X.env))) (AP X pins σ Q) X.xe s
def PS(X:Cx)(st:Stmt)(t:TS):Prop:=
 ∀(pins:List (Addr×Obj)) (s:Shared) (σ:St) (H:Hp) (D:Ends),Inv X pins σ H s->t D σ H->wpAny (model X.prog X.w) X.A (exec st X.env) (SP X pins D) X.xe s
def PSs(X:Cx)(st:List Stmt)(t:TS):Prop:=
 ∀(pins:List (Addr×Obj)) (s:Shared) (σ:St) (H:Hp) (D:Ends),Inv X pins σ H s->t D σ H->wpAny (model X.prog X.w) X.A (execs st X.env) (SP X pins D) X.xe s
theorem thn{t:Sem α}{Q Q':α->Shared->Prop}{A:Around}(h:wpAny M A t Q E s)(hQ:∀a s,Q a s->Q' a s):wpAny M A t Q' E s:=Qi h hQ fun _ _ x=>x
section
theorem bin{a b:Expr}(ha:PE X a ta)(hb:PE X b tb)(I:Inv X pins σ H s)(h:ta σ H fun x H1=>tb σ H1 fun y H2=>R x y H2)
  {Q:α->Shared->Prop}{f:Value->Value->Sem α}
  (hf:∀v u s2 x y H2,Inv X pins σ H2 s2->y2_ x v->y2_ y u->R x y H2->wpAny (model X.prog X.w) X.A (f v u) Q X.xe s2):
  wpAny (model X.prog X.w) X.A (eval a X.env) (fun v s₁=>wpAny (model X.prog X.w) X.A (eval b X.env) (fun u s₂=>wpAny (model X.prog X.w) X.A (f v u) Q X.xe s₂) X.xe s₁) X.xe s:=by
 refine thn (ha pins s σ H _ I h) fun v s1 ⟨x,H1,I1,r1,q1⟩=>?_
 refine thn (hb pins s1 σ H1 _ I1 q1) fun u s2 ⟨y,H2,I2,r2,q2⟩=>?_
 exact hf v u s2 x y H2 I2 r1 r2 q2
def a0r(i:Nat):TE:=fun σ H Q=>∃v,σ[i]? =some (some v)/\Q v H
def tC(v:V):TE:=fun _ H Q=>Q v H
theorem a7d(hN:X.N[i]? =some x)(hv:Vis X.env.scope x)(hd:(x==("__debug__":Str))=false:=by decide)(hcd:(x==("__classdict__":Str))=false:=by decide):PE X (.Name x pos) (a0r i):=by
 intro pins s σ H Q I h;obtain⟨v,e,h⟩:=h;obtain⟨m,hn,hl⟩:=I.loc;obtain⟨u,r,l⟩:=hl i x v hN e hv;have fin:EP X pins σ Q u s:=⟨v,H,I,r,h⟩
 rcases l with⟨hk,hm⟩|⟨hk,c,hc,hcell⟩
 ·exact wpAny_Name (wpAny_loadName_local I.ok.kind hk hn hm fin) hd
 ·rcases hk with hk|hk
  ·exact wpAny_Name (wpAny_loadName_cell I.ok.kind hk hc hcell fin) hd
  ·exact wpAny_Name (wpAny_loadName_free I.ok.kind hk hc hcell fin hcd) hd
theorem b0c{i j pos}:PE X (.Constant (.int i) j pos) (tC (.int i)):=fun _ _ _ H _ I h=>Xy ⟨.int i,H,I.tok _,⟨_,rfl⟩,h⟩
theorem b5i{b j pos}:PE X (.Constant (.bool b) j pos) (tC (.bl b)):=fun _ _ _ H _ I h=>Constant_bool ⟨.bl b,H,I,rfl,h⟩
theorem b0d{j pos}:PE X (.Constant .none j pos) (tC .non):=fun _ _ _ H _ I h=>Constant_none ⟨.non,H,I,rfl,h⟩
theorem b5j{x j pos}:PE X (.Constant (.str x) j pos) (tC (.str x)):=fun _ _ _ H _ I h=>Calls.Constant_str ⟨.str x,H,I.tok _,⟨_,rfl⟩,h⟩
def Gl(X:Cx)(x:Str):Prop:=X.env.kindOf x=some .globalImplicit
theorem a4v(I:Inv X pins σ H s)(hg:Gl X x)(hm:X.mg x=some u)(h:Q u s)
  (hd:(x==("__debug__":Str))=false:=by decide):wpAny (model X.prog X.w) X.A (eval (.Name x pos) X.env) Q E s:=
 Calls.Name_function_global I.ok.kind hg (Calls.loadGlobal_global (by rw[I.ok.glob];exact I.mod.glob.keeps I.bk) hm h) hd
theorem a2s(I:Inv X pins σ H s)(hg:Gl X x)(hm:X.mg x=none)(hv:bootBuiltins x=some u)(h:Q u s)
  (hn:x≠"__name__":=by decide)(hd:(x==("__debug__":Str))=false:=by decide):wpAny (model X.prog X.w) X.A (eval (.Name x pos) X.env) Q E s:=by
 obtain⟨mb,h1,h2⟩:=I.mod.blt;exact Calls.Name_function_global I.ok.kind hg (Calls.loadGlobal_builtin (by rw[I.ok.glob];exact I.mod.glob.keeps I.bk) hm (by rw[I.ok.blt];exact h1.keeps I.bk) ((h2 x hn).trans hv) h) hd
theorem a7e(hg:Gl X x)(hm:X.mg x=some u)(r:y2_ v u)(hd:(x==("__debug__":Str))=false:=by decide):PE X (.Name x pos) (tC v):=
 fun _ _ _ H _ I h=>a4v I hg hm ⟨v,H,I,r,h⟩ hd
theorem b0e(hg:Gl X x)(hm:X.mg x=none)(hv:bootBuiltins x=some u)(r:y2_ v u)(hn:x≠"__name__":=by decide)(hd:(x==("__debug__":Str))=false:=by decide):PE X (.Name x pos) (tC v):=
 fun _ _ _ H _ I h=>a2s I hg hm hv ⟨v,H,I,r,h⟩ hn hd
variable{a b:Expr}
def PC(X:Cx)(op:CmpOp)(a b:Expr)(t:TE):Prop:=
 ∀(pins:List (Addr×Obj)) (s:Shared) (σ:St) (H:Hp) (Q:VK),Inv X pins σ H s->t σ H Q->
  wpAny (model X.prog X.w) X.A (eval a X.env) (fun v s₁=>wpAny (model X.prog X.w) X.A (eval b X.env) (fun u s₂=>wpAny (model X.prog X.w) X.A (compareOp op v u) (EP X pins σ Q) X.xe s₂) X.xe s₁) X.xe s
theorem nobehind(b:Expr)(h:op≠.In)(h2:op≠.NotIn):behindInMarks op b=false:=by
 have e1:(op==CmpOp.In)=false:=by cases op<;>first|rfl|exact absurd rfl h
 have e2:(op==CmpOp.NotIn)=false:=by cases op<;>first|rfl|exact absurd rfl h2
 cases b<;>simp[behindInMarks,e1,e2]
def tB(t:TE):TT:=fun σ H Q=>t σ H fun x H1=>∃c,x=.bl c/\Q c H1
theorem c3W{t:TE}(h:PC X op a b t)(h1:behindInMarks op b=false:=by first|exact nobehind _ (by decide) (by decide)|rfl):PT X (.Compare a [op] [b] pos) (tB t):=by
 intro pins s σ H Q I hw;refine wpAny_isTrue_Compare1 (thn (h pins s σ H _ I hw) fun v s1 h1=>thn h1 fun u s2 h2=>thn h2 fun c s3 ⟨x,H1,I1,r1,q1⟩=>?_) h1
 obtain⟨d,rfl,q⟩:=q1;cases r1;exact Yj ⟨H1,I1,q⟩
theorem b5k{t:TE}(h:PE X e t)(he:∀whole,isTrue e X.env whole=(do let v←whole;standAt e.pos;holding [v] (truthy v)):=by intro _;rfl):PT X e (tB t):=by
 intro pins s σ H Q I hw;refine isTrue_plain (thn (h pins s σ H _ I hw) fun v s1 ⟨x,H1,I1,r1,q1⟩=>?_) (he _)
 obtain⟨d,rfl,q⟩:=q1;cases r1;exact Yj ⟨H1,I1,q⟩
variable{tA tB':TT}{rest:List Expr}
def b0f(t u:TT):TT:=fun σ H Q=>t σ H fun c H1=>if c=true then u σ H1 Q else Q false H1
def tOr(t u:TT):TT:=fun σ H Q=>t σ H fun c H1=>if c=true then Q true H1 else u σ H1 Q
def b5l(t:TT):TT:=fun σ H Q=>t σ H fun c H1=>Q (!c) H1
theorem b5m(ha:PT X a tA):PW X (.BoolOp .And [a] pos) tA:=by
 intro wh pins s σ H Q I h;refine isTrue_and (thn (ha pins s σ H Q I h) fun c s1 e=>?_)
 cases c with
 |true=>exact isTrue_and_nil e
 |false=>exact e
theorem b5n(ha:PT X a tA):PW X (.BoolOp .Or [a] pos) tA:=by
 intro wh pins s σ H Q I h;refine isTrue_or (thn (ha pins s σ H Q I h) fun c s1 e=>?_)
 cases c with
 |false=>exact isTrue_or_nil e
 |true=>exact e
theorem b5o(ha:PT X a tA)(hb:PW X (.BoolOp .And (b::rest) pos) tB'):PW X (.BoolOp .And (a::b::rest) pos) (b0f tA tB'):=by
 intro wh pins s σ H Q I h;refine isTrue_and (thn (ha pins s σ H _ I h) fun c s1 ⟨H1,I1,q1⟩=>?_)
 cases c with
 |true=>exact hb wh pins s1 σ H1 Q I1 q1
 |false=>exact⟨H1,I1,q1⟩
theorem b5p(ha:PT X a tA)(hb:PW X (.BoolOp .Or (b::rest) pos) tB'):PW X (.BoolOp .Or (a::b::rest) pos) (tOr tA tB'):=by
 intro wh pins s σ H Q I h;refine isTrue_or (thn (ha pins s σ H _ I h) fun c s1 ⟨H1,I1,q1⟩=>?_)
 cases c with
 |true=>exact⟨H1,I1,q1⟩
 |false=>exact hb wh pins s1 σ H1 Q I1 q1
theorem b5q(ha:PT X a tA):PT X (.UnaryOp .Not a pos) (b5l tA):=by
 intro pins s σ H Q I h;exact isTrue_not (ha pins s σ H (fun c H1=>Q (!c) H1) I h)
def b5r(ta tb:TE):TE:=fun σ H Q=>ta σ H fun x H1=>∃c,x=.bl c/\if c=true then tb σ H1 Q else Q (.bl false) H1
def b5s(ta:TE):TE:=fun σ H Q=>ta σ H fun x H1=>∃c,x=.bl c/\Q (.bl (!c)) H1
theorem b5t{op}{t:TE}(h:PE X a t):PE X (.BoolOp op [a] pos) t:=fun pins s σ H Q I hw=>BoolOp_one (h pins s σ H Q I hw)
theorem b5u(ha:PE X a ta)(hb:PE X (.BoolOp .And (b::rest) pos) tb):PE X (.BoolOp .And (a::b::rest) pos) (b5r ta tb):=by
 intro pins s σ H Q I h;refine BoolOp_and (thn (ha pins s σ H _ I h) fun v s1 ⟨x,H1,I1,r1,q1⟩=>?_)
 obtain⟨c,rfl,q1⟩:=q1;cases r1;refine Yj ?_
 cases c with
 |true=>exact hb pins s1 σ H1 Q I1 q1
 |false=>exact⟨.bl false,H1,I1,rfl,q1⟩
theorem b5v(ha:PE X a ta):PE X (.UnaryOp .Not a pos) (b5s ta):=by
 intro pins s σ H Q I h;refine UnaryOp_ (thn (ha pins s σ H _ I h) fun v s1 ⟨x,H1,I1,r1,q1⟩=>?_)
 obtain⟨c,rfl,q1⟩:=q1;cases r1;exact not_of (Yj ⟨.bl (!c),H1,I1,rfl,q1⟩)
end
def SqL(K:Qz)(H:Hp)(a:Addr)(xs:List V):Prop:=
 Rd H a (.lst xs)∨
  ∃(o:Obj) (its:Array Value) (n:Nat),K.lookup a=some o/\o.cls=.type "list"/\o.dict=none/\o.data=.seq its n/\its.size≤sizeLine/\q8_ xs its.toList
def SqT(K:Qz)(H:Hp)(a:Addr)(xs:List V):Prop:=
 Rd H a (.tup xs)∨
  ∃(o:Obj) (its:Array Value) (n:Nat),K.lookup a=some o/\o.cls=.type "tuple"/\o.dict=none/\o.data=.seq its n/\its.size≤sizeLine/\q8_ xs its.toList
def b5w:Value->Option V
 |.none=>some .non
 |.bool b=>some (.bl b)
 |.int i _=>some (.int i)
 |.str x _=>some (.str x)
 |.bytes b _=>some (.byt b)
 |.float b _=>some (.flt b)
 |.ref a=>some (.ref a)
 |.type n=>some (.ty n)
 |_=>none
theorem y2_.abs{x:V}(r:y2_ x u):b5w u=some x:=by
 cases x with
 |non=>cases r;rfl
 |bl _=>cases r;rfl
 |int _=>obtain⟨t,rfl⟩:=r;rfl
 |str _=>obtain⟨t,rfl⟩:=r;rfl
 |byt _=>obtain⟨t,rfl⟩:=r;rfl
 |flt _=>obtain⟨t,rfl⟩:=r;rfl
 |ref _=>cases r;rfl
 |ty _=>cases r;rfl
theorem y2_.inj{x:V}(r:y2_ x u)(q:y2_ y u):x=y:=Ym (r.abs.symm.trans q.abs)
theorem q8_.inj:∀{xs ys:List V}{us:List Value},q8_ xs us->q8_ ys us->xs=ys
 |_,_,_,.nil,.nil=>rfl
 |_,_,_,.cons r t,.cons r' t'=>by rw[r.inj r',q8_.inj t t']
section
variable{a:Addr}{xs ys:List V}
theorem SqL.of{K:Qz}(h:H a=some (.lst xs)):SqL K H a xs:=.inl (.inl h)
theorem SqT.of{K:Qz}(h:H a=some (.tup xs)):SqT K H a xs:=.inl (.inl h)
theorem Inv.list(I:Inv X pins σ H s)(h:SqL X.K H a xs):∃its:List Value,q8_ xs its/\PlainL s.heap a its.toArray/\xs.length≤sizeLine:=by
 rcases h with h|⟨o,its,n,hk,hc,hd,hs,hz,r⟩
 ·obtain⟨z,its,n,r,e⟩:=h.ok I.hok
  exact⟨its,r,⟨_,n,e,rfl,rfl,rfl⟩,z⟩
 ·refine⟨its.toList,r,⟨o,n,I.kIn a o hk,hc,hd,by simpa using hs⟩,?_⟩
  have e:=r.length
  simp only[Xv]at e
  omega
theorem Inv.tupleD(I:Inv X pins σ H s)(h:SqT X.K H a xs):∃its:List Value,q8_ xs its/\a0K s.heap a its.toArray/\xs.length≤sizeLine:=by
 rcases h with h|⟨o,its,n,hk,hc,hd,hs,hz,r⟩
 ·obtain⟨z,its,r,p⟩:=h.ok I.hok
  exact⟨its,r,p,z⟩
 ·refine⟨its.toList,r,⟨o,I.kIn a o hk,hc,hd,n,by simpa using hs⟩,?_⟩
  have e:=r.length
  simp only[Xv]at e
  omega
theorem Inv.tuple(I:Inv X pins σ H s)(h:SqT X.K H a xs):∃its:List Value,q8_ xs its/\IsTup s.heap a its.toArray/\xs.length≤sizeLine:=
 let ⟨its,r,p,z⟩:=I.tupleD h
 ⟨its,r,p.tup,z⟩
theorem Inv.list_inj(I:Inv X pins σ H s)(h:SqL X.K H a xs)(h':SqL X.K H a ys):xs=ys:=by
 obtain⟨its,r,⟨o,n,e,_,_,d⟩,_⟩:=I.list h;obtain⟨its',r',⟨o',n',e',_,_,d'⟩,_⟩:=I.list h';rw[e]at e';cases e';rw[d]at d';injection d' with d1 _
 have:its=its':=by simpa using Yx Array.toList d1
 subst this;exact r.inj r'
theorem Inv.tuple_inj(I:Inv X pins σ H s)(h:SqT X.K H a xs)(h':SqT X.K H a ys):xs=ys:=by
 obtain⟨its,r,⟨o,e,_,n,d⟩,_⟩:=I.tuple h;obtain⟨its',r',⟨o',e',_,n',d'⟩,_⟩:=I.tuple h';rw[e]at e';cases e';rw[d]at d';injection d' with d1 _
 have:its=its':=by simpa using Yx Array.toList d1
 subst this;exact r.inj r'
end
abbrev Cx.wish(X:Cx)(E:Value->Shared->Prop):Cx:={X with xe:=E}
abbrev Cx.nox(X:Cx):Cx:=X.wish fun _ _=>False
theorem Cx.Ok.wish(ok:X.Ok)(E:Value->Shared->Prop):(X.wish E).Ok:=
 ⟨ok.mod,ok.kind,ok.glob,ok.blt,ok.above,ok.inj,ok.has,ok.cab,ok.hd,ok.frames,ok.stk,ok.exf,ok.bs,ok.bsz,ok.noex,ok.exfs,ok.funs,ok.frf⟩
theorem Cx.Ok.unwish(ok:(X.wish E).Ok):X.Ok:=
 ⟨ok.mod,ok.kind,ok.glob,ok.blt,ok.above,ok.inj,ok.has,ok.cab,ok.hd,ok.frames,ok.stk,ok.exf,ok.bs,ok.bsz,ok.noex,ok.exfs,ok.funs,ok.frf⟩
theorem Inv.wish(I:Inv X pins σ H s)(E:Value->Shared->Prop):Inv (X.wish E) pins σ H s:=⟨I.ok.wish E,I.os,I.bare,I.base,I.loc,I.cell,I.free,I.freeC,I.pin,I.hok,I.len⟩
theorem Inv.unwish(I:Inv (X.wish E) pins σ H s):Inv X pins σ H s:=⟨I.ok.unwish,I.os,I.bare,I.base,I.loc,I.cell,I.free,I.freeC,I.pin,I.hok,I.len⟩
theorem SP.unwish{D:Ends}{f:Flow}(h:SP (X.wish E) pins D f s'):SP X pins D f s':=by
 cases f with
 |next=>obtain⟨σ',H',I,q⟩:=h;exact⟨σ',H',I.unwish,q⟩
 |brk=>obtain⟨σ',H',I,q⟩:=h;exact⟨σ',H',I.unwish,q⟩
 |cont=>obtain⟨σ',H',I,q⟩:=h;exact⟨σ',H',I.unwish,q⟩
 |ret u=>obtain⟨v,σ',H',I,r,q⟩:=h;exact⟨v,σ',H',I.unwish,r,q⟩
theorem PE.nox{t:TE}(h:PE X.nox e t):PE X e t:=fun pins s σ H Q I hw=>
 Qi (h pins s σ H Q (I.wish _) hw) (fun _ _ ⟨v,H',I',r,q⟩=>⟨v,H',I'.unwish,r,q⟩) fun _ _ z=>False.elim z
theorem PT.nox{t:TT}(h:PT X.nox e t):PT X e t:=fun pins s σ H Q I hw=>
 Qi (h pins s σ H Q (I.wish _) hw) (fun _ _ ⟨H',I',q⟩=>⟨H',I'.unwish,q⟩) fun _ _ z=>False.elim z
theorem PSs.nox{st:List Stmt}{t:TS}(h:PSs X.nox st t):PSs X st t:=fun pins s σ H D I hw=>
 Qi (h pins s σ H D (I.wish _) hw) (fun _ _ q=>q.unwish) fun _ _ z=>False.elim z
section
variable{st:Stmt}{rest:List Stmt}{t u:TS}
def b5x:TS:=fun D σ H=>D.nx σ H
def b5y(t u:TS):TS:=fun D σ H=>t {D with nx:=u D} σ H
theorem b0g:PSs X [] b5x:=fun _ _ σ H _ I h=>Us ⟨σ,H,I,h⟩
theorem a2X(h1:PS X st t)(h2:PSs X rest u):PSs X (st::rest) (b5y t u):=by
 intro pins s σ H D I h;refine wpAny_execs_cons (thn (h1 pins s σ H {D with nx:=u D} I h) fun f s1 q=>?_)
 cases f with
 |next=>
  obtain⟨σ',H',I',q⟩:=q;exact h2 pins s1 σ' H' D I' q
 |ret v=>exact q
 |brk=>exact q
 |cont=>exact q
theorem a7f(h1:PS X st t):PSs X [st] t:=by
 intro pins s σ H D I h;refine wpAny_execs_cons (thn (h1 pins s σ H D I h) fun f s1 q=>?_)
 cases f with
 |next=>exact Us q
 |ret v=>exact q
 |brk=>exact q
 |cont=>exact q
theorem Inv.quiet(I:Inv X pins σ H s):interactive X.env=false:=by simp[interactive,I.ok.kind]
def b5z(te:TE):TS:=fun D σ H=>te σ H fun _ H1=>D.nx σ H1
theorem a7g(he:PE X e te)(hs:swapsWith e none pos.line X.env=pure false:=by rfl):PS X (.Expr e pos) (b5z te):=by
 intro pins s σ H D I h;exact wpAny_Expr_any (thn (he pins s σ H _ I h) fun v s1 ⟨x,H1,I1,r1,q1⟩=>⟨σ,H1,I1,q1⟩) I.quiet hs
def b5A(te:TE):TS:=fun D σ H=>te σ H D.rt
theorem a7h(he:PE X e te):PS X (.Return (some e) pos) (b5A te):=by
 intro pins s σ H D I h;exact wpAny_Return_some (thn (he pins s σ H _ I h) fun v s1 ⟨x,H1,I1,r1,q1⟩=>⟨x,σ,H1,I1,r1,q1⟩)
def b5B(c:TT)(t u:TS):TS:=fun D σ H=>c σ H fun b H1=>if b=true then t D σ H1 else u D σ H1
theorem a7i{c:Expr}{a b:List Stmt}{tc:TT}(hc:PT X c tc)(ha:PSs X a t)(hb:PSs X b u):PS X (.If c a b pos) (b5B tc t u):=by
 intro pins s σ H D I h;refine wpAny_If (thn (hc pins s σ H _ I h) fun d s1 ⟨H1,I1,q1⟩=>?_)
 cases d with
 |true=>exact ha pins s1 σ H1 D I1 q1
 |false=>exact hb pins s1 σ H1 D I1 q1
def b0h:TS:=fun _ _ _=>False
theorem b5C:PS X st b0h:=fun _ _ _ _ _ _ h=>h.elim
theorem b0i{sts:List Stmt}:PSs X sts b0h:=fun _ _ _ _ _ _ h=>h.elim
end
abbrev TG:=V->St->Hp->(St->Hp->Prop)->Prop
abbrev TGs:=List V->St->Hp->(St->Hp->Prop)->Prop
def PG(X:Cx)(target:Expr)(t:TG):Prop:=
 ∀(pins:List (Addr×Obj)) (s:Shared) (σ:St) (H:Hp) (v:V) (u:Value) (Q:St->Hp->Prop),Inv X pins σ H s->y2_ v u->t v σ H Q->
  wpAny (model X.prog X.w) X.A (assign target X.env u) (fun _ s'=>∃σ' H',Inv X pins σ' H' s'/\Q σ' H') X.xe s
def PGs(X:Cx)(ts:List Expr)(t:TGs):Prop:=
 ∀(pins:List (Addr×Obj)) (s:Shared) (σ:St) (H:Hp) (vs:List V) (us:List Value) (Q:St->Hp->Prop),Inv X pins σ H s->q8_ vs us->t vs σ H Q->
  wpAny (model X.prog X.w) X.A (assignInOrder ((assignEach ts X.env).map (·.2)) us) (fun _ s'=>∃σ' H',Inv X pins σ' H' s'/\Q σ' H') X.xe s
abbrev a7j:=V->V->V->Hp->(Hp->Prop)->Prop
def b0j(X:Cx)(t:a7j):Prop:=
 ∀(pins:List (Addr×Obj)) (s:Shared) (σ:St) (H:Hp) (o i v:V) (ov iv u:Value) (Q:Hp->Prop),Inv X pins σ H s->y2_ o ov->y2_ i iv->y2_ v u->t o i v H Q->
  wpAny (model X.prog X.w) X.A (setItem ov iv u) (fun _ s'=>∃H',Inv X pins σ H' s'/\Q H') X.xe s
abbrev TIp:=V->V->Hp->VK->Prop
def PIp(X:Cx)(op:Operator)(t:TIp):Prop:=
 ∀(pins:List (Addr×Obj)) (s:Shared) (σ:St) (H:Hp) (x y:V) (v u:Value) (Q:VK),Inv X pins σ H s->y2_ x v->y2_ y u->t x y H Q->
  wpAny (model X.prog X.w) X.A (inplaceOp op v u) (EP X pins σ Q) X.xe s
def a7k(i:Nat):TG:=fun v σ H Q=>Q (σ.set i (some v)) H
theorem b5D(hN:X.N.Nodup)(hi:X.N[i]? =some x)(hx:Loc X.env.scope x)(hf:X.fn x=true∨X.env.scope.names.lookup x=some .local:=by first|exact .inl rfl|exact .inr rfl|assumption):PG X (.Name x pos) (a7k i):=by
 intro pins s σ H v u Q I r h;exact wpAny_assign_Name (a2W I hN hi hx r (fun s' I'=>⟨_,H,I',h⟩) hf)
def b5E:TGs:=fun vs σ H Q=>vs=[]/\Q σ H
def b5F(t:TG)(u:TGs):TGs:=fun vs σ H Q=>∃v r,vs=v::r/\t v σ H fun σ' H'=>u r σ' H' Q
theorem b5G:PGs X [] b5E:=by
 intro pins s σ H vs us Q I r h;obtain⟨e,h⟩:=h;subst e;cases r;exact assignInOrder_nil ⟨σ,H,I,h⟩
theorem b5H{t:TG}{u:TGs}(h1:PG X e t)(h2:PGs X es u)
  (hs:(assignEach (e::es) X.env).map (·.2)=assign e X.env::(assignEach es X.env).map (·.2):=by rfl):PGs X (e::es) (b5F t u):=by
 intro pins s σ H vs us Q I r h;obtain⟨v,vr,e1,h⟩:=h;subst e1;cases r with
 |cons r rr=>
  rw[hs];refine assignInOrder_cons (thn (h1 pins s σ H _ _ _ I r h) fun _ s1 ⟨σ1,H1,I1,q1⟩=>?_)
  exact h2 pins s1 σ1 H1 _ _ Q I1 rr q1
def b5I(K:Qz)(n:Nat)(t:TGs):TG:=fun v σ H Q=>∃a xs,v=.ref a/\SqT K H a xs/\xs.length=n/\t xs σ H Q
theorem b5J{k:Nat}{t:TGs}(hc:X.calm=true)(h:PGs X es t)
  (hn:(assignEach es X.env).length=n:=by rfl)(hst:(assignEach es X.env).findIdx? (·.1)=none:=by rfl):PG X (.Tuple es k pos) (b5I X.K n t):=by
 intro pins s σ H v u Q I r hw;obtain⟨a,xs,e1,hq,hl,hw⟩:=hw;subst e1;cases r;obtain⟨its,rv,ht,hz⟩:=I.tuple hq;refine assign_Tuple_tuple (I.ok.hd hc) ht (by simp[hn,←hl,rv.length]) hst fun h' hx=>?_
 have I1:Inv X pins σ H {s with heap:=h'}:=I.kept (t':=s.toks) fun b o e=>hx b o (Qd (Qw e)) e
 exact h pins _ σ H xs _ Q I1 (by simpa using rv) hw
def b5K(to ti:TE)(t:a7j):TG:=fun v σ H Q=>to σ H fun o H1=>ti σ H1 fun i H2=>t o i v H2 fun H3=>Q σ H3
theorem b0k{o i:Expr}{to ti:TE}{t:a7j}(ho:PE X o to)(hi:PE X i ti)(hs:b0j X t)
  (ha:∀v,assign (.Subscript o i pos) X.env v=(do
   let ov←holding [v] (eval o X.env)
   let iv←holding [v,ov] (eval i X.env)
   standAt pos
   holding [v,ov,iv] (setItem ov iv v)
   release [v,ov,iv] []):=by intro _;rfl):PG X (.Subscript o i pos) (b5K to ti t):=by
 intro pins s σ H v u Q I r h;rw[ha];refine Qq (Yu (thn (ho pins s σ H _ I h) fun ov s1 ⟨x,H1,I1,r1,q1⟩=>?_))
 refine Qq (Yu (thn (hi pins s1 σ H1 _ I1 q1) fun iv s2 ⟨y,H2,I2,r2,q2⟩=>?_))
 refine Qq (Jc (Qq (Yu (thn (hs pins s2 σ H2 x y v ov iv u _ I2 r1 r2 r q2) fun _ s3 ⟨H3,I3,q3⟩=>?_))))
 exact wpAny_release ⟨σ,H3,I3,q3⟩
def a7l(te:TE)(g:TG):TS:=fun D σ H=>te σ H fun x H1=>g x σ H1 D.nx
theorem a7m{g:TG}(he:PE X e te)(hg:PG X tg g)(hs:swapsWithSole [tg] e pos.line X.env=pure false:=by rfl)(hw:swappedStores [tg] e X.env=pure none:=by rfl)
  (h1:(assignEach [tg] X.env).map (·.2)=[assign tg X.env]:=by rfl):PS X (.Assign [tg] e pos) (a7l te g):=by
 intro pins s σ H D I h;refine wpAny_Assign_stores (thn (he pins s σ H _ I h) fun v s1 ⟨x,H1,I1,r1,q1⟩=>?_) hs hw
 rw[h1];exact thn (hg pins s1 σ H1 x v _ I1 r1 q1) fun _ s2 q=>q
theorem a4w(hN:X.N.Nodup)(hi:X.N[i]? =some x)(hx:Loc X.env.scope x)(he:PE X e te)(hs:swapsWith e (some (.Name x pos')) pos.line X.env=pure false:=by rfl)(hf:X.fn x=true∨X.env.scope.names.lookup x=some .local:=by first|exact .inl rfl|exact .inr rfl|assumption):
  PS X (.Assign [.Name x pos'] e pos) (a7l te (a7k i)):=by
 intro pins s σ H D I h;refine wpAny_Assign_Name (thn (he pins s σ H _ I h) fun v s1 ⟨y,H1,I1,r1,q1⟩=>?_) hs
 exact a2W I1 hN hi hx r1 (fun s2 I2=>⟨_,H1,I2,q1⟩) hf
def b5L(i j:Nat)(ta:TA):TS:=fun D σ H=>ta σ H fun vs H1=>∃v w,vs=[v,w]/\D.nx ((σ.set i (some v)).set j (some w)) H1
theorem b0l{y:Str}{a b:Expr}{ta:TA}{px py pt:Pos}{kt k2 pt2}(hc:X.calm=true)(hN:X.N.Nodup)(hi:X.N[i]? =some x)(hj:X.N[j]? =some y)(hij:i≠j)
  (hx:X.env.scope.names.lookup x=some .local)(hy:X.env.scope.names.lookup y=some .local)(ha:PA X [a,b] ta)
  (hw:swappedStores [.Tuple [.Name x px,.Name y py] kt pt] (.Tuple [a,b] k2 pt2) X.env=pure (some [x,y]))
  (hs:swapsWithSole [.Tuple [.Name x px,.Name y py] kt pt] (.Tuple [a,b] k2 pt2) pos.line X.env=pure false:=by rfl):
  PS X (.Assign [.Tuple [.Name x px,.Name y py] kt pt] (.Tuple [a,b] k2 pt2) pos) (b5L i j ta):=by
 intro pins s σ H D I h;rw[exec_Assign_arm];refine Qq (Jc ?_);rw[hs];refine Qq (Qk ?_);rw[Qe (by decide)]
 refine Qq (Tuple_ (thn (ha _ pins s σ H _ I h) fun us s1 ⟨vs,H1,I1,r1,q1⟩=>?_))
 obtain⟨v,w,e1,q1⟩:=q1;subst e1;obtain⟨u1,u2,rfl,rv,rw'⟩:∃u1 u2,us=[u1,u2]/\y2_ v u1/\y2_ w u2:=by
  cases r1 with
  |cons p q=>
   cases q with
   |cons p' q'=>
    cases q';exact⟨_,_,rfl,p,p'⟩
 refine Zl ?_ (by show 2≤sizeLine;decide)
 have I2:Inv X pins σ H1 {s1 with heap:=s1.heap.push {cls:=.type "tuple",data:=.seq [u1,u2].toArray}}:=I1.kept (t':=s1.toks) fun b o e=>Qx _ e
 rw[hw];refine Qq (Qk ?_);show wpAny (model X.prog X.w) X.A (do rule "assign.swapped-stores";let items←unpackItems (.ref s1.heap.objs.size) 2 none;assignInOrder [fun v=>bindName X.env y v,fun v=>bindName X.env x v] items.reverse;pure Flow.next) _ _ _
 refine Qq (Uf (Qq (unpackItems_tuple (items:=#[u1,u2]) (I.ok.hd hc) (IsTup.new s1.heap _) fun h' hx'=>?_)))
 have I3:=I2.kept (h':=h') (t':=s1.toks) fun b o e=>hx' b o (Qd (Qw e)) e
 show wpAny _ _ (assignInOrder [fun v=>bindName X.env y v,fun v=>bindName X.env x v] [u2,u1]>>=fun _=>pure Flow.next) _ _ _
 refine Qq (assignInOrder_cons (wpAny_bindName (a2W I3 hN hj (.inl hy) rw' (fun s2 I4=>?_) (.inr hy))))
 refine assignInOrder_cons (wpAny_bindName (a2W I4 hN hi (.inl hx) rv (fun s3 I5=>assignInOrder_nil (Qk ?_)) (.inr hx)))
 rw[List.set_comm _ _ (Zy hij)]at I5;exact⟨_,H1,I5,q1⟩
def b5M(i:Nat)(te:TE)(ti:TIp):TS:=fun D σ H=>∃x,σ[i]? =some (some x)/\te σ H fun y H1=>ti x y H1 fun z H2=>D.nx (σ.set i (some z)) H2
theorem b5N{op:Operator}{ti:TIp}(hN:X.N.Nodup)(hi:X.N[i]? =some x)(hx:Loc X.env.scope x)(he:PE X e te)(ho:PIp X op ti)(hf:X.fn x=true∨X.env.scope.names.lookup x=some .local:=by first|exact .inl rfl|exact .inr rfl|assumption):
  PS X (.AugAssign (.Name x pos') op e pos) (b5M i te ti):=by
 intro pins s σ H D I h;obtain⟨v,e1,h⟩:=h;obtain⟨m,hn,hl⟩:=I.loc;have vis:Vis X.env.scope x:=by rcases hx with k|k;exact .inl k;exact .inr (.inl k)
 obtain⟨u,r,l⟩:=hl i x v hi e1 vis;refine wpAny_AugAssign_Name ?_
 have go:wpAny (model X.prog X.w) X.A (eval e X.env) (fun w s₂=>wpAny (model X.prog X.w) X.A (inplaceOp op u w) (fun r s₃=>wpAny (model X.prog X.w) X.A (storeName X.env x r) (fun _=>SP X pins D .next) X.xe s₃) X.xe s₂) X.xe s:=by
  refine thn (he pins s σ H _ I h) fun w s1 ⟨y,H1,I1,r1,q1⟩=>?_
  refine thn (ho pins s1 σ H1 v y u w _ I1 r r1 q1) fun z s2 ⟨zv,H2,I2,r2,q2⟩=>?_
  exact a2W I2 hN hi hx r2 (fun s3 I3=>⟨_,H2,I3,q2⟩) hf
 rcases l with⟨hk,hm⟩|⟨hk,c,hc,hcell⟩
 ·exact wpAny_loadName_local I.ok.kind hk hn hm go
 ·rcases hk with hk|hk
  ·exact wpAny_loadName_cell I.ok.kind hk hc hcell go
  ·rcases hx with k|k
   ·have:X.env.scope.names.lookup x=some .free:=hk
    rw[k]at this;cases this
   ·have:X.env.scope.names.lookup x=some .free:=hk
    rw[k]at this;cases this
structure It where
 go:Nat->Hp->Prop
 yld:Nat->Hp->V->Hp->Prop
 stop:Nat->Hp->Prop
def w8_(X:Cx)(pins:List (Addr×Obj))(H:Hp)(b:Addr):Prop:=
 H b=none/\b≠X.env.locals/\b∉X.fs/\(b∈X.ex∨X.s₀.heap.objs.size≤b)/\(∀x c,X.env.cells.lookup x=some c->c≠b)/\∀p∈X.pn++pins,p.1≠b
theorem Inv.fpOk(I:Inv X pins σ H s)(hb:s.heap.objs.size≤b)(hn:H' b=none):w8_ X pins H' b:=by
 refine⟨hn,Ua (Qc I.lt hb),I.nofs hb,.inr (Zm I.sz hb),fun x c e z=>?_,fun p hp z=>?_⟩
 ·obtain⟨v,q⟩:=I.cell x c e
  exact absurd (Qc q.lt (by rw[z];exact hb)) (Yi _)
 ·exact absurd (Qc (Qw (I.pin p hp).1) (by rw[z];exact hb)) (Yi _)
structure Turn(P:Program)(w:World)(K:Qz)(tg:Expr)(J:It)(fp:List Addr)(it:Addr)(tn:Nat->Heap->Prop):Prop where
 mem:it∈fp
 obj:∀i h,tn i h->∀b∈fp,∃o,h.get? b=some o/\∀v,o.data≠.cell v
 keep:∀i h h',tn i h->(∀b∈fp,∀o,h.get? b=some o->h'.get? b=some o)->tn i h'
 item:∀(X:Cx),X.prog=P->X.w=w->X.K=K->X.calm=true->∀(i:Nat) (pins:List (Addr×Obj)) (s:Shared) (σ:St) (H:Hp) (E:Value->Shared->Prop),Inv X pins σ H s->(∀b∈fp,w8_ X pins H b)->tn i s.heap->J.go i H->
  wpAny (model P w) X.A (pyNext (.ref it)) (fun r s1=>∃u,r=some u/\
   wpAny (model P w) X.A (letOwnedTupleGo tg (.ref it) u) (fun _ s2=>∃x H',Inv X pins σ H' s2/\y2_ x u/\J.yld i H x H'/\tn (i+1) s2.heap/\∀b∈fp,H' b=none) E s1) E s
 done:∀(X:Cx),X.prog=P->X.w=w->X.K=K->X.calm=true->∀(i:Nat) (pins:List (Addr×Obj)) (s:Shared) (σ:St) (H:Hp) (E:Value->Shared->Prop),Inv X pins σ H s->(∀b∈fp,w8_ X pins H b)->tn i s.heap->J.stop i H->
  wpAny (model P w) X.A (pyNext (.ref it)) (fun r s1=>r=none/\Inv X pins σ H s1) E s
 self:∀(A:Around) (i:Nat) (s:Shared) (Q:Value->Shared->Prop) (E:Value->Shared->Prop),tn i s.heap->Q (.ref it) s->wpAny (model P w) A (pyIter (.ref it)) Q E s
abbrev TI:=St->Hp->(It->Hp->Prop)->Prop
def PIE(X:Cx)(pins:List (Addr×Obj))(σ:St)(tg:Expr)(R:It->Hp->Prop)(itv:Value)(s2:Shared):Prop:=
 ∃(it:Addr) (fp:List Addr) (tn:Nat->Heap->Prop) (J:It) (H':Hp),itv=.ref it/\Inv X pins σ H' s2/\Turn X.prog X.w X.K tg J fp it tn/\tn 0 s2.heap/\(∀b∈fp,w8_ X pins H' b)/\R J H'
def PI(X:Cx)(tg iter:Expr)(wi:TI):Prop:=
 ∀(pins:List (Addr×Obj)) (s:Shared) (σ:St) (H:Hp) (R:It->Hp->Prop),Inv X pins σ H s->wi σ H R->
  wpAny (model X.prog X.w) X.A (eval iter X.env) (fun v s1=>wpAny (model X.prog X.w) X.A (pyIter v) (PIE X pins σ tg R) X.xe s1) X.xe s
theorem a7n{A:Around}{o:Obj}{n:String}{vs:Array Value}{Q:Unit->Shared->Prop}(ho:s.heap.get? it=some o)(hc:o.cls=.type n)(hd:o.data=.fields vs)
    (hn:["enumerate","zip","dict_itemiterator","dict_reverseitemiterator","odict_iterator","itertools.zip_longest","itertools.pairwise"].contains n=false)(hQ:Q () s):wpAny M A (letOwnedTupleGo tg (.ref it) u) Q E s:=by
  unfold letOwnedTupleGo;cases tg<;>first
    |exact Qk hQ
    | (cases u<;>first
        |exact Qk hQ
        | (refine Qq (wpAny_load ho ?_)
           rw[hc,hd];show wpAny M A (if(["enumerate","zip","dict_itemiterator","dict_reverseitemiterator","odict_iterator","itertools.zip_longest","itertools.pairwise"].contains n&&vs[0]? ==some (rawInt _))=true then _ else _) Q E s
           rw[Qe (by intro h;rw[hn,Ja]at h;cases h)]
           exact Qk hQ))
def Itl(K:Qz)(a:Addr):It:=
 ⟨fun i H=>∃xs x,SqL K H a xs/\xs[i]? =some x,fun i H x H'=>H'=H/\∀xs,SqL K H a xs->xs[i]? =some x,fun i H=>∃xs,SqL K H a xs/\xs.length≤i⟩
def Itt(K:Qz)(a:Addr):It:=
 ⟨fun i H=>∃xs x,SqT K H a xs/\xs[i]? =some x,fun i H x H'=>H'=H/\∀xs,SqT K H a xs->xs[i]? =some x,fun i H=>∃xs,SqT K H a xs/\xs.length≤i⟩
def Itr(lo:Int)(n:Nat):It:=⟨fun i _=>i<n,fun i H x H'=>H'=H/\x=.int (lo+i),fun i _=>n≤i⟩
theorem b5O{w:World}{K:Qz}(a it:Addr):Turn P w K tg (Itl K a) [it] it (fun i h=>h.IsListIter it a i)where
 mem:=by simp
 obj:=fun i h st b hb=>by
  have e:b=it:=by simpa using hb
  subst e;obtain⟨o,e,c,d⟩:=st;exact⟨o,e,fun v z=>by rw[d]at z;cases z⟩
 keep:=fun i h h' st k=>st.at fun o e=>k it (by simp) o e
 item:=by
  intro X hP hw hK hc i pins s σ H E I hf st hg;subst hP hw hK;obtain⟨xs,x,hq,hx⟩:=hg;obtain⟨its,rv,p,hz⟩:=I.list hq;obtain⟨u,hu,ru⟩:=rv.get hx;obtain⟨f0,f1,f2,f3,f4,f5⟩:=hf it (by simp)
  refine wpAny_pyNext_list_item st p.isList (x:=u) (by simpa using hu) fun h' st' sb=>?_
  have I1:Inv X pins σ H {s with heap:=h'}:=I.turned (t':=s.toks) (fun b o hb e=>(sb.2 b hb).trans e) f0 f1 f3 f4 f5
  obtain⟨o,e,c,d⟩:=id st';exact⟨u,rfl,a7n (s:={s with heap:=h'}) e c d (by decide) ⟨x,H,I1,ru,⟨rfl,fun ys hy=>by rw[I.list_inj hy hq];exact hx⟩,st',fun b hb=>(hf b hb).1⟩⟩
 done:=by
  intro X hP hw hK hc i pins s σ H E I hf st hg;subst hP hw hK;obtain⟨xs,hq,hx⟩:=hg;obtain⟨its,rv,p,hz⟩:=I.list hq;obtain⟨f0,f1,f2,f3,f4,f5⟩:=hf it (by simp)
  have hl:=rv.length
  exact wpAny_pyNext_list_end (I.ok.hd hc) st p.isList (by simp;omega) fun h' eb=>⟨rfl,I.turned (t':=s.toks) (fun b o hb e=>eb b o hb e) f0 f1 f3 f4 f5⟩
 self:=fun _ _ _ _ _ st h=>wpAny_pyIter_listiter st h
theorem b5P{w:World}{K:Qz}(a it:Addr):Turn P w K tg (Itt K a) [it] it (fun i h=>h.IsTupleIter it a i)where
 mem:=by simp
 obj:=fun i h st b hb=>by
  have e:b=it:=by simpa using hb
  subst e;obtain⟨o,e,c,d⟩:=st;exact⟨o,e,fun v z=>by rw[d]at z;cases z⟩
 keep:=fun i h h' st k=>st.at fun o e=>k it (by simp) o e
 item:=by
  intro X hP hw hK hc i pins s σ H E I hf st hg;subst hP hw hK;obtain⟨xs,x,hq,hx⟩:=hg;obtain⟨its,rv,p,hz⟩:=I.tuple hq;obtain⟨u,hu,ru⟩:=rv.get hx;obtain⟨f0,f1,f2,f3,f4,f5⟩:=hf it (by simp)
  refine wpAny_pyNext_tuple_item st (show s.heap.IsTuple a its.toArray from p) (x:=u) (by simpa using hu) fun h' st' sb=>?_
  have I1:Inv X pins σ H {s with heap:=h'}:=I.turned (t':=s.toks) (fun b o hb e=>(sb.2 b hb).trans e) f0 f1 f3 f4 f5
  obtain⟨o,e,c,d⟩:=id st';exact⟨u,rfl,a7n (s:={s with heap:=h'}) e c d (by decide) ⟨x,H,I1,ru,⟨rfl,fun ys hy=>by rw[I.tuple_inj hy hq];exact hx⟩,st',fun b hb=>(hf b hb).1⟩⟩
 done:=by
  intro X hP hw hK hc i pins s σ H E I hf st hg;subst hP hw hK;obtain⟨xs,hq,hx⟩:=hg;obtain⟨its,rv,p,hz⟩:=I.tuple hq;obtain⟨f0,f1,f2,f3,f4,f5⟩:=hf it (by simp)
  have hl:=rv.length
  exact wpAny_pyNext_tuple_end (I.ok.hd hc) st (show s.heap.IsTuple a its.toArray from p) (by simp;omega) fun h' eb=>⟨rfl,I.turned (t':=s.toks) (fun b o hb e=>eb b o hb e) f0 f1 f3 f4 f5⟩
 self:=fun _ _ _ _ _ st h=>wpAny_pyIter_tupleiter st h
theorem b5Q{w:World}{K:Qz}(it:Addr)(lo:Int)(n:Nat):Turn P w K tg (Itr lo n) [it] it (fun i h=>IsRangeIter h it (lo+(i:Nat) * 1) ((n:Int)-(i:Nat)) 1)where
 mem:=by simp
 obj:=fun i h st b hb=>by
  have e:b=it:=by simpa using hb
  subst e;exact⟨_,st,fun v z=>by
   have z':Data.fields _=Data.cell v:=z
   cases z'⟩
 keep:=fun i h h' st k=>k it (by simp) _ st
 item:=by
  intro X hP hw hK hc i pins s σ H E I hf st hg;subst hP hw hK;obtain⟨f0,f1,f2,f3,f4,f5⟩:=hf it (by simp)
  have W:=Walks.range (prog:=X.prog) (w:=X.w) (I.ok.hd hc) it lo 1 n
  refine W.item i s _ _ hg st fun v h' tk hv st' kk=>?_
  obtain⟨t,rfl⟩:=hv;have I1:Inv X pins σ H {s with heap:=h',toks:=tk}:=I.turned (fun b o hb e=>kk b o (by simpa using hb) e) f0 f1 f3 f4 f5
  refine⟨_,rfl,a7n (s:={s with heap:=h',toks:=tk}) (n:="range_iterator") st' rfl rfl (by decide) ⟨.int (lo+i),H,I1,⟨t,?_⟩,⟨rfl,rfl⟩,st',fun b hb=>(hf b hb).1⟩⟩
  rw[Int.mul_one]
 done:=by
  intro X hP hw hK hc i pins s σ H E I hf st hg;subst hP hw hK;obtain⟨f0,f1,f2,f3,f4,f5⟩:=hf it (by simp)
  exact wpAny_pyNext_range_end (I.ok.hd hc) st (by have:n≤i:=hg;omega) fun h' eb=>⟨rfl,I.turned (t':=s.toks) (fun b o hb e=>eb b o hb e) f0 f1 f3 f4 f5⟩
 self:=fun _ _ _ _ _ st h=>wpAny_pyIter_rangeiter st h
theorem b0m{R:It->Hp->Prop}{lo hi:Int}{t u v:Tok}{tk:Nat}(I:Inv X pins σ H s)(h1: -(2^62)≤lo)(h2:lo<2^62)(h3: -(2^62)≤hi)(h4:hi<2^62)
  (q:R (Itr lo (hi-lo).toNat) H):wpAny (model X.prog X.w) X.A (pyIter (.ref s.heap.objs.size)) (PIE X pins σ tg R) E {s with heap:=s.heap.push {cls:=.type "range",data:=.fields #[.int lo t,.int hi u,.int 1 v]},toks:=tk}:=by
 refine wpAny_pyIter_range (IsRange.new ..) (small_one h1 h2 h3 h4) ?_
 have I1:Inv X pins σ H {s with heap:=s.heap.push {cls:=.type "range",data:=.fields #[.int lo t,.int hi u,.int 1 v]},toks:=tk}:=I.kept fun b o e=>Qx _ e
 refine⟨(s.heap.push {cls:=.type "range",data:=.fields #[.int lo t,.int hi u,.int 1 v]}).objs.size,[(s.heap.push {cls:=.type "range",data:=.fields #[.int lo t,.int hi u,.int 1 v]}).objs.size],_,_,H,rfl,
  I1.kept (t':=tk) fun b o e=>Qx _ e,b5Q _ lo (hi-lo).toNat,?_,fun b hb=>?_,q⟩
 ·have e1:lo+((0:Nat):Int) * 1=lo:=by simp
  have e2:(((hi-lo).toNat:Nat):Int)-((0:Nat):Int)=Builtin.Range.rangeSize lo hi 1:=by rw[rangeSize_one];split<;>omega
  show IsRangeIter _ _ (lo+((0:Nat):Int) * 1) ((((hi-lo).toNat:Nat):Int)-((0:Nat):Int)) 1;rw[e1,e2];exact Qg _ rfl
 ·have e:b=(s.heap.push {cls:=.type "range",data:=.fields #[.int lo t,.int hi u,.int 1 v]}).objs.size:=by simpa using hb
  subst e;exact I1.fpOk (Qp _) (I1.hok.fresh (Qp _))
def b5R(ta:TA):TI:=fun σ H R=>ta σ H fun vs H1=>∃j:Int,vs=[.int j]/\ -(2^62)≤j/\j<2^62/\R (Itr 0 j.toNat) H1
def b5S(ta:TA):TI:=fun σ H R=>ta σ H fun vs H1=>∃i j:Int,vs=[.int i,.int j]/\(-(2^62)≤i/\i<2^62/\ -(2^62)≤j/\j<2^62)/\R (Itr i (j-i).toNat) H1
theorem b5T{a:Expr}{ta:TA}(hg:Gl X "range")(hm:X.mg "range"=none)(ha:PA X [a] ta)(hs:starEach [a] X.env=[(false,eval a X.env)]:=by rfl):PI X tg (.Call (.Name "range" p) [a] [] pos) (b5R ta):=by
 intro pins s σ H R I h;refine Call_ (a2s I hg hm boot_range (Yw (thn (ha pos pins s σ H _ I h) fun us s1 ⟨vs,H1,I1,r1,q1⟩=>?_) hs rfl))
 obtain⟨j,e,q1,q2,q⟩:=q1;subst e;cases r1 with
 |cons r rr=>
  cases rr;obtain⟨t,rfl⟩:=r;exact call_range_1 (b0m I1 (by omega) (by omega) q1 q2 (by simpa using q))
theorem b5U{a b:Expr}{ta:TA}(hg:Gl X "range")(hm:X.mg "range"=none)(ha:PA X [a,b] ta)(hs:starEach [a,b] X.env=[(false,eval a X.env),(false,eval b X.env)]:=by rfl)(hs2:starEach [b] X.env=[(false,eval b X.env)]:=by rfl):
  PI X tg (.Call (.Name "range" p) [a,b] [] pos) (b5S ta):=by
 intro pins s σ H R I h;refine Call_ (a2s I hg hm boot_range (Yw (thn (ha pos pins s σ H _ I h) fun us s1 ⟨vs,H1,I1,r1,q1⟩=>?_) (by rw[hs,hs2]) (by rw[hs2];rfl)))
 obtain⟨i,j,e,⟨q1,q2,q3,q4⟩,q⟩:=q1;subst e;cases r1 with
 |cons r rr=>
  cases rr with
  |cons r' rr=>
   cases rr;obtain⟨t,rfl⟩:=r;obtain⟨t',rfl⟩:=r';exact call_range_2 (b0m I1 q1 q2 q3 q4 q)
def b5V(wi:TI)(g:TG)(tb:TS):TS:=fun D σ H=>wi σ H fun J H1=>∃W:Nat->Nat->St->Hp->Prop,(∃m,W 0 m σ H1)/\∀i m σ H,W i m σ H->
 (J.stop i H/\D.nx σ H)∨(J.go i H/\∃N:St->Hp->Prop,(∀σ' H',N σ' H'->∃m',m'<m/\W (i+1) m' σ' H')/\∀x H',J.yld i H x H'->g x σ H' fun σ2 H2=>tb {D with nx:=N,ct:=N,bk:=D.nx} σ2 H2)
def a2Y(fp:List Addr)(h:Heap):List (Addr×Obj):=fp.filterMap fun b=>(h.get? b).map fun o=>(b,o)
theorem a2t{o:Obj}(hb:b∈fp)(e:h.get? b=some o):(b,o)∈a2Y fp h:=Xu.mpr ⟨b,hb,by rw[e];rfl⟩
theorem b5W{p:Addr×Obj}(hp:p∈a2Y fp h):p.1∈fp/\h.get? p.1=some p.2:=by
 obtain⟨b,hb,e⟩:=List.mem_filterMap.mp hp;cases q:h.get? b with
 |none=>rw[q]at e;cases e
 |some o=>
  rw[q]at e;have e':(b,o)=p:=Ym e;subst e';exact⟨hb,q⟩
theorem Inv.pinned(I:Inv X pins σ H s)(hf:∀b∈fp,w8_ X pins H b)(ho:∀b∈fp,∃o,s.heap.get? b=some o/\∀v,o.data≠.cell v):Inv X (pins++a2Y fp s.heap) σ H s:=
 I.pins_of fun p hp=>(Ur.mp hp).elim (fun z=>I.pin p (Qt _ z)) fun z=>by
  obtain⟨hb,e⟩:=b5W z;obtain⟨f0,f1,f2,_⟩:=hf p.1 hb;obtain⟨o,e',d⟩:=ho p.1 hb;rw[e]at e';cases e';exact⟨e,f0,f1,f2,d⟩
theorem Inv.unpinned{pl:List (Addr×Obj)}(I:Inv X (pins++pl) σ H s):Inv X pins σ H s:=I.pins_of fun p hp=>I.pin p (Qt _ (List.mem_append_left _ hp))
theorem b0n{iter:Expr}{wi:TI}{g:TG}{tb:TS}(hp:PassesOwn (model X.prog X.w) X.A X.env X.xe)(hc:X.calm=true)(hi:PI X tg iter wi)(hg:PG X tg g)(hb:PSs X body tb)
  (hs:∀x,foldedSetIterable iter X.env x=pure x:=by intro _;rfl):PS X (.For tg iter body [] pos) (b5V wi g tb):=by
 intro pins s σ H D I h;refine wpAny_For (thn (hi pins s σ H _ I h) fun v s1 h1=>thn h1 fun itv s2 h2=>?_) hs
 obtain⟨it,fp,tn,J,H2,e,I2,T,st2,f2,W,⟨m0,w0⟩,turn⟩:=h2;subst e;have stat:∀{H':Hp},(∀b∈fp,H' b=none)->∀b∈fp,w8_ X pins H' b:=fun hn b hb=>⟨hn b hb,(f2 b hb).2⟩
 refine codeAny_forLoop_any (fun n s'=>∃i σ' H',Inv X pins σ' H' s'/\tn i s'.heap/\(∀b∈fp,H' b=none)/\W i n σ' H') ?_ m0 ⟨0,σ,H2,I2,st2,fun b hb=>(f2 b hb).1,w0⟩
 rintro n s3 ⟨i,σ3,H3,I3,st3,fr3,w3⟩
 rcases turn i n σ3 H3 w3 with⟨stop,qn⟩|⟨go,N,hN,step⟩
 ·refine Ui hp (thn (T.done X rfl rfl rfl hc i pins s3 σ3 H3 X.xe I3 (stat fr3) st3 stop) fun r s4 ⟨hr,I4⟩=>?_)
  subst hr;exact Us ⟨σ3,H3,I4,qn⟩
 ·refine Ui hp (thn (T.item X rfl rfl rfl hc i pins s3 σ3 H3 X.xe I3 (stat fr3) st3 go) fun r s4 ⟨u,hr,h4⟩=>?_)
  subst hr;refine Ui hp (thn h4 fun _ s5 ⟨x,H5,I5,r5,y5,st5,fr5⟩=>?_)
  have I5':=I5.pinned (stat fr5) (T.obj _ _ st5)
  refine Ui hp (thn (hg _ s5 σ3 H5 x u _ I5' r5 (step x H5 y5)) fun _ s6 ⟨σ6,H6,I6,q6⟩=>?_)
  refine Ui hp (thn (hb _ s6 σ6 H6 _ I6 q6) fun f s7 q7=>?_)
  have again:∀{σ7:St}{H7:Hp},Inv X (pins++a2Y fp s5.heap) σ7 H7 s7->N σ7 H7->∃m,m<n/\∃i σ' H',Inv X pins σ' H' s7/\tn i s7.heap/\(∀b∈fp,H' b=none)/\W i m σ' H':=fun{σ7 H7} I7 n7=>by
   obtain⟨m',hm,w7⟩:=hN σ7 H7 n7;refine⟨m',hm,i+1,σ7,H7,I7.unpinned,T.keep _ _ _ st5 fun b hb o e=>(I7.pin (b,o) (Qt _ (Qt _ (a2t hb e)))).1,fun b hb=>?_,w7⟩
   obtain⟨o,e,d⟩:=T.obj _ _ st5 b hb;exact(I7.pin (b,o) (Qt _ (Qt _ (a2t hb e)))).2.1
  cases f with
  |next=>obtain⟨σ7,H7,I7,n7⟩:=q7;exact again I7 n7
  |cont=>obtain⟨σ7,H7,I7,n7⟩:=q7;exact again I7 n7
  |brk=>obtain⟨σ7,H7,I7,q7⟩:=q7;exact⟨σ7,H7,I7.unpinned,q7⟩
  |ret v=>obtain⟨x7,σ7,H7,I7,r7,q7⟩:=q7;exact⟨x7,σ7,H7,I7.unpinned,r7,q7⟩
abbrev R2:=V->V->Hp->VK->Prop
variable{r r':R2}
def OpR(X:Cx)(f:Value->Value->Sem Value)(r:R2):Prop:=
 ∀(pins:List (Addr×Obj)) (s:Shared) (σ:St) (H:Hp) (x y:V) (v u:Value) (Q:VK),Inv X pins σ H s->y2_ x v->y2_ y u->r x y H Q->
  wpAny (model X.prog X.w) X.A (f v u) (EP X pins σ Q) X.xe s
def UnR(X:Cx)(f:Value->Sem Value)(r:V->Hp->VK->Prop):Prop:=
 ∀(pins:List (Addr×Obj)) (s:Shared) (σ:St) (H:Hp) (x:V) (v:Value) (Q:VK),Inv X pins σ H s->y2_ x v->r x H Q->
  wpAny (model X.prog X.w) X.A (f v) (EP X pins σ Q) X.xe s
def w9_(X:Cx)(f:Value)(r:List V->Hp->VK->Prop):Prop:=
 ∀(pins:List (Addr×Obj)) (s:Shared) (σ:St) (H:Hp) (xs:List V) (us:List Value) (Q:VK),Inv X pins σ H s->q8_ xs us->r xs H Q->
  wpAny (model X.prog X.w) X.A (call f us) (EP X pins σ Q) X.xe s
def tOp(r:R2)(ta tb:TE):TE:=fun σ H Q=>ta σ H fun x H1=>tb σ H1 fun y H2=>r x y H2 Q
def tUn(r:V->Hp->VK->Prop)(ta:TE):TE:=fun σ H Q=>ta σ H fun x H1=>r x H1 Q
def rI(C:Int->Int->Prop)(g:Int->Int->V):R2:=fun x y H Q=>∃i j,x=.int i/\y=.int j/\C i j/\Q (g i j) H
def rI0(g:Int->Int->V):R2:=fun x y H Q=>∃i j,x=.int i/\y=.int j/\Q (g i j) H
def rU(g:Int->V):V->Hp->VK->Prop:=fun x H Q=>∃i,x=.int i/\Q (g i) H
section
variable{a b c:Expr}{tc:TE}
theorem a7o(ha:PE X a ta)(hb:PE X b tb)(I:Inv X pins σ H s)
  (h:ta σ H fun x H1=>tb σ H1 fun y H2=>R x y H2){f:Value->Value->Sem Value}
  (hf:∀v u s2 x y H2,Inv X pins σ H2 s2->y2_ x v->y2_ y u->R x y H2->wpAny (model X.prog X.w) X.A (f v u) Q X.xe s2):
  wpAny (model X.prog X.w) X.A (eval a X.env) (fun v s₁=>wpAny (model X.prog X.w) X.A (eval b X.env) (fun u s₂=>wpAny (model X.prog X.w) X.A (f v u) Q X.xe s₂) X.xe s₁) X.xe s:=by
 refine thn (ha pins s σ H _ I h) fun v s1 ⟨x,H1,I1,r1,q1⟩=>?_
 refine thn (hb pins s1 σ H1 _ I1 q1) fun u s2 ⟨y,H2,I2,r2,q2⟩=>?_
 exact hf v u s2 x y H2 I2 r1 r2 q2
theorem a7p{op:Operator}(ho:OpR X (binaryOp op) r)(ha:PE X a ta)(hb:PE X b tb):PE X (.BinOp a op b pos) (tOp r ta tb):=by
 intro pins s σ H Q I h;exact wpAny_BinOp (a7o ha hb I h fun v u s2 x y H2 I2 rx ry q=>ho pins s2 σ H2 x y v u Q I2 rx ry q)
theorem b0o{op:UnaryOp}{r:V->Hp->VK->Prop}(ho:UnR X (unaryOp op) r)(ha:PE X a ta):PE X (.UnaryOp op a pos) (tUn r ta):=by
 intro pins s σ H Q I h;exact UnaryOp_ (thn (ha pins s σ H _ I h) fun v s1 ⟨x,H1,I1,r1,q1⟩=>ho pins s1 σ H1 x v Q I1 r1 q1)
theorem opI{f:Value->Value->Sem Value}{C:Int->Int->Prop}{g:Int->Int->Int}
  (rule:∀(i j:Int) (t u:Tok) (s:Shared) (Q:Value->Shared->Prop) (E:Value->Shared->Prop),C i j->Q (.int (g i j) s.toks) {s with toks:=s.toks+1}->wpAny (model X.prog X.w) X.A (f (.int i t) (.int j u)) Q E s):
  OpR X f (rI C fun i j=>.int (g i j)):=by
 intro pins s σ H x y v u Q I rx ry h;obtain⟨i,j,rfl,rfl,hc,q⟩:=h;obtain⟨t,rfl⟩:=rx;obtain⟨t',rfl⟩:=ry;exact rule i j t t' s _ _ hc ⟨.int (g i j),H,I.tok _,⟨_,rfl⟩,q⟩
theorem a7q{f:Value->Value->Sem Value}{g:Int->Int->Int}
  (rule:∀(i j:Int) (t u:Tok) (s:Shared) (Q:Value->Shared->Prop) (E:Value->Shared->Prop),Q (.int (g i j) s.toks) {s with toks:=s.toks+1}->wpAny (model X.prog X.w) X.A (f (.int i t) (.int j u)) Q E s):
  OpR X f (rI0 fun i j=>.int (g i j)):=by
 intro pins s σ H x y v u Q I rx ry h;obtain⟨i,j,rfl,rfl,q⟩:=h;obtain⟨t,rfl⟩:=rx;obtain⟨t',rfl⟩:=ry;exact rule i j t t' s _ _ ⟨.int (g i j),H,I.tok _,⟨_,rfl⟩,q⟩
theorem a5C{f:Value->Value->Sem Value}{g:Int->Int->Bool}
  (rule:∀(i j:Int) (t u:Tok) (s:Shared) (Q:Value->Shared->Prop) (E:Value->Shared->Prop),Q (.bool (g i j)) s->wpAny (model X.prog X.w) X.A (f (.int i t) (.int j u)) Q E s):
  OpR X f (rI0 fun i j=>.bl (g i j)):=by
 intro pins s σ H x y v u Q I rx ry h;obtain⟨i,j,rfl,rfl,q⟩:=h;obtain⟨t,rfl⟩:=rx;obtain⟨t',rfl⟩:=ry;exact rule i j t t' s _ _ ⟨.bl (g i j),H,I,rfl,q⟩
def a7r(i j:Int):Prop:=0<j/\j<1073741824
def a7s(i j:Int):Prop:=0≤j/\j≤1000000/\i.natAbs<2^64
def a2Z(i j:Int):Prop:=(-(2^64)<i/\i<2^64)∨(-(2^64)<j/\j<2^64)
theorem a2Z.ok{i j:Int}(h:a2Z i j):IntMulOk i j:=by
 rcases h with⟨h1,h2⟩|⟨h1,h2⟩
 ·exact .of_left (intBits_le_64 h1 h2)
 ·exact .of_right (intBits_le_64 h1 h2)
theorem b5X:OpR X (binaryOp .Add) (rI0 fun i j=>.int (i+j)):=a7q fun _ _ _ _ _ _ _ q=>add_int q
theorem b5Y:OpR X (binaryOp .Sub) (rI0 fun i j=>.int (i-j)):=a7q fun _ _ _ _ _ _ _ q=>sub_int q
theorem b5Z:OpR X (binaryOp .Mult) (rI a2Z fun i j=>.int (i * j)):=opI fun _ _ _ _ _ _ _ hc q=>mul_int q hc.ok
theorem b6a:OpR X (binaryOp .FloorDiv) (rI a7r fun i j=>.int (i/j)):=opI fun i j _ _ _ _ _ hc q=>by
 have h1:(0:Int)<j:=hc.1
 have h2:j<1073741824:=hc.2
 exact floordiv_int (by omega) (by rw[Int.fdiv_eq_ediv_of_nonneg i (by omega)];exact q) (.inl (PyProof.noPylong_small (by omega)))
theorem b6b:OpR X (binaryOp .Mod) (rI (fun _ j=>0<j) fun i j=>.int (i%j)):=opI fun i j _ _ _ _ _ hc q=>by
 have h1:(0:Int)<j:=hc
 exact mod_int' (by omega) (by rw[Int.fmod_eq_emod_of_nonneg i (by omega)];exact q)
theorem b6c:OpR X (binaryOp .Pow) (rI a7s fun i j=>.int (i^j.toNat)):=opI fun _ _ _ _ _ _ _ hc q=>pow_int_small hc.1 hc.2.1 hc.2.2 q
theorem b6d:OpR X (inplaceOp .Add) (rI0 fun i j=>.int (i+j)):=a7q fun _ _ _ _ _ _ _ q=>iadd_int q
theorem unI{f:Value->Sem Value}{g:Int->Int}
  (rule:∀(i:Int) (t:Tok) (s:Shared) (Q:Value->Shared->Prop) (E:Value->Shared->Prop),Q (.int (g i) s.toks) {s with toks:=s.toks+1}->wpAny (model X.prog X.w) X.A (f (.int i t)) Q E s):
  UnR X f (rU fun i=>.int (g i)):=by
 intro pins s σ H x v Q I rx h;obtain⟨i,rfl,q⟩:=h;obtain⟨t,rfl⟩:=rx;exact rule i t s _ _ ⟨.int (g i),H,I.tok _,⟨_,rfl⟩,q⟩
theorem b0p:UnR X (unaryOp .USub) (rU fun i=>.int (-i)):=unI fun _ _ _ _ _ q=>neg_int q
end
section
variable{a b c:Expr}{tc:TE}
theorem b6e{Q:VK}{k k':Bool}(I:Inv X pins σ H s)(q:Q (.bl k) H)(e:k=k'):EP X pins σ Q (.bool k') s:=by
 subst e;exact⟨.bl k,H,I,rfl,q⟩
theorem b6f:OpR X (compareOp .Lt) (rI0 fun i j=>.bl (decide (i<j))):=a5C fun _ _ _ _ _ _ _ q=>lt_int q
theorem b6g:OpR X (compareOp .LtE) (rI0 fun i j=>.bl (decide (i≤j))):=a5C fun _ _ _ _ _ _ _ q=>le_int q
theorem b6h:OpR X (compareOp .Gt) (rI0 fun i j=>.bl (decide (j<i))):=a5C fun _ _ _ _ _ _ _ q=>gt_int q
theorem b6i:OpR X (compareOp .GtE) (rI0 fun i j=>.bl (decide (j≤i))):=a5C fun _ _ _ _ _ _ _ q=>ge_int q
theorem b6j:OpR X (compareOp .Is) (fun x y H Q=>y=.non/\Q (.bl (decide (x=.non))) H):=by
 intro pins s σ H x y v u Q I rx ry h;obtain⟨rfl,q⟩:=h;cases ry;refine is_none_gen (b6e I q ?_);cases x<;>first
  |(cases rx;rfl)
  |(obtain⟨t,rfl⟩:=rx;rfl)
theorem OpR.or{f:Value->Value->Sem Value}(h:OpR X f r)(h':OpR X f r'):OpR X f (fun x y H Q=>r x y H Q∨r' x y H Q):=by
 intro pins s σ H x y v u Q I rx ry q
 rcases q with q|q
 ·exact h pins s σ H x y v u Q I rx ry q
 ·exact h' pins s σ H x y v u Q I rx ry q
theorem nomark(b:Expr)(h:op≠.In:=by decide)(h2:op≠.NotIn:=by decide):behindInMarks op b=false:=by
 have e1:(op==CmpOp.In)=false:=by cases op<;>first|rfl|exact absurd rfl h
 have e2:(op==CmpOp.NotIn)=false:=by cases op<;>first|rfl|exact absurd rfl h2
 cases b<;>simp[behindInMarks,e1,e2]
theorem b6k(ho:OpR X (compareOp op) r)(ha:PE X a ta)(hb:PE X b tb)(hm:behindInMarks op b=false):PE X (.Compare a [op] [b] pos) (tOp r ta tb):=by
 intro pins s σ H Q I h;exact wpAny_Compare1 (a7o ha hb I h fun v u s2 x y H2 I2 rx ry q=>ho pins s2 σ H2 x y v u Q I2 rx ry q) hm
def b0q(t:TE):TT:=fun σ H Q=>t σ H fun x H'=>∃k,x=.bl k/\Q k H'
theorem b6l(ho:OpR X (compareOp op) r)(ha:PE X a ta)(hb:PE X b tb)(hm:behindInMarks op b=false):PT X (.Compare a [op] [b] pos) (b0q (tOp r ta tb)):=by
 intro pins s σ H Q I h;refine wpAny_isTrue_Compare1 (thn (ha pins s σ H _ I h) fun v s1 ⟨x,H1,I1,r1,q1⟩=>thn (hb pins s1 σ H1 _ I1 q1) fun u s2 ⟨y,H2,I2,r2,q2⟩=>
  thn (ho pins s2 σ H2 x y v u _ I2 r1 r2 q2) fun c s3 ⟨z,H3,I3,r3,k,e,q3⟩=>?_) hm
 subst e;cases r3;exact Yj ⟨H3,I3,q3⟩
def a7t(r r':R2)(ta tb tc:TE):TE:=fun σ H Q=>ta σ H fun x H1=>tb σ H1 fun y H2=>r x y H2 fun z H3=>∃k,z=.bl k/\
 (if k=true then tc σ H3 fun w' H4=>r' y w' H4 Q else Q (.bl false) H3)
theorem b6m(ho:OpR X (compareOp op) r)(ho':OpR X (compareOp op') r')(ha:PE X a ta)(hb:PE X b tb)(hc:PE X c tc)
  (hm:lastMarks [op,op'] [b,c]=false:=by with_unfolding_all rfl):PE X (.Compare a [op,op'] [b,c] pos) (a7t r r' ta tb tc):=by
 intro pins s σ H Q I h;refine Compare_chain (thn (ha pins s σ H _ I h) fun v s1 ⟨x,H1,I1,r1,q1⟩=>chain_link (thn (hb pins s1 σ H1 _ I1 q1) fun u s2 ⟨y,H2,I2,r2,q2⟩=>
  thn (ho pins s2 σ H2 x y v u _ I2 r1 r2 q2) fun d s3 ⟨z,H3,I3,r3,k,e,q3⟩=>?_)) hm
 subst e;cases r3;refine Yj ?_
 cases k with
 |false=>exact ite_ff ⟨.bl false,H3,I3,rfl,q3⟩
 |true=>exact ite_tt (chain_last (thn (hc pins s3 σ H3 _ I3 q3) fun w' s4 ⟨z',H4,I4,r4,q4⟩=>ho' pins s4 σ H4 y z' u w' Q I4 r2 r4 q4))
theorem b6n(ho:OpR X (compareOp op) r)(ho':OpR X (compareOp op') r')(ha:PE X a ta)(hb:PE X b tb)(hc:PE X c tc)
  (hm:lastMarks [op,op'] [b,c]=false:=by with_unfolding_all rfl):PT X (.Compare a [op,op'] [b,c] pos) (b0q (a7t r r' ta tb tc)):=by
 intro pins s σ H Q I h;refine isTrue_chain (thn (ha pins s σ H _ I h) fun v s1 ⟨x,H1,I1,r1,q1⟩=>test_link (thn (hb pins s1 σ H1 _ I1 q1) fun u s2 ⟨y,H2,I2,r2,q2⟩=>
  thn (ho pins s2 σ H2 x y v u _ I2 r1 r2 q2) fun d s3 ⟨z,H3,I3,r3,k,e,q3⟩=>?_)) hm
 subst e;cases r3;refine Yj ?_
 cases k with
 |false=>
  obtain⟨k',e',q'⟩:=q3;cases e';exact ite_ff ⟨H3,I3,q'⟩
 |true=>
  refine ite_tt (test_last (thn (hc pins s3 σ H3 _ I3 q3) fun w' s4 ⟨z',H4,I4,r4,q4⟩=>thn (ho' pins s4 σ H4 y z' u w' _ I4 r2 r4 q4) fun d' s5 ⟨z2,H5,I5,r5,k2,e2,q5⟩=>?_))
  subst e2;cases r5;exact Yj ⟨H5,I5,q5⟩
theorem a4x:(sizeLine:Nat)<2^63:=by rw[sizeLine_eq];decide
theorem a1w{x:V}(r:q8_ [x] us):∃u,us=[u]/\y2_ x u:=by
 cases r with
 |cons r1 r2=>cases r2;exact⟨_,rfl,r1⟩
theorem a3a{x:V}(r:q8_ [x,y] us):∃u w',us=[u,w']/\y2_ x u/\y2_ y w':=by
 cases r with
 |cons r1 r2=>
  cases r2 with
  |cons r3 r4=>cases r4;exact⟨_,_,rfl,r1,r3⟩
theorem b0r(hc:X.calm=true):w9_ X (.builtin "max") (fun xs H Q=>∃i j,xs=[.int i,.int j]/\Q (.int (if j>i then j else i)) H):=by
 intro pins s σ H xs us Q I r h;obtain⟨i,j,rfl,q⟩:=h;obtain⟨u,w',rfl,⟨t,rfl⟩,⟨t',rfl⟩⟩:=a3a r;refine max_two_ints (I.ok.hd hc) fun h' tk k=>⟨_,H,I.kept k,?_,q⟩
 by_cases hj:j>i
 ·rw[Qn hj,Qn hj];exact⟨_,rfl⟩
 ·rw[Qe hj,Qe hj];exact⟨_,rfl⟩
theorem b0s(hc:X.calm=true):w9_ X (.builtin "min") (fun xs H Q=>∃i j,xs=[.int i,.int j]/\Q (.int (if j<i then j else i)) H):=by
 intro pins s σ H xs us Q I r h;obtain⟨i,j,rfl,q⟩:=h;obtain⟨u,w',rfl,⟨t,rfl⟩,⟨t',rfl⟩⟩:=a3a r;refine min_two_ints (I.ok.hd hc) fun h' tk k=>⟨_,H,I.kept k,?_,q⟩
 by_cases hj:j<i
 ·rw[Qn hj,Qn hj];exact⟨_,rfl⟩
 ·rw[Qe hj,Qe hj];exact⟨_,rfl⟩
theorem a5D:w9_ X (.type "int") (fun xs H Q=>(∃i,xs=[.int i]/\Q (.int i) H)∨ ∃k,xs=[.bl k]/\Q (.int (if k then 1 else 0)) H):=by
 intro pins s σ H xs us Q I r h
 rcases h with⟨i,rfl,q⟩|⟨k,rfl,q⟩
 ·obtain⟨u,rfl,t,rfl⟩:=a1w r
  exact call_int_int ⟨.int i,H,I,⟨_,rfl⟩,q⟩
 ·obtain⟨u,rfl,r1⟩:=a1w r
  cases r1;exact call_int_bool ⟨.int (if k then 1 else 0),H,I.tok _,⟨_,rfl⟩,q⟩
end
structure ObjM(h:Heap)(x dx C:Addr)(mA:Str->Option Value):Prop where
 obj:h.get? x=some (PySem.W.instObj C dx)
 ns:h.Ns1 dx mA
 ne:dx≠x
theorem b6o(n:h.Ns1 dx mA):∃od,h.get? dx=some od/\∀name,PySem.W.lookIn name od=some (mA name):=by
 obtain⟨o,es,ep,ho,hd,hk,_,hm⟩:=n;refine⟨o,ho,fun name=>?_⟩
 have e:=hm name
 unfold nsFind findBy at e;rw[←Array.find?_toList]at e;unfold PySem.W.lookIn;rw[hd];dsimp only;split
 ·rename_i y q
  rw[q]at e;exact Yx some e
 ·rename_i q
  rw[q]at e;have a:es.toList.any (·.refKey)=false:=by
   rw[List.any_eq_false];intro y hy;obtain⟨z,t,hkey⟩:=hk y (Array.mem_toList_iff.mp hy)
   simp[DictEntry.refKey,hkey]
  have a':¬ es.toList.any (·.refKey)=true:=by rw[a];exact Yy
  rw[Qe a'];exact Yx some e
theorem ObjM.look{x:Addr}(I:ObjM h x dx C mA):∃od,PySem.W.InstAt h x (PySem.W.instObj C dx) C (some od)/\∀name,PySem.W.lookIn name od=some (mA name):=
 let ⟨od,ho,hl⟩:=b6o I.ns
 ⟨od,⟨I.obj,rfl,rfl,ho⟩,hl⟩
section
variable{prog:Program}{w:World}{A:Around}{K:Qz}{x f:Addr}{name:Str}{v:Value}
end
section
variable{w:World}{a:Addr}{fs fs':List (Str×V)}
theorem b6p(hok:HOk P w H h)(e:H a=some (.ins C dx fs)):∃mA,ObjM h a dx C mA/\(∀f,a3I (fs.lookup f) (mA f))/\PySem.Within mA (fs.map (·.1))/\fs.length≤1000/\H dx=some (.own a):=by
 obtain⟨d,z,ne,ob,mA,n,r,q⟩:=(show j5_ P w H h a (.ins C dx fs)from hok a _ e)
 exact⟨mA,⟨ob,n,ne⟩,r,q,z,d⟩
end
structure Cls(K:Qz)(C:Addr):Prop where
 pg:PySem.W.plainGet K C Str.empty=true
 hd:PySem.W.hasDictIn K C=true
 po:PySem.W.plainOver K C=true
 sa:PySem.W.findIn K (.ref C) "__setattr__"=some (some (.builtin "object.__setattr__"))
theorem Cls.get{K:Qz}(c:Cls K C)(f:Str):PySem.W.plainGet K C f=true:=c.pg
structure Con(K:Qz)(C:Addr)(f:Str)(v:V)(u:Value):Prop where
 at_:PySem.W.findIn K (.ref C) f=some (some u)
 rel:y2_ v u
 get:PySem.W.specialIn K u "__get__"=some none
 cp:PySem.W.copiedNames.contains f=false
structure Meth(K:Qz)(C:Addr)(m:Str)(f:Addr):Prop where
 at_:PySem.W.findIn K (.ref C) m=some (some (.ref f))
 fn:PySem.W.isFn K (.ref f)=true
 kp:PySem.W.keepIn K (.ref f)=true
section
variable{a:Addr}{fs:List (Str×V)}{f:Str}{A:Around}
theorem Inv.made(I:Inv X pins σ H s):Inv X pins σ (upd (upd H s.heap.objs.size (.own (s.heap.objs.size+1))) (s.heap.objs.size+1) (.ins C s.heap.objs.size []))
  {s with heap:=(s.heap.push PySem.W.emptyDict).push (PySem.W.instObj C s.heap.objs.size)}:=by
 have e1:(s.heap.push PySem.W.emptyDict).get? s.heap.objs.size=some PySem.W.emptyDict:=Qg s.heap rfl
 have e2:((s.heap.push PySem.W.emptyDict).push (PySem.W.instObj C s.heap.objs.size)).get? (s.heap.objs.size+1)=some (PySem.W.instObj C s.heap.objs.size):=by
  have:=Qg (s.heap.push PySem.W.emptyDict) (o:=PySem.W.instObj C s.heap.objs.size) rfl;rwa [Zc]at this
 have e3:(s.heap.push PySem.W.emptyDict).Ns s.heap.objs.size (fun _=>none):=⟨PySem.W.emptyDict,#[],_,e1,rfl,(fun e he=>absurd he (by simp)),fun _=>rfl⟩
 have I1:=I.laid (a:=s.heap.objs.size) (o:=.own (s.heap.objs.size+1)) (h':=s.heap.push PySem.W.emptyDict) (t':=s.toks) (fun b u q=>Qx _ q) (Qp _) ⟨_,e1⟩
 refine I1.laid (a:=s.heap.objs.size+1) (o:=.ins C s.heap.objs.size []) (t':=s.toks) (fun b u q=>Qx _ q) (Xd (Zc _ _)) ?_
 have ne:s.heap.objs.size≠s.heap.objs.size+1:=Qd (Vc _)
 refine⟨by rw[q5_ ne,y5_],Jt _,ne,e2,fun _=>none,(Heap.Ns1.of_empty e3).at fun o q=>Qx _ q,fun _=>True.intro,fun y hy=>absurd rfl hy⟩
end
section
variable{o value:Expr}{f:Str}{tpos:Pos}{tv:TE}
end
section
variable{A:Around}{c:Value}{b:Bool}
inductive TyOf (K:Qz) (H:Hp):V->Value->Prop where
 |non:TyOf K H .non (.type "NoneType")
 |bl (x:Bool):TyOf K H (.bl x) (.type "bool")
 |int (i:Int):TyOf K H (.int i) (.type "int")
 |str (x:Str):TyOf K H (.str x) (.type "str")
 |flt (x:UInt64):TyOf K H (.flt x) (.type "float")
 |lst {a:Addr}{xs:List V}(e:H a=some (.lst xs)):TyOf K H (.ref a) (.type "list")
 |frz {a:Addr}{o:Obj}{xs:List V}(e:H a=some (.frz o (.lst xs))):TyOf K H (.ref a) (.type "list")
 |tup {a:Addr}{xs:List V}(e:H a=some (.tup xs)):TyOf K H (.ref a) (.type "tuple")
 |dK {a:Addr}{kvs:List (Key×V)}(e:H a=some (.dK kvs)):TyOf K H (.ref a) (.type "dict")
 |dT {a:Addr}{C:Addr->List Key->Prop}{kvs:List (List Key×V)}(e:H a=some (.dT C kvs)):TyOf K H (.ref a) (.type "dict")
 |ins {a C dx:Addr}{fs:List (Str×V)}(e:H a=some (.ins C dx fs)) (cl:Cls K C) (ha:PySem.W.findIn K (.ref C) "__class__"=some (some (.builtin "object.__class__")))
   (hn:PySem.W.specialIn K (.builtin "object.__class__") "__get__"=some (some (.builtin "getset_descriptor.__get__"))) (htk:PySem.W.takesIn K (.builtin "object.__class__")=some true)
   (hm:PySem.W.mroIn K C (.type "object")=some true):TyOf K H (.ref a) (.ref C)
theorem a3J{x:V}{t:Value}(I:Inv X pins σ H s)(rx:y2_ x u)(ty:TyOf X.K H x t)(e:PySem.W.kitOne X.K t c=some b)(h:∀tk,Q (.bool b) {s with toks:=tk}):
  wpAny (model X.prog X.w) A (call (.builtin "isinstance") [u,c]) Q E s:=by
 cases ty with
 |non=>cases (show u=Value.none from rx);exact Zh PySem.W.kitx_none I.kIn True.intro e (fun z=>nomatch z) h
 |bl y=>cases (show u=Value.bool y from rx);exact Zh PySem.W.kitx_bool I.kIn True.intro e (fun z=>nomatch z) h
 |int i=>obtain⟨t,q⟩:=(show∃t,u=Value.int i t from rx);cases q;exact Zh PySem.W.kitx_int I.kIn True.intro e (fun z=>nomatch z) h
 |str y=>obtain⟨t,q⟩:=(show∃t,u=Value.str y t from rx);cases q;exact Zh PySem.W.kitx_str I.kIn True.intro e (fun z=>nomatch z) h
 |flt y=>obtain⟨t,q⟩:=(show∃t,u=Value.float y t from rx);cases q;exact Zh PySem.W.kitx_float I.kIn True.intro e (fun z=>nomatch z) h
 |@lst a xs ea=>
  cases (show u=Value.ref a from rx)
  obtain⟨_,_,n,_,h1⟩:=(show j5_ X.prog X.w H s.heap a (.lst xs)from I.hok a _ ea)
  exact Zh Xm I.kIn ⟨_,h1,rfl⟩ e (fun z=>nomatch z) h
 |@frz a ob xs ea=>
  cases (show u=Value.ref a from rx)
  obtain⟨_,_,_,n,_,h1⟩:=(show j5_ X.prog X.w H s.heap a (.frz ob (.lst xs))from I.hok a _ ea)
  exact Zh Xm I.kIn ⟨_,h1,rfl⟩ e (fun z=>nomatch z) h
 |@tup a xs ea=>
  cases (show u=Value.ref a from rx)
  obtain⟨_,_,_,p⟩:=(show j5_ X.prog X.w H s.heap a (.tup xs)from I.hok a _ ea)
  obtain⟨o,h1,h2,_⟩:=p;exact Zh PySem.W.kitx_tuple I.kIn ⟨o,h1,h2⟩ e (fun z=>nomatch z) h
 |@dK a kvs ea=>
  cases (show u=Value.ref a from rx)
  obtain⟨_,_,vs,_,p⟩:=(show j5_ X.prog X.w H s.heap a (.dK kvs)from I.hok a _ ea)
  obtain⟨o,es,ep,h1,h2,_⟩:=p;exact Zh PySem.W.kitx_dict I.kIn ⟨o,h1,h2.1⟩ e (fun z=>nomatch z) h
 |@dT a C kvs ea=>
  cases (show u=Value.ref a from rx)
  obtain⟨_,_,xs,_,o,es,ep,h1,h2,_⟩:=(show j5_ X.prog X.w H s.heap a (.dT C kvs)from I.hok a _ ea)
  exact Zh PySem.W.kitx_dict I.kIn ⟨o,h1,h2.1⟩ e (fun z=>nomatch z) h
 |@ins a C dx fs ea cl ha hn htk hm=>
  cases (show u=Value.ref a from rx)
  obtain⟨mA,O,_⟩:=b6p I.hok ea;obtain⟨od,J,_⟩:=O.look;exact Zh (PySem.W.kitx_own (cl.get _) cl.hd ha hn htk hm) I.kIn J e (fun z=>nomatch z) h
end
structure Room(k:Nat)(A:Around):Prop where
 hd:A.handled=none
 dp:A.depth+3 * k+5<recursionLimit
 un:A.units+16 * k+200<cLine
theorem Room.mono{k:Nat}{A:Around}(r:Room k A)(h:j≤k):Room j A:=⟨r.hd,by have:=r.dp;omega,by have:=r.un;omega⟩
theorem Room.deeper{k:Nat}{A:Around}(r:Room (k+1) A)(env:Env):Room k (A.deeper env):=
 ⟨r.hd,by have:=r.dp;show A.depth+1+3 * k+5<_;omega,by have:=r.un;show A.units+3+16 * k+200<_;omega⟩
theorem Room.in1{k:Nat}{A:Around}(r:Room (k+1) A):Room k A.in1:=
 ⟨r.hd,by have:=r.dp;show A.depth+3 * k+5<_;omega,by have:=r.un;show A.units+1+16 * k+200<_;omega⟩
theorem Room.depth{k:Nat}{A:Around}(r:Room k A):A.depth<recursionLimit:=by have:=r.dp;omega
theorem Room.units{k:Nat}{A:Around}(r:Room k A):A.units+64<cLine:=by have:=r.un;omega
def b6q:TA:=fun _ H Q=>Q [] H
def b6r(ta:TE)(tr:TA):TA:=fun σ H Q=>ta σ H fun x H1=>tr σ H1 fun xs H2=>Q (x::xs) H2
section
variable{t:TA}
theorem a3b:PA X [] b6q:=fun _ _ _ _ H Q I h=>Calls.spliced_nil ⟨[],H,I,.nil,h⟩
theorem a1l(ha:PE X e te)(hr:PA X es t)(hs:starEach (e::es) X.env=(false,eval e X.env)::starEach es X.env:=by rfl):PA X (e::es) (b6r te t):=by
 intro pos pins s σ H Q I h;rw[hs];show wpAny _ _ (spliced ((false,eval e X.env)::backTo pos (starEach es X.env))) _ _ s;refine Xp (thn (ha pins s σ H _ I h) fun u s1 ⟨x,H1,I1,r1,q1⟩=>?_)
 exact thn (hr pos pins s1 σ H1 _ I1 q1) fun us s2 ⟨xs,H2,I2,r2,q2⟩=>⟨x::xs,H2,I2,.cons r1 r2,q2⟩
def b6s(t:TA):TE:=fun σ H Q=>t σ H fun xs H1=>xs.length≤sizeLine/\∀p,H1 p=none->Q (.ref p) (upd H1 p (.tup xs))
def b6t(t:TA):TE:=fun σ H Q=>t σ H fun xs H1=>xs.length≤sizeLine/\∀p,H1 p=none->Q (.ref p) (upd H1 p (.lst xs))
theorem b6u{x1}(h:PA X es t):PE X (.Tuple es x1 pos) (b6s t):=by
 intro pins s σ H Q I hq;refine wpAny_Tuple_spliced (thn (h pos pins s σ H _ I hq) fun us s1 ⟨xs,H1,I1,r,z,q⟩=>⟨by rw[←r.length];exact z,?_⟩)
 have hf:H1 s1.heap.objs.size=none:=I1.hok.fresh (Qp _)
 refine⟨.ref s1.heap.objs.size,upd H1 s1.heap.objs.size (.tup xs),I1.laid (t':=s1.toks) (fun b u e=>Qx _ e) (Qp _) ?_,rfl,q _ hf⟩
 exact⟨z,us,r,⟨_,Qg _ rfl,rfl,rfl,_,rfl⟩⟩
theorem b6v(h:PA X es t):PE X (.List es pos) (b6t t):=by
 intro pins s σ H Q I hq;refine wpAny_List_spliced (thn (h pos pins s σ H _ I hq) fun us s1 ⟨xs,H1,I1,r,z,q⟩=>⟨by rw[←r.length];exact z,?_⟩)
 have hf:H1 s1.heap.objs.size=none:=I1.hok.fresh (Qp _)
 refine⟨.ref s1.heap.objs.size,upd H1 s1.heap.objs.size (.lst xs),I1.laid (t':=s1.toks) (fun b u e=>Qx _ e) (Qp _) ?_,rfl,q _ hf⟩
 exact⟨z,us,0,r,Qg _ rfl⟩
end
abbrev Sp:=List V->Hp->VK->XK->Prop
variable{sp:Sp}
abbrev CXT:=List Env->Hp->Shared->XK->Value->Shared->Prop
variable{CX:CXT}
structure Env0(P:Program)(w:World)(K:Qz)(mg:Str->Option Value)(base:Heap)(A:Around)(outer:List Env)(s:Shared)(H:Hp):Prop where
 frames:A.frames=some outer
 mod:Mod K mg base
 bs:∀b o,base.get? b=some o->s.heap.get? b=some o/\H b=none
 bsz:base.objs.size≤s.heap.objs.size
 funs:s.heap.FunFrames base outer
 frf:∀b∈frs outer,H b=none
 hok:HOk P w H s.heap
 bare:AllBare s.gens
def CE(outer:List Env)(P:Program)(w:World)(H:Hp)(s:Shared)(Q:VK)(u:Value)(s':Shared):Prop:=
 ∃v H',s'.os=s.os/\AllBare s'.gens/\Un (frs outer) [] H H' s.heap s'.heap/\HOk P w H' s'.heap/\y2_ v u/\Q v H'
def CR(CX:CXT)(outer:List Env)(P:Program)(w:World)(H:Hp)(s:Shared)(Q:VK)(E:XK)(r:Result)(s':Shared):Prop:=
 match r with
 |.ok (.ret u)=>CE outer P w H s Q u s'
 |.ok _=>False
 |.error e=>CX outer H s E e s'
structure FnOk(P:Program)(w:World)(K:Qz)(mg:Str->Option Value)(base:Heap)(CX:CXT)(k:Nat)(f:Addr)(fd:FuncData)(ps:List Str)(sp:Sp):Prop where
 len:∀vs H Q E,sp vs H Q E->vs.length=ps.length
 run:∀(A:Around) (outer:List Env) (s:Shared) (H:Hp) (args:Args) (us:List Value) (vs:List V) (Q:VK) (E:XK),Room k A->Env0 P w K mg base A outer s H->BindsTo s fd args (ps.zip us)->q8_ vs us->sp vs H Q E->
  codeAny (model P w) A (.call (.ref f) args) (CR CX outer P w H s Q E) s
theorem FnOk.mono{w:World}{K:Qz}{mg:Str->Option Value}{base:Heap}{k:Nat}{f:Addr}(F:FnOk P w K mg base CX j f fd ps sp)(h:j≤k):
  FnOk P w K mg base CX k f fd ps sp:=⟨F.len,fun A outer s H args us vs Q E hr=>F.run A outer s H args us vs Q E (hr.mono h)⟩
theorem FnOk.imp{w:World}{K:Qz}{mg:Str->Option Value}{base:Heap}{k:Nat}{f:Addr}{sp':Sp}(F:FnOk P w K mg base CX k f fd ps sp)
  (h:∀vs H Q E,sp' vs H Q E->sp vs H Q E):FnOk P w K mg base CX k f fd ps sp':=
 ⟨fun vs H Q E q=>F.len vs H Q E (h _ _ _ _ q),fun A outer s H args us vs Q E hr he hb hv hs=>F.run A outer s H args us vs Q E hr he hb hv (h _ _ _ _ hs)⟩
theorem Env0.in1{w:World}{K:Qz}{mg:Str->Option Value}{base:Heap}{A:Around}{outer:List Env}(e:Env0 P w K mg base A outer s H):
  Env0 P w K mg base A.in1 outer s H:=⟨e.frames,e.mod,e.bs,e.bsz,e.funs,e.frf,e.hok,e.bare⟩
theorem Inv.env0(I:Inv X pins σ H s):Env0 X.prog X.w X.K X.mg X.base X.A X.stack s H:=
 ⟨I.ok.frames,I.ok.mod,I.bs,Zm I.ok.bsz I.sz,I.stack,I.stkFree,I.hok,I.bare⟩
theorem Inv.after{Q:VK}(I:Inv X pins σ H s)(h:CE X.stack X.prog X.w H s Q u s'):EP X pins σ Q u s':=by
 obtain⟨v,H',os,bare,un,hok,r,q⟩:=h;obtain⟨hh,g,d,t,os'⟩:=s';obtain rfl:os'=s.os:=os;exact⟨v,H',I.call (h':=hh) (g':=g) (d':=d) (t':=t) (ch:=[]) un hok bare (fun b z=>absurd z (by simp)),r,q⟩
def a7u(sp:Sp)(dvs:List V)(E:XK)(t:TA):TE:=fun σ H Q=>t σ H fun vs H1=>sp (vs++dvs) H1 Q E
def a0S(K:Qz)(fd:FuncData)(ps:List Str)(ds:List Value):Prop:=
 ∀(s:Shared) (us:List Value),K.In s.heap->(us++ds).length=ps.length->BindsTo s fd ⟨us,[]⟩ (ps.zip (us++ds))
theorem a0S.all{K:Qz}(h:∀us:List Value,us.length=ps.length->bindArgs fd ⟨us,[]⟩=pure (ps.zip us)):a0S K fd ps []:=fun s us _ hl=>by
 rw[Yn]at hl ⊢;exact .of_eq (h us hl)
def a4y(CX:CXT)(X:Cx)(E:XK):Prop:=∀(pins:List (Addr×Obj)) (σ:St) (H:Hp) (s:Shared) (e:Value) (s':Shared),Inv X pins σ H s->CX X.stack H s E e s'->X.xe e s'
section
variable{k:Nat}{f:Addr}{dvs:List V}{ds:List Value}{E:XK}{m:Str}{apos:Pos}{o:Expr}{t:TA}
theorem b0t{Q:VK}(F:FnOk X.prog X.w X.K X.mg X.base CX k f fd ps sp)(hr:Room k X.A)(hb:a0S X.K fd ps ds)(hd:q8_ dvs ds)(hx:a4y CX X E)
  (I:Inv X pins σ H s)(r:q8_ vs us)(h:sp (vs++dvs) H Q E):wpAny (model X.prog X.w) X.A (call (.ref f) us) (EP X pins σ Q) X.xe s:=by
 have r2:q8_ (vs++dvs) (us++ds):=r.append hd
 have hl:(us++ds).length=ps.length:=by rw[←r2.length];exact F.len _ _ _ _ h
 refine wpAny_call (Vi (F.run X.A X.stack s H ⟨us,[]⟩ (us++ds) (vs++dvs) Q E hr I.env0 (hb s us I.kIn hl) r2 h) fun r s' hq=>?_)
 cases r with
 |error e=>exact hx pins σ H s e s' I hq
 |ok fl=>
  cases fl with
  |ret u=>exact I.after hq
  |next=>exact False.elim hq
  |brk=>exact False.elim hq
  |cont=>exact False.elim hq
theorem a5E(F:FnOk X.prog X.w X.K X.mg X.base CX k f fd ps sp)(hr:Room k X.A)(hg:Gl X x)(hm:X.mg x=some (.ref f))(hk:PySem.W.keepIn X.K (.ref f)=true)(hb:a0S X.K fd ps ds)(hd:q8_ dvs ds)(hx:a4y CX X E)
  (ha:PA X (e::es) t)(hdb:(x==("__debug__":Str))=false:=by decide)(he:starEach (e::es) X.env=(false,eval e X.env)::starEach es X.env:=by rfl)(hpl:(backTo pos (starEach es X.env)).any (·.1)=false:=by rfl):
  PE X (.Call (.Name x p) (e::es) [] pos) (a7u sp dvs E t):=by
 intro pins s σ H Q I h;refine Yc (a4v I hg hm ?_ hdb);refine PySem.W.callWith_K (h₀:=X.base) I.ok.mod.kin hk (thn (ha pos pins s σ H _ I h) fun us s1 ⟨vs,H1,I1,r,q⟩=>⟨I1.kIn,?_⟩) he hpl
 exact b0t F hr hb hd hx I1 r q
structure Mk(K:Qz)(C f:Addr):Prop where
 makes:PySem.W.makesIn K C=true
 init:PySem.W.findIn K (.ref C) "__init__"=some (some (.ref f))
 fn:PySem.W.isFn K (.ref f)=true
 kp:PySem.W.keepIn K (.ref C)=true
end
section
variable{k:Nat}{f:Addr}{ks:List Str}{E:XK}{m:Str}{apos kpos:Pos}{o:Expr}{kws:List Keyword}{t tk:TA}{nm:Option Str}
structure KBinds(K:Qz)(fd:FuncData)(ps ks:List Str)(g:List Value->List Value->List Value)(gV:List V->List V->List V):Prop where
 to:∀(s:Shared) (us ws:List Value),K.In s.heap->(g us ws).length=ps.length->BindsTo s fd ⟨us,ks.zip ws⟩ (ps.zip (g us ws))
 rel:∀{vs:List V}{us:List Value}{zs:List V}{ws:List Value},q8_ vs us->q8_ zs ws->q8_ (gV vs zs) (g us ws)
variable{g:List Value->List Value->List Value}{gV:List V->List V->List V}
end
structure FnScope(N P:List Str)(sc:Scope):Prop where
 kind:sc.kind=.function
 co:sc.isCoroutine=false
 gen:sc.isGenerator=false
 nd:N.Nodup
 pre:N.take P.length=P
 par:∀x∈P,sc.names.lookup x=some .local∨sc.names.lookup x=some .cell
 nofree:∀y∈sc.names,y.2≠.free
theorem b0u{kindOf:Str->Option NameKind}{x:Str}:∀{binds:List (Str×Value)}{m:Str->Option Value},(∀v,(x,v)∉binds)->bindL kindOf binds m x=m x
 |[],_,_=>rfl
 |(n,v)::r,m,h=>by
  unfold bindL;rw[b0u fun w hw=>h w (Qs _ hw)]
  split
  ·have:x≠n:=by rintro rfl;exact h v Zd
   simp[this]
  ·rfl
theorem b0v{kindOf:Str->Option NameKind}{x:Str}:∀{binds:List (Str×Value)}{m:Str->Option Value},(∀v,(x,v)∉binds)->bindC kindOf binds m x=m x
 |[],_,_=>rfl
 |(n,v)::r,m,h=>by
  unfold bindC;rw[b0v fun w hw=>h w (Qs _ hw)]
  split
  ·rfl
  ·have:x≠n:=by rintro rfl;exact h v Zd
   simp[this]
theorem b0w{kindOf:Str->Option NameKind}{x:Str}{v:Value}:∀{P:List Str}{vs:List Value}{i:Nat}{m:Str->Option Value},P.Nodup->P[i]? =some x->vs[i]? =some v->kindOf x=some .local->
  bindL kindOf (P.zip vs) m x=some v
 |[],_,_,_,_,h,_,_=>by simp at h
 |_::_,[],_,_,_,_,h,_=>by simp at h
 |p::P,w::vs,0,m,nd,h1,h2,hk=>by
  simp at h1 h2;subst h1;subst h2
  show bindL kindOf ((p,w)::P.zip vs) m p=_;unfold bindL;rw[b0u fun v hv=>(Ju.mp nd).1 (Vt hv).1,Qn hk]
  simp
 |p::P,w::vs,i+1,m,nd,h1,h2,hk=>by
  show bindL kindOf ((p,w)::P.zip vs) m x=_;unfold bindL;exact b0w (i:=i) (Ju.mp nd).2 (by simpa using h1) (by simpa using h2) hk
theorem b0x{kindOf:Str->Option NameKind}{x:Str}{v:Value}:∀{P:List Str}{vs:List Value}{i:Nat}{m:Str->Option Value},P.Nodup->P[i]? =some x->vs[i]? =some v->kindOf x≠some .local->
  bindC kindOf (P.zip vs) m x=some v
 |[],_,_,_,_,h,_,_=>by simp at h
 |_::_,[],_,_,_,_,h,_=>by simp at h
 |p::P,w::vs,0,m,nd,h1,h2,hk=>by
  simp at h1 h2;subst h1;subst h2
  show bindC kindOf ((p,w)::P.zip vs) m p=_;unfold bindC;rw[b0v fun v hv=>(Ju.mp nd).1 (Vt hv).1,Qe hk]
  simp
 |p::P,w::vs,i+1,m,nd,h1,h2,hk=>by
  show bindC kindOf ((p,w)::P.zip vs) m x=_;unfold bindC;exact b0x (i:=i) (Ju.mp nd).2 (by simpa using h1) (by simpa using h2) hk
def start(N:List Str)(vs:List V):St:=vs.map some++List.replicate (N.length-vs.length) none
def u1_(CX:CXT)(P:Program)(w:World)(K:Qz)(mg:Str->Option Value)(base:Heap)(N:List Str)(qual:Str)(scope:Scope)(f:Addr)(cd:Value)(A:Around)(outer:List Env)(s:Shared)(H:Hp)(E:XK):Cx where
 prog:=P
 w:=w
 K:=K
 mg:=mg
 base:=base
 A:=A.deeper (envOfC qual scope s.heap.objs.size f cd)
 N:=N
 s₀:=s
 H₀:=H
 env:=envOfC qual scope s.heap.objs.size f cd
 outer:=outer
 stack:=envOfC qual scope s.heap.objs.size f cd::outer
 ex:=[]
 calm:=true
 fn:=fun _=>true
 pn:=[]
 xe:=fun e s'=>wpAny (model P w) (A.deeper (envOfC qual scope s.heap.objs.size f cd)) (leaving (envOfC qual scope s.heap.objs.size f cd) e) (fun _ s''=>CX outer H s E e s'') (fun e' s''=>CX outer H s E e' s'') s'
theorem b0y{sc:Scope}(h:sc.names.lookup x=some .cell):∃c,(cellsFrom n sc.names []).lookup x=some c:=by
 have q:=Uy sc.names n [] (.inl h)
 exact Yk.mp q
theorem b0z{w:World}{K:Qz}{mg:Str->Option Value}{base:Heap}{N:List Str}{f:Addr}{cd:Value}{A:Around}{outer:List Env}{s1:Shared}{E:XK}
  (S:FnScope N ps scope)(hd:A.handled=none)(e0:Env0 P w K mg base A outer s H)(hl:vs.length=ps.length)(r:q8_ vs us)
  (x:InCallC s s.heap.objs.size (bindL (envOfC qual scope s.heap.objs.size f cd).kindOf (ps.zip us) fun _=>none) (cellsFrom (s.heap.objs.size+1) scope.names []) (bindC (envOfC qual scope s.heap.objs.size f cd).kindOf (ps.zip us) fun _=>none) s1):
  Inv (u1_ CX P w K mg base N qual scope f cd A outer s H E) [] (start N vs) H s1:=by
 have hpl:ps.length≤N.length:=by have:=Yx List.length S.pre;rw[Ye]at this;omega
 obtain⟨h1,tk,rfl,hk⟩:=x.done;have noA:∀b:Addr,b∉(u1_ CX P w K mg base N qual scope f cd A outer s H E).ex:=fun b z=>absurd (show b∈([]:List Addr)from z) (by simp)
 refine⟨⟨e0.mod,S.kind,rfl,rfl,Qp _,fun y z c h1 h2=>?_,fun y hy=>?_,fun y c _ h=>?_,fun _=>hd,Around.frames_deeper e0.frames,.inr ⟨rfl,rfl⟩,fun b z=>absurd z (noA b),e0.bs,e0.bsz,fun b _ _=>noA b,fun b z=>absurd z (noA b),e0.funs,e0.frf⟩,
  rfl,e0.bare,Un.kept hk,⟨_,x.toInCall.ns,fun i y v h1 h2 h3=>?_⟩,fun y c h=>⟨_,x.cell y c h⟩,e0.hok.fresh (Qp _),fun y c h=>?_,fun p hp=>absurd (show p∈([]:List (Addr×Obj))from hp) (by simp),e0.hok.kept hk,?_⟩
 ·exact name_of_addr x.apart (Zz h1) (Zz h2)
 ·have hy:scope.names.lookup y=some .cell∨scope.names.lookup y=some .free:=hy
  rcases hy with hy|hy
  ·exact b0y hy
  ·exact absurd rfl (S.nofree _ (Zz hy))
 ·exact Jo (x.above y c (Zz h))
 ·have hi:i<vs.length:=by
   unfold start at h2
   by_cases hi:i<vs.length
   ·exact hi
   ·rw[List.getElem?_append_right (by simpa using hi)]at h2
    rw[Jb]at h2;split at h2<;>cases h2
  have ha:vs[i]? =some v:=by
   unfold start at h2;rw[Jw (by simpa using hi),Zj]at h2
   cases e:vs[i]? with
   |none=>rw[e]at h2;cases h2
   |some a=>rw[e]at h2;cases h2;rfl
  obtain⟨u,hu,rv⟩:=r.get ha;have hp:ps[i]? =some y:=by
   rw[←S.pre,List.getElem?_take_of_lt (by omega)];exact h1
  have ndP:ps.Nodup:=by rw[←S.pre];exact S.nd.sublist (List.take_sublist _ _)
  refine⟨u,rv,?_⟩
  rcases S.par y (Yr hp)with k|k
  ·exact .inl ⟨k,b0w ndP hp hu k⟩
  ·obtain⟨c,e⟩:=b0y (n:=s.heap.objs.size+1) k
   refine .inr ⟨.inl k,c,e,?_⟩;have q:=x.cell y c e;rw[b0x ndP hp hu (by show scope.names.lookup y≠_;rw[k];decide)]at q
   exact q
 ·exact e0.hok.fresh (Jo (x.above y c (Zz h)))
 ·unfold start
  show _=N.length;rw[Qa,Qv,Za]
  omega
theorem a7v{w:World}{K:Qz}{mg:Str->Option Value}{base:Heap}{k:Nat}{f:Addr}{name:Str}{params:Arguments}{dV kV doc pm cdv ct oc:Value}{an od:Option Addr}
  {osl:Array (Option Value)}{N:List Str}(lk:K.lookup f=some ⟨oc,od,.func (PySem.W.fnOf name qual params body scope dV kV doc pm an cdv ct),osl⟩)(hcd:PySem.W.codeIn K cdv qual=true)(S:FnScope N ps scope)
  (len:∀vs H Q E,sp vs H Q E->vs.length=ps.length)
  (hbody:∀(A:Around) (outer:List Env) (s:Shared) (H:Hp) (vs:List V) (Q:VK) (E:XK),Room k (A.deeper (envOfC qual scope s.heap.objs.size f cdv))->sp vs H Q E->
   ∃t,PSs (u1_ CX P w K mg base N qual scope f cdv A outer s H E) body t/\t {nx:=fun _ H'=>Q .non H',rt:=Q} (start N vs) H):
  FnOk P w K mg base CX (k+1) f (PySem.W.fnOf name qual params body scope dV kV doc pm an cdv ct) ps sp:=by
 refine⟨len,fun A outer s H args us vs Q E hr e0 hb r hsp=>?_⟩
 have hl:=len _ _ _ _ hsp
 have KX:K.In s.heap:=e0.mod.kin.keeps fun b o e=>(e0.bs b o e).1
 have lim:s.heap.NoLimit:=e0.mod.nolimit.keeps fun b o e=>(e0.bs b o e).1
 have hkind:∀y∈ps.zip us,scope.names.lookup y.1=some .local∨(scope.names.lookup y.1=some .cell/\((cellsFrom (s.heap.objs.size+1) scope.names []).lookup y.1).isSome=true):=fun⟨n,v⟩ hy=>by
  rcases S.par n (Vt hy).1 with q|q
  ·exact .inl q
  ·exact .inr ⟨q,Uy _ _ _ (.inl q)⟩
 refine codeAny_call_function hr.depth (KX _ _ lk) rfl S.co S.gen rfl (PySem.W.codeRec_of KX hcd) (hb _ _ _ _ ?_);refine wpAny_newFunctionEnv_cells S.kind hkind fun env he s1 x=>?_
 subst he;refine⟨lim.keeps x.toInCall.keep,codeAny_func ?_⟩;obtain⟨t,ht,hq⟩:=hbody A outer s H vs Q E (hr.deeper _) hsp;have I:Inv (u1_ CX P w K mg base N qual scope f cdv A outer s H E) [] (start N vs) H s1:=b0z S hr.hd e0 hl r x;refine Qi (ht [] s1 (start N vs) H _ I hq) (fun fl s' hs=>?_) fun e s' hs=>hs
 have fin:∀{σ':St}{H':Hp}{v:V}{u:Value},Inv (u1_ CX P w K mg base N qual scope f cdv A outer s H E) [] σ' H' s'->y2_ v u->Q v H'->CE outer P w H s Q u s':=
  fun{σ' H' v u} J rv q=>⟨v,H',J.os,J.bare,J.base,J.hok,rv,q⟩
 cases fl with
 |ret u=>
  obtain⟨v,σ',H',J,rv,q⟩:=hs;exact fin J rv q
 |next=>
  obtain⟨σ',H',J,q⟩:=hs;exact fin (v:=V.non) (u:=Value.none) J rfl q
 |brk=>
  obtain⟨_,_,_,q⟩:=hs;exact False.elim q
 |cont=>
  obtain⟨_,_,_,q⟩:=hs;exact False.elim q
section
variable{t:TA}{id T:String}{r:List V->Hp->VK->Prop}
def tCB(r:List V->Hp->VK->Prop)(t:TA):TE:=fun σ H Q=>t σ H fun vs H1=>r vs H1 Q
theorem a5F(hc:w9_ X (.builtin id) r)(hg:Gl X x)(hm:X.mg x=none)(hv:bootBuiltins x=some (.builtin id))(ha:PA X (e::es) t)(hn:x≠"__name__":=by decide)(hdb:(x==("__debug__":Str))=false:=by decide)
  (he:starEach (e::es) X.env=(false,eval e X.env)::starEach es X.env:=by rfl)(hpl:(backTo pos (starEach es X.env)).any (·.1)=false:=by rfl):PE X (.Call (.Name x p) (e::es) [] pos) (tCB r t):=by
 intro pins s σ H Q I h;refine Yc (a2s I hg hm hv ?_ hn hdb);exact PyProof.Rows.callWith_builtin1 (thn (ha pos pins s σ H _ I h) fun us s1 ⟨vs,H1,I1,r1,q1⟩=>hc pins s1 σ H1 vs us Q I1 r1 q1) he hpl
theorem b0A(hc:w9_ X (.type T) r)(hg:Gl X x)(hm:X.mg x=none)(hv:bootBuiltins x=some (.type T))(ha:PA X (e::es) t)(hn:x≠"__name__":=by decide)(hdb:(x==("__debug__":Str))=false:=by decide)
  (he:starEach (e::es) X.env=(false,eval e X.env)::starEach es X.env:=by rfl)(hpl:(backTo pos (starEach es X.env)).any (·.1)=false:=by rfl):PE X (.Call (.Name x p) (e::es) [] pos) (tCB r t):=by
 intro pins s σ H Q I h;refine Yc (a2s I hg hm hv ?_ hn hdb);exact Yw (thn (ha pos pins s σ H _ I h) fun us s1 ⟨vs,H1,I1,r1,q1⟩=>hc pins s1 σ H1 vs us Q I1 r1 q1) he hpl
end
end L2
namespace HT
open PySem PyProof.Rows
variable{sl:Addr}{vl vu:Value}
section
open PySem.SeqAt
open PySem.AutoSeq1 (wpAny_loadPart')
open PySem.MeetsSeq PySem.MeetsSeq2 PySem.MeetsSeq3
end
section
variable{prog:Program}{w:World}{A:Around}{E:Value->Shared->Prop}{s:Shared}
def sIx(n d:Nat):Option Int->Nat
 |none=>d
 |some v=>if v<0 then(v+(n:Int)).toNat else min v.toNat n
theorem sIx_none(n d:Nat):sIx n d none=d:=rfl
theorem sIx_nat(n d k:Nat):sIx n d (some (k:Int))=min k n:=by
 show(if(k:Int)<0 then((k:Int)+(n:Int)).toNat else min (k:Int).toNat n)=min k n
 rw[Qe (by omega),Yg]
theorem sIx_le(n d:Nat)(hd:d≤n)(o:Option Int):sIx n d o≤n:=by
 cases o with
 |none=>exact hd
 |some v=>
  show(if v<0 then(v+(n:Int)).toNat else min v.toNat n)≤n
  by_cases hv:v<0
  ·rw[Qn hv];omega
  ·rw[Qe hv];exact Nat.min_le_right _ _
theorem clip_eq(v:Int)(n d:Nat):(if v<0 then max (v+(n:Int)) 0 else min v (n:Int))=((sIx n d (some v):Nat):Int):=by
 show(if v<0 then max (v+(n:Int)) 0 else min v (n:Int))=(((if v<0 then(v+(n:Int)).toNat else min v.toNat n):Nat):Int)
 by_cases hv:v<0
 ·simp only[Qn hv];omega
 ·simp only[Qe hv];omega
theorem adjust_gen(lo hi:Option Int)(n:Nat):Builtin.Slice.sliceAdjust lo hi 1 (n:Int)=(((sIx n 0 lo:Nat):Int),((sIx n n hi:Nat):Int)):=by
 have h1:¬ ((1:Int)<0):=by omega
 unfold Builtin.Slice.sliceAdjust;simp only[h1,Zo];refine Je ?_ ?_
 ·cases lo with
  |none=>rfl
  |some v=>exact clip_eq v n 0
 ·cases hi with
  |none=>rfl
  |some v=>exact clip_eq v n n
theorem places_gen(i j:Nat):Builtin.Slice.slicePlaces (i:Int) (j:Int) 1=j-i:=by
 unfold Builtin.Slice.slicePlaces;have h1:(1:Int)>0:=by omega
 simp only[h1,Zu,Int.ediv_one];split<;>omega
theorem slicePart_{v:Value}{o:Option Int}{Q:Option Int->Shared->Prop}(p:IsPart v o)(h:Q o s):wpAny (model prog w) A (Builtin.Slice.slicePartIndex v) Q E s:=by
 cases p with
 |none=>exact slicePart_none h
 |int i t=>exact slicePart_int h
theorem sliceApplied_gen{lo hi:Option Int}{n:Nat}{Q:Int×Int×Nat->Shared->Prop}(hs:s.heap.IsSliceOf sl vl vu .none)(pl:IsPart vl lo)(pu:IsPart vu hi)
  (h:Q (((sIx n 0 lo:Nat):Int),1,sIx n n hi-sIx n 0 lo) s):wpAny (model prog w) A (Builtin.Slice.sliceApplied (.ref sl) (pure (n:Int))) Q E s:=by
 obtain⟨os,hos,hcs,hds⟩:=id hs;unfold Builtin.Slice.sliceApplied Builtin.Slice.sliceFields;refine Qq (Qq (Zv hos hds (x:=vl) rfl (Qq (Zv hos hds (x:=vu) rfl (Qq (Zv hos hds (x:=.none) rfl (Qk ?_)))))));refine Qq (slicePart_none ?_);show wpAny _ _ (if((1:Int)==0)=true then _ else _) _ _ s
 rw[Qe (by decide)]
 refine Qq (slicePart_ pl (Qq (slicePart_ pu (Qq (Qk ?_)))));show wpAny _ _ (match Builtin.Slice.sliceAdjust lo hi 1 (n:Int)with|(lo,hi)=>pure (lo,(1:Int),Builtin.Slice.slicePlaces lo hi 1)) _ _ s
 rw[adjust_gen lo hi n];show wpAny _ _ (pure (((sIx n 0 lo:Nat):Int),(1:Int),Builtin.Slice.slicePlaces ((sIx n 0 lo:Nat):Int) ((sIx n n hi:Nat):Int) 1)) _ _ s;rw[places_gen];exact Qk h
theorem pick_gen(xs:Array Value)(i k:Nat):((List.range k).filterMap fun(m:Nat)=>xs[((i:Int)+(m:Int) * 1).toNat]?).toArray=((xs.toList.drop i).take k).toArray:=by
 have e:(fun(m:Nat)=>xs[((i:Int)+(m:Int) * 1).toNat]?)=fun m=>xs[i+m]?:=by
  funext m
  have:((i:Int)+(m:Int) * 1).toNat=i+m:=by omega
  rw[this]
 rw[e];have:=pick_run xs i k;rw[List.filterMap_map]at this;have e2:((fun x=>xs[x]?)∘fun x=>i+x)=fun m=>xs[i+m]?:=rfl
 rw[e2]at this;rw[this]
theorem getItem_tuple_cut{t:Addr}{items:Array Value}{lo hi:Option Int}{Q:Value->Shared->Prop}(ht:IsTup s.heap t items)(hs:s.heap.IsSliceOf sl vl vu .none)(pl:IsPart vl lo)(pu:IsPart vu hi)
  (hw:¬ (sIx items.size 0 lo=0/\sIx items.size items.size hi=items.size))
  (h:Q (.ref s.heap.objs.size) {s with heap:=s.heap.push {cls:=.type "tuple",data:=.seq ((items.toList.drop (sIx items.size 0 lo)).take (sIx items.size items.size hi-sIx items.size 0 lo)).toArray}})
  (hsz:items.size≤sizeLine):wpAny (model prog w) A (getItem (.ref t) (.ref sl)) Q E s:=by
 have htake:sizeOk (.seq ((items.toList.drop (sIx items.size 0 lo)).take (sIx items.size items.size hi-sIx items.size 0 lo)).toArray):=by
  show((items.toList.drop (sIx items.size 0 lo)).take (sIx items.size items.size hi-sIx items.size 0 lo)).toArray.size≤sizeLine;rw[Qh,Ye,Xr,Xv]
  omega
 have hj:sIx items.size items.size hi≤items.size:=sIx_le _ _ (Qp _) hi
 obtain⟨os,hos,hcs,hds⟩:=id hs;have hTs:s.TypeIs (.ref sl) "slice":=⟨os,hos,hcs⟩;unfold getItem
 try with_reducible refine Yu ?_
 first|refine Qq (Qk ?_)|skip
 refine Qq (wpAny_sequenceKey ht.typeIs (by decide) ?_)
 refine Qq (Zr (name:=Str.ofString "__getitem__") ht.typeIs Zk
  (Yl Zk ht.typeIs entry_tuple_getitem ?_ (args_tuple_getitem _ _)))
 show wpAny _ _ (Builtin.Tuple.tupleItemsOf (.ref t)>>=_) _ _ s;refine Qq (tupleItemsOf_ ht ?_);refine Qq (Va hTs ?_);rw[Qn (by decide)]
 refine Qq (sliceApplied_gen hs pl pu ?_);have hno:¬ ((((sIx items.size 0 lo:Nat):Int)==0&&(1:Int)==1&&(sIx items.size items.size hi-sIx items.size 0 lo)==items.size)=true):=by
  intro q;rw[Qy,Qy]at q;have q1:((sIx items.size 0 lo:Nat):Int)=0:=eq_of_beq q.1.1;have q2:sIx items.size items.size hi-sIx items.size 0 lo=items.size:=eq_of_beq q.2;exact hw ⟨by omega,by omega⟩
 show wpAny _ _ (if(((sIx items.size 0 lo:Nat):Int)==0&&(1:Int)==1&&(sIx items.size items.size hi-sIx items.size 0 lo)==items.size)=true then _ else _) _ _ s
 rw[Qe hno,pick_gen]
 first
  |exact Qq (m:=Builtin.Tuple.tupleExact _) (Zl (Qk ⟨_,rfl,Qk h⟩) htake)
  |exact Qq (m:=Builtin.Tuple.tupleExact _) (Zl (Qq (Qk (Qk ⟨_,rfl,Qk h⟩))) htake)
  |exact Qq (Qq (m:=Builtin.Tuple.tupleExact _) (Zl (Qk (Qk ⟨_,rfl,Qk h⟩)) htake))
  |exact Qq (Qq (m:=Builtin.Tuple.tupleExact _) (Zl (Qk ⟨_,rfl,Qk h⟩) htake))
end
end HT
namespace L2
open PySem PySem.Spec PyProof.Rows
variable{H:Hp}{X:Cx}{i:Int}{its its' us:List Value}{j n t':Nat}{p:Addr}{pins:List (Addr×Obj)}{r:V->Option Int->Option Int->Hp->VK->Prop}{s:Shared}{u v:Value}{x y:V}{xs:List V}{α:Type}{σ:St}
abbrev TO:=St->Hp->(Option Int->Hp->Prop)->Prop
def PO(X:Cx)(e:Option Expr)(t:TO):Prop:=
 ∀(pins:List (Addr×Obj)) (s:Shared) (σ:St) (H:Hp) (Q:Option Int->Hp->Prop),Inv X pins σ H s->t σ H Q->
  wpAny (model X.prog X.w) X.A (evalPart e X.env) (fun u s'=>∃o H',Inv X pins σ H' s'/\IsPart u o/\Q o H') X.xe s
def b6w:TO:=fun _ H Q=>Q none H
def b6x(t:TE):TO:=fun σ H Q=>t σ H fun x H1=>∃i,x=.int i/\Q (some i) H1
theorem a5G{ns:List Int}:∀{us:List Value},q8_ (ns.map V.int) us->IntsAre us ns:=by
 induction ns with
 |nil=>intro us r;rw[List.map_nil]at r;cases r;exact .nil
 |cons n ns ih=>
  intro us r;rw[Qr]at r;cases r with
  |cons r1 r2=>
   obtain⟨t,e⟩:=r1;subst e;exact .cons n t (ih r2)
section
variable{e:Expr}{te:TE}{lo hi:Option Expr}{tl th:TO}{pos p2:Pos}
theorem b6y:PO X none b6w:=by
 intro pins s σ H Q I h;rw[evalPart_none];exact Qk ⟨none,H,I,.none,h⟩
theorem b6z(h:PE X e te):PO X (some e) (b6x te):=by
 intro pins s σ H Q I hw;rw[evalPart_some];refine thn (h pins s σ H _ I hw) fun u s1 ⟨x,H1,I1,r1,q1⟩=>?_
 obtain⟨i,rfl,q⟩:=q1;obtain⟨t,rfl⟩:=r1;exact⟨some i,H1,I1,.int i t,q⟩
def SlR(X:Cx)(r:V->Option Int->Option Int->Hp->VK->Prop):Prop:=
 ∀(pins:List (Addr×Obj)) (s:Shared) (σ:St) (H:Hp) (x:V) (v vl vu:Value) (lo hi:Option Int) (sl:Addr) (Q:VK),Inv X pins σ H s->y2_ x v->s.heap.IsSliceOf sl vl vu .none->IsPart vl lo->IsPart vu hi->r x lo hi H Q->
  ∃T id,typeLookup (.type T) "__getitem__"=pure (some (.builtin id))/\s.TypeIs v T/\wpAny (model X.prog X.w) X.A (getItem v (.ref sl)) (EP X pins σ Q) X.xe s
theorem SlR.or{r':V->Option Int->Option Int->Hp->VK->Prop}(h:SlR X r)(h':SlR X r'):SlR X (fun x lo hi H Q=>r x lo hi H Q∨r' x lo hi H Q):=by
 intro pins s σ H x v vl vu lo hi sl Q I rx hs pl pu q
 rcases q with q|q
 ·exact h pins s σ H x v vl vu lo hi sl Q I rx hs pl pu q
 ·exact h' pins s σ H x v vl vu lo hi sl Q I rx hs pl pu q
def tSl(r:V->Option Int->Option Int->Hp->VK->Prop)(te:TE)(tl th:TO):TE:=fun σ H Q=>te σ H fun x H1=>tl σ H1 fun l H2=>th σ H2 fun u H3=>r x l u H3 Q
theorem b0B(hr:SlR X r)(he:PE X e te)(hl:PO X lo tl)(hu:PO X hi th):PE X (.Subscript e (.Slice lo hi none p2) pos) (tSl r te tl th):=by
 intro pins s σ H Q I h;refine Subscript_ (thn (he pins s σ H _ I h) fun v s1 ⟨x,H1,I1,r1,q1⟩=>?_)
 refine wpAny_Slice (thn (hl pins s1 σ H1 _ I1 q1) fun vl s2 ⟨l,H2,I2,pl,q2⟩=>thn (hu pins s2 σ H2 _ I2 q2) fun vu s3 ⟨u,H3,I3,pu,q3⟩=>?_)
 rw[evalPart_none];refine Qk ?_
 have I4:Inv X pins σ H3 {s3 with heap:=s3.heap.push {cls:=.type "slice",data:=.fields #[vl,vu,.none]}}:=I3.kept (t':=s3.toks) fun b ob q=>Qx _ q
 obtain⟨T,id,hT,ht,hg⟩:=hr pins {s3 with heap:=s3.heap.push {cls:=.type "slice",data:=.fields #[vl,vu,.none]}} σ H3 x v vl vu l u s3.heap.objs.size Q I4 r1 (Heap.IsSliceOf.new ..) pl pu q3
 show wpAny (model X.prog X.w) X.A (subscriptTail e (.Slice lo hi none p2) v (.ref s3.heap.objs.size)) (EP X pins σ Q) X.xe {s3 with heap:=s3.heap.push {cls:=.type "slice",data:=.fields #[vl,vu,.none]}}
 exact tail_any (ops:=[.ref s3.heap.objs.size,v]) ht hT hg (by with_unfolding_all rfl)
def a1U(xs:List V)(lo hi:Option Int):List V:=(xs.drop (HT.sIx xs.length 0 lo)).take (HT.sIx xs.length xs.length hi-HT.sIx xs.length 0 lo)
theorem b0C(xs:List V)(lo hi:Option Int):(a1U xs lo hi).length≤xs.length:=by
 unfold a1U;rw[Ye,Xr]
 omega
def b6A(K:Qz):V->Option Int->Option Int->Hp->VK->Prop:=fun x lo hi H Q=>∃a xs,x=.ref a/\SqT K H a xs/\
 ¬ (HT.sIx xs.length 0 lo=0/\HT.sIx xs.length xs.length hi=xs.length)/\∀p,H p=none->Q (.ref p) (upd H p (.tup (a1U xs lo hi)))
theorem a5H:SlR X (b6A X.K):=by
 intro pins s σ H x v vl vu lo hi sl Q I rx hs pl pu h;obtain⟨a,xs,rfl,hx,hw,q⟩:=h;cases rx;obtain⟨its,r,ht,hz⟩:=I.tuple hx;have hlen:its.toArray.size=xs.length:=by rw[Qh];exact r.length.symm
 refine⟨"tuple",_,Zk.lookup,ht.typeIs,?_⟩;refine HT.getItem_tuple_cut ht hs pl pu (by rw[hlen];exact hw) ?_ (by rw[hlen];exact hz)
 rw[hlen];refine⟨.ref s.heap.objs.size,_,I.laid (t':=s.toks) (o:=.tup (a1U xs lo hi)) (fun b ob q=>Qx _ q) (Qp _) ?_,rfl,q _ (I.hok.fresh (Qp _))⟩
 exact⟨Zm (b0C xs lo hi) hz,_,(r.drop (HT.sIx xs.length 0 lo)).take (HT.sIx xs.length xs.length hi-HT.sIx xs.length 0 lo),a0K.new _ _⟩
theorem q8_.nil_iff(r:q8_ xs us):us=[]↔xs=[]:=by
 cases r with
 |nil=>simp
 |cons _ _=>simp
end
def ixN(n:Nat)(i:Int):Option Nat:=if 0≤i then(if i<n then some i.toNat else none)else if-(n:Int)≤i then some (i+n).toNat else none
def atI{α:Type}(xs:List α)(i:Int):Option α:=(ixN xs.length i).bind fun j=>xs[j]?
theorem b0D(h:ixN n i=some j):seqIndex? i n=some j/\j<n/\ -(n:Int)≤i/\i<n:=by
 unfold ixN at h
 by_cases h0:0≤i
 ·rw[Qn h0]at h
  by_cases h1:i<n
  ·rw[Qn h1]at h
   have e:i.toNat=j:=Ym h
   exact⟨by rw[seqIndex_of h0 h1,e],by omega,by omega,h1⟩
  ·rw[Qe h1]at h;cases h
 ·rw[Qe h0]at h
  by_cases h1: -(n:Int)≤i
  ·rw[Qn h1]at h
   have e:(i+n).toNat=j:=Ym h
   exact⟨by rw[seqIndex_neg (by omega) h1,e],by omega,h1,by omega⟩
  ·rw[Qe h1]at h;cases h
theorem a7w{xs:List α}{v:α}(h:atI xs i=some v):∃j,seqIndex? i xs.length=some j/\xs[j]? =some v/\j<xs.length/\ -(xs.length:Int)≤i/\i<xs.length:=by
 unfold atI at h;cases e:ixN xs.length i with
 |none=>rw[e]at h;cases h
 |some j=>
  rw[e]at h;obtain⟨h1,h2,h3,h4⟩:=b0D e;exact⟨j,h1,h,h2,h3,h4⟩
theorem a0A{xs:List α}{v:α}(h:xs[j]? =some v):atI xs (j:Int)=some v:=by
 have hj:j<xs.length:=(Qb.mp h).1
 have e:ixN xs.length (j:Int)=some j:=by
  unfold ixN;rw[Qn (by omega),Qn (by omega)];simp
 unfold atI;rw[e];exact h
theorem b0E(xs:List α)(v:α):atI (xs++[v]) (-1)=some v:=by
 have hl:(xs++[v]).length=xs.length+1:=by simp
 have e:ixN (xs++[v]).length (-1)=some xs.length:=by
  unfold ixN;rw[hl,Qe (by decide),Qn (by omega)]
  congr 1
  omega
 unfold atI;rw[e];show(xs++[v])[xs.length]? =some v
 simp
def a3K(b:Expr):Prop:=∀o i,subscripted b false o i=operate [o,i] (getItem o i)
def IxR(X:Cx)(r:R2):Prop:=
 ∀(value slice:Expr) (pins:List (Addr×Obj)) (s:Shared) (σ:St) (H:Hp) (x y:V) (v u:Value) (Q:VK),Inv X pins σ H s->y2_ x v->y2_ y u->r x y H Q->
  subscripted slice false v u=operate [v,u] (getItem v u)->wpAny (model X.prog X.w) X.A (subscriptTail value slice v u) (EP X pins σ Q) X.xe s
def MtR(X:Cx)(id:String)(r:V->List V->Hp->VK->Prop):Prop:=
 ∀(pins:List (Addr×Obj)) (s:Shared) (σ:St) (H:Hp) (x:V) (xs:List V) (v:Value) (us:List Value) (Q:VK),Inv X pins σ H s->y2_ x v->q8_ xs us->r x xs H Q->
  wpAny (model X.prog X.w) X.A (call (.builtin id) (v::us)) (EP X pins σ Q) X.xe s
section
variable{a b:Expr}{ta tb:TE}{pos:Pos}
theorem IxR.or{r r':R2}(h:IxR X r)(h':IxR X r'):IxR X (fun x y H Q=>r x y H Q∨r' x y H Q):=by
 intro value slice pins s σ H x y v u Q I rx ry q hs
 rcases q with q|q
 ·exact h value slice pins s σ H x y v u Q I rx ry q hs
 ·exact h' value slice pins s σ H x y v u Q I rx ry q hs
theorem MtR.or{id:String}{r r':V->List V->Hp->VK->Prop}(h:MtR X id r)(h':MtR X id r'):MtR X id (fun x xs H Q=>r x xs H Q∨r' x xs H Q):=by
 intro pins s σ H x xs v us Q I rx rs q
 rcases q with q|q
 ·exact h pins s σ H x xs v us Q I rx rs q
 ·exact h' pins s σ H x xs v us Q I rx rs q
theorem a4z{r:R2}(hr:IxR X r)(ha:PE X a ta)(hb:PE X b tb)(hs:a3K b):PE X (.Subscript a b pos) (tOp r ta tb):=by
 intro pins s σ H Q I h;exact Subscript_ (a7o ha hb I h fun v u s2 x y H2 I2 rx ry q=>hr a b pins s2 σ H2 x y v u Q I2 rx ry q (hs _ _))
def b0F(K:Qz):R2:=fun x y H Q=>∃p xs i v,x=.ref p/\y=.int i/\SqL K H p xs/\atI xs i=some v/\Q v H
def b0G(K:Qz):R2:=fun x y H Q=>∃p xs i v,x=.ref p/\y=.int i/\SqT K H p xs/\atI xs i=some v/\Q v H
def b0H:R2:=fun x y H Q=>∃z i c,x=.str z/\y=.int i/\z.length≤sizeLine/\atI z.cps.toList i=some c/\Q (.str ⟨#[c]⟩) H
theorem a4A:IxR X (b0F X.K):=by
 intro value slice pins s σ H x y v u Q I rx ry h hs;obtain⟨p,xs,i,z,rfl,rfl,hq,he,q⟩:=h;cases rx;obtain⟨t,rfl⟩:=ry;obtain⟨its,r,pl,hz⟩:=I.list hq;obtain⟨j,h1,h2,h3,h4,h5⟩:=a7w he;obtain⟨w,ew,rw'⟩:=r.get h2;have hl:=r.length;have hn:=a4x;have fin:EP X pins σ Q w s:=⟨z,H,I,rw',q⟩
 by_cases h0:0≤i
 ·have hj:i.toNat=j:=by
   rw[seqIndex_of h0 h5]at h1;exact Ym h1
  exact item_listR pl.isList h0 (by omega) (by rw[hj];simpa using ew) fin hs
 ·have hj:(i+(its.toArray.size:Int)).toNat=j:=by
   rw[seqIndex_neg (by omega) h4]at h1
   rw[Qh,←hl];exact Ym h1
  exact subscriptTail_builtinR (x:=w) pl.isList.typeIs slot_list_getitem.lookup
   (wpAny_getItem_list_neg (Q:=fun r s'=>r=w/\EP X pins σ Q r s') pl.isList (by omega) (by rw[Qh]<;>omega) (by omega) (by rw[hj];simpa using ew) ⟨rfl,fin⟩) hs
theorem b6B:IxR X (b0G X.K):=by
 intro value slice pins s σ H x y v u Q I rx ry h hs;obtain⟨p,xs,i,z,rfl,rfl,hq,he,q⟩:=h;cases rx;obtain⟨t,rfl⟩:=ry;obtain⟨its,r,pl,hz⟩:=I.tuple hq;obtain⟨j,h1,h2,h3,h4,h5⟩:=a7w he;obtain⟨w,ew,rw'⟩:=r.get h2;have hl:=r.length;have hn:=a4x;have fin:EP X pins σ Q w s:=⟨z,H,I,rw',q⟩;exact subscriptTail_builtinR (x:=w) pl.typeIs slot_tuple_getitem.lookup
  (getItem_tuple (j:=j) (Q:=fun r s'=>r=w/\EP X pins σ Q r s') pl (by omega) (by omega) (by rw[Qh,←hl];exact h1) (by simpa using ew) ⟨rfl,fin⟩) hs
theorem b6C:IxR X b0H:=by
 intro value slice pins s σ H x y v u Q I rx ry h hs;obtain⟨z,i,c,rfl,rfl,hz,he,q⟩:=h;obtain⟨t,rfl⟩:=rx;obtain⟨t',rfl⟩:=ry;obtain⟨j,h1,h2,h3,h4,h5⟩:=a7w he;have hl:z.cps.toList.length=z.length:=by simp[Str.length]
 rw[hl]at h1 h4 h5;have hn:=a4x;exact tail_any (typeIs_str s z t) slot_str_getitem.lookup (getItem_str (c:=c) (by
  have e1:decide (i< -(2^63:Int))=false:=Zg (by omega)
  have e2:decide (i ≥ 2^63)=false:=Zg (by omega)
  rw[e1,e2,Bool.or_false]) (by rw[h1];simpa using h2) ⟨.str ⟨#[c]⟩,H,I.tok _,⟨_,rfl⟩,q⟩) hs
def rIx(K:Qz):R2:=fun x y H Q=>b0F K x y H Q∨b0G K x y H Q∨b0H x y H Q
theorem b6D:IxR X (rIx X.K):=a4A.or (b6B.or b6C)
theorem b6E(its:List Value)(n j:Nat)(u:Value):Obj.mapSeq (·.setIfInBounds j u) {cls:=.type "list",data:=.seq its.toArray n}={cls:=.type "list",data:=.seq (its.set j u).toArray n}:=by
 simp[Obj.mapSeq]
theorem Inv.lst(I:Inv X pins σ H s)(h:H p=some (.lst xs)):
  ∃(its:List Value) (n:Nat),q8_ xs its/\s.heap.get? p=some {cls:=.type "list",data:=.seq its.toArray n}/\xs.length≤sizeLine:=by
 obtain⟨z,its,n,r,e⟩:=I.hok p _ h;exact⟨its,n,r,e,z⟩
theorem Inv.lstUpd{ys:List V}{n':Nat}{f:Obj->Obj}(I:Inv X pins σ H s)(h:H p=some (.lst xs))
  (ho:s.heap.get? p=some {cls:=.type "list",data:=.seq its.toArray n})(hf:f {cls:=.type "list",data:=.seq its.toArray n}={cls:=.type "list",data:=.seq its'.toArray n'})(r:q8_ ys its')(hz:ys.length≤sizeLine)(t:Nat):
  Inv X pins σ (upd H p (.lst ys)) {s with heap:=s.heap.update p f,toks:=t}:=by
 have e:(s.heap.update p f).get? p=some {cls:=.type "list",data:=.seq its'.toArray n'}:=by
  rw[Jj f ho (by rw[hf]<;>rfl),hf]
 refine I.write (x:=p) (e:=p) (by rw[h];trivial) (.inl rfl) (fun b u hb q=>(Ys _ _ (Zy hb)).trans q) ⟨_,e⟩ ?_
 exact⟨hz,its',n',r,e⟩
def b6F:V->V->V->Hp->(Hp->Prop)->Prop:=fun o i v H Q=>∃p xs k j,o=.ref p/\i=.int k/\H p=some (.lst xs)/\ixN xs.length k=some j/\Q (upd H p (.lst (xs.set j v)))
theorem b0I:b0j X b6F:=by
 intro pins s σ H o i v ov iv u Q I ro ri rv h;obtain⟨p,xs,k,j,rfl,rfl,hp,hj,q⟩:=h;cases ro;obtain⟨t,rfl⟩:=ri;obtain⟨its,n,r,ho,hz⟩:=I.lst hp;obtain⟨h1,h2,h3,h4⟩:=b0D hj;have hl:=r.length;have hn:=a4x;have I':Inv X pins σ (upd H p (.lst (xs.set j v))) {s with heap:=s.heap.update p (Obj.mapSeq (·.setIfInBounds j u))}:=
  I.lstUpd hp ho (b6E its n j u) (r.set rv j) (by rw[Zf];exact hz) s.toks
 by_cases h0:0≤k
 ·have hk:k.toNat=j:=by
   rw[seqIndex_of h0 h4]at h1;exact Ym h1
  exact PySem.W.ki_setAt ho h0 (by omega) (by rw[Qh,←hl];exact h4) (by rw[hk];exact⟨_,I',q⟩)
 ·have hk:(k+(its.toArray.size:Int)).toNat=j:=by
   rw[seqIndex_neg (by omega) h3]at h1
   rw[Qh,←hl];exact Ym h1
  exact PySem.W.ki_setBack ho (by omega) (by rw[Qh,←hl];exact h3) (by omega) (by rw[hk];exact⟨_,I',q⟩)
theorem b6G(lo hi:Option Int)(n:Nat):(sliceBounds lo hi none n).1=((HT.sIx n 0 lo:Nat):Int)/\(sliceBounds lo hi none n).2.1=((HT.sIx n n hi:Nat):Int)/\(sliceBounds lo hi none n).2.2=1:=by
 refine⟨?_,?_,rfl⟩
 ·cases lo with
  |none=>simp[sliceBounds,HT.sIx]
  |some i=>
   simp only[sliceBounds,HT.sIx,Option.getD_none,show(1:Int)>0 by decide,Zu]
   by_cases h:i<0
   ·simp only[h,Zu]<;>omega
   ·simp only[h,Zo]<;>omega
 ·cases hi with
  |none=>simp[sliceBounds,HT.sIx]
  |some i=>
   simp only[sliceBounds,HT.sIx,Option.getD_none,show(1:Int)>0 by decide,Zu]
   by_cases h:i<0
   ·simp only[h,Zu]<;>omega
   ·simp only[h,Zo]<;>omega
theorem b6H(its:List Value)(lo hi:Option Int):slicePick its.toArray lo hi none=((its.drop (HT.sIx its.length 0 lo)).take (HT.sIx its.length its.length hi-HT.sIx its.length 0 lo)).toArray:=by
 obtain⟨h1,h2,h3⟩:=b6G lo hi its.toArray.size;unfold slicePick;rw[h1,h2,h3];simp only[sliceRange_one,pick_run,Qh]<;>rfl
def b6I(K:Qz):V->Option Int->Option Int->Hp->VK->Prop:=fun x lo hi H Q=>∃a xs,x=.ref a/\SqL K H a xs/\∀p,H p=none->Q (.ref p) (upd H p (.lst (a1U xs lo hi)))
theorem b6J:SlR X (b6I X.K):=by
 intro pins s σ H x v vl vu lo hi sl Q I rx hs pl pu h;obtain⟨a,xs,rfl,hx,q⟩:=h;cases rx;obtain⟨its,r,ht,hz⟩:=I.list hx;have hlen:=r.length;refine⟨"list",_,slot_list_getitem.lookup,ht.isList.typeIs,?_⟩;refine wpAny_getItem_list_slice ht.isList hs pl pu .none (by simp) ?_ (by rw[Qh]<;>omega)
 rw[b6H,←hlen];refine⟨.ref s.heap.objs.size,_,I.laid (t':=s.toks) (o:=.lst (a1U xs lo hi)) (fun b ob q=>Qx _ q) (Qp _) ?_,rfl,q _ (I.hok.fresh (Qp _))⟩
 exact⟨Zm (b0C xs lo hi) hz,_,0,(r.drop (HT.sIx xs.length 0 lo)).take (HT.sIx xs.length xs.length hi-HT.sIx xs.length 0 lo),Qg _ rfl⟩
def a0T:V->Bool
 |.non=>true
 |.bl _=>true
 |.int _=>true
 |.str _=>true
 |_=>false
def eqV:V->V->Bool
 |.non,.non=>true
 |.bl a,.bl b=>a==b
 |.bl a,.int b=>(if a then 1 else 0)==b
 |.int a,.bl b=>a==(if b then 1 else 0)
 |.int a,.int b=>a==b
 |.str a,.str b=>a==b
 |_,_=>false
theorem b6K{A:Around}(ry:y2_ y u)(rx:y2_ x v)(fy:a0T y=true)(fx:a0T x=true):SeqAt.EqAt A s u v (eqV y x):=by
 cases y with
 |non=>
  cases ry;cases x with
  |non=>cases rx;exact SeqAt.EqAt.same _
  |bl b=>cases rx;exact SeqAt.EqAt.none_bool b
  |int b=>obtain⟨t,rfl⟩:=rx;exact SeqAt.EqAt.none_int b t
  |str b=>obtain⟨t,rfl⟩:=rx;exact SeqAt.EqAt.none_str b t
  |_=>exact absurd (show false=true from fx) Yy
 |bl a=>
  cases ry;cases x with
  |non=>cases rx;exact SeqAt.EqAt.bool_none a
  |bl b=>cases rx;exact SeqAt.EqAt.bool_bool a b
  |int b=>obtain⟨t,rfl⟩:=rx;exact SeqAt.EqAt.bool_int a b t
  |str b=>obtain⟨t,rfl⟩:=rx;exact SeqAt.EqAt.bool_str a b t
  |_=>exact absurd (show false=true from fx) Yy
 |int a=>
  obtain⟨t',rfl⟩:=ry;cases x with
  |non=>cases rx;exact SeqAt.EqAt.int_none a t'
  |bl b=>cases rx;exact SeqAt.EqAt.int_bool a t' b
  |int b=>obtain⟨t,rfl⟩:=rx;exact SeqAt.EqAt.int_int a t' b t
  |str b=>obtain⟨t,rfl⟩:=rx;exact SeqAt.EqAt.int_str a t' b t
  |_=>exact absurd (show false=true from fx) Yy
 |str a=>
  obtain⟨t',rfl⟩:=ry;cases x with
  |non=>cases rx;exact SeqAt.EqAt.str_none a t'
  |bl b=>cases rx;exact SeqAt.EqAt.str_bool a t' b
  |int b=>obtain⟨t,rfl⟩:=rx;exact SeqAt.EqAt.str_int a t' b t
  |str b=>obtain⟨t,rfl⟩:=rx;exact SeqAt.EqAt.str_str a t' b t
  |_=>exact absurd (show false=true from fx) Yy
 |_=>exact absurd (show false=true from fy) Yy
def eqU(x:V)(u:Value):Bool:=match u with
 |.none=>eqV .non x
 |.bool b=>eqV (.bl b) x
 |.int i _=>eqV (.int i) x
 |.str z _=>eqV (.str z) x
 |_=>false
theorem b0J(r:y2_ y u)(f:a0T y=true):eqU x u=eqV y x:=by
 cases y with
 |non=>cases r;rfl
 |bl b=>cases r;rfl
 |int i=>obtain⟨t,rfl⟩:=r;rfl
 |str z=>obtain⟨t,rfl⟩:=r;rfl
 |_=>exact absurd (show false=true from f) Yy
theorem a7x{x:V}:∀{xs:List V}{us:List Value},q8_ xs us->xs.all a0T=true->us.any (eqU x)=xs.any fun y=>eqV y x
 |_,_,.nil,_=>rfl
 |y::xs,u::us,.cons r t,f=>by
  rw[Jl,Qy]at f;rw[Xg,Xg,b0J r f.1,a7x t f.2]
theorem a5I{A:Around}{s:Shared}{x:V}{v:Value}(rx:y2_ x v)(fx:a0T x=true):∀{xs:List V}{us:List Value},q8_ xs us->xs.all a0T=true->∀u∈us,SeqAt.EqAt A s u v (eqU x u)
 |_,_,.nil,_=>fun u hu=>by cases hu
 |y::xs,u::us,.cons r t,f=>fun u' hu=>by
  rw[Jl,Qy]at f
  rcases Ql.mp hu with rfl|hu
  ·rw[b0J r f.1];exact b6K r rx f.1 fx
  ·exact a5I rx fx t f.2 u' hu
def inV(x:V)(xs:List V):Bool:=xs.any fun y=>eqV y x
def rIn(K:Qz)(neg:Bool):R2:=fun x y H Q=>∃p xs,y=.ref p/\(SqL K H p xs∨SqT K H p xs)/\a0T x=true/\xs.all a0T=true/\Q (.bl (if neg then !inV x xs else inV x xs)) H
theorem b6L:OpR X (compareOp .NotIn) (rIn X.K true):=by
 intro pins s σ H x y v u Q I rx ry h;obtain⟨p,xs,rfl,hq,fx,fs,q⟩:=h;cases ry
 rcases hq with hq|hq
 ·obtain⟨its,r,pl,hz⟩:=I.list hq
  refine SeqAt.notIn_listAt (eqU x) pl.isList (fun w hw=>a5I rx fx r fs w (by simpa using hw)) ⟨.bl _,H,I,rfl,?_⟩
  rw[show its.toArray.any (eqU x)=its.any (eqU x) by simp,a7x r fs]
  exact q
 ·obtain⟨its,r,pl,hz⟩:=I.tuple hq
  refine SeqAt.notIn_tupleAt (eqU x) pl (fun w hw=>a5I rx fx r fs w (by simpa using hw)) ⟨.bl _,H,I,rfl,?_⟩
  rw[show its.toArray.any (eqU x)=its.any (eqU x) by simp,a7x r fs]
  exact q
theorem k4_:w9_ X (.builtin "len") (fun xs H Q=>∃p ys,xs=[.ref p]/\(SqL X.K H p ys∨SqT X.K H p ys)/\Q (.int ys.length) H):=by
 intro pins s σ H xs us Q I r h;obtain⟨p,ys,rfl,hq,q⟩:=h;obtain⟨u,rfl,rx⟩:=a1w r;cases rx;have hn:=a4x
 rcases hq with hq|hq
 ·obtain⟨its,r',pl,hz⟩:=I.list hq
  have hlen:=r'.length
  exact Calls.call_len_list pl.isList (by simp only[Qh]<;>omega) ⟨.int ys.length,H,I.tok _,⟨s.toks+1,by rw[Qh,hlen]⟩,q⟩
 ·obtain⟨its,r',pl,hz⟩:=I.tuple hq
  have hlen:=r'.length
  exact len_tuple pl (by simp only[Qh]<;>omega) ⟨.int ys.length,H,I.tok _,⟨s.toks+1,by rw[Qh,hlen]⟩,q⟩
theorem w9_.or{f:Value}{r r':List V->Hp->VK->Prop}(h:w9_ X f r)(h':w9_ X f r'):w9_ X f (fun xs H Q=>r xs H Q∨r' xs H Q):=by
 intro pins s σ H xs us Q I rs q
 rcases q with q|q
 ·exact h pins s σ H xs us Q I rs q
 ·exact h' pins s σ H xs us Q I rs q
theorem a3L:w9_ X (.type "list") (fun xs H Q=>∃p ys,xs=[.ref p]/\(SqL X.K H p ys∨SqT X.K H p ys)/\∀l,H l=none->Q (.ref l) (upd H l (.lst ys))):=by
 intro pins s σ H xs us Q I r h;obtain⟨p,ys,rfl,hq,q⟩:=h;obtain⟨u,rfl,rx⟩:=a1w r;cases rx;have fin:∀(its:List Value),q8_ ys its->ys.length≤sizeLine->∀(h':Heap) (c':Nat),(∀b o',s.heap.get? b=some o'->h'.get? b=some o')->
   h'.get? s.heap.objs.size=some {cls:=.type "list",dict:=none,data:=.seq its.toArray c',slots:=#[]}->EP X pins σ Q (.ref s.heap.objs.size) {s with heap:=h'}:=fun its r' hz h' c' kp e=>
  ⟨.ref s.heap.objs.size,_,I.laid (t':=s.toks) kp (Qp _) (show j5_ X.prog X.w _ h' _ (.lst ys)from⟨hz,its,c',r',e⟩),rfl,q _ (I.hok.fresh (Qp _))⟩
 rcases hq with hq|hq
 ·obtain⟨its,r',pl,hz⟩:=I.list hq
  have hlen:=r'.length
  obtain⟨o,ho,hc,n,hd⟩:=pl.isList;exact call_list_seq p (.inl rfl) ho hc hd (fun h' c' kp e=>fin its r' hz h' c' kp e) (by simp only[Qh]<;>omega)
 ·obtain⟨its,r',pl,hz⟩:=I.tuple hq
  have hlen:=r'.length
  obtain⟨o,ho,hc,n,hd⟩:=pl;exact call_list_seq p (.inr rfl) ho hc hd (fun h' c' kp e=>fin its r' hz h' c' kp e) (by simp only[Qh]<;>omega)
theorem a0h:w9_ X (.type "tuple") (fun xs H Q=>∃p ys,xs=[.ref p]/\((SqL X.K H p ys/\∀l,H l=none->Q (.ref l) (upd H l (.tup ys)))∨(SqT X.K H p ys/\Q (.ref p) H))):=by
 intro pins s σ H xs us Q I r h;obtain⟨p,ys,rfl,h⟩:=h;obtain⟨u,rfl,rx⟩:=a1w r;cases rx
 rcases h with⟨hq,q⟩|⟨hq,q⟩
 ·obtain⟨its,r',pl,hz⟩:=I.list hq
  have hlen:=r'.length
  refine call_tuple_list pl.isList (fun h' kp=>?_) (by simp only[Qh]<;>omega)
  have I1:Inv X pins σ H {s with heap:=h'}:=I.kept (t':=s.toks) kp
  have I2:Inv X pins σ (upd H h'.objs.size (.tup ys)) {s with heap:=h'.push {cls:=.type "tuple",data:=.seq its.toArray}}:=
   I1.laid (t':=s.toks) (fun b o e=>Qx _ e) (Qp _) (show j5_ X.prog X.w _ _ _ (.tup ys)from⟨hz,its,r',a0K.new _ _⟩)
  exact⟨.ref h'.objs.size,_,I2,rfl,q _ (I1.hok.fresh (Qp _))⟩
 ·obtain⟨its,r',pl,hz⟩:=I.tuple hq
  exact call_tuple_same pl ⟨.ref p,H,I,rfl,q⟩
def tyV(K:Qz)(T:String)(x:V)(H:Hp):Prop:=match x with
 |.str _=>T="str"
 |.int _=>T="int"
 |.ref p=>(T="list"/\ ∃xs,SqL K H p xs)∨(T="tuple"/\ ∃o,K.lookup p=some o/\o.cls=.type "tuple"/\o.dict=none)∨
   (T="dict"/\((∃kvs,H p=some (.dK kvs))∨ ∃C kvs,H p=some (.dT C kvs)))∨(T="set"/\ ∃S n,H p=some (.set S n))
 |_=>False
theorem b6M{T:String}(I:Inv X pins σ H s)(r:y2_ x v)(ty:tyV X.K T x H):
  s.TypeIs v T/\∀a,v=.ref a->∃ob,s.heap.get? a=some ob/\ob.dict=none:=by
 cases x with
 |str z=>
  obtain⟨t,rfl⟩:=r;cases (show T="str" from ty)
  exact⟨typeIs_str s z t,fun _ e=>nomatch e⟩
 |int i=>
  obtain⟨t,rfl⟩:=r;cases (show T="int" from ty)
  exact⟨typeIs_int s i t,fun _ e=>nomatch e⟩
 |ref p=>
  cases r
  rcases ty with⟨rfl,xs,hq⟩|⟨rfl,o,hk,hc,hd⟩|⟨rfl,hk⟩|⟨rfl,S,n,hk⟩
  ·obtain⟨its,_,pl,_⟩:=I.list hq
   refine⟨pl.isList.typeIs,fun a e=>?_⟩
   cases e;obtain⟨o,n,e,c,hd,_⟩:=pl;exact⟨o,e,hd⟩
  ·refine⟨⟨o,I.kIn p o hk,hc⟩,fun a e=>?_⟩
   cases e;exact⟨o,I.kIn _ o hk,hd⟩
  ·have z:∃o,s.heap.get? p=some o/\o.ExactDict:=by
    rcases hk with⟨kvs,hk⟩|⟨C,kvs,hk⟩
    ·obtain⟨_,_,_,_,o,_,_,e,ex,_⟩:=I.hok p _ hk
     exact⟨o,e,ex⟩
    ·obtain⟨_,_,_,_,o,_,_,e,ex,_⟩:=I.hok p _ hk
     exact⟨o,e,ex⟩
   obtain⟨o,e,ex⟩:=z;refine⟨⟨o,e,ex.1⟩,fun a e2=>?_⟩
   cases e2;exact⟨o,e,ex.2.1⟩
  ·obtain⟨o,_,_,_,e,ex,_⟩:=I.hok p _ hk
   refine⟨⟨o,e,ex.1⟩,fun a e2=>?_⟩
   cases e2;exact⟨o,e,ex.2.1⟩
 |_=>exact False.elim ty
def tBM(K:Qz)(T:String)(r:V->List V->Hp->VK->Prop)(to:TE)(t:TA):TE:=fun σ H Q=>to σ H fun x H1=>tyV K T x H1/\t σ H1 fun xs H2=>r x xs H2 Q
variable{o e:Expr}{es:List Expr}{to:TE}{t:TA}{name:Str}{apos cpos:Pos}{T id:String}{r:V->List V->Hp->VK->Prop}
theorem b0K(pa:PlainAttrs T)(slot:Slot T name id)(hty:typeOf (.builtin id)=pure (.type "method_descriptor"))(hm:MtR X id r)(ho:PE X o to)(ha:PA X (e::es) t)
  (hbase:attributeBase o name X.env (eval o X.env)=eval o X.env:=by rfl)
  (hfew:((backTo cpos (starEach (e::es) X.env)).all (fun x=>!x.1)&&(backToKw cpos (keywordEach [] X.env)).all (fun x=>x.1.isSome)
   &&decide ((e::es).length+([]:List Keyword).length+(if([]:List Keyword).isEmpty then 0 else 1)<30))=true:=by rfl)
  (hline:(apos.endLine==cpos.line)=true:=by rfl)(hs:starEach (e::es) X.env=(false,eval e X.env)::starEach es X.env:=by rfl)(hplain:(backTo cpos (starEach es X.env)).any (·.1)=false:=by rfl):
  PE X (.Call (.Attribute o name apos) (e::es) [] cpos) (tBM X.K T r to t):=by
 intro pins s σ H Q I h;refine wpAny_Call_method_late hbase hfew hline rfl (thn (ho pins s σ H _ I h) fun v s1 ⟨x,H1,I1,r1,ty,q1⟩=>?_)
 obtain⟨h1,h2⟩:=b6M I1 r1 ty;refine⟨T,id,pa,slot,hty,h1,h2,?_⟩;have hA:=ha cpos pins s1 σ H1 _ I1 q1;rw[hs]at hA ⊢;refine Calls.callWith_builtin (by show(false||(backTo cpos (starEach es X.env)).any (·.1))=false;rw[hplain]<;>rfl) (Calls.evalArgs_plain ?_)
 exact thn hA fun us s2 ⟨vs,H2,I2,r2,q2⟩=>hm pins s2 σ H2 x vs v us Q I2 r1 r2 q2
end
def MtM(X:Cx)(id:String)(r:V->List V->Hp->VK->Prop):Prop:=
 ∀(pins:List (Addr×Obj)) (s:Shared) (σ:St) (H:Hp) (x:V) (xs:List V) (v:Value) (us:List Value) (Q:VK),Inv X pins σ H s->y2_ x v->q8_ xs us->r x xs H Q->
  wpAny (model X.prog X.w) X.A (call (.builtin id) (v::us)) (EP X pins σ Q) X.xe s
theorem q8_.one:∀{x:V}{us:List Value},q8_ [x] us->∃u,us=[u]/\y2_ x u
 |_,_,.cons r .nil=>⟨_,rfl,r⟩
theorem q8_.zero:∀{us:List Value},q8_ [] us->us=[]
 |_,.nil=>rfl
theorem q8_.reverse(h:q8_ xs us):q8_ xs.reverse us.reverse:=by
 induction h with
 |nil=>exact .nil
 |cons r t ih=>rw[Xn,Xn];exact q8_.append ih (.cons r .nil)
theorem q8_.rep{xs:List V}{us:List Value}(h:q8_ xs us):∀k:Nat,q8_ (List.replicate k xs).flatten (List.replicate k us).flatten
 |0=>.nil
 |k+1=>by
  rw[Yz,Yz,Ub,Ub];exact q8_.append h (q8_.rep h k)
theorem b0L(its:List Value):∀(k:Nat) (acc:List Value),
  List.foldl (fun x1 x2=>x1++x2) acc.toArray (List.replicate k its.toArray)=(acc++(List.replicate k its).flatten).toArray
 |0,acc=>by simp
 |k+1,acc=>by
  have e:acc.toArray++its.toArray=(acc++its).toArray:=by simp
  have e2:(acc++its)++(List.replicate k its).flatten=acc++(List.replicate (k+1) its).flatten:=by
   rw[Yz,Ub,Ug]
  rw[←e2,←b0L its k (acc++its),←e,Yz,List.foldl_cons]
section
variable{l b:Addr}{ys zs:List V}
theorem Inv.lset{f:Array Value->Array Value}(I:Inv X pins σ H s)(hH:H l=some (.lst xs))
  (e:s.heap.get? l=some {cls:=.type "list",data:=.seq its.toArray n})(hf:f its.toArray=its'.toArray)(hv:q8_ ys its')(hz:ys.length≤sizeLine):
  Inv X pins σ (upd H l (.lst ys)) {s with heap:=s.heap.update l (Obj.mapSeq f),toks:=t'}:=by
 have q:=PySem.IsL.update e f
 rw[hf]at q;refine I.write (x:=l) (e:=l) (by rw[hH];exact trivial) (.inl rfl) (fun b' u hb hu=>(Ys s.heap (Obj.mapSeq f) (Zy hb)).trans hu) ⟨_,q⟩ ?_
 exact⟨hz,its',_,hv,q⟩
theorem Inv.lnew(I:Inv X pins σ H s)(hv:q8_ ys its)(hz:ys.length≤sizeLine):
  Inv X pins σ (upd H s.heap.objs.size (.lst ys)) {s with heap:=s.heap.push {cls:=.type "list",data:=.seq its.toArray},toks:=t'}:=
 I.laid (fun _ _ q=>Qx _ q) (Qp _) ⟨hz,its,0,hv,Qg _ rfl⟩
theorem Inv.fresh(I:Inv X pins σ H s):H s.heap.objs.size=none:=I.hok.fresh (Qp _)
theorem Inv.lstM(I:Inv X pins σ H s)(hH:H l=some (.lst xs)):xs.length≤sizeLine/\∃(its:List Value) (n:Nat),q8_ xs its/\xs.length=its.length/\s.heap.get? l=some {cls:=.type "list",data:=.seq its.toArray n}:=by
 obtain⟨z,its,n,r,e⟩:=I.hok l _ hH;exact⟨z,its,n,r,r.length,e⟩
end
def b6N:V->List V->Hp->VK->Prop:=fun x vs H Q=>∃l xs y,x=.ref l/\vs=[y]/\H l=some (.lst xs)/\xs.length<sizeLine/\Q .non (upd H l (.lst (xs++[y])))
theorem a7y:MtM X "list.append" b6N:=by
 intro pins s σ H x vs v us Q I rx rv h;obtain⟨l,xs,y,rfl,rfl,hH,hz,q⟩:=h;cases rx;obtain⟨u,rfl,ru⟩:=rv.one;obtain⟨z,its,n,r,hl,e⟩:=I.lstM hH;refine Xl F.slot_list_append ⟨_,e,rfl⟩ F.entry_list_append (F.args_list_append_2 _ _) (PySem.list_append l its.toArray n u (by rw[Qh];omega)) ⟨e,?_⟩
 refine⟨.non,_,I.lset (its':=its++[u]) hH e (by simp) (r.append (.cons ru .nil)) ?_,rfl,q⟩
 rw[Qa,List.length_singleton]
 omega
theorem b0M(xs:List α)(k:Nat):(List.replicate k xs).flatten.length=k * xs.length:=by
 induction k with
 |zero=>simp
 |succ k ih=>rw[Yz,Ub,Qa,ih,Nat.succ_mul,Nat.add_comm]
section
variable{prog:Program}{w:World}{A:Around}{E:Value->Shared->Prop}
set_option maxRecDepth 100000 in
end
end L2
namespace Att
open PySem PySem.W PySem.Calls PyProof.Rows
variable{P:Params}{h:Heap}{n:Nat}
theorem ints_of_wellAll:∀(ns:List Int) (vs:List Value),WellAll P h vs (ns.map WData.int)->IntsAre vs ns:=by
 intro ns
 induction ns with
 |nil=>
  intro vs w;rw[List.map_nil]at w;cases w;exact .nil
 |cons n ns ih=>
  intro vs w;rw[Qr]at w;cases w with
  |cons a b=>
   cases a;exact .cons _ _ (ih _ b)
theorem script_of{l:OpenLaw}(hn:l.most=some n){args:List WData}{vals:List Value}
  (hpre:l.row.toRowW.claim.pre args=true)(hwl:WellAll P h vals args):
  ∃a vs ns,vals=[Value.ref a]/\args=[WData.list (ns.map WData.int)]/\h.get? a=some {cls:=.type "list",data:=.seq vs.toArray}/\IntsAre vs ns/\ns.length≤n:=by
 have hsh:WShape.hasAll [] args [.list .int]=true:=(pre_splitW hpre).1
 have hc:l.pre.holds [] {args:=args}=true:=(pre_splitW hpre).2
 obtain⟨d,r,rfl,h1,h2⟩:=hasAllW_cons hsh;obtain rfl:=hasAllW_nil h2;obtain⟨xs,rfl,h3⟩:=hasW_list h1;obtain⟨ns,rfl⟩:=items_int h3;have hlen:ns.length≤n:=by
  unfold OpenLaw.pre at hc;have h4:(WTm.not (.lt (.lit (.int (n:Int))) (.len (.arg 0)))).holds [] {args:=[.list (ns.map .int)]}=true:=by
   have h4:=(holds_andW hc).1
   rw[hn]at h4;exact h4
  have h5:=condW_of h4 (w_not (w_lt w_lit (w_len_list (w_arg rfl))))
  rw[Qv]at h5;refine Nat.le_of_not_lt fun q=>?_
  have q':(n:Int)<((ns.length:Nat):Int):=by omega
  first
   |(rw[Vv q']at h5;exact absurd h5 (by decide))
   |(simp at h5;omega)
 cases hwl with
 |cons w1 w2=>
  cases w2;cases w1 with
  |list ho hall=>exact⟨_,_,ns,rfl,rfl,ho,ints_of_wellAll ns _ hall,hlen⟩
theorem post_true(l:OpenLaw)(args:List WData):l.row.toRowW.claim.post args (.bool true) args=true:=
 postW_of (r:=l.row.toRowW) (X:=(true==true))
  (show WShape.has [] (.bool true) .bool=true by first|rfl|decide|simp[WShape.has,WShape.arms,WShape.armsAll])
  (show(WTm.eq .res (.lit (.bool true))).value [] {args:=args,res:=some (.bool true),after:=args}=some (.bool (true==true))from w_eq_bool (w_res rfl) w_lit) rfl
theorem attach_call{l:OpenLaw}{q:Program}{loose:List Str}{XP:(Str->Option Value)->Heap->Prop}{YP:World->Heap->Prop}{d:DefRec}
  (hn:l.most=some n)(hdf:d.params.defaults=[])
  (call:∀(w:World) (s₀ s₁:Shared) (mg mb:Str->Option Value) (fa:Addr) (o:Obj) (pm cd doc:Value) (a:Addr) (vs:List Value) (ns:List Int),
   Ground q loose [] XP w s₀ mg mb s₁.heap->YP w s₁.heap->
   s₁.heap.get? fa=some o->o.data=.func (docDef d.name d.params d.body d.scope pm cd doc)->s₁.heap.CodeRec cd d.name->mg d.name=some (.ref fa)->
   s₁.heap.get? a=some {cls:=.type "list",data:=.seq vs.toArray}->IntsAre vs ns->ns.length≤n->s₁.gens= #[]->
   codeAny (model l.prog w) callerA (.call (.ref fa) ⟨[.ref a],[]⟩) (fun r s'=>r=.ok (.ret (.bool true))/\OldK s₁.heap s'.heap/\s'.os=s₁.os/\AllBare s'.gens) s₁):
  WalkO q loose XP YP l.row.toRowW d [] (fun f vs=>PySem.call f vs):=by
 intro w s₀ s₁ mg mb G Y fa o pm cd doc dV kV ho hd hcd hD hmg hg args vals as hpre hlay hrd hwl hlo;obtain rfl:dV=.none:=Dflts.none hD hdf;obtain rfl:kV=.none:=Dflts.noKw hD;obtain⟨a,vs,ns,rfl,rfl,hobj,hints,hlen⟩:=script_of hn hpre hwl;refine enter_call (Vi (call w s₀ s₁ mg mb fa o pm cd doc a vs ns G Y ho (fd_plain hd) hcd hmg hobj hints hlen hg) fun r s' hq=>?_)
 obtain⟨rfl,h2,h3,h4⟩:=hq;exact⟨.inl ⟨.bool true,.bool true,[],rfl,fun _=>rfl,.bool true,post_true l _,fun _=>⟨List.Pairwise.nil,fun _ hm=>(nomatch hm)⟩⟩,h2,h3,h4⟩
section
variable{prog:Program}{w:World}{A:Around}{E:Value->Shared->Prop}{s:Shared}{K:Frag}
end
end Att
namespace L2
open PySem PySem.Spec PyProof.Rows
variable{C:Addr->List Key->Prop}{H H':Hp}{X:Cx}{fd:FuncData}{kvs:List (List Key×V)}{ps:List Str}{qual x:Str}{u:Value}{xs:List (List Key×Addr×Value)}{y:V}
theorem b0N:∀{vs:List Value}{ns:List Int},IntsAre vs ns->q8_ (ns.map V.int) vs
 |_,_,.nil=>.nil
 |_,_,.cons n t h=>.cons ⟨t,rfl⟩ (b0N h)
def a3c(s:Stmt):Arguments:=match s with
 |.FunctionDef _ a _ _ _ _ _ _ _ _=>a
 |_=>{posonlyargs:=[],args:=[],vararg:=none,kwonlyargs:=[],kw_defaults:=[],kwarg:=none,defaults:=[]}
def a0U(s:Stmt):List Stmt:=match s with
 |.FunctionDef _ _ b _ _ _ _ _ _ _=>b
 |_=>[]
def y3_(s:Stmt):Scope:=match s with
 |.FunctionDef _ _ _ _ _ _ sc _ _ _=>sc
 |_=>{kind:=.function,names:=[],isGenerator:=false,isCoroutine:=false}
abbrev CX0:CXT:=fun _ _ _ _ _ _=>False
abbrev E0:XK:=fun _ _ _=>False
theorem a5J:a4y CX0 X E0:=fun _ _ _ _ _ _ _ h=>h.elim
structure Fun(K:Qz)(x qual:Str)(st:Stmt)(f:Addr)(fd:FuncData):Prop where
 ex:∃(oc:Value) (od:Option Addr) (kV doc pm:Value) (an:Option Addr) (cdv ct:Value) (osl:Array (Option Value)),
  fd=PySem.W.fnOf x qual (a3c st) (a0U st) (y3_ st) .none kV doc pm an cdv ct/\K.lookup f=some ⟨oc,od,.func fd,osl⟩/\PySem.W.codeIn K cdv qual=true
 kp:PySem.W.keepIn K (.ref f)=true
section
variable{P:Program}{w:World}{K:Qz}{mg:Str->Option Value}{base:Heap}
theorem Fun.ok{st:Stmt}{f:Addr}{N:List Str}{k:Nat}{sp:Sp}(F:Fun K x qual st f fd)(S:FnScope N ps (y3_ st))(len:∀vs H Q E,sp vs H Q E->vs.length=ps.length)
  (hbody:∀(cdv:Value) (A:Around) (outer:List Env) (s:Shared) (H:Hp) (vs:List V) (Q:VK) (E:XK),Room k (A.deeper (envOfC qual (y3_ st) s.heap.objs.size f cdv))->sp vs H Q E->
   ∃t,PSs (u1_ CX0 P w K mg base N qual (y3_ st) f cdv A outer s H E).nox (a0U st) t/\t {nx:=fun _ H'=>Q .non H',rt:=Q} (start N vs) H):FnOk P w K mg base CX0 (k+1) f fd ps sp:=by
 obtain⟨oc,od,kV,doc,pm,an,cdv,ct,osl,rfl,lk,hcd⟩:=F.ex;refine a7v lk hcd S len fun A outer s H vs Q E hr hsp=>?_
 obtain⟨t,h,q⟩:=hbody cdv A outer s H vs Q E hr hsp;exact⟨t,h.nox,q⟩
theorem Fun.binds{st:Stmt}{f:Addr}(F:Fun K x qual st f fd)
  (h:∀(kV doc pm:Value) (an:Option Addr) (cdv ct:Value) (us:List Value),us.length=ps.length->bindArgs (PySem.W.fnOf x qual (a3c st) (a0U st) (y3_ st) .none kV doc pm an cdv ct) ⟨us,[]⟩=pure (ps.zip us)):a0S K fd ps []:=by
 obtain⟨oc,od,kV,doc,pm,an,cdv,ct,osl,rfl,lk,hcd⟩:=F.ex;exact .all (h kV doc pm an cdv ct)
theorem b6O{st:Stmt}{f:Addr}{oc:Value}{od an:Option Addr}{osl:Array (Option Value)}{kV doc pm cdv ct:Value}(l:K.lookup f=some ⟨oc,od,.func (PySem.W.fnOf x qual (a3c st) (a0U st) (y3_ st) .none kV doc pm an cdv ct),osl⟩)
  (c:PySem.W.codeIn K cdv qual=true)(k:PySem.W.keepIn K (.ref f)=true):Fun K x qual st f (PySem.W.fnOf x qual (a3c st) (a0U st) (y3_ st) .none kV doc pm an cdv ct):=⟨⟨oc,od,kV,doc,pm,an,cdv,ct,osl,rfl,l,c⟩,k⟩
end
theorem a5K{n:Nat}(h:n≤1000):n<sizeLine:=Ue h (by decide)
theorem pv(i:Nat){pos:Pos}(hN:X.N[i]? =some x:=by rfl)(hv:Vis X.env.scope x:=by first|exact Or.inl rfl|exact Or.inr (Or.inl rfl)|exact Or.inr (Or.inr rfl))(hd:(x==("__debug__":Str))=false:=by decide)
  (hcd:(x==("__classdict__":Str))=false:=by decide):PE X (.Name x pos) (a0r i):=a7d hN hv hd hcd
def a1x(H H':Hp):Prop:=∀b o,H b=some o->H' b=some o
theorem a1x.refl(H:Hp):a1x H H:=fun _ _ h=>h
theorem a1x.trans{H1 H2:Hp}(a:a1x H H1)(b:a1x H1 H2):a1x H H2:=fun c o h=>b c o (a c o h)
theorem a1x.free(e:a1x H H'){l:Addr}(h:H' l=Option.none):H l=Option.none:=by
 cases q:H l with
 |none=>rfl
 |some o=>
  rw[e l o q]at h;cases h
theorem a1x.seq{K:Qz}{a:Addr}{xs:List V}(e:a1x H H')(h:SqL K H a xs):SqL K H' a xs:=by
 rcases h with(h|⟨o,h⟩)|h
 ·exact .inl (.inl (e _ _ h))
 ·exact .inl (.inr ⟨o,e _ _ h⟩)
 ·exact .inr h
section
variable{κ:Type}[DecidableEq κ]
def a3d(kvs:List (κ×V))(k:κ):Option V:=(kvs.find? fun kv=>decide (kv.1=k)).map (·.2)
def b0O(kvs:List (κ×V))(k:κ)(v:V):List (κ×V):=
 if(kvs.any fun kv=>decide (kv.1=k))=true then kvs.map (fun kv=>if kv.1=k then(kv.1,v)else kv)else kvs++[(k,v)]
theorem b0P{p:κ×V}{r:List (κ×V)}{k:κ}(e:p.1=k):a3d (p::r) k=some p.2:=by simp[a3d,Ve,e]
theorem b0Q{p:κ×V}{r:List (κ×V)}{k:κ}(e:¬ p.1=k):a3d (p::r) k=a3d r k:=by simp[a3d,Ve,e]
theorem b0R(k:κ):∀kvs:List (κ×V),(kvs.any fun kv=>decide (kv.1=k))=(a3d kvs k).isSome
 |[]=>rfl
 |p::r=>by
  rw[Xg]
  by_cases e:p.1=k
  ·simp only[b0P e,Vv e,Bool.true_or,Option.isSome_some]
  ·rw[b0Q e,Zg e,Bool.false_or];exact b0R k r
end
theorem a3I.isSome_eq{o:Option V}{u:Option Value}(r:a3I o u):o.isSome=u.isSome:=by
 cases o with
 |none=>cases u with
  |none=>rfl
  |some _=>exact(show False from r).elim
 |some _=>cases u with
  |none=>exact(show False from r).elim
  |some _=>rfl
abbrev KT(C:Addr->List Key->Prop)(H:Hp):List (List Key×V)->List (List Key×Addr×Value)->Prop:=Paired fun p q=>p.1=q.1/\(H q.2.1=some (.tup (p.1.map kV))∨C q.2.1 p.1)/\y2_ p.2 q.2.2
theorem KT.val(r:KT C H kvs xs)(k:List Key):a3I (a3d kvs k) ((atKey xs k).map (·.2)):=by
 induction r with
 |nil=>exact True.intro
 |@cons p q ps qs h t ih=>
  obtain⟨h1,_,h2⟩:=h
  by_cases e:p.1=k
  ·have e':q.1=k:=h1.symm.trans e
   have b:atKey (q::qs) k=some q.2:=by simp[atKey,Ve,e']
   rw[b0P e,b];exact h2
  ·have e':¬ q.1=k:=fun z=>e (h1.trans z)
   have b:atKey (q::qs) k=atKey qs k:=by simp[atKey,Ve,e']
   rw[b0Q e,b];exact ih
theorem KT.repl(r:KT C H kvs xs)(k:List Key)(ry:y2_ y u):
  KT C H (kvs.map fun kv=>if kv.1=k then(kv.1,y)else kv) (xs.map (putAt k u)):=by
 induction r with
 |nil=>exact .nil
 |@cons p q ps qs h t ih=>
  rw[Qr,Qr];refine .cons ?_ ih;obtain⟨h1,h2,h3⟩:=h;unfold putAt
  by_cases e:p.1=k
  ·rw[Qn e,Qn (h1.symm.trans e)];exact⟨h1,h2,ry⟩
  ·rw[Qe e,Qe (fun z=>e (h1.trans z))];exact⟨h1,h2,h3⟩
theorem KT.put(r:KT C H kvs xs)(k:List Key){b:Addr}(hb:H b=some (.tup (k.map kV))∨C b k)(ry:y2_ y u):
  KT C H (b0O kvs k y) (storedH xs k b u):=by
 have e:(kvs.any fun kv=>decide (kv.1=k))=(atKey xs k).isSome:=by
  rw[b0R,(r.val k).isSome_eq,Option.isSome_map]
 unfold b0O storedH;rw[e]
 by_cases q:(atKey xs k).isSome=true
 ·rw[Qn q,Qn q];exact r.repl k ry
 ·rw[Qe q,Qe q];exact Paired.snoc r ⟨rfl,hb,ry⟩
theorem KT.keeps(r:KT C H kvs xs)(ht:∀b ys,H b=some (.tup ys)->H' b=some (.tup ys)):KT C H' kvs xs:=
 Paired.mapP r fun _ _ z=>⟨z.1,z.2.1.imp (ht _ _) id,z.2.2⟩
section
variable{P:Program}{w:World}{h:Heap}{a:Addr}
end
section
variable{pins:List (Addr×Obj)}{σ:St}{s:Shared}{a:Addr}{v:V}{r:Value}{o:Option V}{A:Around}{E:Value->Shared->Prop}
end
end L2
namespace L2.Mir
open PySem PySem.Spec PyProof.Rows
variable{B:Addr->Prop}{E:Value->Shared->Prop}{G G' G1 G2 H H' H1 H2:Hp}{N':List Str}{Q:VK}{T:String}{X:Cx}{b e elt iter tg:Expr}{es ifs:List Expr}{fp:List Addr}{i j more n:Nat}{ks:List (List Int)}{neg:Bool}{o:HO}{op op':CmpOp}{p:Addr}{pins:List (Addr×Obj)}{pos py spos:Pos}{r r':R2}{s:Shared}{scope:Scope}{t':TT}{v:V}{vs xs:List V}{wi:TI}{x y:Str}{α β:Type}{σ σ' σ1:St}
inductive Ob where
 |exc (n:Str)|fn (n:Str)
 deriving Inhabited
inductive D where
 |non|bl (b:Bool)|int (i:Int)|str (x:Str)|tup (ds:List D)|lst (ds:List D)|emp|obj (o:Ob)|dct (ks:List (List Int)) (vs:List D)
 deriving Inhabited
variable{d:D}{ds:List D}{g':Int->Int->D}
def b0S(K:Qz)(t:Value):Prop:=∀T∈(["tuple","list","int","bool","str"]:List String),PySem.W.kitOne K t (.type T)=some false
def a5L(K:Qz)(G:Hp)(v:V):Ob->Prop
 |.exc n=>∃a C HP,v=.ref a/\PySem.W.nsIn K mainGlobals n=some (some (.ref C))/\G a=some (.ext HP)/\PySem.W.KitX K (.ref a) (.ref C) HP/\b0S K (.ref C)
 |.fn n=>∃f,v=.ref f/\PySem.W.nsIn K mainGlobals n=some (some (.ref f))/\PySem.W.KitX K (.ref f) (.type "function") (fun _=>True)
def SqU(K:Qz)(G:Hp)(a:Addr)(xs:List V):Prop:=G a=some (.tup xs)∨ ∃(o:Obj) (its:Array Value) (n:Nat),K.lookup a=some o/\o.cls=.type "tuple"/\o.dict=none/\o.data=.seq its n/\its.size≤sizeLine/\q8_ xs its.toList
theorem SqU.t{K:Qz}{a:Addr}(h:SqU K G a xs):SqT K G a xs:=h.imp (fun e=>.inl e) id
abbrev a4B(k:List Int):List Key:=k.map Sum.inl
def a5M(K:Qz):Addr->List Key->Prop:=fun b k=>SqU K (fun _=>none) b (k.map kV)
mutual
def Rep(K:Qz)(G:Hp):V->D->Prop
 |v,.non=>v=.non
 |v,.bl b=>v=.bl b
 |v,.int i=>v=.int i
 |v,.str x=>v=.str x/\x.length≤sizeLine
 |v,.tup ds=>∃a xs,v=.ref a/\SqU K G a xs/\z9_ K G xs ds
 |v,.lst ds=>∃a xs,v=.ref a/\SqL K G a xs/\z9_ K G xs ds
 |v,.emp=>∃a kvs,v=.ref a/\G a=some (.dK kvs)
 |v,.obj o=>a5L K G v o
 |v,.dct ks vs=>∃a kvs,v=.ref a/\G a=some (.dT (a5M K) kvs)/\kvs.map (·.1)=ks.map a4B/\z9_ K G (kvs.map (·.2)) vs
def z9_(K:Qz)(G:Hp):List V->List D->Prop
 |xs,[]=>xs=[]
 |xs,d::ds=>∃x r,xs=x::r/\Rep K G x d/\z9_ K G r ds
end
def Le(G G':Hp):Prop:=∀b o,G b=some o->G' b=some o
theorem Le.refl:Le G G:=fun _ _ e=>e
theorem Le.trans(a:Le G G1)(b:Le G1 G2):Le G G2:=fun x o e=>b x o (a x o e)
theorem Le.upd{a:Addr}(h:G a=none):Le G (upd G a o):=fun b u e=>by rw[q5_ (g4_ e h)];exact e
theorem Le.sqU{K:Qz}(l:Le G G'){a:Addr}(h:SqU K G a xs):SqU K G' a xs:=h.imp (fun e=>l _ _ e) id
theorem Le.sqT{K:Qz}(l:Le G G'){a:Addr}(h:SqU K G a xs):SqT K G' a xs:=(l.sqU h).t
theorem Le.sqT'{K:Qz}(l:Le G G'){a:Addr}(h:SqT K G a xs):SqT K G' a xs:=by
 rcases h with h|h
 ·rcases h with h|⟨o,h⟩
  ·exact .inl (.inl (l _ _ h))
  ·exact .inl (.inr ⟨o,l _ _ h⟩)
 ·exact .inr h
theorem Le.sqL{K:Qz}(l:Le G G'){a:Addr}(h:SqL K G a xs):SqL K G' a xs:=by
 rcases h with h|h
 ·rcases h with h|⟨o,h⟩
  ·exact .inl (.inl (l _ _ h))
  ·exact .inl (.inr ⟨o,l _ _ h⟩)
 ·exact .inr h
theorem a5L.mono{K:Qz}(l:Le G G'):∀{o:Ob},a5L K G v o->a5L K G' v o
 |.exc n,⟨a,C,HP,h1,h2,h3,h4⟩=>⟨a,C,HP,h1,h2,l _ _ h3,h4⟩
 |.fn n,h=>h
mutual
theorem Rep.mono{K:Qz}{G G':Hp}(l:Le G G'):∀(d:D) {v:V},Rep K G v d->Rep K G' v d
 |.non,_,h=>by simpa only[Rep]using h
 |.bl b,_,h=>by simpa only[Rep]using h
 |.int i,_,h=>by simpa only[Rep]using h
 |.str x,_,h=>by simpa only[Rep]using h
 |.tup ds,_,h=>by
  simp only[Rep]at h ⊢;obtain⟨a,xs,e,q,r⟩:=h;exact⟨a,xs,e,l.sqU q,z9_.mono l ds r⟩
 |.lst ds,_,h=>by
  simp only[Rep]at h ⊢;obtain⟨a,xs,e,q,r⟩:=h;exact⟨a,xs,e,l.sqL q,z9_.mono l ds r⟩
 |.emp,_,h=>by
  simp only[Rep]at h ⊢;obtain⟨a,kvs,e,q⟩:=h;exact⟨a,kvs,e,l _ _ q⟩
 |.obj o,_,h=>by
  simp only[Rep]at h ⊢;exact h.mono l
 |.dct ks vs,_,h=>by
  simp only[Rep]at h ⊢;obtain⟨a,kvs,e,q,k,r⟩:=h;exact⟨a,kvs,e,l _ _ q,k,z9_.mono l vs r⟩
theorem z9_.mono{K:Qz}{G G':Hp}(l:Le G G'):∀(ds:List D) {xs:List V},z9_ K G xs ds->z9_ K G' xs ds
 |[],_,h=>by simpa only[z9_]using h
 |d::ds,_,h=>by
  simp only[z9_]at h ⊢;obtain⟨x,r,e,q,t⟩:=h;exact⟨x,r,e,Rep.mono l d q,z9_.mono l ds t⟩
end
theorem repL_nil{K:Qz}:z9_ K G [] []:=by simp only[z9_]
theorem repL_cons{K:Qz}{x:V}(h:Rep K G x d)(t:z9_ K G xs ds):z9_ K G (x::xs) (d::ds):=by
 simp only[z9_];exact⟨x,xs,rfl,h,t⟩
theorem z9_.length{K:Qz}{G:Hp}:∀{ds:List D}{xs:List V},z9_ K G xs ds->xs.length=ds.length
 |[],_,h=>by simp only[z9_]at h;subst h;rfl
 |d::ds,_,h=>by
  simp only[z9_]at h;obtain⟨x,r,e,q,t⟩:=h;subst e
  simp[z9_.length t]
theorem z9_.append{K:Qz}{G:Hp}:∀{ds es:List D}{xs ys:List V},z9_ K G xs ds->z9_ K G ys es->z9_ K G (xs++ys) (ds++es)
 |[],_,_,_,h,t=>by simp only[z9_]at h;subst h;exact t
 |d::ds,_,_,_,h,t=>by
  simp only[z9_]at h;obtain⟨x,r,e,q,u⟩:=h;subst e;exact repL_cons q (z9_.append u t)
theorem z9_.get{K:Qz}{G:Hp}:∀{ds:List D}{xs:List V}{i:Nat}{d:D},z9_ K G xs ds->ds[i]? =some d->∃x,xs[i]? =some x/\Rep K G x d
 |[],_,i,d,h,e=>by simp at e
 |d::ds,_,i,d',h,e=>by
  simp only[z9_]at h;obtain⟨x,r,e1,q,t⟩:=h;subst e1;cases i with
  |zero=>simp at e;subst e;exact⟨x,rfl,q⟩
  |succ i=>simpa using z9_.get (i:=i) t (by simpa using e)
theorem z9_.get'{K:Qz}{x:V}(h:z9_ K G xs ds)(e:xs[i]? =some x):∃d,ds[i]? =some d/\Rep K G x d:=by
 have hl:=h.length
 have hi:i<xs.length:=(Qb.mp e).1
 obtain⟨x',e',r⟩:=h.get (i:=i) (d:=ds[i]'(by omega)) (by simp)
 rw[e]at e';cases e';exact⟨_,by simp,r⟩
theorem z9_.take{K:Qz}:∀{ds:List D}{xs:List V}(n:Nat),z9_ K G xs ds->z9_ K G (xs.take n) (ds.take n)
 |_,_,0,_=>by simp[repL_nil]
 |[],_,n+1,h=>by simp only[z9_]at h;subst h;simp[repL_nil]
 |d::ds,_,n+1,h=>by
  simp only[z9_]at h;obtain⟨x,r,e,q,t⟩:=h;subst e;exact repL_cons q (t.take n)
theorem z9_.drop{K:Qz}:∀{ds:List D}{xs:List V}(n:Nat),z9_ K G xs ds->z9_ K G (xs.drop n) (ds.drop n)
 |_,_,0,h=>h
 |[],_,n+1,h=>by simp only[z9_]at h;subst h;simp[repL_nil]
 |d::ds,_,n+1,h=>by
  simp only[z9_]at h;obtain⟨x,r,e,q,t⟩:=h;subst e;exact t.drop n
theorem z9_.reverse{K:Qz}:∀{ds:List D}{xs:List V},z9_ K G xs ds->z9_ K G xs.reverse ds.reverse
 |[],_,h=>by simp only[z9_]at h;subst h;simp[repL_nil]
 |d::ds,_,h=>by
  simp only[z9_]at h;obtain⟨x,r,e,q,t⟩:=h;subst e;simp only[Xn];exact t.reverse.append (repL_cons q repL_nil)
theorem z9_.set{K:Qz}:∀{ds:List D}{xs:List V}{x:V}{d:D}(n:Nat),z9_ K G xs ds->Rep K G x d->z9_ K G (xs.set n x) (ds.set n d)
 |[],_,_,_,n,h,_=>by simp only[z9_]at h;subst h;simp[repL_nil]
 |d::ds,_,_,_,0,h,q'=>by
  simp only[z9_]at h;obtain⟨x,r,e,q,t⟩:=h;subst e;exact repL_cons q' t
 |d::ds,_,_,_,n+1,h,q'=>by
  simp only[z9_]at h;obtain⟨x,r,e,q,t⟩:=h;subst e;exact repL_cons q (t.set n q')
inductive Mu where
 |l (ds:List D)|d (ks:List (List Int)) (vs:List D)
 deriving Inhabited
variable{m:Mu}
inductive W where
 |nil|dat (d:D)|own (ds:List D)|par (ds:List D)|ownD (ks:List (List Int)) (vs:List D)|parD (ks:List (List Int)) (vs:List D)
 deriving Inhabited
variable{w2:W}{ws':List W}
abbrev Env':=List W
variable{env' env1:Env'}
def W.mut:W->Option Mu
 |.own ds=>some (.l ds)
 |.par ds=>some (.l ds)
 |.ownD ks vs=>some (.d ks vs)
 |.parD ks vs=>some (.d ks vs)
 |_=>none
def W.mutL:W->Option (List D)
 |.own ds=>some ds
 |.par ds=>some ds
 |_=>none
def W.mutD:W->Option (List (List Int)×List D)
 |.ownD ks vs=>some (ks,vs)
 |.parD ks vs=>some (ks,vs)
 |_=>none
def W.put:W->List D->W
 |.own _,ds=>.own ds
 |.par _,ds=>.par ds
 |w,_=>w
def W.isOwn:W->Bool
 |.own _=>true
 |.ownD _ _=>true
 |_=>false
def W.isPar:W->Bool
 |.par _=>true
 |.parD _ _=>true
 |_=>false
def W.putM(w:W):Mu->W
 |.l ds=>if w.isOwn then .own ds else if w.isPar then .par ds else w
 |.d ks vs=>if w.isOwn then .ownD ks vs else if w.isPar then .parD ks vs else w
theorem W.mutL_of{w:W}(h:w.mutL=some ds):w.mut=some (.l ds):=by cases w<;>first|(cases h;rfl)|cases h
theorem W.mutD_of{w:W}{vs:List D}(h:w.mutD=some (ks,vs)):w.mut=some (.d ks vs):=by cases w<;>first|(cases h;rfl)|cases h
theorem W.put_eq{w:W}(h:w.mutL=some ds)(ds':List D):w.put ds'=w.putM (.l ds'):=by cases w<;>first|rfl|cases h
theorem W.putM_mut{w:W}(h:w.mut=some m)(m':Mu):(w.putM m').mut=some m':=by
 cases w<;>cases m'<;>first|rfl|cases h
theorem W.putM_own{w:W}(h:w.mut=some m)(m':Mu):(w.putM m').isOwn=w.isOwn:=by
 cases w<;>cases m'<;>first|rfl|cases h
theorem W.putM_par{w:W}(h:w.mut=some m)(m':Mu):(w.putM m').isPar=w.isPar:=by
 cases w<;>cases m'<;>first|rfl|cases h
def Owned(σ:St)(env:Env')(a:Addr):Prop:=∃(i:Nat) (w:W) (m:Mu),env[i]? =some w/\w.mut=some m/\σ[i]? =some (some (V.ref a))
theorem own_mut{w:W}(h:w.isOwn=true):∃m,w.mut=some m:=by cases w<;>first|exact⟨_,rfl⟩|cases h
theorem par_mut{w:W}(h:w.isPar=true):∃m,w.mut=some m:=by cases w<;>first|exact⟨_,rfl⟩|cases h
def NT(o:HO):Prop:=∀ps,o≠.tbl ps
theorem nt_lst:NT (.lst xs):=fun _ z=>by cases z
theorem nt_tup:NT (.tup xs):=fun _ z=>by cases z
def lamQ(q:Str):Str:=(q++".<locals>.")++"<lambda>"
def tabQ(K:Qz)(P:Addr)(q:Str):Bool:=K.all fun p=>match p.2 with
 |⟨.type "code",_,.fields vs,_⟩=>(match (vs[11]? :Option Value)with|some (.ref P')=>P' !=P|_=>true)||(match vs.toList with|_::.str n _::_=>n==q|_=>false)
 |_=>true
def LamC(K:Qz)(P a:Addr):HO:=.ext fun h=>∀q,tabQ K P q=true->h.CodeRec (.ref a) (lamQ q)
def TabsOk(K:Qz)(H:Hp):Prop:=∀P ps,H P=some (.tbl ps)->TriplesOk ps.toList/\∀pos v,codeAmong pos ps.toList=some v->∃a,v=.ref a/\H a=some (LamC K P a)
theorem TabsOk.mono{K:Qz}(t:TabsOk K H)(h1:∀P ps,H' P=some (.tbl ps)->H P=some (.tbl ps))(h2:∀a φ,H a=some (.ext φ)->H' a=some (.ext φ)):TabsOk K H':=fun P ps e=>by
 obtain⟨q1,q2⟩:=t P ps (h1 P ps e);refine⟨q1,fun pos v e=>?_⟩
 obtain⟨a,e1,e2⟩:=q2 pos v e;exact⟨a,e1,h2 _ _ e2⟩
theorem TabsOk.upd{K:Qz}(t:TabsOk K H){a:Addr}(no:NT o)(h:∀φ,H a≠some (.ext φ)):TabsOk K (upd H a o):=
 t.mono (fun P ps e=>by
  by_cases hb:P=a
  ·subst hb;rw[y5_]at e;cases e;exact absurd rfl (no ps)
  ·rw[q5_ hb]at e;exact e) fun b φ e=>by
  by_cases hb:b=a
  ·subst hb;exact absurd e (h φ)
  ·rw[q5_ hb];exact e
def RepM(K:Qz)(G:Hp)(o:HO):Mu->Prop
 |.l ds=>∃xs,o=.lst xs/\z9_ K G xs ds
 |.d ks vs=>∃kvs,o=.dT (a5M K) kvs/\kvs.map (·.1)=ks.map a4B/\z9_ K G (kvs.map (·.2)) vs
theorem RepM.mono{K:Qz}(l:Le G G'):∀{m:Mu},RepM K G o m->RepM K G' o m
 |.l ds,⟨xs,e,r⟩=>⟨xs,e,z9_.mono l ds r⟩
 |.d ks vs,⟨kvs,e,k,r⟩=>⟨kvs,e,k,z9_.mono l vs r⟩
theorem RepM.nt{K:Qz}:∀{m:Mu},RepM K G o m->NT o
 |.l ds,⟨xs,e,r⟩=>by subst e;exact nt_lst
 |.d ks vs,⟨kvs,e,k,r⟩=>by subst e;exact fun _ z=>by cases z
theorem RepM.ne{K:Qz}(r:RepM K G o m):∀φ,o≠.ext φ:=by
 cases m with
 |l ds=>obtain⟨xs,e,_⟩:=r;subst e;exact fun _ z=>by cases z
 |d ks vs=>obtain⟨xs,e,_⟩:=r;subst e;exact fun _ z=>by cases z
structure Rel(K:Qz)(B:Addr->Prop)(G:Hp)(σ:St)(env:Env')(H:Hp):Prop where
 sub:Le G H
 len:env.length=σ.length
 dat:∀(i:Nat) (d:D),env[i]? =some (.dat d)->∃v,σ[i]? =some (some v)/\Rep K G v d
 own:∀(i:Nat) (w:W) (m:Mu),env[i]? =some w->w.mut=some m->∃a o,σ[i]? =some (some (V.ref a))/\H a=some o/\RepM K G o m/\G a=none
 inj:∀(i j:Nat) (w w':W) (ds es:Mu) (a:Addr),env[i]? =some w->w.mut=some ds->env[j]? =some w'->w'.mut=some es->σ[i]? =some (some (V.ref a))->σ[j]? =some (some (V.ref a))->i=j
 fresh:∀(i:Nat) (w:W) (a:Addr),env[i]? =some w->w.isOwn=true->σ[i]? =some (some (V.ref a))-> ¬ B a
 old:∀b,B b->H b≠none
 tabs:TabsOk K H
 gnt:∀b o,G b=some o->NT o
structure Ev(K:Qz)(B:Addr->Prop)(G:Hp)(σ:St)(env:Env')(H:Hp)(G':Hp)(σ':St)(env':Env')(H':Hp):Prop where
 rel:Rel K B G' σ' env' H'
 same:Le G G'
 keep:∀b o,¬ Owned σ env b->NT o->H b=some o->H' b=some o
 live:∀b,H b≠none->H' b≠none
 stay:∀b,H b≠none-> ¬ Owned σ env b->G b=none->G' b=none
 sub:∀a,Owned σ' env' a->Owned σ env a∨H a=none
 par:∀(i:Nat) (w:W),env'[i]? =some w->w.isPar=true->σ'[i]? =σ[i]? /\ ∃w0,env[i]? =some w0/\w0.isPar=true
 slen:σ'.length=σ.length
theorem Ev.refl{K:Qz}{env:Env'}(r:Rel K B G σ env H):Ev K B G σ env H G σ env H:=
 ⟨r,Le.refl,fun _ _ _ _ e=>e,fun _ e=>e,fun _ _ _ e=>e,fun _ e=>.inl e,fun _ w e h=>⟨rfl,w,e,h⟩,rfl⟩
theorem Ev.trans{K:Qz}{σ2:St}{env env2:Env'}(a:Ev K B G σ env H G1 σ1 env1 H1)(b:Ev K B G1 σ1 env1 H1 G2 σ2 env2 H2):Ev K B G σ env H G2 σ2 env2 H2 where
 rel:=b.rel
 same:=a.same.trans b.same
 keep:=fun x o n t e=>b.keep x o (fun z=>(a.sub x z).elim n fun q=>by rw[e]at q;cases q) t (a.keep x o n t e)
 live:=fun x e=>b.live x (a.live x e)
 stay:=fun x e n g=>b.stay x (a.live x e) (fun z=>(a.sub x z).elim n fun q=>e q) (a.stay x e n g)
 sub:=fun x z=>(b.sub x z).elim (fun q=>a.sub x q) fun q=>.inr (by
  cases h:H x with
  |none=>rfl
  |some o=>exact absurd q (a.live x (by rw[h];simp)))
 par:=fun i w e h=>by
  obtain⟨h1,d1,e1,p1⟩:=b.par i w e h;obtain⟨h2,d2,e2,p2⟩:=a.par i d1 e1 p1;exact⟨h1.trans h2,d2,e2,p2⟩
 slen:=b.slen.trans a.slen
theorem Rel.ownL{K:Qz}{env:Env'}(r:Rel K B G σ env H)(i:Nat)(w:W)(ds:List D)(e1:env[i]? =some w)(e2:w.mutL=some ds):∃a xs,σ[i]? =some (some (V.ref a))/\H a=some (.lst xs)/\z9_ K G xs ds/\G a=none:=by
 obtain⟨a,o,h1,h2,⟨xs,rfl,h3⟩,h4⟩:=r.own i w (.l ds) e1 (W.mutL_of e2);exact⟨a,xs,h1,h2,h3,h4⟩
theorem Rel.ownD{K:Qz}{env:Env'}(r:Rel K B G σ env H)(i:Nat)(w:W)(ks:List (List Int))(vs:List D)(e1:env[i]? =some w)(e2:w.mutD=some (ks,vs)):∃a kvs,σ[i]? =some (some (V.ref a))/\H a=some (.dT (a5M K) kvs)/\kvs.map (·.1)=ks.map a4B/\z9_ K G (kvs.map (·.2)) vs/\G a=none:=by
 obtain⟨a,o,h1,h2,⟨kvs,rfl,h3,h4⟩,h5⟩:=r.own i w (.d ks vs) e1 (W.mutD_of e2);exact⟨a,kvs,h1,h2,h3,h4,h5⟩
abbrev Mo(α:Type):=Env'->Option (α×Env')
variable{ma mb mc:Mo D}{mi ms:Mo (List D)}
section
variable(K:Qz)(B:Addr->Prop)
def TD(m:Mo D):TE:=fun σ H Q=>∃G env d env',Rel K B G σ env H/\m env=some (d,env')/\∀v G' H',Ev K B G σ env H G' σ env' H'->Rep K G' v d->Q v H'
def TL(m:Mo (List D)):TE:=fun σ H Q=>∃G env ds env',Rel K B G σ env H/\m env=some (ds,env')/\∀a xs G' H',Ev K B G σ env H G' σ env' H'->H a=none-> ¬ Owned σ env' a->H' a=some (.lst xs)->G' a=none->z9_ K G' xs ds->Q (.ref a) H'
def TTm(m:Mo Bool):TT:=fun σ H Q=>∃G env b env',Rel K B G σ env H/\m env=some (b,env')/\∀G' H',Ev K B G σ env H G' σ env' H'->Q b H'
inductive Ar where
 |d (d:D)|sl (i:Nat)
 deriving Inhabited
def RepA(G:Hp)(σ:St):List V->List Ar->Prop
 |xs,[]=>xs=[]
 |xs,.d d::as=>∃x r,xs=x::r/\Rep K G x d/\RepA G σ r as
 |xs,.sl i::as=>∃x r,xs=x::r/\σ[i]? =some (some x)/\RepA G σ r as
def TAm(m:Mo (List Ar)):TA:=fun σ H Q=>∃G env as env',Rel K B G σ env H/\m env=some (as,env')/\∀vs G' H',Ev K B G σ env H G' σ env' H'->RepA K G' σ vs as->Q vs H'
def TDs(m:Mo (List D)):TA:=fun σ H Q=>∃G env ds env',Rel K B G σ env H/\m env=some (ds,env')/\∀vs G' H',Ev K B G σ env H G' σ env' H'->z9_ K G' vs ds->Q vs H'
inductive Fl where
 |nx|bk|ct|ret (d:D)|retL (ds:List D)
def Post(G:Hp)(σ:St)(env:Env')(H:Hp)(env':Env')(D:Ends):Fl->Prop
 |.nx=>∀σ' G' H',Ev K B G σ env H G' σ' env' H'->D.nx σ' H'
 |.bk=>∀σ' G' H',Ev K B G σ env H G' σ' env' H'->D.bk σ' H'
 |.ct=>∀σ' G' H',Ev K B G σ env H G' σ' env' H'->D.ct σ' H'
 |.ret d=>∀v σ' G' H',Ev K B G σ env H G' σ' env' H'->Rep K G' v d->D.rt v H'
 |.retL ds=>∀a xs σ' G' H',Ev K B G σ env H G' σ' env' H'-> ¬ B a-> ¬ Owned σ' env' a->H' a=some (.lst xs)->G' a=none->z9_ K G' xs ds->D.rt (.ref a) H'
def TSm(m:Mo Fl):TS:=fun D σ H=>∃G env fl env',Rel K B G σ env H/\m env=some (fl,env')/\Post K B G σ env H env' D fl
theorem Post.after{env:Env'}{D:Ends}{fl:Fl}(k:Post K B G σ env H env' D fl)(ev:Ev K B G σ env H G1 σ1 env1 H1):Post K B G1 σ1 env1 H1 env' D fl:=by
 cases fl with
 |nx=>exact fun σ2 G2 H2 ev2=>k σ2 G2 H2 (ev.trans ev2)
 |bk=>exact fun σ2 G2 H2 ev2=>k σ2 G2 H2 (ev.trans ev2)
 |ct=>exact fun σ2 G2 H2 ev2=>k σ2 G2 H2 (ev.trans ev2)
 |ret d=>exact fun v σ2 G2 H2 ev2=>k v σ2 G2 H2 (ev.trans ev2)
 |retL d=>exact fun a xs σ2 G2 H2 ev2=>k a xs σ2 G2 H2 (ev.trans ev2)
end
variable{as:Mo (List Ar)}
abbrev ED(X:Cx)(B:Addr->Prop)(e:Expr)(m:Mo D):Prop:=PE X e (TD X.K B m)
abbrev EL(X:Cx)(B:Addr->Prop)(e:Expr)(m:Mo (List D)):Prop:=PE X e (TL X.K B m)
abbrev ET(X:Cx)(B:Addr->Prop)(e:Expr)(m:Mo Bool):Prop:=PT X e (TTm X.K B m)
abbrev EAr(X:Cx)(B:Addr->Prop)(es:List Expr)(m:Mo (List Ar)):Prop:=PA X es (TAm X.K B m)
abbrev EDs(X:Cx)(B:Addr->Prop)(es:List Expr)(m:Mo (List D)):Prop:=PA X es (TDs X.K B m)
abbrev ES(X:Cx)(B:Addr->Prop)(s:Stmt)(m:Mo Fl):Prop:=PS X s (TSm X.K B m)
abbrev ESs(X:Cx)(B:Addr->Prop)(s:List Stmt)(m:Mo Fl):Prop:=PSs X s (TSm X.K B m)
theorem pe_imp{t t':TE}(h:PE X e t)(i:∀σ H Q,t' σ H Q->t σ H Q):PE X e t':=fun pins s σ H Q I q=>h pins s σ H Q I (i σ H Q q)
theorem pt_imp{t:TT}(h:PT X e t)(i:∀σ H Q,t' σ H Q->t σ H Q):PT X e t':=fun pins s σ H Q I q=>h pins s σ H Q I (i σ H Q q)
theorem pw_imp{t:TT}(h:PW X e t)(i:∀σ H Q,t' σ H Q->t σ H Q):PW X e t':=fun wh pins s σ H Q I q=>h wh pins s σ H Q I (i σ H Q q)
theorem pa_imp{e:List Expr}{t t':TA}(h:PA X e t)(i:∀σ H Q,t' σ H Q->t σ H Q):PA X e t':=fun pos pins s σ H Q I q=>h pos pins s σ H Q I (i σ H Q q)
theorem ps_imp{e:Stmt}{t t':TS}(h:PS X e t)(i:∀D σ H,t' D σ H->t D σ H):PS X e t':=fun pins s σ H D I q=>h pins s σ H D I (i D σ H q)
theorem pss_imp{e:List Stmt}{t t':TS}(h:PSs X e t)(i:∀D σ H,t' D σ H->t D σ H):PSs X e t':=fun pins s σ H D I q=>h pins s σ H D I (i D σ H q)
section
variable{K:Qz}{env:Env'}
theorem Rel.gnone(r:Rel K B G σ env H)(h:H p=none):G p=none:=by
 cases e:G p with
 |none=>rfl
 |some o=>rw[r.sub p o e]at h;cases h
theorem Rel.unowned(r:Rel K B G σ env H)(h:H p=none):¬ Owned σ env p:=by
 rintro⟨i,w,ds,e1,e2,e3⟩;obtain⟨a,xs,e4,e5,_⟩:=r.own i w ds e1 e2;rw[e3]at e4;cases e4;rw[h]at e5;cases e5
theorem a7z(h:∀b o,G b=some o->NT o)(no:NT o):∀b u,upd G p o b=some u->NT u:=fun b u e=>by
 by_cases hb:b=p
 ·subst hb;rw[y5_]at e;cases e;exact no
 ·rw[q5_ hb]at e;exact h b u e
theorem Rel.alloc(r:Rel K B G σ env H)(h:H p=none)(no:NT o:=by intro _ z;cases z):Ev K B G σ env H (upd G p o) σ env (upd H p o):=by
 have gp:=r.gnone h
 refine⟨⟨fun b u e=>?_,r.len,fun i d e=>?_,fun i w ds e1 e2=>?_,r.inj,r.fresh,fun b e=>?_,r.tabs.upd no (fun φ z=>by rw[h]at z;cases z),a7z r.gnt no⟩,Le.upd gp,fun b u _ _ e=>?_,fun b e=>?_,fun b e _ g=>?_,fun a z=>.inl z,fun i w e hp=>⟨rfl,w,e,hp⟩,rfl⟩
 ·by_cases hb:b=p
  ·subst hb;rw[y5_]at e ⊢;exact e
  ·rw[q5_ hb]at e ⊢;exact r.sub b u e
 ·obtain⟨v,e1,e2⟩:=r.dat i d e
  exact⟨v,e1,Rep.mono (Le.upd gp) d e2⟩
 ·obtain⟨a,xs,e3,e4,e5,e6⟩:=r.own i w ds e1 e2
  have ha:a≠p:=g4_ e4 h
  exact⟨a,xs,e3,by rw[q5_ ha];exact e4,e5.mono (Le.upd gp),by rw[q5_ ha];exact e6⟩
 ·by_cases hb:b=p
  ·subst hb;rw[y5_];simp
  ·rw[q5_ hb];exact r.old b e
 ·rw[q5_ (g4_ e h)];exact e
 ·by_cases hb:b=p
  ·subst hb;rw[y5_];simp
  ·rw[q5_ hb];exact e
 ·have hb:b≠p:=fun z=>e (z ▸ h)
  rw[q5_ hb];exact g
theorem Rel.allocM(r:Rel K B G σ env H)(h:H p=none)(no:NT o:=by intro _ z;cases z):Ev K B G σ env H G σ env (upd H p o):=by
 refine⟨⟨fun b u e=>?_,r.len,r.dat,fun i w ds e1 e2=>?_,r.inj,r.fresh,fun b e=>?_,r.tabs.upd no (fun φ z=>by rw[h]at z;cases z),r.gnt⟩,Le.refl,fun b u _ _ e=>?_,fun b e=>?_,fun b e _ g=>g,fun a z=>.inl z,fun i w e hp=>⟨rfl,w,e,hp⟩,rfl⟩
 ·rw[q5_ (g4_ (r.sub b u e) h)];exact r.sub b u e
 ·obtain⟨a,xs,e3,e4,e5,e6⟩:=r.own i w ds e1 e2
  exact⟨a,xs,e3,by rw[q5_ (g4_ e4 h)];exact e4,e5,e6⟩
 ·by_cases hb:b=p
  ·subst hb;rw[y5_];simp
  ·rw[q5_ hb];exact r.old b e
 ·rw[q5_ (g4_ e h)];exact e
 ·by_cases hb:b=p
  ·subst hb;rw[y5_];simp
  ·rw[q5_ hb];exact e
theorem Ev.frz{a:Addr}(v:Ev K B G σ env H G' σ' env' H')(ha:H a=none)(no:¬ Owned σ' env' a)(h':H' a=some (.lst xs))(g':G' a=none):
  Ev K B G σ env H (upd G' a (.lst xs)) σ' env' H':=by
 refine⟨⟨fun b u e=>?_,v.rel.len,fun i d e=>?_,fun i w ds e1 e2=>?_,v.rel.inj,v.rel.fresh,v.rel.old,v.rel.tabs,a7z v.rel.gnt nt_lst⟩,v.same.trans (Le.upd g'),v.keep,v.live,fun b e n g=>?_,v.sub,v.par,v.slen⟩
 ·by_cases hb:b=a
  ·subst hb;rw[y5_]at e;cases e;exact h'
  ·rw[q5_ hb]at e;exact v.rel.sub b u e
 ·obtain⟨x,e1,e2⟩:=v.rel.dat i d e
  exact⟨x,e1,Rep.mono (Le.upd g') d e2⟩
 ·obtain⟨p,ys,e3,e4,e5,e6⟩:=v.rel.own i w ds e1 e2
  have hp:p≠a:=fun z=>no ⟨i,w,ds,e1,e2,by rw[←z];exact e3⟩
  exact⟨p,ys,e3,e4,e5.mono (Le.upd g'),by rw[q5_ hp];exact e6⟩
 ·have hb:b≠a:=fun z=>e (z ▸ ha)
  rw[q5_ hb];exact v.stay b e n g
theorem a4C{a:Addr}(h:G a=some (.lst xs))(r:z9_ K G xs ds):Rep K G (.ref a) (.lst ds):=by
 simp only[Rep];exact⟨a,xs,rfl,.inl (.inl h),r⟩
theorem a1V{a:Addr}(h:G a=some (.tup xs))(r:z9_ K G xs ds):Rep K G (.ref a) (.tup ds):=by
 simp only[Rep];exact⟨a,xs,rfl,.inl h,r⟩
theorem Rel.frzSlotM{w0:W}(r:Rel K B G σ env H)(e:env[i]? =some w0)(em:w0.mut=some m)(hrep:∀G1 a o,G1 a=some o->RepM K G1 o m->Rep K G1 (.ref a) d):
  ∃a o,σ[i]? =some (some (.ref a))/\Rep K (upd G a o) (.ref a) d/\Ev K B G σ env H (upd G a o) σ (env.set i (.dat d)) H:=by
 obtain⟨a,o,e1,e2,e3,e4⟩:=r.own i _ m e em;have rp:Rep K (upd G a o) (.ref a) d:=hrep _ a o y5_ (e3.mono (Le.upd e4));have ow:Owned σ env a:=⟨i,_,m,e,em,e1⟩;have hi:i<env.length:=(Qb.mp e).1;have ne:∀j w es,(env.set i (.dat d))[j]? =some w->w.mut=some es->j≠i/\env[j]? =some w:=fun j w es q1 q2=>by
  by_cases hj:j=i
  ·subst hj;rw[Zi hi]at q1;cases q1;cases q2
  ·rw[Qm (Zy hj)]at q1;exact⟨hj,q1⟩
 refine⟨a,o,e1,rp,⟨⟨fun b u q=>?_,by rw[Zf];exact r.len,fun j d q=>?_,fun j w es q1 q2=>?_,fun j k w w' es fs b q1 q2 q3 q4 q5 q6=>?_,fun j w b q1 qo q2=>?_,r.old,r.tabs,a7z r.gnt e3.nt⟩,Le.upd e4,fun b o _ _ q=>q,fun b q=>q,fun b q n g=>?_,fun b z=>?_,fun j w q qp=>?_,rfl⟩⟩
 ·by_cases hb:b=a
  ·subst hb;rw[y5_]at q;cases q;exact e2
  ·rw[q5_ hb]at q;exact r.sub b u q
 ·by_cases hj:j=i
  ·subst hj;rw[Zi hi]at q;cases q;exact⟨_,e1,rp⟩
  ·rw[Qm (Zy hj)]at q
   obtain⟨x,q1,q2⟩:=r.dat j d q;exact⟨x,q1,Rep.mono (Le.upd e4) d q2⟩
 ·obtain⟨hj,q⟩:=ne j w es q1 q2
  obtain⟨p,ys,e3',e4',e5',e6'⟩:=r.own j w es q q2;have hp:p≠a:=fun z=>hj (r.inj j i w _ es m a q q2 e em (by rw[e3',z]) e1)
  exact⟨p,ys,e3',e4',e5'.mono (Le.upd e4),by rw[q5_ hp];exact e6'⟩
 ·exact r.inj j k w w' es fs b (ne j w es q1 q2).2 q2 (ne k w' fs q3 q4).2 q4 q5 q6
 ·obtain⟨es,hm⟩:=own_mut qo
  exact r.fresh j w b (ne j _ es q1 hm).2 qo q2
 ·have hb:b≠a:=fun z=>n (z ▸ ow)
  rw[q5_ hb];exact g
 ·obtain⟨j,w,es,q1,q2,q3⟩:=z
  exact .inl ⟨j,w,es,(ne j w es q1 q2).2,q2,q3⟩
 ·obtain⟨es,hm⟩:=par_mut qp
  exact⟨rfl,w,(ne j _ es q hm).2,qp⟩
theorem Rel.frzSlot(r:Rel K B G σ env H)(e:env[i]? =some (.own ds)):
  ∃a o,σ[i]? =some (some (.ref a))/\Rep K (upd G a o) (.ref a) (.lst ds)/\Ev K B G σ env H (upd G a o) σ (env.set i (.dat (.lst ds))) H:=
 r.frzSlotM (m:=.l ds) e rfl fun G1 a o h ⟨xs,z,q⟩=>by subst z;exact a4C h q
theorem Rel.frzSlotD{vs:List D}(r:Rel K B G σ env H)(e:env[i]? =some (.ownD ks vs)):
  ∃a o,σ[i]? =some (some (.ref a))/\Rep K (upd G a o) (.ref a) (.dct ks vs)/\Ev K B G σ env H (upd G a o) σ (env.set i (.dat (.dct ks vs))) H:=
 r.frzSlotM (m:=.d ks vs) e rfl fun G1 a o h ⟨kvs,z,q1,q2⟩=>by subst z;simp only[Rep];exact⟨a,kvs,rfl,h,q1,q2⟩
end
def z0_(i:Nat):Mo D:=fun env=>match env[i]? with
 |some (.dat d)=>some (d,env)
 |some (.own ds)=>some (.lst ds,env.set i (.dat (.lst ds)))
 |some (.ownD ks vs)=>some (.dct ks vs,env.set i (.dat (.dct ks vs)))
 |_=>none
def mC(d:D):Mo D:=fun env=>some (d,env)
theorem z2_{i:Nat}{x:Str}(h:PE X (.Name x pos) (a0r i)):ED X B (.Name x pos) (z0_ i):=by
 refine pe_imp h fun σ H Q q=>?_
 obtain⟨G,env,d,env',r,e,k⟩:=q;unfold z0_ at e;split at e
 ·rename_i d' e1
  cases e;obtain⟨v,e2,e3⟩:=r.dat i _ e1;exact⟨v,e2,k v G H (.refl r) e3⟩
 ·rename_i ds e1
  cases e;obtain⟨a,xs,e2,e3,e4⟩:=r.frzSlot e1;exact⟨_,e2,k _ _ H e4 e3⟩
 ·rename_i ks vs e1
  cases e;obtain⟨a,xs,e2,e3,e4⟩:=r.frzSlotD e1;exact⟨_,e2,k _ _ H e4 e3⟩
 ·cases e
theorem a4D(h:PE X e (tC v))(hd:∀K G,Rep K G v d):ED X B e (mC d):=by
 refine pe_imp h fun σ H Q q=>?_
 obtain⟨G,env,d',env',r,e,k⟩:=q;cases e;exact k v G H (.refl r) (hd _ _)
theorem q0_{i:Int}:ED X B (.Constant (.int i) j pos) (mC (.int i)):=a4D b0c fun _ _=>by simp only[Rep]
theorem j6_{b:Bool}:ED X B (.Constant (.bool b) j pos) (mC (.bl b)):=a4D b5i fun _ _=>by simp only[Rep]
theorem a1W:ED X B (.Constant .none j pos) (mC .non):=a4D b0d fun _ _=>by simp only[Rep]
theorem g5_(hx:x.length≤1000):ED X B (.Constant (.str x) j pos) (mC (.str x)):=a4D b5j fun _ _=>by simp only[Rep];exact⟨trivial,Jo (a5K hx)⟩
theorem b6P{i:Int}{t:Tok}(hg:Gl X x)(hm:X.mg x=some (.int i t))(hd:(x==("__debug__":Str))=false:=by decide):ED X B (.Name x pos) (mC (.int i)):=
 a4D (a7e (v:=.int i) hg hm ⟨t,rfl⟩ hd) fun _ _=>by simp only[Rep]
def z5_(f:D->D->Option D)(ma mb:Mo D):Mo D:=fun env=>(ma env).bind fun p=>(mb p.2).bind fun q=>(f p.1 q.1).map fun d=>(d,q.2)
def OpD(X:Cx)(B:Addr->Prop)(r:R2)(f:D->D->Option D):Prop:=
 ∀(G:Hp) (σ:St) (env:Env') (H:Hp) (x y:V) (a b c:D) (Q:VK),Rel X.K B G σ env H->Rep X.K G x a->Rep X.K G y b->f a b=some c->
  (∀v G' H',Ev X.K B G σ env H G' σ env H'->Rep X.K G' v c->Q v H')->r x y H Q
theorem a5N{f:D->D->Option D}(o:OpD X B r f):∀σ H Q,TD X.K B (z5_ f ma mb) σ H Q->tOp r (TD X.K B ma) (TD X.K B mb) σ H Q:=by
 rintro σ H Q ⟨G,env,d,env',rl,e,k⟩;unfold z5_ at e;cases ea:ma env with
 |none=>rw[ea]at e;cases e
 |some p=>
  obtain⟨d1,env1⟩:=p;rw[ea]at e;simp only[Qj]at e;cases eb:mb env1 with
  |none=>rw[eb]at e;cases e
  |some p=>
   obtain⟨d2,env2⟩:=p;rw[eb]at e;simp only[Qj]at e;cases ef:f d1 d2 with
   |none=>rw[ef]at e;cases e
   |some c=>
    rw[ef]at e;cases e;refine⟨G,env,d1,env1,rl,ea,fun v1 G1 H1 v r1=>⟨G1,env1,d2,_,v.rel,eb,fun v2 G2 H2 v' r2=>?_⟩⟩
    exact o G2 σ _ H2 v1 v2 d1 d2 _ Q v'.rel (Rep.mono v'.same _ r1) r2 ef fun v3 G3 H3 v3' r3=>k v3 G3 H3 ((v.trans v').trans v3') r3
theorem v8_{op:Operator}{f:D->D->Option D}{a:Expr}(ho:OpR X (binaryOp op) r)(o:OpD X B r f)(ha:ED X B a ma)(hb:ED X B b mb):ED X B (.BinOp a op b pos) (z5_ f ma mb):=
 pe_imp (a7p ho ha hb) (a5N o)
theorem a3e{f:D->D->Option D}{a:Expr}(ho:OpR X (compareOp op) r)(o:OpD X B r f)(ha:ED X B a ma)(hb:ED X B b mb)(hm:behindInMarks op b=false):ED X B (.Compare a [op] [b] pos) (z5_ f ma mb):=
 pe_imp (b6k ho ha hb hm) (a5N o)
def fI(C:Int->Int->Bool)(g:Int->Int->D):D->D->Option D
 |.int i,.int j=>if C i j then some (g i j)else none
 |_,_=>none
theorem a5O{C:Int->Int->Prop}{c:Int->Int->Bool}{g:Int->Int->V}(hc:∀i j,c i j=true->C i j)(hg:∀K G i j,Rep K G (g i j) (g' i j)):OpD X B (rI C g) (fI c g'):=by
 intro G σ env H x y a b d Q rl ra rb e k;cases a<;>cases b<;>first|(exact absurd (show(none:Option D)=some d from e) (by simp))|skip
 rename_i i j;simp only[Rep]at ra rb;subst ra rb;simp only[fI]at e;split at e
 ·rename_i h
  cases e;exact⟨i,j,rfl,rfl,hc i j h,k _ G H (.refl rl) (hg _ _ i j)⟩
 ·cases e
theorem a3M{g:Int->Int->V}(hg:∀K G i j,Rep K G (g i j) (g' i j)):OpD X B (rI0 g) (fI (fun _ _=>true) g'):=by
 intro G σ env H x y a b d Q rl ra rb e k;cases a<;>cases b<;>first|(exact absurd (show(none:Option D)=some d from e) (by simp))|skip
 rename_i i j;simp only[Rep]at ra rb;subst ra rb;simp only[fI,Zu]at e;cases e;exact⟨i,j,rfl,rfl,k _ G H (.refl rl) (hg _ _ i j)⟩
theorem OpR.or{f:Value->Value->Sem Value}(h:OpR X f r)(h':OpR X f r'):OpR X f (fun x y H Q=>r x y H Q∨r' x y H Q):=by
 intro pins s σ H x y v u Q I rx ry q
 rcases q with q|q
 ·exact h pins s σ H x y v u Q I rx ry q
 ·exact h' pins s σ H x y v u Q I rx ry q
def fOr(f g:D->D->Option D):D->D->Option D:=fun a b=>match f a b with
 |some c=>some c
 |none=>g a b
theorem OpD.or{f g:D->D->Option D}(h:OpD X B r f)(h':OpD X B r' g):OpD X B (fun x y H Q=>r x y H Q∨r' x y H Q) (fOr f g):=by
 intro G σ env H x y a b d Q rl ra rb e k;unfold fOr at e;split at e
 ·rename_i c ec
  cases e;exact .inl (h G σ env H x y a b _ Q rl ra rb ec k)
 ·exact .inr (h' G σ env H x y a b d Q rl ra rb e k)
def a1X(i j:Int):Bool:=(decide (-(2^64)<i)&&decide (i<2^64))||(decide (-(2^64)<j)&&decide (j<2^64))
def a5P(_ j:Int):Bool:=decide (0<j)&&decide (j<1073741824)
def a5Q(i j:Int):Bool:=decide (0≤j)&&decide (j≤1000000)&&decide (i.natAbs<2^64)
def u2_:=fI (fun _ _=>true) fun i j=>.int (i-j)
def a4E:=fI a1X fun i j=>.int (i * j)
def a4F:=fI a5P fun i j=>.int (i/j)
def g6_:=fI (fun _ j=>decide (0<j)) fun i j=>.int (i%j)
def a0V:=fI a5Q fun i j=>.int (i^j.toNat)
def a5R:=fI (fun _ _=>true) fun i j=>.int (i+j)
def dLt:=fI (fun _ _=>true) fun i j=>.bl (decide (i<j))
def dLe:=fI (fun _ _=>true) fun i j=>.bl (decide (i≤j))
def dGt:=fI (fun _ _=>true) fun i j=>.bl (decide (j<i))
def dGe:=fI (fun _ _=>true) fun i j=>.bl (decide (j≤i))
theorem b6Q:OpD X B (rI0 fun i j=>.int (i-j)) u2_:=a3M fun _ _ _ _=>by simp only[Rep]
theorem b0T:OpD X B (rI0 fun i j=>.int (i+j)) a5R:=a3M fun _ _ _ _=>by simp only[Rep]
theorem b6R:OpD X B (rI a2Z fun i j=>.int (i * j)) a4E:=a5O (fun i j h=>by simpa [a2Z,a1X]using h) fun _ _ _ _=>by simp only[Rep]
theorem b6S:OpD X B (rI a7r fun i j=>.int (i/j)) a4F:=a5O (fun i j h=>by simpa [a7r,a5P]using h) fun _ _ _ _=>by simp only[Rep]
theorem b6T:OpD X B (rI (fun _ j=>0<j) fun i j=>.int (i%j)) g6_:=a5O (fun i j h=>by simpa using h) fun _ _ _ _=>by simp only[Rep]
theorem b6U:OpD X B (rI a7s fun i j=>.int (i^j.toNat)) a0V:=a5O (fun i j h=>by simpa [a7s,a5Q,and_assoc]using h) fun _ _ _ _=>by simp only[Rep]
theorem b6V:OpD X B (rI0 fun i j=>.bl (decide (i<j))) dLt:=a3M fun _ _ _ _=>by simp only[Rep]
theorem b6W:OpD X B (rI0 fun i j=>.bl (decide (i≤j))) dLe:=a3M fun _ _ _ _=>by simp only[Rep]
theorem b6X:OpD X B (rI0 fun i j=>.bl (decide (j<i))) dGt:=a3M fun _ _ _ _=>by simp only[Rep]
theorem b6Y:OpD X B (rI0 fun i j=>.bl (decide (j≤i))) dGe:=a3M fun _ _ _ _=>by simp only[Rep]
section
variable{a c:Expr}{ta tb:Mo Bool}
theorem TD.bind{K:Qz}{m:Mo D}{env:Env'}(r:Rel K B G σ env H)(e:m env=some (d,env'))
  (k:∀v G' H',Ev K B G σ env H G' σ env' H'->Rep K G' v d->Q v H'):TD K B m σ H Q:=⟨G,env,d,env',r,e,k⟩
def asB:D×Env'->Option (Bool×Env')
 |(.bl b,e)=>some (b,e)
 |_=>none
def mT(m:Mo D):Mo Bool:=fun env=>(m env).bind asB
theorem a7A{t:TE}{m:Mo D}(i:∀σ H Q,TD X.K B m σ H Q->t σ H Q)(mono:True):∀σ H Q,TTm X.K B (mT m) σ H Q->(fun σ H (Q:Bool->Hp->Prop)=>t σ H fun x H'=>∃k,x=.bl k/\Q k H') σ H Q:=by
 rintro σ H Q ⟨G,env,b,env',rl,e,k⟩;unfold mT at e;cases em:m env with
 |none=>rw[em]at e;cases e
 |some p=>
  obtain⟨d,env1⟩:=p;rw[em]at e;simp only[Qj]at e;cases d<;>first|(exact absurd (show(none:Option (Bool×Env'))=some (b,env')from e) (by simp))|skip
  cases e;refine i σ H _ (.bind rl em fun v G' H' ev r=>?_)
  simp only[Rep]at r;exact⟨_,r,k G' H' ev⟩
theorem a0d(h:ED X B e ma)(he:∀whole,isTrue e X.env whole=(do let v←whole;standAt e.pos;holding [v] (truthy v)):=by intro _;rfl):ET X B e (mT ma):=
 pt_imp (b5k h he) (a7A (fun _ _ _ q=>q) trivial)
theorem j7_{f:D->D->Option D}(ho:OpR X (compareOp op) r)(o:OpD X B r f)(ha:ED X B a ma)(hb:ED X B b mb)(hm:behindInMarks op b=false):ET X B (.Compare a [op] [b] pos) (mT (z5_ f ma mb)):=
 pt_imp (b6l ho ha hb hm) (a7A (a5N o) trivial)
def x3_(t:Mo Bool):Mo Bool:=fun env=>(t env).map fun p=>(!p.1,p.2)
theorem a0e(h:ET X B a ta):ET X B (.UnaryOp .Not a pos) (x3_ ta):=by
 refine pt_imp (b5q h) ?_
 rintro σ H Q ⟨G,env,b,env',rl,e,k⟩;unfold x3_ at e;cases em:ta env with
 |none=>rw[em]at e;cases e
 |some p=>rw[em]at e;cases e;exact⟨G,env,_,_,rl,em,k⟩
def a4G(t u:Mo Bool):Mo Bool:=fun env=>(t env).bind fun p=>if p.1 then u p.2 else some (false,p.2)
def k6_(t u:Mo Bool):Mo Bool:=fun env=>(t env).bind fun p=>if p.1 then some (true,p.2)else u p.2
theorem b6Z:∀σ H Q,TTm X.K B (a4G ta tb) σ H Q->b0f (TTm X.K B ta) (TTm X.K B tb) σ H Q:=by
 rintro σ H Q ⟨G,env,b,env',rl,e,k⟩;unfold a4G at e;cases em:ta env with
 |none=>rw[em]at e;cases e
 |some p=>
  obtain⟨b1,env1⟩:=p;rw[em]at e;simp only[Qj]at e;refine⟨G,env,b1,env1,rl,em,fun G1 H1 ev=>?_⟩
  cases b1 with
  |true=>
   simp only[Zu]at e ⊢;exact⟨G1,env1,b,env',ev.rel,e,fun G2 H2 ev2=>k G2 H2 (ev.trans ev2)⟩
  |false=>
   simp only[Qo,Zo]at e ⊢;cases e;exact k G1 H1 ev
theorem b7a:∀σ H Q,TTm X.K B (k6_ ta tb) σ H Q->tOr (TTm X.K B ta) (TTm X.K B tb) σ H Q:=by
 rintro σ H Q ⟨G,env,b,env',rl,e,k⟩;unfold k6_ at e;cases em:ta env with
 |none=>rw[em]at e;cases e
 |some p=>
  obtain⟨b1,env1⟩:=p;rw[em]at e;simp only[Qj]at e;refine⟨G,env,b1,env1,rl,em,fun G1 H1 ev=>?_⟩
  cases b1 with
  |false=>
   simp only[Qo,Zo]at e ⊢;exact⟨G1,env1,b,env',ev.rel,e,fun G2 H2 ev2=>k G2 H2 (ev.trans ev2)⟩
  |true=>
   simp only[Zu]at e ⊢;cases e;exact k G1 H1 ev
abbrev EW(X:Cx)(B:Addr->Prop)(e:Expr)(m:Mo Bool):Prop:=PW X e (TTm X.K B m)
variable{rest:List Expr}
theorem a7B(h:ET X B a ta):EW X B (.BoolOp .And [a] pos) ta:=b5m h
theorem a1y(h:ET X B a ta):EW X B (.BoolOp .Or [a] pos) ta:=b5n h
theorem a7C(h:ET X B a ta)(h2:EW X B (.BoolOp .And (b::rest) pos) tb):EW X B (.BoolOp .And (a::b::rest) pos) (a4G ta tb):=pw_imp (b5o h h2) b6Z
theorem a1z(h:ET X B a ta)(h2:EW X B (.BoolOp .Or (b::rest) pos) tb):EW X B (.BoolOp .Or (a::b::rest) pos) (k6_ ta tb):=pw_imp (b5p h h2) b7a
theorem a0W(h:EW X B e ta):ET X B e ta:=h.pt
def a1A(m n:Mo D):Mo D:=fun env=>(m env).bind fun p=>match p.1 with
 |.bl true=>n p.2
 |.bl false=>some (.bl false,p.2)
 |_=>none
theorem a4H{op}(h:ED X B a ma):ED X B (.BoolOp op [a] pos) ma:=b5t h
theorem a4I(ha:ED X B a ma)(hb:ED X B (.BoolOp .And (b::rest) pos) mb):ED X B (.BoolOp .And (a::b::rest) pos) (a1A ma mb):=by
 refine pe_imp (b5u ha hb) ?_
 rintro σ H Q ⟨G,env,d,env',rl,e,k⟩;unfold a1A at e;cases em:ma env with
 |none=>rw[em]at e;cases e
 |some p=>
  obtain⟨d1,env1⟩:=p;rw[em]at e;simp only[Qj]at e;refine .bind rl em fun v G1 H1 ev r1=>?_
  split at e
  ·simp only[Rep]at r1
   exact⟨true,r1,by simp only[Zu];exact .bind ev.rel e fun v2 G2 H2 ev2 r2=>k v2 G2 H2 (ev.trans ev2) r2⟩
  ·simp only[Rep]at r1
   cases e;exact⟨false,r1,by simp only[Qo,Zo];exact k _ G1 H1 ev (by simp only[Rep])⟩
  ·cases e
def a5S(m:Mo D):Mo D:=fun env=>(m env).bind fun p=>match p.1 with
 |.bl b=>some (.bl (!b),p.2)
 |_=>none
theorem a7D(ha:ED X B a ma):ED X B (.UnaryOp .Not a pos) (a5S ma):=by
 refine pe_imp (b5v ha) ?_
 rintro σ H Q ⟨G,env,d,env',rl,e,k⟩;unfold a5S at e;cases em:ma env with
 |none=>rw[em]at e;cases e
 |some p=>
  obtain⟨d1,env1⟩:=p;rw[em]at e;simp only[Qj]at e;refine .bind rl em fun v G1 H1 ev r1=>?_
  split at e
  ·rename_i b1
   simp only[Rep]at r1;cases e;exact⟨b1,r1,k _ G1 H1 ev (by simp only[Rep])⟩
  ·cases e
def j8_(m:Mo D):Mo D:=fun env=>(m env).bind fun p=>match p.1 with
 |.int b=>some (.int (-b),p.2)
 |_=>none
theorem a1Y(ha:ED X B a ma):ED X B (.UnaryOp .USub a pos) (j8_ ma):=by
 refine pe_imp (b0o b0p ha) ?_
 rintro σ H Q ⟨G,env,d,env',rl,e,k⟩;unfold j8_ at e;cases em:ma env with
 |none=>rw[em]at e;cases e
 |some p=>
  obtain⟨d1,env1⟩:=p;rw[em]at e;simp only[Qj]at e;refine .bind rl em fun v G1 H1 ev r1=>?_
  split at e
  ·rename_i b1
   simp only[Rep]at r1;cases e;exact⟨b1,r1,k _ G1 H1 ev (by simp only[Rep])⟩
  ·cases e
def a0L(f g:D->D->Option D)(ma mb mc:Mo D):Mo D:=fun env=>(ma env).bind fun p=>(mb p.2).bind fun q=>match f p.1 q.1 with
 |some (.bl true)=>(mc q.2).bind fun r=>(g q.1 r.1).map fun d=>(d,r.2)
 |some (.bl false)=>some (.bl false,q.2)
 |_=>none
theorem b0U{f g:D->D->Option D}(o:OpD X B r f)(o':OpD X B r' g):∀σ H Q,TD X.K B (a0L f g ma mb mc) σ H Q->a7t r r' (TD X.K B ma) (TD X.K B mb) (TD X.K B mc) σ H Q:=by
 rintro σ H Q ⟨G,env,d,env',rl,e,k⟩;unfold a0L at e;cases ea:ma env with
 |none=>rw[ea]at e;cases e
 |some p=>
  obtain⟨d1,env1⟩:=p;rw[ea]at e;simp only[Qj]at e;cases eb:mb env1 with
  |none=>rw[eb]at e;cases e
  |some p=>
   obtain⟨d2,env2⟩:=p;rw[eb]at e;simp only[Qj]at e;refine .bind rl ea fun v1 G1 H1 ev1 r1=>.bind ev1.rel eb fun v2 G2 H2 ev2 r2=>?_
   split at e
   ·rename_i ef
    refine o G2 σ _ H2 v1 v2 d1 d2 _ _ ev2.rel (Rep.mono ev2.same _ r1) r2 ef fun v3 G3 H3 ev3 r3=>?_
    simp only[Rep]at r3;refine⟨true,r3,?_⟩;simp only[Zu];cases ec:mc env2 with
    |none=>rw[ec]at e;cases e
    |some p=>
     obtain⟨d3,env3⟩:=p;rw[ec]at e;simp only[Qj]at e;cases eg:g d2 d3 with
     |none=>rw[eg]at e;cases e
     |some d4=>
      rw[eg]at e;cases e;refine .bind ev3.rel ec fun v4 G4 H4 ev4 r4=>?_
      exact o' G4 σ _ H4 v2 v4 d2 d3 _ Q ev4.rel (Rep.mono ev4.same _ (Rep.mono ev3.same _ r2)) r4 eg fun v5 G5 H5 ev5 r5=>k v5 G5 H5 ((((ev1.trans ev2).trans ev3).trans ev4).trans ev5) r5
   ·rename_i ef
    cases e;refine o G2 σ _ H2 v1 v2 d1 d2 _ _ ev2.rel (Rep.mono ev2.same _ r1) r2 ef fun v3 G3 H3 ev3 r3=>?_
    simp only[Rep]at r3;refine⟨false,r3,?_⟩;simp only[Qo,Zo];exact k _ G3 H3 ((ev1.trans ev2).trans ev3) (by simp only[Rep])
   ·cases e
theorem b0V{f g:D->D->Option D}(ho:OpR X (compareOp op) r)(ho':OpR X (compareOp op') r')(o:OpD X B r f)(o':OpD X B r' g)(ha:ED X B a ma)(hb:ED X B b mb)(hc:ED X B c mc)
  (hm:lastMarks [op,op'] [b,c]=false:=by with_unfolding_all rfl):ED X B (.Compare a [op,op'] [b,c] pos) (a0L f g ma mb mc):=pe_imp (b6m ho ho' ha hb hc hm) (b0U o o')
theorem a7E{f g:D->D->Option D}(ho:OpR X (compareOp op) r)(ho':OpR X (compareOp op') r')(o:OpD X B r f)(o':OpD X B r' g)(ha:ED X B a ma)(hb:ED X B b mb)(hc:ED X B c mc)
  (hm:lastMarks [op,op'] [b,c]=false:=by with_unfolding_all rfl):ET X B (.Compare a [op,op'] [b,c] pos) (mT (a0L f g ma mb mc)):=pt_imp (b6n ho ho' ha hb hc hm) (a7A (b0U o o') trivial)
def z3_:Mo (List D):=fun env=>some ([],env)
def z1_(m:Mo D)(ms:Mo (List D)):Mo (List D):=fun env=>(m env).bind fun p=>(ms p.2).map fun q=>(p.1::q.1,q.2)
theorem z7_:EDs X B [] z3_:=by
 refine pa_imp a3b ?_
 rintro σ H Q ⟨G,env,d,env',rl,e,k⟩;cases e;exact k [] G H (.refl rl) repL_nil
theorem z4_(ha:ED X B e ma)(hr:EDs X B es ms)(hs:starEach (e::es) X.env=(false,eval e X.env)::starEach es X.env:=by rfl):EDs X B (e::es) (z1_ ma ms):=by
 refine pa_imp (a1l ha hr hs) ?_
 rintro σ H Q ⟨G,env,d,env',rl,e,k⟩;unfold z1_ at e;cases ea:ma env with
 |none=>rw[ea]at e;cases e
 |some p=>
  obtain⟨d1,env1⟩:=p;rw[ea]at e;simp only[Qj]at e;cases eb:ms env1 with
  |none=>rw[eb]at e;cases e
  |some p=>
   obtain⟨d2,env2⟩:=p;rw[eb]at e;cases e;exact .bind rl ea fun v1 G1 H1 ev1 r1=>⟨G1,env1,d2,_,ev1.rel,eb,fun vs G2 H2 ev2 r2=>k _ G2 H2 (ev1.trans ev2) (repL_cons (Rep.mono ev2.same _ r1) r2)⟩
def z8_:Mo (List Ar):=fun env=>some ([],env)
def z6_(m:Mo D)(ms:Mo (List Ar)):Mo (List Ar):=fun env=>(m env).bind fun p=>(ms p.2).map fun q=>(.d p.1::q.1,q.2)
def y6_(i:Nat)(ms:Mo (List Ar)):Mo (List Ar):=fun env=>((env[i]?).bind W.mut).bind fun _=>(ms env).map fun q=>(.sl i::q.1,q.2)
theorem q9_:EAr X B [] z8_:=by
 refine pa_imp a3b ?_
 rintro σ H Q ⟨G,env,d,env',rl,e,k⟩;cases e;exact k [] G H (.refl rl) (by simp only[RepA])
theorem q3_(ha:ED X B e ma)(hr:EAr X B es as)(hs:starEach (e::es) X.env=(false,eval e X.env)::starEach es X.env:=by rfl):EAr X B (e::es) (z6_ ma as):=by
 refine pa_imp (a1l ha hr hs) ?_
 rintro σ H Q ⟨G,env,d,env',rl,e,k⟩;unfold z6_ at e;cases ea:ma env with
 |none=>rw[ea]at e;cases e
 |some p=>
  obtain⟨d1,env1⟩:=p;rw[ea]at e;simp only[Qj]at e;cases eb:as env1 with
  |none=>rw[eb]at e;cases e
  |some p=>
   obtain⟨d2,env2⟩:=p;rw[eb]at e;cases e;exact .bind rl ea fun v1 G1 H1 ev1 r1=>⟨G1,env1,d2,_,ev1.rel,eb,fun vs G2 H2 ev2 r2=>k _ G2 H2 (ev1.trans ev2) (by simp only[RepA];exact⟨_,_,rfl,Rep.mono ev2.same _ r1,r2⟩)⟩
theorem j9_{p:Pos}(ha:PE X (.Name x p) (a0r i))(hr:EAr X B es as)(hs:starEach (.Name x p::es) X.env=(false,eval (.Name x p) X.env)::starEach es X.env:=by rfl):EAr X B (.Name x p::es) (y6_ i as):=by
 refine pa_imp (a1l ha hr hs) ?_
 rintro σ H Q ⟨G,env,d,env',rl,e,k⟩;unfold y6_ at e;cases ew:env[i]? with
 |none=>rw[ew]at e;cases e
 |some w=>
  rw[ew]at e;simp only[Qj]at e;cases em:w.mut with
  |none=>rw[em]at e;cases e
  |some ds=>
   rw[em]at e;simp only[Qj]at e;cases eb:as env with
   |none=>rw[eb]at e;cases e
   |some p=>
    obtain⟨d2,env2⟩:=p;rw[eb]at e;cases e;obtain⟨a',xs,hv,_⟩:=rl.own i w ds ew em;exact⟨_,hv,G,env,d2,_,rl,eb,fun vs G2 H2 ev2 r2=>k _ G2 H2 ev2 (by simp only[RepA];exact⟨_,_,rfl,hv,r2⟩)⟩
end
section
variable{a c:Expr}
theorem q2_{o:Option α}{f:α->Option β}{y:β}(h:o.bind f=some y):∃x,o=some x/\f x=some y:=by
 cases o with
 |none=>cases h
 |some x=>exact⟨x,rfl,h⟩
theorem x4_{o:Option α}{f:α->β}{y:β}(h:o.map f=some y):∃x,o=some x/\f x=y:=by
 cases o with
 |none=>cases h
 |some x=>exact⟨x,rfl,Ym h⟩
def v5_(ms:Mo (List D)):Mo D:=fun env=>(ms env).bind fun p=>if p.1.length≤1000 then some (.tup p.1,p.2)else none
theorem x1_{x1:Nat}(h:EDs X B es ms):ED X B (.Tuple es x1 pos) (v5_ ms):=by
 refine pe_imp (b6u h) ?_
 rintro σ H Q ⟨G,env,d,env',rl,e,k⟩;obtain⟨⟨ds,env1⟩,e1,e2⟩:=q2_ e;dsimp only at e2;split at e2
 ·rename_i hl
  cases e2;refine⟨G,env,ds,_,rl,e1,fun vs G1 H1 ev r1=>⟨by rw[r1.length];exact Jo (a5K hl),fun p hp=>?_⟩⟩
  exact k _ _ _ (ev.trans (ev.rel.alloc hp)) (a1V y5_ (z9_.mono (Le.upd (ev.rel.gnone hp)) _ r1))
 ·cases e2
def x2_(ms:Mo (List D)):Mo (List D):=fun env=>(ms env).bind fun p=>if p.1.length≤1000 then some p else none
theorem a5T{K:Qz}{env:Env'}(ev:Ev K B G σ env H G1 σ env1 H1)(hp:H1 p=none)(r:z9_ K G1 xs ds)
  (k:∀a xs G' H',Ev K B G σ env H G' σ env1 H'->H a=none-> ¬ Owned σ env1 a->H' a=some (.lst xs)->G' a=none->z9_ K G' xs ds->Q (.ref a) H'):Q (.ref p) (upd H1 p (.lst xs)):=by
 refine k p xs G1 _ (ev.trans (ev.rel.allocM hp)) ?_ (ev.rel.unowned hp) y5_ (ev.rel.gnone hp) r;cases h:H p with
 |none=>rfl
 |some o=>exact absurd hp (ev.live p (by rw[h];simp))
theorem k7_(h:EDs X B es ms):EL X B (.List es pos) (x2_ ms):=by
 refine pe_imp (b6v h) ?_
 rintro σ H Q ⟨G,env,d,env',rl,e,k⟩;obtain⟨⟨ds,env1⟩,e1,e2⟩:=q2_ e;dsimp only at e2;split at e2
 ·rename_i hl
  cases e2;exact⟨G,env,_,_,rl,e1,fun vs G1 H1 ev r1=>⟨by rw[r1.length];exact Jo (a5K hl),fun p hp=>a5T ev hp r1 k⟩⟩
 ·cases e2
def mF(m:Mo (List D)):Mo D:=fun env=>(m env).map fun p=>(.lst p.1,p.2)
theorem y4_(h:EL X B e ms):ED X B e (mF ms):=by
 refine pe_imp h ?_
 rintro σ H Q ⟨G,env,d,env',rl,e,k⟩;obtain⟨⟨ds,env1⟩,e1,e2⟩:=x4_ e;cases e2;exact⟨G,env,ds,_,rl,e1,fun a xs G' H' ev ha no h' g' r=>k (.ref a) _ H' (ev.frz ha no h' g') (a4C y5_ (z9_.mono (Le.upd g') ds r))⟩
theorem a7F{K:Qz}{k:Int}(r:z9_ K G xs ds)(h:atI ds k=some d):∃x,atI xs k=some x/\Rep K G x d:=by
 unfold atI at h ⊢;rw[r.length];obtain⟨j,e1,e2⟩:=q2_ h;rw[e1];exact r.get e2
def dIx:D->D->Option D
 |.lst ds,.int k=>atI ds k
 |.tup ds,.int k=>atI ds k
 |_,_=>none
theorem b7b:OpD X B (rIx X.K) dIx:=by
 intro G σ env H x y a b d Q rl ra rb e k;cases a<;>cases b<;>first|(exact absurd (show(none:Option D)=some d from e) (by simp))|skip
 ·simp only[Rep]at ra rb
  obtain⟨p,xs,e1,q,r⟩:=ra;subst e1 rb;obtain⟨v,e3,e4⟩:=a7F r e;exact .inr (.inl ⟨p,xs,_,v,rfl,rfl,rl.sub.sqT q,e3,k v G H (.refl rl) e4⟩)
 ·simp only[Rep]at ra rb
  obtain⟨p,xs,e1,q,r⟩:=ra;subst e1 rb;obtain⟨v,e3,e4⟩:=a7F r e;exact .inl ⟨p,xs,_,v,rfl,rfl,rl.sub.sqL q,e3,k v G H (.refl rl) e4⟩
theorem j0_(ha:ED X B a ma)(hb:ED X B b mb)(hs:a3K b):ED X B (.Subscript a b pos) (z5_ dIx ma mb):=pe_imp (a4z b6D ha hb hs) (a5N b7b)
def u5_(i:Nat)(mb:Mo D):Mo D:=fun env=>(mb env).bind fun p=>((p.2[i]?).bind W.mutL).bind fun ds=>(dIx (.lst ds) p.1).map fun d=>(d,p.2)
theorem a1Z{p:Pos}(ha:PE X (.Name x p) (a0r i))(hb:ED X B b mb)(hs:a3K b)(hr:∀env d env' w ds,mb env=some (d,env')->env'[i]? =some w->w.mut=some ds->∃w0 ds0,env[i]? =some w0/\w0.mut=some ds0):
  ED X B (.Subscript (.Name x p) b pos) (u5_ i mb):=by
 refine pe_imp (a4z a4A ha hb hs) ?_
 rintro σ H Q ⟨G,env,d,env',rl,e,k⟩;obtain⟨⟨d1,env1⟩,e1,e2⟩:=q2_ e;obtain⟨ds,e3,e4⟩:=q2_ e2;obtain⟨w,e5,e6⟩:=q2_ e3;obtain⟨d2,e7,e8⟩:=x4_ e4;cases e8;obtain⟨w0,ds0,e9,e10⟩:=hr env d1 _ w (.l ds) e1 e5 (W.mutL_of e6);obtain⟨q,xs,h1,_⟩:=rl.own i w0 ds0 e9 e10;refine⟨_,h1,.bind rl e1 fun v G1 H1 ev r1=>?_⟩
 obtain⟨q',ys,h2,h3,h4,h5⟩:=ev.rel.ownL i w ds e5 e6;rw[h1]at h2;cases h2;dsimp only at e7;cases d1<;>first|(exact absurd (show(none:Option D)=some _ from e7) (by simp))|skip
 simp only[Rep]at r1;obtain⟨z,h6,h7⟩:=a7F h4 e7;exact⟨q,ys,_,z,rfl,r1,.inl (.inl h3),h6,k z G1 H1 ev h7⟩
def a0X(X:Cx)(B:Addr->Prop)(r:List V->Hp->VK->Prop)(f:List D->Option D):Prop:=
 ∀(G:Hp) (σ:St) (env:Env') (H:Hp) (xs:List V) (ds:List D) (c:D) (Q:VK),Rel X.K B G σ env H->z9_ X.K G xs ds->f ds=some c->
  (∀v G' H',Ev X.K B G σ env H G' σ env H'->Rep X.K G' v c->Q v H')->r xs H Q
def a7G(X:Cx)(B:Addr->Prop)(r:List V->Hp->VK->Prop)(f:List D->Option (List D)):Prop:=
 ∀(G:Hp) (σ:St) (env:Env') (H:Hp) (xs:List V) (ds:List D) (c:List D) (Q:VK),Rel X.K B G σ env H->z9_ X.K G xs ds->f ds=some c->
  (∀p ys G' H',Ev X.K B G σ env H G' σ env H'->H' p=none->z9_ X.K G' ys c->Q (.ref p) (upd H' p (.lst ys)))->r xs H Q
def mCB(f:List D->Option D)(ms:Mo (List D)):Mo D:=fun env=>(ms env).bind fun p=>(f p.1).map fun d=>(d,p.2)
def mCL(f:List D->Option (List D))(ms:Mo (List D)):Mo (List D):=fun env=>(ms env).bind fun p=>(f p.1).map fun d=>(d,p.2)
theorem b0W{r:List V->Hp->VK->Prop}{f:List D->Option D}(o:a0X X B r f):∀σ H Q,TD X.K B (mCB f ms) σ H Q->tCB r (TDs X.K B ms) σ H Q:=by
 rintro σ H Q ⟨G,env,d,env',rl,e,k⟩;obtain⟨⟨ds,env1⟩,e1,e2⟩:=q2_ e;obtain⟨d1,e3,e4⟩:=x4_ e2;cases e4;exact⟨G,env,ds,_,rl,e1,fun vs G1 H1 ev r1=>o G1 σ _ H1 vs ds _ Q ev.rel r1 e3 fun v G2 H2 ev2 r2=>k v G2 H2 (ev.trans ev2) r2⟩
theorem b7c{r:List V->Hp->VK->Prop}{f:List D->Option (List D)}(o:a7G X B r f):∀σ H Q,TL X.K B (mCL f ms) σ H Q->tCB r (TDs X.K B ms) σ H Q:=by
 rintro σ H Q ⟨G,env,d,env',rl,e,k⟩;obtain⟨⟨ds,env1⟩,e1,e2⟩:=q2_ e;obtain⟨d1,e3,e4⟩:=x4_ e2;cases e4;exact⟨G,env,ds,_,rl,e1,fun vs G1 H1 ev r1=>o G1 σ _ H1 vs ds _ Q ev.rel r1 e3 fun p ys G2 H2 ev2 hp r2=>a5T (ev.trans ev2) hp r2 k⟩
variable{r:List V->Hp->VK->Prop}{f:List D->Option D}{g:List D->Option (List D)}{id:String}{p:Pos}
theorem y8_(hc:w9_ X (.builtin id) r)(o:a0X X B r f)(hg:Gl X x)(hm:X.mg x=none)(hv:bootBuiltins x=some (.builtin id))(ha:EDs X B (e::es) ms)(hn:x≠"__name__":=by decide)(hdb:(x==("__debug__":Str))=false:=by decide)
  (he:starEach (e::es) X.env=(false,eval e X.env)::starEach es X.env:=by rfl)(hpl:(backTo pos (starEach es X.env)).any (·.1)=false:=by rfl):ED X B (.Call (.Name x p) (e::es) [] pos) (mCB f ms):=
 pe_imp (a5F hc hg hm hv ha hn hdb he hpl) (b0W o)
theorem a0f(hc:w9_ X (.type T) r)(o:a0X X B r f)(hg:Gl X x)(hm:X.mg x=none)(hv:bootBuiltins x=some (.type T))(ha:EDs X B (e::es) ms)(hn:x≠"__name__":=by decide)(hdb:(x==("__debug__":Str))=false:=by decide)
  (he:starEach (e::es) X.env=(false,eval e X.env)::starEach es X.env:=by rfl)(hpl:(backTo pos (starEach es X.env)).any (·.1)=false:=by rfl):ED X B (.Call (.Name x p) (e::es) [] pos) (mCB f ms):=
 pe_imp (b0A hc hg hm hv ha hn hdb he hpl) (b0W o)
theorem a4J(hc:w9_ X (.type T) r)(o:a7G X B r g)(hg:Gl X x)(hm:X.mg x=none)(hv:bootBuiltins x=some (.type T))(ha:EDs X B (e::es) ms)(hn:x≠"__name__":=by decide)(hdb:(x==("__debug__":Str))=false:=by decide)
  (he:starEach (e::es) X.env=(false,eval e X.env)::starEach es X.env:=by rfl)(hpl:(backTo pos (starEach es X.env)).any (·.1)=false:=by rfl):EL X B (.Call (.Name x p) (e::es) [] pos) (mCL g ms):=
 pe_imp (b0A hc hg hm hv ha hn hdb he hpl) (b7c o)
theorem a0B{K:Qz}(h:z9_ K G xs [d]):∃x,xs=[x]/\Rep K G x d:=by
 simp only[z9_]at h;obtain⟨x,r,e,q,t⟩:=h;subst t;exact⟨x,e,q⟩
theorem a3f{K:Qz}{d':D}(h:z9_ K G xs [d,d']):∃x y,xs=[x,y]/\Rep K G x d/\Rep K G y d':=by
 simp only[z9_]at h;obtain⟨x,r,e,q,y,r2,e2,q2,t⟩:=h;subst t e2;exact⟨x,y,e,q,q2⟩
def D.items:D->Option (List D)
 |.lst ds=>some ds
 |.tup ds=>some ds
 |_=>none
theorem a7H{K:Qz}(l:Le G H)(r:Rep K G v d)(h:d.items=some ds):∃a xs,v=.ref a/\(SqL K H a xs∨SqT K H a xs)/\z9_ K G xs ds:=by
 cases d<;>first|(exact absurd (show(none:Option (List D))=some ds from h) (by simp))|skip
 ·cases h;simp only[Rep]at r;obtain⟨a,xs,e,q,t⟩:=r;exact⟨a,xs,e,.inr (l.sqT q),t⟩
 ·cases h;simp only[Rep]at r;obtain⟨a,xs,e,q,t⟩:=r;exact⟨a,xs,e,.inl (l.sqL q),t⟩
def q6_:List D->Option D
 |[d]=>d.items.map fun ds=>.int ds.length
 |_=>none
theorem b7d:a0X X B (fun xs H Q=>∃p ys,xs=[.ref p]/\(SqL X.K H p ys∨SqT X.K H p ys)/\Q (.int ys.length) H) q6_:=by
 intro G σ env H xs ds c Q rl r e k
 match ds,e with
 |[d],e=>
  obtain⟨x,rfl,q⟩:=a0B r;obtain⟨ds,e1,e2⟩:=x4_ e;obtain⟨a,ys,rfl,h1,h2⟩:=a7H rl.sub q e1;exact⟨a,ys,rfl,h1,k _ G H (.refl rl) (by rw[←e2,h2.length];simp only[Rep])⟩
def j1_:List D->Option D
 |[d]=>d.items.map fun ds=>.tup ds
 |_=>none
theorem b7e:a0X X B (fun xs H Q=>∃p ys,xs=[.ref p]/\((SqL X.K H p ys/\∀l,H l=none->Q (.ref l) (upd H l (.tup ys)))∨(SqT X.K H p ys/\Q (.ref p) H))) j1_:=by
 intro G σ env H xs ds c Q rl r e k
 match ds,e with
 |[d],e=>
  obtain⟨x,rfl,q⟩:=a0B r;obtain⟨ds,e1,e2⟩:=x4_ e;subst e2;cases d<;>first|(exact absurd (show(none:Option (List D))=some ds from e1) (by simp))|skip
  ·cases e1
   have q0:=q
   simp only[Rep]at q;obtain⟨a,ys,rfl,h1,h2⟩:=q;exact⟨a,ys,rfl,.inr ⟨rl.sub.sqT h1,k _ G H (.refl rl) q0⟩⟩
  ·cases e1
   simp only[Rep]at q;obtain⟨a,ys,rfl,h1,h2⟩:=q;exact⟨a,ys,rfl,.inl ⟨rl.sub.sqL h1,fun l hl=>k _ _ _ (rl.alloc hl) (a1V y5_ (z9_.mono (Le.upd (rl.gnone hl)) _ h2))⟩⟩
def a1m:List D->Option (List D)
 |[d]=>d.items
 |_=>none
theorem b7f:a7G X B (fun xs H Q=>∃p ys,xs=[.ref p]/\(SqL X.K H p ys∨SqT X.K H p ys)/\∀l,H l=none->Q (.ref l) (upd H l (.lst ys))) a1m:=by
 intro G σ env H xs ds c Q rl r e k
 match ds,e with
 |[d],e=>
  obtain⟨x,rfl,q⟩:=a0B r;obtain⟨a,ys,rfl,h1,h2⟩:=a7H rl.sub q e;exact⟨a,ys,rfl,h1,fun l hl=>k l ys G H (.refl rl) hl h2⟩
end
section
variable{K:Qz}{env:Env'}
theorem w6_{l:List α}{a b:α}(h:(l.set i a)[j]? =some b):(j=i/\b=a)∨(j≠i/\l[j]? =some b):=by
 by_cases hj:j=i
 ·subst hj
  have hl:j<l.length:=by
   have:=(Qb.mp h).1;rwa [Zf]at this
  rw[Zi hl]at h;cases h;exact .inl ⟨rfl,rfl⟩
 ·rw[Qm (Zy hj)]at h
  exact .inr ⟨hj,h⟩
theorem a3N{l:List α}{m:List β}{a b:α}{c:β}(h:(l.set i a)[i]? =some b)(hl:l.length=m.length):(m.set i c)[i]? =some c:=by
 have:=(Qb.mp h).1;rw[Zf]at this;exact Zi (by omega)
theorem Ev.setDat(ev:Ev K B G σ env H G1 σ1 env1 H1)(r:Rep K G1 v d):Ev K B G σ env H G1 (σ1.set i (some v)) (env1.set i (.dat d)) H1:=by
 have rl:=ev.rel
 have ne:∀(j:Nat) (w:W) (es:Mu),(env1.set i (.dat d))[j]? =some w->w.mut=some es->j≠i/\env1[j]? =some w:=fun j w es q1 q2=>by
  rcases w6_ q1 with⟨_,z⟩|z
  ·rw[z]at q2;cases q2
  ·exact z
 refine⟨⟨rl.sub,by rw[Zf,Zf];exact rl.len,fun j d' q=>?_,fun j w es q1 q2=>?_,fun j k w w' es fs b q1 q2 q3 q4 q5 q6=>?_,fun j w b q1 qo q2=>?_,rl.old,rl.tabs,rl.gnt⟩,ev.same,ev.keep,ev.live,ev.stay,fun b z=>?_,fun j w q qp=>?_,by rw[Zf];exact ev.slen⟩
 ·rcases w6_ q with⟨z1,z2⟩|⟨z1,z2⟩
  ·subst z1;cases z2
   exact⟨v,a3N q rl.len,r⟩
  ·obtain⟨x,q1,q2⟩:=rl.dat j d' z2
   exact⟨x,by rw[Qm (Zy z1)];exact q1,q2⟩
 ·obtain⟨hj,q⟩:=ne j w es q1 q2
  obtain⟨p,ys,e3,e4⟩:=rl.own j w es q q2;exact⟨p,ys,by rw[Qm (Zy hj)];exact e3,e4⟩
 ·obtain⟨h1,h2⟩:=ne j w es q1 q2
  obtain⟨h3,h4⟩:=ne k w' fs q3 q4;rw[Qm (Zy h1)]at q5;rw[Qm (Zy h3)]at q6;exact rl.inj j k w w' es fs b h2 q2 h4 q4 q5 q6
 ·obtain⟨es,hm⟩:=own_mut qo
  obtain⟨h1,h2⟩:=ne j _ es q1 hm;rw[Qm (Zy h1)]at q2;exact rl.fresh j w b h2 qo q2
 ·obtain⟨j,w,es,q1,q2,q3⟩:=z
  obtain⟨h1,h2⟩:=ne j w es q1 q2;rw[Qm (Zy h1)]at q3;exact ev.sub b ⟨j,w,es,h2,q2,q3⟩
 ·obtain⟨es,hm⟩:=par_mut qp
  obtain⟨h1,h2⟩:=ne j _ es q hm;obtain⟨h3,h4⟩:=ev.par j w h2 qp;exact⟨by rw[Qm (Zy h1)];exact h3,h4⟩
theorem Ev.setOwnM{a:Addr}{wn:W}(ev:Ev K B G σ env H G1 σ1 env1 H1)(nb:¬ B a)(ha:H a=none)(no:¬ Owned σ1 env1 a)(h1:H1 a=some o)(g1:G1 a=none)(r:RepM K G1 o m)(wm:wn.mut=some m)(wo:wn.isPar=false):
  Ev K B G σ env H G1 (σ1.set i (some (.ref a))) (env1.set i wn) H1:=by
 have rl:=ev.rel
 refine⟨⟨rl.sub,by rw[Zf,Zf];exact rl.len,fun j d' q=>?_,fun j w es q1 q2=>?_,fun j k w w' es fs b q1 q2 q3 q4 q5 q6=>?_,fun j w b q1 qo q2=>?_,rl.old,rl.tabs,rl.gnt⟩,ev.same,ev.keep,ev.live,ev.stay,fun b z=>?_,fun j w q qp=>?_,by rw[Zf];exact ev.slen⟩
 ·rcases w6_ q with⟨z1,z2⟩|⟨z1,z2⟩
  ·rw[←z2]at wm;cases wm
  ·obtain⟨x,q1,q2⟩:=rl.dat j d' z2
   exact⟨x,by rw[Qm (Zy z1)];exact q1,q2⟩
 ·rcases w6_ q1 with⟨z1,z2⟩|⟨z1,z2⟩
  ·subst z1 z2;rw[wm]at q2;cases q2
   exact⟨a,o,a3N q1 rl.len,h1,r,g1⟩
  ·obtain⟨p,ys,e3,e4⟩:=rl.own j w es z2 q2
   exact⟨p,ys,by rw[Qm (Zy z1)];exact e3,e4⟩
 ·rcases w6_ q1 with⟨z1,z2⟩|⟨z1,z2⟩
  ·rcases w6_ q3 with⟨y1,y2⟩|⟨y1,y2⟩
   ·rw[z1,y1]
   ·subst z1
    rw[a3N q1 rl.len]at q5;cases q5;rw[Qm (Zy y1)]at q6;exact absurd ⟨k,w',fs,y2,q4,q6⟩ no
  ·rw[Qm (Zy z1)]at q5
   rcases w6_ q3 with⟨y1,y2⟩|⟨y1,y2⟩
   ·subst y1
    rw[a3N q3 rl.len]at q6;cases q6;exact absurd ⟨j,w,es,z2,q2,q5⟩ no
   ·rw[Qm (Zy y1)]at q6
    exact rl.inj j k w w' es fs b z2 q2 y2 q4 q5 q6
 ·rcases w6_ q1 with⟨z1,z2⟩|⟨z1,z2⟩
  ·subst z1
   rw[a3N q1 rl.len]at q2;cases q2;exact nb
  ·rw[Qm (Zy z1)]at q2
   exact rl.fresh j w b z2 qo q2
 ·obtain⟨j,w,es,q1,q2,q3⟩:=z
  rcases w6_ q1 with⟨z1,z2⟩|⟨z1,z2⟩
  ·subst z1
   rw[a3N q1 rl.len]at q3;cases q3;exact .inr ha
  ·rw[Qm (Zy z1)]at q3
   exact ev.sub b ⟨j,w,es,z2,q2,q3⟩
 ·rcases w6_ q with⟨z1,z2⟩|⟨z1,z2⟩
  ·rw[z2,wo]at qp;cases qp
  ·obtain⟨h3,h4⟩:=ev.par j w z2 qp
   exact⟨by rw[Qm (Zy z1)];exact h3,h4⟩
theorem Ev.setOwn{a:Addr}(ev:Ev K B G σ env H G1 σ1 env1 H1)(nb:¬ B a)(ha:H a=none)(no:¬ Owned σ1 env1 a)(h1:H1 a=some (.lst xs))(g1:G1 a=none)(r:z9_ K G1 xs ds):
  Ev K B G σ env H G1 (σ1.set i (some (.ref a))) (env1.set i (.own ds)) H1:=ev.setOwnM (m:=.l ds) nb ha no h1 g1 ⟨xs,rfl,r⟩ rfl rfl
theorem Ev.setNil(ev:Ev K B G σ env H G1 σ1 env1 H1):Ev K B G σ env H G1 σ1 (env1.set i .nil) H1:=by
 have rl:=ev.rel
 have ne:∀(j:Nat) (w:W),(env1.set i .nil)[j]? =some w->w≠.nil->j≠i/\env1[j]? =some w:=fun j w q1 q2=>by
  rcases w6_ q1 with⟨_,z⟩|z
  ·exact absurd z q2
  ·exact z
 have nm:∀(w:W) (es:Mu),w.mut=some es->w≠.nil:=fun w es h z=>by rw[z]at h;cases h
 refine⟨⟨rl.sub,by rw[Zf];exact rl.len,fun j d' q=>rl.dat j d' (ne j _ q (by simp)).2,fun j w es q1 q2=>rl.own j w es (ne j w q1 (nm w es q2)).2 q2,fun j k w w' es fs b q1 q2 q3 q4 q5 q6=>rl.inj j k w w' es fs b (ne j w q1 (nm _ _ q2)).2 q2 (ne k w' q3 (nm _ _ q4)).2 q4 q5 q6,
  fun j w b q1 qo q2=>rl.fresh j w b (ne j _ q1 (by rintro rfl;cases qo)).2 qo q2,rl.old,rl.tabs,rl.gnt⟩,ev.same,ev.keep,ev.live,ev.stay,fun b z=>?_,fun j w q qp=>ev.par j w (ne j _ q (by rintro rfl;cases qp)).2 qp,ev.slen⟩
 obtain⟨j,w,es,q1,q2,q3⟩:=z;exact ev.sub b ⟨j,w,es,(ne j w q1 (nm _ _ q2)).2,q2,q3⟩
theorem Ev.writeM{a:Addr}{o':HO}{w:W}{m':Mu}(ev:Ev K B G σ env H G1 σ1 env1 H1)(e1:env1[i]? =some w)(e2:w.mut=some m)(e3:σ1[i]? =some (some (.ref a)))(r:RepM K G1 o' m'):
  Ev K B G σ env H G1 σ1 (env1.set i (w.putM m')) (upd H1 a o'):=by
 have rl:=ev.rel
 obtain⟨a',o0,h1,h2,h3,h4⟩:=rl.own i w m e1 e2;rw[e3]at h1;cases h1;have ow:Owned σ1 env1 a:=⟨i,w,m,e1,e2,e3⟩;have wp:(w.putM m').mut=some m':=W.putM_mut e2 m';have nd:∀d,w.putM m'≠.dat d:=fun d z=>by rw[z]at wp;cases wp
 have oo:Owned σ env a∨H a=none:=ev.sub a ow
 refine⟨⟨fun b u e=>?_,by rw[Zf];exact rl.len,fun j d' q=>?_,fun j v es q1 q2=>?_,fun j k v v' es fs b q1 q2 q3 q4 q5 q6=>?_,fun j v b q1 qo q2=>?_,fun b hb=>?_,rl.tabs.upd r.nt (fun φ z=>by rw[h2]at z;cases z;exact h3.ne φ rfl),rl.gnt⟩,ev.same,fun b o n t e=>?_,fun b e=>?_,ev.stay,fun b z=>?_,fun j v q qp=>?_,ev.slen⟩
 ·have hb:b≠a:=fun z=>by rw[z,h4]at e;cases e
  rw[q5_ hb];exact rl.sub b u e
 ·rcases w6_ q with⟨z1,z2⟩|⟨z1,z2⟩
  ·exact absurd z2.symm (nd d')
  ·exact rl.dat j d' z2
 ·rcases w6_ q1 with⟨z1,z2⟩|⟨z1,z2⟩
  ·subst z1 z2
   rw[wp]at q2;cases q2;exact⟨a,o',e3,y5_,r,h4⟩
  ·obtain⟨p,ys,f1,f2,f3,f4⟩:=rl.own j v es z2 q2
   have hp:p≠a:=fun z=>z1 (rl.inj j i v w es m a z2 q2 e1 e2 (by rw[f1,z]) e3)
   exact⟨p,ys,f1,by rw[q5_ hp];exact f2,f3,f4⟩
 ·have g:∀(n:Nat) (v:W) (es:Mu),(env1.set i (w.putM m'))[n]? =some v->v.mut=some es->∃v0 es0,env1[n]? =some v0/\v0.mut=some es0:=fun n v es y1 y2=>by
   rcases w6_ y1 with⟨z1,z2⟩|⟨z1,z2⟩
   ·rw[z1];exact⟨w,m,e1,e2⟩
   ·exact⟨v,es,z2,y2⟩
  obtain⟨v0,es0,y1,y2⟩:=g j v es q1 q2;obtain⟨v1,es1,y3,y4⟩:=g k v' fs q3 q4;exact rl.inj j k v0 v1 es0 es1 b y1 y2 y3 y4 q5 q6
 ·rcases w6_ q1 with⟨z1,z2⟩|⟨z1,z2⟩
  ·subst z1
   exact rl.fresh j w b e1 (by rw[z2,W.putM_own e2]at qo;exact qo) q2
  ·exact rl.fresh j v b z2 qo q2
 ·by_cases h:b=a
  ·subst h;rw[y5_];simp
  ·rw[q5_ h];exact rl.old b hb
 ·have hb:b≠a:=fun z=>by
   rcases oo with q|q
   ·exact n (z ▸ q)
   ·rw[z,q]at e;cases e
  rw[q5_ hb];exact ev.keep b o n t e
 ·by_cases h:b=a
  ·subst h;rw[y5_];simp
  ·rw[q5_ h];exact ev.live b e
 ·obtain⟨j,v,es,q1,q2,q3⟩:=z
  rcases w6_ q1 with⟨z1,z2⟩|⟨z1,z2⟩
  ·rw[z1,e3]at q3;cases q3
   exact oo
  ·exact ev.sub b ⟨j,v,es,z2,q2,q3⟩
 ·rcases w6_ q with⟨z1,z2⟩|⟨z1,z2⟩
  ·subst z1
   exact ev.par j w e1 (by rw[z2,W.putM_par e2]at qp;exact qp)
  ·exact ev.par j v z2 qp
theorem Ev.write{a:Addr}{xs':List V}{w:W}{ds':List D}(ev:Ev K B G σ env H G1 σ1 env1 H1)(e1:env1[i]? =some w)(e2:w.mutL=some ds)(e3:σ1[i]? =some (some (.ref a)))(r:z9_ K G1 xs' ds'):
  Ev K B G σ env H G1 σ1 (env1.set i (w.put ds')) (upd H1 a (.lst xs')):=by
 rw[W.put_eq e2];exact ev.writeM e1 (W.mutL_of e2) e3 ⟨xs',rfl,r⟩
end
section
variable{a c:Expr}{st:Stmt}{rest:List Stmt}{s1 s2:Mo Fl}
def mNx:Mo Fl:=fun env=>some (.nx,env)
def q1_(m n:Mo Fl):Mo Fl:=fun env=>(m env).bind fun p=>match p.1 with
 |.nx=>n p.2
 |fl=>some (fl,p.2)
theorem TSm.nx{K:Qz}{D:Ends}{env:Env'}{m:Mo Fl}(r:Rel K B G σ env H)(e:m env=some (.nx,env'))(k:∀σ' G' H',Ev K B G σ env H G' σ' env' H'->D.nx σ' H'):TSm K B m D σ H:=⟨G,env,.nx,env',r,e,k⟩
theorem j2_:ESs X B [] mNx:=by
 refine pss_imp b0g ?_
 rintro D σ H ⟨G,env,fl,env',rl,e,k⟩;cases e;exact k σ G H (.refl rl)
theorem q7_(h1:ES X B st s1)(h2:ESs X B rest s2):ESs X B (st::rest) (q1_ s1 s2):=by
 refine pss_imp (a2X h1 h2) ?_
 rintro D σ H ⟨G,env,fl,env',rl,e,k⟩;obtain⟨⟨fl1,env1⟩,e1,e2⟩:=q2_ e;dsimp only at e2;cases fl1 with
 |nx=>
  dsimp only at e2;exact⟨G,env,.nx,env1,rl,e1,fun σ1 G1 H1 ev=>⟨G1,env1,fl,env',ev.rel,e2,Post.after _ _ k ev⟩⟩
 |bk=>cases e2;exact⟨G,env,.bk,_,rl,e1,k⟩
 |ct=>cases e2;exact⟨G,env,.ct,_,rl,e1,k⟩
 |ret d=>cases e2;exact⟨G,env,.ret d,_,rl,e1,k⟩
 |retL d=>cases e2;exact⟨G,env,.retL d,_,rl,e1,k⟩
theorem v4_(h1:ES X B st s1):ESs X B [st] s1:=a7f h1
def y9_(t:Mo Bool)(m n:Mo Fl):Mo Fl:=fun env=>(t env).bind fun p=>if p.1 then m p.2 else n p.2
theorem w7_{c:Expr}{s t:List Stmt}{tc:Mo Bool}(hc:ET X B c tc)(h1:ESs X B s s1)(h2:ESs X B t s2):ES X B (.If c s t pos) (y9_ tc s1 s2):=by
 refine ps_imp (a7i hc h1 h2) ?_
 rintro D σ H ⟨G,env,fl,env',rl,e,k⟩;obtain⟨⟨b1,env1⟩,e1,e2⟩:=q2_ e;dsimp only at e2;refine⟨G,env,b1,env1,rl,e1,fun G1 H1 ev=>?_⟩
 cases b1 with
 |true=>simp only[Zu]at e2 ⊢;exact⟨G1,env1,fl,env',ev.rel,e2,Post.after _ _ k ev⟩
 |false=>simp only[Qo,Zo]at e2 ⊢;exact⟨G1,env1,fl,env',ev.rel,e2,Post.after _ _ k ev⟩
def a5U:Mo Fl:=fun _=>none
theorem a5V:ES X B st a5U:=by
 refine ps_imp b5C ?_
 rintro D σ H ⟨G,env,fl,env',rl,e,k⟩;cases e
def y0_(m:Mo D):Mo Fl:=fun env=>(m env).map fun p=>(.ret p.1,p.2)
theorem x0_(h:ED X B e ma):ES X B (.Return (some e) pos) (y0_ ma):=by
 refine ps_imp (a7h h) ?_
 rintro D σ H ⟨G,env,fl,env',rl,e,k⟩;obtain⟨⟨d,env1⟩,e1,e2⟩:=x4_ e;cases e2;exact⟨G,env,d,_,rl,e1,fun v G' H' ev r=>k v σ G' H' ev r⟩
def a2u(m:Mo (List D)):Mo Fl:=fun env=>(m env).map fun p=>(.retL p.1,p.2)
theorem a4K(h:EL X B e ms):ES X B (.Return (some e) pos) (a2u ms):=by
 refine ps_imp (a7h h) ?_
 rintro D σ H ⟨G,env,fl,env',rl,e,k⟩;obtain⟨⟨d,env1⟩,e1,e2⟩:=x4_ e;cases e2;exact⟨G,env,d,_,rl,e1,fun a xs G' H' ev ha no h' g' r=>k a xs σ G' H' ev (fun z=>rl.old a z ha) no h' g' r⟩
def c3X(i:Nat):Mo Fl:=fun env=>match env[i]? with
 |some (.own ds)=>some (.retL ds,env.set i .nil)
 |_=>none
def v1_(i:Nat)(m:Mo D):Mo Fl:=fun env=>(m env).map fun p=>(.nx,p.2.set i (.dat p.1))
def j3_(i:Nat)(m:Mo (List D)):Mo Fl:=fun env=>(m env).map fun p=>(.nx,p.2.set i (.own p.1))
section
variable{pos':Pos}
theorem x9_(hN:X.N.Nodup)(hi:X.N[i]? =some x)(hx:Loc X.env.scope x)(he:ED X B e ma)(hs:swapsWith e (some (.Name x pos')) pos.line X.env=pure false:=by rfl)(hf:X.fn x=true∨X.env.scope.names.lookup x=some .local:=by first|exact .inl rfl|exact .inr rfl|assumption):
  ES X B (.Assign [.Name x pos'] e pos) (v1_ i ma):=by
 refine ps_imp (a4w hN hi hx he hs hf) ?_
 rintro D σ H ⟨G,env,fl,env',rl,e,k⟩;obtain⟨⟨d,env1⟩,e1,e2⟩:=x4_ e;cases e2;exact⟨G,env,d,_,rl,e1,fun v G' H' ev r=>k _ G' H' (ev.setDat r)⟩
theorem a1B(hN:X.N.Nodup)(hi:X.N[i]? =some x)(hx:Loc X.env.scope x)(he:EL X B e ms)(hs:swapsWith e (some (.Name x pos')) pos.line X.env=pure false:=by rfl)(hf:X.fn x=true∨X.env.scope.names.lookup x=some .local:=by first|exact .inl rfl|exact .inr rfl|assumption):
  ES X B (.Assign [.Name x pos'] e pos) (j3_ i ms):=by
 refine ps_imp (a4w hN hi hx he hs hf) ?_
 rintro D σ H ⟨G,env,fl,env',rl,e,k⟩;obtain⟨⟨d,env1⟩,e1,e2⟩:=x4_ e;cases e2;exact⟨G,env,d,_,rl,e1,fun a xs G' H' ev ha no h' g' r=>k _ G' H' (ev.setOwn (fun z=>rl.old a z ha) ha no h' g' r)⟩
def a5W(i:Nat)(f:D->D->Option D)(m:Mo D):Mo Fl:=fun env=>match env[i]? with
 |some (.dat d0)=>(m env).bind fun p=>(f d0 p.1).map fun d=>(.nx,p.2.set i (.dat d))
 |_=>none
theorem b0X{op:Operator}{f:D->D->Option D}(hN:X.N.Nodup)(hi:X.N[i]? =some x)(hx:Loc X.env.scope x)(he:ED X B e ma)(ho:OpR X (inplaceOp op) r)(o:OpD X B r f)
  (hf:X.fn x=true∨X.env.scope.names.lookup x=some .local:=by first|exact .inl rfl|exact .inr rfl|assumption):ES X B (.AugAssign (.Name x pos') op e pos) (a5W i f ma):=by
 refine ps_imp (b5N hN hi hx he (ti:=r) (fun pins s σ H x y v u Q I rx ry q=>ho pins s σ H x y v u Q I rx ry q) hf) ?_
 rintro D σ H ⟨G,env,fl,env',rl,e,k⟩;unfold a5W at e;split at e
 ·rename_i d0 e0
  obtain⟨⟨d,env1⟩,e1,e2⟩:=q2_ e;obtain⟨d2,e3,e4⟩:=x4_ e2;cases e4;obtain⟨v0,h0,r0⟩:=rl.dat i d0 e0;exact⟨v0,h0,.bind rl e1 fun v G' H' ev r1=>o G' σ _ H' v0 v d0 d _ _ ev.rel (Rep.mono ev.same _ r0) r1 e3 fun v2 G2 H2 ev2 r2=>k _ G2 H2 ((ev.trans ev2).setDat r2)⟩
 ·cases e
end
def a0C(i:Nat)(m:Mo D):Mo Fl:=fun env=>((env[i]?).bind W.mutL).bind fun _=>(m env).bind fun p=>(p.2[i]?).bind fun w=>w.mutL.bind fun ds=>if ds.length<100000 then some (.nx,p.2.set i (w.put (ds++[p.1])))else none
theorem a2v{p apos cpos:Pos}(ho:PE X (.Name x p) (a0r i))(ha:EDs X B [e] (z1_ ma z3_))
  (hbase:attributeBase (.Name x p) "append" X.env (eval (.Name x p) X.env)=eval (.Name x p) X.env:=by rfl)
  (hfew:((backTo cpos (starEach [e] X.env)).all (fun x=>!x.1)&&(backToKw cpos (keywordEach [] X.env)).all (fun x=>x.1.isSome)
   &&decide ([e].length+([]:List Keyword).length+(if([]:List Keyword).isEmpty then 0 else 1)<30))=true:=by rfl)
  (hline:(apos.endLine==cpos.line)=true:=by rfl)(hs:starEach [e] X.env=(false,eval e X.env)::starEach [] X.env:=by rfl)(hplain:(backTo cpos (starEach [] X.env)).any (·.1)=false:=by rfl)
  (hsw:swapsWith (.Call (.Attribute (.Name x p) "append" apos) [e] [] cpos) none pos.line X.env=pure false:=by rfl):
  ES X B (.Expr (.Call (.Attribute (.Name x p) "append" apos) [e] [] cpos) pos) (a0C i ma):=by
 refine ps_imp (a7g (b0K PySem.F.plainAttrs_list PySem.F.slot_list_append PySem.F.type_list_append a7y ho ha hbase hfew hline hs hplain) hsw) ?_
 rintro D σ H ⟨G,env,fl,env',rl,e,k⟩;obtain⟨ds0,e0,e⟩:=q2_ e;obtain⟨w0,e00,em0⟩:=q2_ e0;obtain⟨⟨d,env1⟩,e1,e2⟩:=q2_ e;obtain⟨w,e3,e4⟩:=q2_ e2;obtain⟨ds,e5,e6⟩:=q2_ e4;dsimp only at e3 e6;split at e6
 ·rename_i hl
  cases e6;obtain⟨q,xs0,h1,h2,h3,h4⟩:=rl.ownL i w0 ds0 e00 em0;refine⟨_,h1,.inl ⟨rfl,xs0,.inl (.inl h2)⟩,G,env,[d],env1,rl,by show(ma env).bind _=_;rw[e1];rfl,fun vs G1 H1 ev r1=>?_⟩
  obtain⟨v,rfl,rv⟩:=a0B r1;obtain⟨q',xs,g1,g2,g3,g4⟩:=ev.rel.ownL i w ds e3 e5;rw[h1]at g1;cases g1;have hz:xs.length<sizeLine:=by rw[g3.length];exact Vo hl (by decide)
  exact⟨q,xs,v,rfl,rfl,g2,hz,k _ G1 _ (ev.write e3 e5 h1 (g3.append (repL_cons rv repL_nil)))⟩
 ·cases e6
end
section
variable(K:Qz)(B:Addr->Prop)
def TGm(n:Nat)(g:D->Env'->Option Env'):TG:=fun v σ H Q=>∃G env d env',Rel K B G σ env H/\Rep K G v d/\g d env=some env'/\∀σ' G' H',Ev K B G σ env H G' σ' env' H'->(∀j,j<n->σ'[j]? =σ[j]?)->Q σ' H'
def b7g(n:Nat)(g:List D->Env'->Option Env'):TGs:=fun vs σ H Q=>∃G env ds env',Rel K B G σ env H/\z9_ K G vs ds/\g ds env=some env'/\∀σ' G' H',Ev K B G σ env H G' σ' env' H'->(∀j,j<n->σ'[j]? =σ[j]?)->Q σ' H'
end
abbrev EG(X:Cx)(B:Addr->Prop)(n:Nat)(e:Expr)(g:D->Env'->Option Env'):Prop:=PG X e (TGm X.K B n g)
abbrev EGs(X:Cx)(B:Addr->Prop)(n:Nat)(es:List Expr)(g:List D->Env'->Option Env'):Prop:=PGs X es (b7g X.K B n g)
theorem a7I{t t':TG}(h:PG X e t)(i:∀v σ H Q,t' v σ H Q->t v σ H Q):PG X e t':=fun pins s σ H v u Q I r q=>h pins s σ H v u Q I r (i v σ H Q q)
theorem b0Y{e:List Expr}{t t':TGs}(h:PGs X e t)(i:∀v σ H Q,t' v σ H Q->t v σ H Q):PGs X e t':=fun pins s σ H v u Q I r q=>h pins s σ H v u Q I r (i v σ H Q q)
def gN(i:Nat):D->Env'->Option Env':=fun d env=>some (env.set i (.dat d))
def gNl:List D->Env'->Option Env':=fun ds env=>match ds with
 |[]=>some env
 |_=>none
def gCn(g:D->Env'->Option Env')(gs:List D->Env'->Option Env'):List D->Env'->Option Env':=fun ds env=>match ds with
 |d::ds=>(g d env).bind (gs ds)
 |[]=>none
def gT(n:Nat)(gs:List D->Env'->Option Env'):D->Env'->Option Env':=fun d env=>match d with
 |.tup ds=>if ds.length=n then gs ds env else none
 |_=>none
section
variable{a c:Expr}{g:D->Env'->Option Env'}{gs:List D->Env'->Option Env'}
theorem v2_{n i:Nat}{x:Str}(hn:n≤i)(hN:X.N.Nodup)(hi:X.N[i]? =some x)(hx:Loc X.env.scope x)(hf:X.fn x=true∨X.env.scope.names.lookup x=some .local:=by first|exact .inl rfl|exact .inr rfl|assumption):EG X B n (.Name x pos) (gN i):=by
 refine a7I (b5D hN hi hx hf) ?_
 rintro v σ H Q ⟨G,env,d,env',rl,r,e,k⟩;cases e;exact k _ G H ((Ev.refl rl).setDat r) fun j hj=>Qm (by omega)
theorem g7_{n:Nat}:EGs X B n [] gNl:=by
 refine b0Y b5G ?_
 rintro vs σ H Q ⟨G,env,ds,env',rl,r,e,k⟩;unfold gNl at e;split at e
 ·cases e
  simp only[z9_]at r;exact⟨r,k _ G H (.refl rl) fun _ _=>rfl⟩
 ·cases e
theorem x7_{n:Nat}(h1:EG X B n e g)(h2:EGs X B n es gs)(hs:(assignEach (e::es) X.env).map (·.2)=assign e X.env::(assignEach es X.env).map (·.2):=by rfl):EGs X B n (e::es) (gCn g gs):=by
 refine b0Y (b5H h1 h2 hs) ?_
 rintro vs σ H Q ⟨G,env,ds,env',rl,r,e,k⟩;unfold gCn at e;split at e
 ·rename_i d ds
  obtain⟨env1,e1,e2⟩:=q2_ e;simp only[z9_]at r;obtain⟨x,xs,e3,r1,r2⟩:=r;exact⟨x,xs,e3,G,env,d,env1,rl,r1,e1,fun σ1 G1 H1 ev y1=>⟨G1,env1,ds,env',ev.rel,z9_.mono ev.same _ r2,e2,fun σ2 G2 H2 ev2 y2=>k σ2 G2 H2 (ev.trans ev2) fun j hj=>(y2 j hj).trans (y1 j hj)⟩⟩
 ·cases e
theorem g8_{nb n k':Nat}(hc:X.calm=true)(h:EGs X B nb es gs)(hn:(assignEach es X.env).length=n:=by rfl)(hst:(assignEach es X.env).findIdx? (·.1)=none:=by rfl):EG X B nb (.Tuple es k' pos) (gT n gs):=by
 refine a7I (b5J hc h hn hst) ?_
 rintro v σ H Q ⟨G,env,d,env',rl,r,e,k⟩;unfold gT at e;split at e
 ·rename_i ds
  split at e
  ·rename_i hl
   simp only[Rep]at r;obtain⟨p,xs,e1,q,t⟩:=r;exact⟨p,xs,e1,rl.sub.sqT q,t.length.trans hl,G,env,ds,env',rl,t,e,k⟩
  ·cases e
 ·cases e
def gS(s:Nat)(mi:Mo D):D->Env'->Option Env':=fun d env=>((env[s]?).bind W.mutL).bind fun _=>(mi env).bind fun p=>match p.1 with
 |.int k=>(p.2[s]?).bind fun w=>w.mutL.bind fun ds=>(ixN ds.length k).map fun j=>p.2.set s (w.put (ds.set j d))
 |_=>none
theorem a7J{s:Nat}{p:Pos}(ho:PE X (.Name x p) (a0r s))(hi:ED X B b mb)
  (ha:∀v,assign (.Subscript (.Name x p) b pos) X.env v=(do
   let ov←holding [v] (eval (.Name x p) X.env)
   let iv←holding [v,ov] (eval b X.env)
   standAt pos
   holding [v,ov,iv] (setItem ov iv v)
   release [v,ov,iv] []):=by intro _;rfl):EG X B n (.Subscript (.Name x p) b pos) (gS s mb):=by
 refine a7I (b0k ho hi b0I ha) ?_
 rintro v σ H Q ⟨G,env,d,env',rl,r,e,k⟩;obtain⟨ds0,e0,e⟩:=q2_ e;obtain⟨w0,e00,em0⟩:=q2_ e0;obtain⟨⟨d1,env1⟩,e1,e2⟩:=q2_ e;dsimp only at e2;split at e2
 ·rename_i kk
  obtain⟨w,e3,e4⟩:=q2_ e2;obtain⟨ds,e5,e6⟩:=q2_ e4;obtain⟨j,e7,e8⟩:=x4_ e6;cases e8;obtain⟨q,xs0,h1,h2,h3,h4⟩:=rl.ownL s w0 ds0 e00 em0;refine⟨_,h1,.bind rl e1 fun iv G1 H1 ev r1=>?_⟩
  simp only[Rep]at r1;obtain⟨q',xs,g1,g2,g3,g4⟩:=ev.rel.ownL s w ds e3 e5;rw[h1]at g1;cases g1;exact⟨q,xs,kk,j,rfl,r1,g2,by rw[g3.length];exact e7,k _ G1 _ (ev.write e3 e5 h1 (g3.set j (Rep.mono ev.same _ r))) fun _ _=>rfl⟩
 ·cases e2
def a0k(m:Mo D)(g:D->Env'->Option Env'):Mo Fl:=fun env=>(m env).bind fun p=>(g p.1 p.2).map fun e=>(.nx,e)
theorem a2a(he:ED X B e ma)(hg:EG X B 0 tg g)(hs:swapsWithSole [tg] e pos.line X.env=pure false:=by rfl)(hw:swappedStores [tg] e X.env=pure none:=by rfl)
  (h1:(assignEach [tg] X.env).map (·.2)=[assign tg X.env]:=by rfl):ES X B (.Assign [tg] e pos) (a0k ma g):=by
 refine ps_imp (a7m he hg hs hw h1) ?_
 rintro D σ H ⟨G,env,fl,env',rl,e,k⟩;obtain⟨⟨d1,env1⟩,e1,e2⟩:=q2_ e;obtain⟨env2,e3,e4⟩:=x4_ e2;cases e4;exact .bind rl e1 fun v G1 H1 ev r=>⟨G1,env1,d1,_,ev.rel,r,e3,fun σ2 G2 H2 ev2 _=>k σ2 G2 H2 (ev.trans ev2)⟩
def a1C(i j:Nat)(ms:Mo (List D)):Mo Fl:=fun env=>(ms env).bind fun p=>match p.1 with
 |[d,d']=>some (.nx,(p.2.set i (.dat d)).set j (.dat d'))
 |_=>none
theorem a4L{px pt pt2:Pos}{kt k2}(hc:X.calm=true)(hN:X.N.Nodup)(hi:X.N[i]? =some x)(hj:X.N[j]? =some y)(hij:i≠j)
  (hx:X.env.scope.names.lookup x=some .local)(hy:X.env.scope.names.lookup y=some .local)(ha:EDs X B [a,b] ms)
  (hw:swappedStores [.Tuple [.Name x px,.Name y py] kt pt] (.Tuple [a,b] k2 pt2) X.env=pure (some [x,y]))
  (hs:swapsWithSole [.Tuple [.Name x px,.Name y py] kt pt] (.Tuple [a,b] k2 pt2) pos.line X.env=pure false:=by rfl):
  ES X B (.Assign [.Tuple [.Name x px,.Name y py] kt pt] (.Tuple [a,b] k2 pt2) pos) (a1C i j ms):=by
 refine ps_imp (b0l hc hN hi hj hij hx hy ha hw hs) ?_
 rintro D σ H ⟨G,env,fl,env',rl,e,k⟩;obtain⟨⟨ds,env1⟩,e1,e2⟩:=q2_ e;dsimp only at e2;split at e2
 ·cases e2
  refine⟨G,env,_,env1,rl,e1,fun vs G1 H1 ev r=>?_⟩
  obtain⟨v,w,rfl,r1,r2⟩:=a3f r;exact⟨v,w,rfl,k _ G1 H1 ((ev.setDat r1).setDat r2)⟩
 ·cases e2
structure ItD(K:Qz)(J:It)(G:Hp)(ds:List D):Prop where
 go:∀i H,Le G H->i<ds.length->J.go i H
 stop:∀i H,Le G H->ds.length≤i->J.stop i H
 yld:∀i H x H' d,Le G H->J.yld i H x H'->ds[i]? =some d->(H'=H/\Rep K G x d)∨ ∃p o,NT o/\H p=none/\H'=upd H p o/\Rep K (upd G p o) x d
end
section
variable(K:Qz)(B:Addr->Prop)
def TIm(m:Mo (List D)):TI:=fun σ H R=>∃G env ds env',Rel K B G σ env H/\m env=some (ds,env')/\∀J G' H',Ev K B G σ env H G' σ env' H'->ItD K J G' ds->R J H'
end
abbrev EI(X:Cx)(B:Addr->Prop)(tg e:Expr)(m:Mo (List D)):Prop:=PI X tg e (TIm X.K B m)
theorem a5X{t t':TI}(h:PI X tg e t)(i:∀σ H R,t' σ H R->t σ H R):PI X tg e t':=fun pins s σ H R I q=>h pins s σ H R I (i σ H R q)
section
variable{a c:Expr}{g:D->Env'->Option Env'}{gs:List D->Env'->Option Env'}
def b7h(K:Qz)(tl:TE):TI:=fun σ H R=>tl σ H fun x H1=>∃a,x=.ref a/\(((∃xs,SqL K H1 a xs)/\R (Itl K a) H1)∨((∃xs,SqT K H1 a xs)/\R (Itt K a) H1))
theorem b7i{l:Expr}{tl:TE}(hl:PE X l tl):PI X tg l (b7h X.K tl):=by
 intro pins s σ H R I h;refine thn (hl pins s σ H _ I h) fun v s1 ⟨x,H1,I1,r1,q1⟩=>?_
 obtain⟨a,e,q⟩:=q1;subst e;cases r1
 rcases q with⟨⟨xs,hq⟩,q⟩|⟨⟨xs,hq⟩,q⟩
 ·obtain⟨its,rv,p,hz⟩:=I1.list hq
  refine Jd p.isList ?_
  refine⟨s1.heap.objs.size,[s1.heap.objs.size],_,_,H1,rfl,I1.kept (t':=s1.toks) fun b o e=>Qx _ e,b5O a _,⟨_,Qg _ rfl,rfl,rfl⟩,fun b hb=>?_,q⟩
  have e:b=s1.heap.objs.size:=by simpa using hb
  subst e;exact I1.fpOk (Qp _) (I1.hok.fresh (Qp _))
 ·obtain⟨its,rv,p,hz⟩:=I1.tuple hq
  refine Uo (show s1.heap.IsTuple a its.toArray from p) ?_
  refine⟨s1.heap.objs.size,[s1.heap.objs.size],_,_,H1,rfl,I1.kept (t':=s1.toks) fun b o e=>Qx _ e,b5P a _,⟨_,Qg _ rfl,rfl,rfl⟩,fun b hb=>?_,q⟩
  have e:b=s1.heap.objs.size:=by simpa using hb
  subst e;exact I1.fpOk (Qp _) (I1.hok.fresh (Qp _))
def y1_(m:Mo D):Mo (List D):=fun env=>(m env).bind fun p=>p.1.items.map fun ds=>(ds,p.2)
theorem b7j{K:Qz}(q:SqL K G p xs)(r:z9_ K G xs ds):ItD K (Itl K p) G ds where
 go:=fun i H l hi=>⟨xs,xs[i]'(by rw[r.length];exact hi),l.sqL q,by simp⟩
 stop:=fun i H l hi=>⟨xs,l.sqL q,by rw[r.length];exact hi⟩
 yld:=fun i H x H' d l y e=>by
  obtain⟨rfl,y⟩:=y;obtain⟨x',e1,e2⟩:=r.get e;have:=y xs (l.sqL q);rw[e1]at this;cases this;exact .inl ⟨rfl,e2⟩
theorem b7k{K:Qz}(q:SqU K G p xs)(r:z9_ K G xs ds):ItD K (Itt K p) G ds where
 go:=fun i H l hi=>⟨xs,xs[i]'(by rw[r.length];exact hi),l.sqT q,by simp⟩
 stop:=fun i H l hi=>⟨xs,l.sqT q,by rw[r.length];exact hi⟩
 yld:=fun i H x H' d l y e=>by
  obtain⟨rfl,y⟩:=y;obtain⟨x',e1,e2⟩:=r.get e;have:=y xs (l.sqT q);rw[e1]at this;cases this;exact .inl ⟨rfl,e2⟩
theorem k8_(h:ED X B e ma):EI X B tg e (y1_ ma):=by
 refine a5X (b7i h) ?_
 rintro σ H R ⟨G,env,ds,env',rl,e,k⟩;obtain⟨⟨d,env1⟩,e1,e2⟩:=q2_ e;obtain⟨ds',e3,e4⟩:=x4_ e2;cases e4;refine .bind rl e1 fun v G1 H1 ev r=>?_
 cases d<;>first|(exact absurd (show(none:Option (List D))=some _ from e3) (by simp))|skip
 ·cases e3
  simp only[Rep]at r;obtain⟨p,xs,e5,q,t⟩:=r;exact⟨p,e5,.inr ⟨⟨xs,ev.rel.sub.sqT q⟩,k _ G1 H1 ev (b7k q t)⟩⟩
 ·cases e3
  simp only[Rep]at r;obtain⟨p,xs,e5,q,t⟩:=r;exact⟨p,e5,.inl ⟨⟨xs,ev.rel.sub.sqL q⟩,k _ G1 H1 ev (b7j q t)⟩⟩
def a0l(lo:Int)(n:Nat):List D:=(List.range n).map fun(i:Nat)=>D.int (lo+i)
theorem b0Z{K:Qz}{lo:Int}:ItD K (Itr lo n) G (a0l lo n)where
 go:=fun i H l hi=>by
  have h:i<n:=by simpa [a0l]using hi
  exact h
 stop:=fun i H l hi=>by
  have h:n≤i:=by simpa [a0l]using hi
  exact h
 yld:=fun i H x H' d l y e=>by
  obtain⟨rfl,rfl⟩:=y;refine .inl ⟨rfl,?_⟩;unfold a0l at e;rw[Zj]at e;cases hr:(List.range n)[i]? with
  |none=>rw[hr]at e;cases e
  |some j=>
   rw[hr]at e;cases e;obtain⟨h1,h2⟩:=Qb.mp hr
   simp at h2
   subst h2;simp only[Rep]
def g0_(ms:Mo (List D)):Mo (List D):=fun env=>(ms env).bind fun p=>match p.1 with
 |[.int j]=>if-1000000<j/\j<1000000 then some (a0l 0 j.toNat,p.2)else none
 |_=>none
def a4M(ms:Mo (List D)):Mo (List D):=fun env=>(ms env).bind fun p=>match p.1 with
 |[.int i,.int j]=>if-1000000<i/\i<1000000/\ -1000000<j/\j<1000000 then some (a0l i (j-i).toNat,p.2)else none
 |_=>none
theorem a1D{p:Pos}(hg:Gl X "range")(hm:X.mg "range"=none)(ha:EDs X B [a] ms)(hs:starEach [a] X.env=[(false,eval a X.env)]:=by rfl):EI X B tg (.Call (.Name "range" p) [a] [] pos) (g0_ ms):=by
 have h0:=b5T (tg:=tg) (p:=p) (pos:=pos) hg hm ha hs
 refine a5X h0 ?_
 rintro σ H R ⟨G,env,ds,env',rl,e,k⟩;obtain⟨⟨ds',env1⟩,e1,e2⟩:=q2_ e;dsimp only at e2;split at e2
 ·rename_i j
  split at e2
  ·rename_i hj
   cases e2;refine⟨G,env,_,_,rl,e1,fun vs G1 H1 ev r=>?_⟩
   obtain⟨v,rfl,r1⟩:=a0B r;simp only[Rep]at r1;subst r1;exact⟨j,rfl,by omega,by omega,k _ G1 H1 ev b0Z⟩
  ·cases e2
 ·cases e2
theorem b1a{p:Pos}(hg:Gl X "range")(hm:X.mg "range"=none)(ha:EDs X B [a,b] ms)(hs:starEach [a,b] X.env=[(false,eval a X.env),(false,eval b X.env)]:=by rfl)(hs2:starEach [b] X.env=[(false,eval b X.env)]:=by rfl):EI X B tg (.Call (.Name "range" p) [a,b] [] pos) (a4M ms):=by
 have h0:=b5U (tg:=tg) (p:=p) (pos:=pos) hg hm ha hs hs2
 refine a5X h0 ?_
 rintro σ H R ⟨G,env,ds,env',rl,e,k⟩;obtain⟨⟨ds',env1⟩,e1,e2⟩:=q2_ e;dsimp only at e2;split at e2
 ·rename_i i j
  split at e2
  ·rename_i hj
   cases e2;refine⟨G,env,_,_,rl,e1,fun vs G1 H1 ev r=>?_⟩
   obtain⟨v,w,rfl,r1,r2⟩:=a3f r;simp only[Rep]at r1 r2;subst r1 r2;exact⟨i,j,rfl,⟨by omega,by omega,by omega,by omega⟩,k _ G1 H1 ev b0Z⟩
  ·cases e2
 ·cases e2
def loop(g:D->Env'->Option Env')(body:Mo Fl):List D->Mo Fl
 |[],env=>some (.nx,env)
 |d::ds,env=>(g d env).bind fun e1=>(body e1).bind fun p=>match p.1 with
  |.nx=>loop g body ds p.2
  |.ct=>loop g body ds p.2
  |.bk=>some (.nx,p.2)
  |.ret d=>some (.ret d,p.2)
  |.retL d=>some (.retL d,p.2)
def g1_(mi:Mo (List D))(g:D->Env'->Option Env')(body:Mo Fl):Mo Fl:=fun env=>(mi env).bind fun p=>loop g body p.1 p.2
theorem Ev.alloc{K:Qz}{env:Env'}(r:Rel K B G σ env H)(h:H p=none)(no:NT o):Ev K B G σ env H (upd G p o) σ env (upd H p o):=r.alloc h no
theorem a0D{body:List Stmt}{mbd:Mo Fl}(hp:PassesOwn (model X.prog X.w) X.A X.env X.xe)(hc:X.calm=true)(hi:EI X B tg iter mi)(hg:EG X B 0 tg g)(hb:ESs X B body mbd)
  (hs:∀x,foldedSetIterable iter X.env x=pure x:=by intro _;rfl):ES X B (.For tg iter body [] pos) (g1_ mi g mbd):=by
 refine ps_imp (b0n hp hc hi hg hb hs) ?_
 rintro D σ H ⟨G,env,fl,env',rl,e,k⟩;obtain⟨⟨ds,env1⟩,e1,e2⟩:=q2_ e;dsimp only at e2;refine⟨G,env,ds,env1,rl,e1,fun J G1 H1 ev1 it=>?_⟩
 refine⟨fun i m σ2 H2=>m=ds.length-i/\i≤ds.length/\∃G2 env2,Ev X.K B G σ env H G2 σ2 env2 H2/\Le G1 G2/\loop g mbd (ds.drop i) env2=some (fl,env'),⟨_,rfl,Jt _,G1,env1,ev1,Le.refl,by simpa using e2⟩,?_⟩
 rintro i m σ2 H2 ⟨rfl,hi2,G2,env2,ev2,l2,e3⟩;have lH:Le G1 H2:=l2.trans ev2.rel.sub
 by_cases hlt:i<ds.length
 ·refine .inr ⟨it.go i H2 lH hlt,fun σ' H'=>∃G3 env3,Ev X.K B G σ env H G3 σ' env3 H'/\Le G1 G3/\loop g mbd (ds.drop (i+1)) env3=some (fl,env'),?_,fun x H3 y=>?_⟩
  ·rintro σ' H' ⟨G3,env3,ev3,l3,e4⟩
   exact⟨ds.length-(i+1),by omega,rfl,hlt,G3,env3,ev3,l3,e4⟩
  ·have ed:ds.drop i=ds[i]::ds.drop (i+1):=Jy hlt
   rw[ed]at e3;obtain⟨env4,e4,e5⟩:=q2_ e3;obtain⟨⟨fl5,env5⟩,e6,e7⟩:=q2_ e5;have hget:ds[i]? =some ds[i]:=by simp[hlt]
   have st:∃G3,Ev X.K B G σ env H G3 σ2 env2 H3/\Le G1 G3/\Rep X.K G3 x ds[i]:=by
    rcases it.yld i H2 x H3 ds[i] lH y hget with⟨rfl,r⟩|⟨p,o,hno,hp2,rfl,r⟩
    ·exact⟨G2,ev2,l2,Rep.mono l2 _ r⟩
    ·have gp:=ev2.rel.gnone hp2
     refine⟨upd G2 p o,ev2.trans (ev2.rel.alloc hp2 hno),l2.trans (Le.upd gp),Rep.mono (fun b u q=>?_) _ r⟩
     by_cases hb2:b=p
     ·subst hb2;rw[y5_]at q ⊢;exact q
     ·rw[q5_ hb2]at q ⊢;exact l2 b u q
   obtain⟨G3,ev3,l3,r3⟩:=st;refine⟨G3,env2,ds[i],env4,ev3.rel,r3,e4,fun σ4 G4 H4 ev4 _=>?_⟩
   have ev5:=ev3.trans ev4
   refine⟨G4,env4,fl5,env5,ev4.rel,e6,?_⟩;cases fl5 with
   |nx=>exact fun σ6 G6 H6 ev6=>⟨G6,env5,ev5.trans ev6,(l3.trans ev4.same).trans ev6.same,e7⟩
   |ct=>exact fun σ6 G6 H6 ev6=>⟨G6,env5,ev5.trans ev6,(l3.trans ev4.same).trans ev6.same,e7⟩
   |bk=>cases e7;exact fun σ6 G6 H6 ev6=>k σ6 G6 H6 (ev5.trans ev6)
   |ret d=>cases e7;exact fun v σ6 G6 H6 ev6=>k v σ6 G6 H6 (ev5.trans ev6)
   |retL d=>cases e7;exact fun a xs σ6 G6 H6 ev6=>k a xs σ6 G6 H6 (ev5.trans ev6)
 ·have ei:i=ds.length:=by omega
  subst ei;rw[Uh]at e3;cases e3;exact .inl ⟨it.stop _ H2 lH (Qp _),k σ2 G2 H2 ev2⟩
end
inductive Rr where
 |d (d:D)|l (ds:List D)
abbrev Fn:=List W->Option (Rr×List W)
def u8_:Addr->Prop:=fun _=>False
def a4N(ws:List W):Prop:=∀w∈ws,(∃d,w=.dat d)∨w.isPar=true
def b7l(K:Qz)(G:Hp)(vs:List V)(ws:List W)(H:Hp)(ws':List W)(Q:VK):Rr->Prop
 |.d d=>∀v G' H',Ev K u8_ G (vs.map some) ws H G' (vs.map some) ws' H'->Rep K G' v d->Q v H'
 |.l ds=>∀a xs G' H',Ev K u8_ G (vs.map some) ws H G' (vs.map some) ws' H'->H a=none-> ¬ Owned (vs.map some) ws' a->H' a=some (.lst xs)->G' a=none->z9_ K G' xs ds->Q (.ref a) H'
def SpF(K:Qz)(n:Nat)(f:Fn):Sp:=fun vs H Q _=>∃G ws r ws',ws.length=n/\a4N ws/\Rel K u8_ G (vs.map some) ws H/\f ws=some (r,ws')/\b7l K G vs ws H ws' Q r
def a4O:W->W->W
 |.par _,.par ds=>.par ds
 |.par _,.parD ks vs=>.parD ks vs
 |.parD _ _,.par ds=>.par ds
 |.parD _ _,.parD ks vs=>.parD ks vs
 |.par _,_=>.nil
 |.parD _ _,_=>.nil
 |w,_=>w
def a0M(ws env:List W):List W:=List.zipWith a4O ws env
def fnM(N:Nat)(mb:Mo Fl):Fn:=fun ws=>match mb (ws++List.replicate (N-ws.length) .nil)with
 |some (.ret d,env)=>some (.d d,a0M ws env)
 |some (.retL ds,env)=>some (.l ds,a0M ws env)
 |some (.nx,env)=>some (.d .non,a0M ws env)
 |_=>none
theorem a1E{N:List Str}(hi:i<vs.length):(start N vs)[i]? =(vs.map some)[i]?:=by
 unfold start;rw[Jw (by simpa using hi)]
theorem a2w{l:List α}{a b:α}(h:(l++List.replicate n a)[i]? =some b):(i<l.length/\l[i]? =some b)∨(l.length≤i/\b=a):=by
 by_cases hi:i<l.length
 ·rw[Jw hi]at h;exact .inl ⟨hi,h⟩
 ·rw[List.getElem?_append_right (by omega),Jb]at h
  split at h
  ·cases h;exact .inr ⟨by omega,rfl⟩
  ·cases h
section
variable{K:Qz}{ws:List W}{N:List Str}
theorem b1b(hl:ws.length=vs.length){a:Addr}:Owned (start N vs) (ws++List.replicate n .nil) a↔Owned (vs.map some) ws a:=by
 constructor
 ·rintro⟨i,w,ds,e1,e2,e3⟩
  rcases a2w e1 with⟨h1,h2⟩|⟨h1,h2⟩
  ·rw[a1E (by omega)]at e3;exact⟨i,w,ds,h2,e2,e3⟩
  ·rw[h2]at e2;cases e2
 ·rintro⟨i,w,ds,e1,e2,e3⟩
  have hi:i<ws.length:=(Qb.mp e1).1
  exact⟨i,w,ds,by rw[Jw hi];exact e1,e2,by rw[a1E (by omega)];exact e3⟩
theorem a7K(r:Rel K u8_ G (vs.map some) ws H)(ok:a4N ws)(hN:vs.length≤N.length):Rel K (fun b=>H b≠none) G (start N vs) (ws++List.replicate (N.length-ws.length) .nil) H:=by
 have hl:ws.length=vs.length:=by have:=r.len;rwa [Qv]at this
 have noOwn:∀(i:Nat) (w:W),ws[i]? =some w->w.isOwn=true->False:=fun i w e h=>by
  rcases ok _ (Yr e)with⟨d,z⟩|z
  ·subst z;cases h
  ·cases w<;>first|(cases h;done)|(cases z;done)
 refine⟨r.sub,?_,fun i d e=>?_,fun i w ds e1 e2=>?_,fun i j w w' ds es a q1 q2 q3 q4 q5 q6=>?_,fun i w a q1 qo q2=>?_,fun b h=>h,r.tabs,r.gnt⟩
 ·unfold start
  simp only[Qa,Za,Qv]
  omega
 ·rcases a2w e with⟨h1,h2⟩|⟨h1,h2⟩
  ·obtain⟨v,e1,e2⟩:=r.dat i d h2
   exact⟨v,by rw[a1E (by omega)];exact e1,e2⟩
  ·cases h2
 ·rcases a2w e1 with⟨h1,h2⟩|⟨h1,h2⟩
  ·obtain⟨a,xs,e3,e4⟩:=r.own i w ds h2 e2
   exact⟨a,xs,by rw[a1E (by omega)];exact e3,e4⟩
  ·rw[h2]at e2;cases e2
 ·rcases a2w q1 with⟨h1,h2⟩|⟨h1,h2⟩
  ·rcases a2w q3 with⟨h3,h4⟩|⟨h3,h4⟩
   ·rw[a1E (by omega)]at q5 q6
    exact r.inj i j w w' ds es a h2 q2 h4 q4 q5 q6
   ·rw[h4]at q4;cases q4
  ·rw[h2]at q2;cases q2
 ·rcases a2w q1 with⟨h1,h2⟩|⟨h1,h2⟩
  ·exact(noOwn i w h2 qo).elim
  ·subst h2;cases qo
theorem a5Y{ws env:List W}{w:W}(h:(a0M ws env)[i]? =some w):∃w1 w2,ws[i]? =some w1/\env[i]? =some w2/\w=a4O w1 w2:=by
 unfold a0M at h;rw[Jx]at h;cases e1:ws[i]? with
 |none=>rw[e1]at h;cases h
 |some w1=>
  cases e2:env[i]? with
  |none=>rw[e1,e2]at h;cases h
  |some w2=>rw[e1,e2]at h;cases h;exact⟨w1,w2,rfl,rfl,rfl⟩
theorem a7L{w1:W}(ok:(∃d,w1=.dat d)∨w1.isPar=true)(h:(a4O w1 w2).mut=some m):w2.mut=some m/\w2.isPar=true/\a4O w1 w2=w2/\w1.isPar=true:=by
 rcases ok with⟨d,z⟩|z
 ·subst z;cases h
 ·cases w1<;>cases w2<;>first|exact⟨h,rfl,rfl,rfl⟩|(cases z;done)|(cases h;done)
theorem a3g(r:Rel K u8_ G (vs.map some) ws H)(ok:a4N ws)(hN:vs.length≤N.length)
  (ev:Ev K (fun b=>H b≠none) G (start N vs) (ws++List.replicate (N.length-ws.length) .nil) H G' σ' env' H'):Ev K u8_ G (vs.map some) ws H G' (vs.map some) (a0M ws env') H':=by
 have hl:ws.length=vs.length:=by have:=r.len;rwa [Qv]at this
 have okg:∀{i:Nat}{w:W},ws[i]? =some w->(∃d,w=.dat d)∨w.isPar=true:=fun e=>ok _ (Yr e)
 have hle:ws.length≤env'.length:=by
  have h1:=ev.rel.len
  have h2:=ev.slen
  have h3:(start N vs).length=N.length:=by unfold start;simp only[Qa,Za,Qv];omega
  omega
 have par:∀(i:Nat) (w:W) (m:Mu),(a0M ws env')[i]? =some w->w.mut=some m->∃w0,ws[i]? =some w0/\w0.isPar=true/\env'[i]? =some w/\w.isPar=true/\σ'[i]? =(vs.map some)[i]?:=fun i w m e1 e2=>by
  obtain⟨w1,w2,h1,h2,h3⟩:=a5Y e1;subst h3;obtain⟨h4,h5,h6,h7⟩:=a7L (okg h1) e2;have hi:i<vs.length:=by have:=(Qb.mp h1).1;omega
  rw[h6];exact⟨w1,h1,h7,h2,h5,(ev.par i w2 h2 h5).1.trans (a1E hi)⟩
 refine⟨⟨ev.rel.sub,?_,fun i d e=>?_,fun i w ds e1 e2=>?_,fun i j w w' ds es a q1 q2 q3 q4 q5 q6=>?_,fun i w a q1 qo q2 h=>h,fun b h=>h.elim,ev.rel.tabs,ev.rel.gnt⟩,ev.same,fun b o n t e=>ev.keep b o (fun z=>n ((b1b hl).mp z)) t e,ev.live,fun b e n g=>ev.stay b e (fun z=>n ((b1b hl).mp z)) g,fun a z=>?_,fun i w e hp=>?_,rfl⟩
 ·unfold a0M
  rw[Yh,Qv];omega
 ·obtain⟨w1,w2,h1,h2,h3⟩:=a5Y e
  rcases okg h1 with⟨d1,z⟩|z
  ·subst z
   cases h3;obtain⟨v,e1,e2⟩:=r.dat i d h1;exact⟨v,e1,Rep.mono ev.same d e2⟩
  ·cases w1<;>cases w2<;>first|(cases h3;done)|(cases z;done)
 ·obtain⟨d0,h1,hp,h2,h3,h4⟩:=par i w ds e1 e2
  obtain⟨a,xs,e3,e4⟩:=ev.rel.own i _ ds h2 e2;exact⟨a,xs,by rw[←h4];exact e3,e4⟩
 ·obtain⟨d0,h1,hp,h2,h3,h4⟩:=par i w ds q1 q2
  obtain⟨d1,h5,hp',h6,h7,h8⟩:=par j w' es q3 q4;exact ev.rel.inj i j _ _ ds es a h2 q2 h6 q4 (by rw[h4];exact q5) (by rw[h8];exact q6)
 ·obtain⟨i,w,ds,e1,e2,e3⟩:=z
  obtain⟨d0,h1,hp,h2,h3,h4⟩:=par i w ds e1 e2;obtain⟨m0,hm0⟩:=par_mut hp;exact .inl ⟨i,_,m0,h1,hm0,e3⟩
 ·obtain⟨m,hm⟩:=par_mut hp
  obtain⟨d0,h1,hp',h2,h3,h4⟩:=par i _ m e hm;exact⟨rfl,d0,h1,hp'⟩
end
theorem k0_{P:Program}{w:World}{K:Qz}{mg:Str->Option Value}{base:Heap}{qual:Str}{st:Stmt}{f:Addr}{fd:FuncData}{N ps:List Str}{k:Nat}{mb:Mo Fl}(F:Fun K x qual st f fd)(S:FnScope N ps (y3_ st))
  (hb:∀(cdv:Value) (A:Around) (outer:List Env) (s:Shared) (H:Hp) (E:XK),Room k (A.deeper (envOfC qual (y3_ st) s.heap.objs.size f cdv))->
   ESs (u1_ CX0 P w K mg base N qual (y3_ st) f cdv A outer s H E).nox (fun b=>H b≠none) (a0U st) mb):FnOk P w K mg base CX0 (k+1) f fd ps (SpF K ps.length (fnM N.length mb)):=by
 have hpl:ps.length≤N.length:=by have:=Yx List.length S.pre;rw[Ye]at this;omega
 refine F.ok S (fun vs H Q E h=>?_) (fun cdv A outer s H vs Q E hr h=>?_)
 ·obtain⟨G,ws,r,ws',hl,ok,rl,_⟩:=h
  have:=rl.len;rw[Qv]at this;omega
 ·obtain⟨G,ws,r,ws',hl,ok,rl,e,k⟩:=h
  have hv:ws.length=vs.length:=by have:=rl.len;rwa [Qv]at this
  refine⟨_,hb cdv A outer s H E hr,?_⟩;have rl':=a7K (N:=N) rl ok (by omega)
  unfold fnM at e;split at e
  ·rename_i d env em
   cases e;refine⟨G,_,_,env,rl',em,?_⟩;exact fun v σ' G' H' ev rp=>k v G' H' (a3g rl ok (by omega) ev) rp
  ·rename_i ds env em
   cases e;refine⟨G,_,_,env,rl',em,?_⟩;intro a xs σ' G' H' ev nb no h' g' rp;refine k a xs G' H' (a3g rl ok (by omega) ev) (Js nb) ?_ h' g' rp
   rintro⟨i,w',es,e1,e2,e3⟩;obtain⟨w1,w2,q1,q2,q3⟩:=a5Y e1;subst q3;obtain⟨q4,q5,q6,q7⟩:=a7L (ok _ (Yr q1)) e2;have hi:i<vs.length:=by have:=(Qb.mp q1).1;omega
   exact no ⟨i,_,es,q2,q4,by rw[(ev.par i w2 q2 q5).1,a1E hi];exact e3⟩
  ·rename_i env em
   cases e;refine⟨G,_,_,env,rl',em,?_⟩;exact fun σ' G' H' ev=>k .non G' H' (a3g rl ok (by omega) ev) (by simp only[Rep])
  ·cases e
def slots:List Ar->List Nat
 |[]=>[]
 |.d _::r=>slots r
 |.sl i::r=>i::slots r
def a3h:Mu->W
 |.l ds=>.par ds
 |.d ks vs=>.parD ks vs
theorem b1c(c:Mu):(a3h c).mut=some c:=by cases c<;>rfl
theorem b1d(c:Mu):(a3h c).isPar=true:=by cases c<;>rfl
def u6_(c:Mu):Ar->W
 |.d d=>.dat d
 |.sl _=>a3h c
def a2x:List W->Option Mu
 |[]=>none
 |.par ds::_=>some (.l ds)
 |.parD ks vs::_=>some (.d ks vs)
 |_::r=>a2x r
def a2b(n:Nat)(f:Fn)(as:Mo (List Ar)):Mo Rr:=fun env=>(as env).bind fun p=>if p.1.length=n then
 match slots p.1 with
 |[]=>(f (p.1.map (u6_ (.l [])))).map fun q=>(q.1,p.2)
 |[i]=>(p.2[i]?).bind fun w=>w.mut.bind fun c=>(f (p.1.map (u6_ c))).bind fun q=>(a2x q.2).map fun c'=>(q.1,p.2.set i (w.putM c'))
 |_=>none
 else none
theorem a1F:∀{as:List Ar},slots as=[]->∀(k j:Nat),as[k]? ≠some (.sl j)
 |[],_,k,j,e=>by simp at e
 |.d _::r,h,k,j,e=>by
  cases k with
  |zero=>simp at e
  |succ k=>exact a1F (as:=r) h k j (by simpa using e)
 |.sl i::r,h,k,j,e=>by simp[slots]at h
theorem a7M:∀{as:List Ar}{i:Nat},slots as=[i]->∃k:Nat,as[k]? =some (.sl i)/\∀(k' j:Nat),as[k']? =some (.sl j)->k'=k/\j=i
 |[],_,h=>by simp[slots]at h
 |.d _::r,i,h=>by
  obtain⟨k,h1,h2⟩:=a7M (as:=r) h;refine⟨k+1,by simpa using h1,fun k' j e=>?_⟩
  cases k' with
  |zero=>simp at e
  |succ k'=>
   obtain⟨a,b⟩:=h2 k' j (by simpa using e)
   exact⟨by omega,b⟩
 |.sl i'::r,i,h=>by
  simp only[slots,List.cons.injEq]at h;obtain⟨rfl,h⟩:=h;refine⟨0,by simp,fun k' j e=>?_⟩
  cases k' with
  |zero=>simp at e;exact⟨rfl,e.symm⟩
  |succ k'=>exact absurd (by simpa using e) (a1F h k' j)
theorem a4P:∀{ws:List W}{c:Mu},a2x ws=some c->∃k:Nat,ws[k]? =some (a3h c)
 |[],_,h=>by simp[a2x]at h
 |.par ds::r,c,h=>by simp only[a2x,Ze]at h;subst h;exact⟨0,by simp[a3h]⟩
 |.parD ks vs::r,c,h=>by simp only[a2x,Ze]at h;subst h;exact⟨0,by simp[a3h]⟩
 |.nil::r,c,h=>by obtain⟨k,e⟩:=a4P (ws:=r) h;exact⟨k+1,by simpa using e⟩
 |.dat _::r,c,h=>by obtain⟨k,e⟩:=a4P (ws:=r) h;exact⟨k+1,by simpa using e⟩
 |.own _::r,c,h=>by obtain⟨k,e⟩:=a4P (ws:=r) h;exact⟨k+1,by simpa using e⟩
 |.ownD _ _::r,c,h=>by obtain⟨k,e⟩:=a4P (ws:=r) h;exact⟨k+1,by simpa using e⟩
section
variable{K:Qz}
theorem RepA.length:∀{as:List Ar}{vs:List V},RepA K G σ vs as->vs.length=as.length
 |[],_,h=>by simp only[RepA]at h;subst h;rfl
 |.d d::as,_,h=>by
  simp only[RepA]at h;obtain⟨x,r,rfl,_,t⟩:=h
  simp[RepA.length t]
 |.sl i::as,_,h=>by
  simp only[RepA]at h;obtain⟨x,r,rfl,_,t⟩:=h
  simp[RepA.length t]
theorem RepA.getD:∀{as:List Ar}{vs:List V}{k:Nat}{d:D},RepA K G σ vs as->as[k]? =some (.d d)->∃v,vs[k]? =some v/\Rep K G v d
 |[],_,k,d,h,e=>by simp at e
 |.d d'::as,_,k,d,h,e=>by
  simp only[RepA]at h;obtain⟨x,r,rfl,q,t⟩:=h;cases k with
  |zero=>simp at e;subst e;exact⟨x,by simp,q⟩
  |succ k=>simpa using RepA.getD (k:=k) t (by simpa using e)
 |.sl i::as,_,k,d,h,e=>by
  simp only[RepA]at h;obtain⟨x,r,rfl,q,t⟩:=h;cases k with
  |zero=>simp at e
  |succ k=>simpa using RepA.getD (k:=k) t (by simpa using e)
theorem RepA.getS:∀{as:List Ar}{vs:List V}{k i:Nat},RepA K G σ vs as->as[k]? =some (.sl i)->∃v,vs[k]? =some v/\σ[i]? =some (some v)
 |[],_,k,i,h,e=>by simp at e
 |.d d'::as,_,k,i,h,e=>by
  simp only[RepA]at h;obtain⟨x,r,rfl,q,t⟩:=h;cases k with
  |zero=>simp at e
  |succ k=>simpa using RepA.getS (k:=k) t (by simpa using e)
 |.sl i'::as,_,k,i,h,e=>by
  simp only[RepA]at h;obtain⟨x,r,rfl,q,t⟩:=h;cases k with
  |zero=>simp at e;subst e;exact⟨x,by simp,q⟩
  |succ k=>simpa using RepA.getS (k:=k) t (by simpa using e)
end
section
variable{K:Qz}{env:Env'}{as:List Ar}{c:Mu}
theorem a5Z:a4N (as.map (u6_ c)):=fun w hw=>by
 obtain⟨a,_,rfl⟩:=Zn.mp hw;cases a with
 |d d=>exact .inl ⟨d,rfl⟩
 |sl i=>exact .inr (b1d c)
theorem a3O{k:Nat}{w:W}(e:(as.map (u6_ c))[k]? =some w):(∃d,as[k]? =some (.d d)/\w=.dat d)∨ ∃j,as[k]? =some (.sl j)/\w=a3h c:=by
 rw[Zj]at e;cases h:as[k]? with
 |none=>rw[h]at e;cases e
 |some a=>
  rw[h]at e;cases a with
  |d d=>cases e;exact .inl ⟨d,rfl,rfl⟩
  |sl j=>cases e;exact .inr ⟨j,rfl,rfl⟩
theorem b1e{k:Nat}(h:vs[k]? =some v):(vs.map some)[k]? =some (some v):=by rw[Zj,h];rfl
theorem b1f{k:Nat}(h:(vs.map some)[k]? =some (some v)):vs[k]? =some v:=by
 rw[Zj]at h;cases e:vs[k]? with
 |none=>rw[e]at h;cases h
 |some u=>rw[e]at h;cases h;rfl
theorem a6a{w:W}(rl:Rel K B G σ env H)(ra:RepA K G σ vs as)(u:∀(k j:Nat),as[k]? =some (.sl j)->j=i/\env[i]? =some w/\w.mut=some c)(un:∀(k k' j j':Nat),as[k]? =some (.sl j)->as[k']? =some (.sl j')->k=k'):
  Rel K u8_ G (vs.map some) (as.map (u6_ c)) H:=by
 refine⟨rl.sub,by rw[Qv,Qv,ra.length],fun k d e=>?_,fun k v ds e1 e2=>?_,fun k k' v v' ds es a q1 q2 q3 q4 q5 q6=>?_,fun k w a e _ _ h=>h,fun b h=>h.elim,rl.tabs,rl.gnt⟩
 ·rcases a3O e with⟨d',h1,h2⟩|⟨j,h1,h2⟩
  ·cases h2
   obtain⟨v,q1,q2⟩:=ra.getD h1;exact⟨v,b1e q1,q2⟩
  ·cases c<;>cases h2
 ·rcases a3O e1 with⟨d',h1,h2⟩|⟨j,h1,h2⟩
  ·subst h2;cases e2
  ·subst h2;rw[b1c]at e2;cases e2
   obtain⟨v,q1,q2⟩:=ra.getS h1;obtain⟨rfl,q3,q4⟩:=u k j h1;obtain⟨a,xs,q5,q6,q7,q8⟩:=rl.own j w c q3 q4;rw[q2]at q5;cases q5;exact⟨a,xs,b1e q1,q6,q7,q8⟩
 ·rcases a3O q1 with⟨d',h1,h2⟩|⟨j,h1,h2⟩
  ·subst h2;cases q2
  ·rcases a3O q3 with⟨d',h3,h4⟩|⟨j',h3,h4⟩
   ·subst h4;cases q4
   ·exact un k k' j j' h1 h3
theorem b1g(ra:RepA K G σ vs as)(u:∀(k j:Nat),as[k]? =some (.sl j)->j=i){a:Addr}(h:Owned (vs.map some) (as.map (u6_ c)) a):σ[i]? =some (some (V.ref a))/\∃k:Nat,as[k]? =some (Ar.sl i):=by
 obtain⟨k,v,ds,e1,e2,e3⟩:=h
 rcases a3O e1 with⟨d',h1,h2⟩|⟨j,h1,h2⟩
 ·subst h2;cases e2
 ·obtain⟨v',q1,q2⟩:=ra.getS h1
  have:=u k j h1;subst this;have e4:=b1f e3;rw[q1]at e4;cases e4;exact⟨q2,k,h1⟩
theorem a6b(rl:Rel K B G σ env H)(ra:RepA K G σ vs as)(hs:slots as=[])(ev:Ev K u8_ G (vs.map some) (as.map (u6_ c)) H G2 (vs.map some) ws' H2):Ev K B G σ env H G2 σ env H2:=by
 have no:∀a,¬ Owned (vs.map some) (as.map (u6_ c)) a:=fun a z=>by
  obtain⟨_,k,e⟩:=b1g (i:=0) ra (fun k j e=>absurd e (a1F hs k j)) z
  exact a1F hs k 0 e
 refine⟨⟨ev.rel.sub,rl.len,fun i d e=>?_,fun i w ds e1 e2=>?_,rl.inj,rl.fresh,fun b h=>ev.live b (rl.old b h),ev.rel.tabs,ev.rel.gnt⟩,ev.same,fun b o _ t e=>ev.keep b o (no b) t e,ev.live,fun b e _ g=>ev.stay b e (no b) g,fun a z=>.inl z,fun i w e hp=>⟨rfl,w,e,hp⟩,rfl⟩
 ·obtain⟨v,q1,q2⟩:=rl.dat i d e
  exact⟨v,q1,Rep.mono ev.same d q2⟩
 ·obtain⟨a,xs,q1,q2,q3,q4⟩:=rl.own i w ds e1 e2
  exact⟨a,xs,q1,ev.keep a _ (no a) q3.nt q2,q3.mono ev.same,ev.stay a (by rw[q2];simp) (no a) q4⟩
theorem b1h{w:W}{c':Mu}(rl:Rel K B G σ env H)(ra:RepA K G σ vs as)(hs:slots as=[i])(e1:env[i]? =some w)(e2:w.mut=some c)(hp:a2x ws'=some c')
  (ev:Ev K u8_ G (vs.map some) (as.map (u6_ c)) H G2 (vs.map some) ws' H2):Ev K B G σ env H G2 σ (env.set i (w.putM c')) H2:=by
 obtain⟨k,hk,uk⟩:=a7M hs;obtain⟨a,xs,h1,h2,h3,h4⟩:=rl.own i w c e1 e2;have ow:Owned σ env a:=⟨i,w,c,e1,e2,h1⟩;have isA:∀b,Owned (vs.map some) (as.map (u6_ c)) b->b=a:=fun b z=>by
  obtain⟨q,_⟩:=b1g ra (fun k j e=>(uk k j e).2) z
  rw[h1]at q;cases q;rfl
 obtain⟨k',hk'⟩:=a4P hp;have ek:k'=k:=by
  obtain⟨_,d0,q,qp⟩:=ev.par k' _ hk' (b1d c')
  rcases a3O q with⟨d',z1,z2⟩|⟨j,z1,z2⟩
  ·subst z2;cases qp
  ·exact(uk k' j z1).1
 subst ek;obtain⟨a2,ys,g1,g2,g3,g4⟩:=ev.rel.own k' _ c' hk' (b1c c');obtain⟨v,q1,q2⟩:=ra.getS hk;have g5:=b1f g1;rw[q1]at g5;cases g5;rw[h1]at q2;cases q2;have wp:(w.putM c').mut=some c':=W.putM_mut e2 c';have nd:∀d,w.putM c'≠.dat d:=fun d z=>by rw[z]at wp;cases wp
 refine⟨⟨ev.rel.sub,by rw[Zf];exact rl.len,fun j d' q=>?_,fun j v es y1 y2=>?_,fun j m v v' es fs b y1 y2 y3 y4 y5 y6=>?_,fun j v b y1 yo y2=>?_,fun b h=>ev.live b (rl.old b h),ev.rel.tabs,ev.rel.gnt⟩,ev.same,fun b o n t e=>ev.keep b o (fun z=>n (isA b z ▸ ow)) t e,ev.live,fun b e n g=>ev.stay b e (fun z=>n (isA b z ▸ ow)) g,fun b z=>.inl ?_,fun j v q qp=>⟨rfl,?_⟩,rfl⟩
 ·rcases w6_ q with⟨z1,z2⟩|⟨z1,z2⟩
  ·exact absurd z2.symm (nd d')
  ·obtain⟨v,q1,q2⟩:=rl.dat j d' z2
   exact⟨v,q1,Rep.mono ev.same d' q2⟩
 ·rcases w6_ y1 with⟨z1,z2⟩|⟨z1,z2⟩
  ·subst z1 z2
   rw[wp]at y2;cases y2;exact⟨a,ys,h1,g2,g3,g4⟩
  ·obtain⟨p,zs,f1,f2,f3,f4⟩:=rl.own j v es z2 y2
   have hp:p≠a:=fun z=>z1 (rl.inj j i v w es c a z2 y2 e1 e2 (by rw[f1,z]) h1)
   have np:¬ Owned (vs.map some) (as.map (u6_ c)) p:=fun z=>hp (isA p z)
   exact⟨p,zs,f1,ev.keep p _ np f3.nt f2,f3.mono ev.same,ev.stay p (by rw[f2];simp) np f4⟩
 ·have g:∀(m:Nat) (v:W) (es:Mu),(env.set i (w.putM c'))[m]? =some v->v.mut=some es->∃v0 es0,env[m]? =some v0/\v0.mut=some es0:=fun m v es y1 y2=>by
   rcases w6_ y1 with⟨z1,z2⟩|⟨z1,z2⟩
   ·rw[z1];exact⟨w,c,e1,e2⟩
   ·exact⟨v,es,z2,y2⟩
  obtain⟨v0,es0,x1,x2⟩:=g j v es y1 y2;obtain⟨v1,es1,x3,x4⟩:=g m v' fs y3 y4;exact rl.inj j m v0 v1 es0 es1 b x1 x2 x3 x4 y5 y6
 ·rcases w6_ y1 with⟨z1,z2⟩|⟨z1,z2⟩
  ·subst z1
   exact rl.fresh j w b e1 (by rw[z2,W.putM_own e2]at yo;exact yo) y2
  ·exact rl.fresh j v b z2 yo y2
 ·obtain⟨j,v,es,y1,y2,y3⟩:=z
  rcases w6_ y1 with⟨z1,z2⟩|⟨z1,z2⟩
  ·rw[z1,h1]at y3;cases y3;exact ow
  ·exact⟨j,v,es,z2,y2,y3⟩
 ·rcases w6_ q with⟨z1,z2⟩|⟨z1,z2⟩
  ·subst z1
   exact⟨w,e1,by rw[z2,W.putM_par e2]at qp;exact qp⟩
  ·exact⟨v,z2,qp⟩
end
def asD:Rr×Env'->Option (D×Env')
 |(.d d,e)=>some (d,e)
 |_=>none
def asL:Rr×Env'->Option (List D×Env')
 |(.l d,e)=>some (d,e)
 |_=>none
def mCD(n:Nat)(f:Fn)(as:Mo (List Ar)):Mo D:=fun env=>(a2b n f as env).bind asD
def a0Y(n:Nat)(f:Fn)(as:Mo (List Ar)):Mo (List D):=fun env=>(a2b n f as env).bind asL
def b7m(K:Qz)(B:Addr->Prop)(G:Hp)(σ:St)(env:Env')(H:Hp)(env':Env')(Q:VK):Rr->Prop
 |.d d=>∀v G' H',Ev K B G σ env H G' σ env' H'->Rep K G' v d->Q v H'
 |.l ds=>∀a xs G' H',Ev K B G σ env H G' σ env' H'->H a=none-> ¬ Owned σ env' a->H' a=some (.lst xs)->G' a=none->z9_ K G' xs ds->Q (.ref a) H'
theorem a7N{K:Qz}{f:Fn}{env:Env'}{r:Rr}{E:XK}(rl:Rel K B G σ env H)(e:a2b n f as env=some (r,env'))
  (k:b7m K B G σ env H env' Q r):
  a7u (SpF K n f) [] E (TAm K B as) σ H Q:=by
 obtain⟨⟨av,env1⟩,e1,e2⟩:=q2_ e;dsimp only at e2;split at e2
 ·rename_i hn
  refine⟨G,env,av,env1,rl,e1,fun vs G1 H1 ev ra=>?_⟩
  show SpF K n f (vs++[]) H1 Q E;rw[Yn];have hnone:∀a,H1 a=none->H a=none:=fun a h=>by
   cases q:H a with
   |none=>rfl
   |some o=>exact absurd h (ev.live a (by rw[q];simp))
  split at e2
  ·rename_i hs
   obtain⟨⟨r',ws'⟩,e3,e4⟩:=x4_ e2;cases e4;refine⟨G1,av.map (u6_ (.l [])),r',ws',by rw[Qv];exact hn,a5Z,a6a (i:=0) (w:=.nil) ev.rel ra (fun k j e=>absurd e (a1F hs k j)) (fun k k' j j' e=>absurd e (a1F hs k j)),e3,?_⟩
   cases r' with
   |d d=>exact fun v G2 H2 ev2 rp=>k v G2 H2 (ev.trans (a6b ev.rel ra hs ev2)) rp
   |l ds=>
    intro a xs G2 H2 ev2 ha no h' g' rp;exact k a xs G2 H2 (ev.trans (a6b ev.rel ra hs ev2)) (hnone a ha) (ev.rel.unowned ha) h' g' rp
  ·rename_i i hs
   obtain⟨w,e3,e4⟩:=q2_ e2;obtain⟨c,e5,e6⟩:=q2_ e4;obtain⟨⟨r',ws'⟩,e7,e8⟩:=q2_ e6;obtain⟨c',e9,e10⟩:=x4_ e8;cases e10;obtain⟨kk,hk,uk⟩:=a7M hs;refine⟨G1,av.map (u6_ c),r',ws',by rw[Qv];exact hn,a5Z,a6a (i:=i) (w:=w) ev.rel ra (fun k j e=>⟨(uk k j e).2,e3,e5⟩) (fun k k' j j' h1 h2=>(uk k j h1).1.trans (uk k' j' h2).1.symm),e7,?_⟩
   cases r' with
   |d d=>exact fun v G2 H2 ev2 rp=>k v G2 H2 (ev.trans (b1h ev.rel ra hs e3 e5 e9 ev2)) rp
   |l ds=>
    intro a xs G2 H2 ev2 ha no h' g' rp;have evc:=b1h ev.rel ra hs e3 e5 e9 ev2;refine k a xs G2 H2 (ev.trans evc) (hnone a ha) (fun z=>?_) h' g' rp
    rcases evc.sub a z with q|q
    ·exact ev.rel.unowned ha q
    ·obtain⟨j,v,es,y1,y2,y3⟩:=z
     rcases w6_ y1 with⟨z1,z2⟩|⟨z1,z2⟩
     ·subst z1
      exact ev.rel.unowned ha ⟨j,w,c,e3,e5,y3⟩
     ·exact ev.rel.unowned ha ⟨j,v,es,z2,y2,y3⟩
  ·cases e2
 ·cases e2
section
variable{p:Pos}{fn:Fn}{k:Nat}{f:Addr}{fd:FuncData}{ps:List Str}
theorem b7n(F:FnOk X.prog X.w X.K X.mg X.base CX0 k f fd ps (SpF X.K ps.length fn))(hr:Room k X.A)(hg:Gl X x)(hm:X.mg x=some (.ref f))(hk:PySem.W.keepIn X.K (.ref f)=true)(hb:a0S X.K fd ps [])
  (ha:EAr X B (e::es) as)(hdb:(x==("__debug__":Str))=false:=by decide)(he:starEach (e::es) X.env=(false,eval e X.env)::starEach es X.env:=by rfl)(hpl:(backTo pos (starEach es X.env)).any (·.1)=false:=by rfl):
  ED X B (.Call (.Name x p) (e::es) [] pos) (mCD ps.length fn as):=by
 refine pe_imp (a5E F hr hg hm hk hb .nil a5J ha hdb he hpl) ?_
 rintro σ H Q ⟨G,env,d,env',rl,e,k⟩;obtain⟨⟨r,env1⟩,e1,e2⟩:=q2_ e;cases r with
 |d d'=>cases e2;exact a7N rl e1 k
 |l ds=>cases e2
theorem b7o(F:FnOk X.prog X.w X.K X.mg X.base CX0 k f fd ps (SpF X.K ps.length fn))(hr:Room k X.A)(hg:Gl X x)(hm:X.mg x=some (.ref f))(hk:PySem.W.keepIn X.K (.ref f)=true)(hb:a0S X.K fd ps [])
  (ha:EAr X B (e::es) as)(hdb:(x==("__debug__":Str))=false:=by decide)(he:starEach (e::es) X.env=(false,eval e X.env)::starEach es X.env:=by rfl)(hpl:(backTo pos (starEach es X.env)).any (·.1)=false:=by rfl):
  EL X B (.Call (.Name x p) (e::es) [] pos) (a0Y ps.length fn as):=by
 refine pe_imp (a5E F hr hg hm hk hb .nil a5J ha hdb he hpl) ?_
 rintro σ H Q ⟨G,env,d,env',rl,e,k⟩;obtain⟨⟨r,env1⟩,e1,e2⟩:=q2_ e;cases r with
 |d d'=>cases e2
 |l ds=>cases e2;exact a7N rl e1 k
end
def u3_(cells:List (Str×Addr)):List (Str×NameKind)->List (Str×Addr)->List (Str×Addr)
 |[],acc=>acc
 |(n,k)::r,acc=>if k==.free then(match cells.lookup n with
  |some c=>u3_ cells r ((n,c)::acc)
  |none=>u3_ cells r acc)else u3_ cells r acc
theorem a0s{n:Str}{a:α}{r:List (Str×α)}:((n,a)::r).lookup x=if x=n then some a else r.lookup x:=by
 rw[Xs]
 by_cases h:x=n
 ·subst h;simp
 ·have:(x==n)=false:=by simpa using h
  rw[this,Qe h]
theorem a2y{cells:List (Str×Addr)}:∀{names:List (Str×NameKind)}{acc:List (Str×Addr)}{x:Str}{c:Addr},(u3_ cells names acc).lookup x=some c->acc.lookup x=some c∨cells.lookup x=some c
 |[],acc,x,c,h=>.inl h
 |(n,k)::r,acc,x,c,h=>by
  unfold u3_ at h;split at h
  ·split at h
   ·rename_i c' hc
    rcases a2y h with q|q
    ·rw[a0s]at q
     split at q
     ·rename_i e;subst e;cases q;exact .inr hc
     ·exact .inl q
    ·exact .inr q
   ·exact a2y h
  ·exact a2y h
theorem a6c{cells:List (Str×Addr)}:∀{names:List (Str×NameKind)}{acc:List (Str×Addr)}{x:Str},(acc.lookup x).isSome=true->((u3_ cells names acc).lookup x).isSome=true
 |[],acc,x,h=>h
 |(n,k)::r,acc,x,h=>by
  unfold u3_;split
  ·split
   ·refine a6c ?_
    rw[a0s];split<;>simp[h]
   ·exact a6c h
  ·exact a6c h
theorem a3i{cells:List (Str×Addr)}:∀{names:List (Str×NameKind)}{acc:List (Str×Addr)}{x:Str},(x,NameKind.free)∈names->(cells.lookup x).isSome=true->((u3_ cells names acc).lookup x).isSome=true
 |[],acc,x,h,_=>by cases h
 |(n,k)::r,acc,x,h,hc=>by
  unfold u3_
  rcases Ql.mp h with e|h
  ·cases e
   rw[Qn (by decide)]
   split
   ·refine a6c ?_
    rw[a0s];simp
   ·rename_i hn;rw[hn]at hc;cases hc
  ·split
   ·split
    ·exact a3i h hc
    ·exact a3i h hc
   ·exact a3i h hc
theorem a7O:∀{names:List (Str×NameKind)}{h:Heap}{acc:List (Str×Addr)}{x:Str}{c:Addr},(cellsFrom h.objs.size names acc).lookup x=some c->
  acc.lookup x=some c∨((pushCells h names).IsCell c none/\h.objs.size≤c/\(x,NameKind.cell)∈names)
 |[],h,acc,x,c,q=>.inl q
 |(n,k)::r,h,acc,x,c,q=>by
  unfold cellsFrom at q;unfold pushCells;split at q
  ·rename_i hk
   rw[Qn hk];have hk':k=.cell:=by simpa using hk
   have ih:=a7O (names:=r) (h:=h.push {cls:=.type "cell",data:=.cell none}) (acc:=(n,h.objs.size)::acc) (x:=x) (c:=c) (by rw[Zc];exact q)
   rcases ih with z|⟨z1,z2,z3⟩
   ·rw[a0s]at z
    split at z
    ·rename_i e;subst e;cases z
     exact .inr ⟨⟨_,Ut _ _ _ _ (Qg _ rfl),rfl⟩,Qp _,by rw[hk'];exact Zd⟩
    ·exact .inl z
   ·rw[Zc]at z2
    exact .inr ⟨z1,by omega,Qs _ z3⟩
  ·rename_i hk
   rw[Qe hk]
   rcases a7O q with z|⟨z1,z2,z3⟩
   ·exact .inl z
   ·exact .inr ⟨z1,z2,Qs _ z3⟩
theorem a7P:∀{names:List (Str×NameKind)}{n:Nat}{acc:List (Str×Addr)},(∀x y c,acc.lookup x=some c->acc.lookup y=some c->x=y)->(∀x c,acc.lookup x=some c->c<n)->
  ∀x y c,(cellsFrom n names acc).lookup x=some c->(cellsFrom n names acc).lookup y=some c->x=y
 |[],n,acc,h1,h2=>h1
 |(m,k)::r,n,acc,h1,h2=>by
  unfold cellsFrom;split
  ·refine a7P (names:=r) (fun x y c q1 q2=>?_) (fun x c q=>?_)
   ·rw[a0s]at q1 q2
    split at q1<;>split at q2
    ·rename_i e1 e2;rw[e1,e2]
    ·cases q1;exact absurd (h2 _ _ q2) (Yi _)
    ·cases q2;exact absurd (h2 _ _ q1) (Yi _)
    ·exact h1 x y c q1 q2
   ·rw[a0s]at q
    split at q
    ·cases q;exact Vc _
    ·exact Vu (h2 _ _ q)
  ·exact a7P (names:=r) h1 h2
theorem a6d{env:Env}{x:Str}:∀{names:List (Str×NameKind)},((names.map fun(n,k)=>if(k==NameKind.free&&env.scope.kind==.function&&env.kindOf n==some .cell)then(n,NameKind.cell)else(n,k)).lookup x)=
  (names.lookup x).map fun k=>if(k==NameKind.free&&env.scope.kind==.function&&env.kindOf x==some .cell)then NameKind.cell else k
 |[]=>rfl
 |(n,k)::r=>by
  have ih:=a6d (env:=env) (x:=x) (names:=r)
  show List.lookup x ((if(k==NameKind.free&&env.scope.kind==.function&&env.kindOf n==some .cell)=true then(n,NameKind.cell)else(n,k))::_)=_
  by_cases hx:x=n
  ·subst hx
   rw[a0s (a:=k),Qn rfl]
   by_cases hc:(k==NameKind.free&&env.scope.kind==.function&&env.kindOf x==some .cell)=true
   ·rw[Qn hc,a0s,Qn rfl]
    show _=some (if(k==NameKind.free&&env.scope.kind==.function&&env.kindOf x==some .cell)=true then NameKind.cell else k)
    rw[Qn hc]
   ·rw[Qe hc,a0s,Qn rfl]
    show _=some (if(k==NameKind.free&&env.scope.kind==.function&&env.kindOf x==some .cell)=true then NameKind.cell else k)
    rw[Qe hc]
  ·rw[a0s (a:=k),Qe hx]
   by_cases hc:(k==NameKind.free&&env.scope.kind==.function&&env.kindOf n==some .cell)=true
   ·rw[Qn hc,a0s,Qe hx];exact ih
   ·rw[Qe hc,a0s,Qe hx];exact ih
theorem a6e:∀{names:List (Str×NameKind)}{n:Nat}{acc:List (Str×Addr)}{x:Str}{c0:Addr},acc.lookup x=some c0->∃c,(cellsFrom n names acc).lookup x=some c/\(c=c0∨n≤c)
 |[],n,acc,x,c0,h=>⟨c0,h,.inl rfl⟩
 |(m,k)::r,n,acc,x,c0,h=>by
  unfold cellsFrom;split
  ·by_cases hx:x=m
   ·obtain⟨c,h1,h2⟩:=a6e (names:=r) (n:=n+1) (acc:=(m,n)::acc) (x:=x) (c0:=n) (by rw[a0s,Qn hx])
    exact⟨c,h1,.inr (h2.elim (fun z=>Xd z.symm) fun z=>Jr z)⟩
   ·obtain⟨c,h1,h2⟩:=a6e (names:=r) (n:=n+1) (acc:=(m,n)::acc) (x:=x) (c0:=c0) (by rw[a0s,Qe hx];exact h)
    exact⟨c,h1,h2.elim .inl fun z=>.inr (Jr z)⟩
  ·exact a6e h
theorem a7Q:∀{names:List (Str×NameKind)}{n:Nat}{acc:List (Str×Addr)}{x:Str},(x,NameKind.cell)∈names->∃c,(cellsFrom n names acc).lookup x=some c/\n≤c
 |[],n,acc,x,h=>by cases h
 |(m,k)::r,n,acc,x,h=>by
  unfold cellsFrom
  rcases Ql.mp h with e|h
  ·cases e
   rw[Qn (by decide)]
   obtain⟨c,h1,h2⟩:=a6e (names:=r) (n:=n+1) (acc:=(m,n)::acc) (x:=m) (c0:=n) (by rw[a0s,Qn rfl])
   exact⟨c,h1,h2.elim (fun z=>Xd z.symm) fun z=>Jr z⟩
  ·split
   ·obtain⟨c,h1,h2⟩:=a7Q (names:=r) (n:=n+1) (acc:=(m,n)::acc) h
    exact⟨c,h1,Jr h2⟩
   ·exact a7Q h
def a3j(scope:Scope)(env:Env)(C:Addr):Env:=
 {scope:=relabel scope env,locals:=C,globals:=env.globals,cells:=cellsFrom (C+1) scope.names (u3_ env.cells scope.names []),qual:=env.qual,func:=none,code:=env.code,frame:=env.frame,builtins:=env.builtins}
def y7_(X:Cx)(N':List Str)(scope:Scope)(s:Shared)(H:Hp)(fp:List Addr):Cx where
 prog:=X.prog
 w:=X.w
 K:=X.K
 mg:=X.mg
 base:=X.base
 A:=X.A
 N:=N'
 s₀:=s
 H₀:=H
 env:=a3j scope X.env s.heap.objs.size
 outer:=X.stack
 stack:=X.stack
 ex:=fp
 fn:=fun x=>scope.names.lookup x==some .cell
 calm:=X.calm
 pn:=[]
 xe:=fun _ _=>False
structure CompOk(X:Cx)(N':List Str)(scope:Scope)(keep:List Bool)(more:Nat):Prop where
 kind:scope.kind=.function
 uniq:∀y∈scope.names,scope.names.lookup y.1=some y.2
 clos:closureFor scope X.env=pure (u3_ X.env.cells scope.names [])
 free:∀y∈scope.names,y.2=.free->(X.env.cells.lookup y.1).isSome=true
 klen:keep.length=X.N.length
 len:N'.length=X.N.length+more
 kept:∀(i:Nat) (x:Str),keep[i]? =some true->N'[i]? =some x->X.N[i]? =some x/\scope.names.lookup x≠some .local/\scope.names.lookup x≠some .cell
 outVis:∀(i:Nat) (x:Str),keep[i]? =some true->X.N[i]? =some x->scope.names.lookup x=some .free->X.env.scope.names.lookup x=some .cell∨X.env.scope.names.lookup x=some .free
def w0_(keep:List Bool)(more:Nat)(σ:St):St:=List.zipWith (fun k v=>if k then v else none) keep σ++List.replicate more none
theorem a3k{keep:List Bool}(h:(w0_ keep more σ)[i]? =some (some v)):keep[i]? =some true/\σ[i]? =some (some v):=by
 unfold w0_ at h
 rcases a2w h with⟨_,h⟩|⟨_,h⟩
 ·rw[Jx]at h
  cases e1:keep[i]? with
  |none=>rw[e1]at h;cases h
  |some k=>
   cases e2:σ[i]? with
   |none=>rw[e1,e2]at h;cases h
   |some u=>
    rw[e1,e2]at h;cases k with
    |true=>simp at h;exact⟨rfl,by rw[h]⟩
    |false=>simp at h
 ·cases h
theorem b1i{keep:List Bool}(ok:CompOk X N' scope keep more)(I:Inv X pins σ H s)
  (hf:∀b∈fp,w8_ X pins H b/\b<s.heap.objs.size):
  Inv (y7_ X N' scope s H fp) [] (w0_ keep more σ) H {s with heap:=pushCells (s.heap.push {cls:=.type "dict",data:=.dict #[]}) scope.names}:=by
 have hsz:(s.heap.push {cls:=.type "dict",data:=.dict #[]}).objs.size=s.heap.objs.size+1:=Zc ..
 have keepAll:∀b u,s.heap.get? b=some u->(pushCells (s.heap.push {cls:=.type "dict",data:=.dict #[]}) scope.names).get? b=some u:=fun b u e=>Ut _ _ _ _ (Qx _ e)
 have cases':∀x c,(a3j scope X.env s.heap.objs.size).cells.lookup x=some c->X.env.cells.lookup x=some c∨((pushCells (s.heap.push {cls:=.type "dict",data:=.dict #[]}) scope.names).IsCell c none/\s.heap.objs.size+1≤c/\(x,NameKind.cell)∈scope.names):=fun x c e=>by
  have e':(cellsFrom ((s.heap.push {cls:=.type "dict",data:=.dict #[]}).objs.size) scope.names (u3_ X.env.cells scope.names [])).lookup x=some c:=by rw[hsz];exact e
  rcases a7O e' with z|⟨z1,z2,z3⟩
  ·rcases a2y z with y|y
   ·cases y
   ·exact .inl y
  ·rw[hsz]at z2;exact .inr ⟨z1,z2,z3⟩
 have cellLt:∀x c,X.env.cells.lookup x=some c->c<s.heap.objs.size:=fun x c e=>by
  obtain⟨v,q⟩:=I.cell x c e;exact q.lt
 have fsSub:∀b∈frs X.stack,b<s.heap.objs.size:=fun b hb=>by
  obtain⟨_,o,ho,_⟩:=I.stack.mem hb;exact Qw ho
 refine⟨⟨I.ok.mod,?_,I.ok.glob,I.ok.blt,Qp _,fun x y c e1 e2=>?_,fun x hx=>?_,fun x c e1 e2=>?_,I.ok.hd,I.ok.frames,.inl rfl,fun b hb=>?_,I.bs,Zm I.ok.bsz I.sz,fun b o e hb=>?_,fun b hb hb2=>?_,I.stack,I.stkFree⟩,
  rfl,I.bare,Un.kept keepAll,⟨fun _=>none,(Heap.Ns.new s.heap (.type "dict")).keeps (Ut _ _),fun i x v e1 e2 e3=>?_⟩,fun x c e=>?_,I.hok.fresh (Qp _),fun x c e=>?_,fun p hp=>absurd (show p∈([]:List (Addr×Obj))from hp) (by simp),I.hok.kept keepAll,?_⟩
 ·show(relabel scope X.env).kind=.function
  exact ok.kind
 ·refine a7P (names:=scope.names) (n:=s.heap.objs.size+1) (acc:=u3_ X.env.cells scope.names []) (fun x y c q1 q2=>?_) (fun x c q=>?_) x y c e1 e2
  ·rcases a2y q1 with z1|z1
   ·cases z1
   ·rcases a2y q2 with z2|z2
    ·cases z2
    ·exact I.ok.inj x y c z1 z2
  ·rcases a2y q with z1|z1
   ·cases z1
   ·exact Vu (cellLt x c z1)
 ·have hx':(relabel scope X.env).names.lookup x=some .cell∨(relabel scope X.env).names.lookup x=some .free:=hx
  have h1:scope.names.lookup x=some .cell∨scope.names.lookup x=some .free:=by
   unfold relabel at hx';rw[a6d]at hx';cases q:scope.names.lookup x with
   |none=>rw[q]at hx';simp at hx'
   |some k=>
    rw[q]at hx';cases k<;>simp at hx'<;>first|exact .inl rfl|exact .inr rfl
  refine Yk.mp (Uy scope.names _ _ ?_)
  rcases h1 with h1|h1
  ·exact .inl h1
  ·exact .inr (a3i (Zz h1) (ok.free _ (Zz h1) rfl))
 ·have e1':scope.names.lookup x=some .cell:=by simpa [y7_]using e1
  obtain⟨c',q1,q2⟩:=a7Q (names:=scope.names) (n:=s.heap.objs.size+1) (acc:=u3_ X.env.cells scope.names []) (Zz e1');have e2':(cellsFrom (s.heap.objs.size+1) scope.names (u3_ X.env.cells scope.names [])).lookup x=some c:=e2;rw[q1]at e2';cases e2';exact Jr q2
 ·refine⟨Qd (hf b hb).2,fun x c e z=>?_⟩
  rcases cases' x c e with y|⟨_,y,_⟩
  ·exact(hf b hb).1.2.2.2.2.1 x c y z
  ·exact absurd (Qc (hf b hb).2 (Jr y)) (by rw[z];exact Yi _)
 ·have:=(I.bs b o e).1
  rcases(hf b hb).1.2.2.2.1 with z|z
  ·exact I.ok.noex b o e z
  ·exact absurd (Qc (Qw e) (Zm I.ok.bsz z)) (Yi _)
 ·rcases Ql.mp (I.stkSub b hb2)with z|z
  ·exact(hf b hb).1.2.1 z
  ·exact(hf b hb).1.2.2.1 z
 ·obtain⟨k1,k2⟩:=a3k e2
  obtain⟨h1,h2,h3⟩:=ok.kept i x k1 e1;have e3':(relabel scope X.env).names.lookup x=some .local∨(relabel scope X.env).names.lookup x=some .cell∨(relabel scope X.env).names.lookup x=some .free:=e3;have hfree:scope.names.lookup x=some .free:=by
   unfold relabel at e3';rw[a6d]at e3';cases q:scope.names.lookup x with
   |none=>rw[q]at e3';simp at e3'
   |some k=>
    rw[q]at e3' h2 h3;cases k<;>simp at e3' h2 h3<;>rfl
  obtain⟨m,hn,hl⟩:=I.loc;have ov:=ok.outVis i x k1 h1 hfree;obtain⟨u,r,l⟩:=hl i x v h1 k2 (.inr ov);refine⟨u,r,.inr ?_⟩;obtain⟨c0,hc0⟩:=Yk.mp (ok.free _ (Zz hfree) rfl);have hcell:s.heap.IsCell c0 (some u):=by
   rcases l with⟨kl,_⟩|⟨_,c,hc,hz⟩
   ·have kl':X.env.scope.names.lookup x=some .local:=kl
    rcases ov with z|z<;>(rw[z]at kl';cases kl')
   ·have hc':X.env.cells.lookup x=some c:=hc
    have hc0':X.env.cells.lookup x=some c0:=hc0
    rw[hc']at hc0';cases hc0';exact hz
  have hk:(a3j scope X.env s.heap.objs.size).kindOf x=some .cell∨(a3j scope X.env s.heap.objs.size).kindOf x=some .free:=by
   show(relabel scope X.env).names.lookup x=some .cell∨(relabel scope X.env).names.lookup x=some .free
   rcases e3' with z|z
   ·exfalso
    unfold relabel at z;rw[a6d,hfree]at z;simp only[Xe,Ze]at z;split at z<;>cases z
   ·exact z
  refine⟨hk,c0,?_,hcell.keeps keepAll⟩;obtain⟨c1,hc1⟩:=Yk.mp (Uy (x:=x) scope.names (s.heap.objs.size+1) (u3_ X.env.cells scope.names []) (.inr (a3i (Zz hfree) (ok.free _ (Zz hfree) rfl))));have hc1':(a3j scope X.env s.heap.objs.size).cells.lookup x=some c1:=hc1
  rcases cases' x c1 hc1' with z|⟨_,_,z⟩
  ·have hc0':X.env.cells.lookup x=some c0:=hc0
   rw[hc0']at z;cases z;exact hc1'
  ·have:=ok.uniq _ z
   rw[hfree]at this;cases this
 ·rcases cases' x c e with y|⟨y,_,_⟩
  ·obtain⟨v,q⟩:=I.cell x c y
   exact⟨v,q.keeps keepAll⟩
  ·exact⟨none,y⟩
 ·rcases cases' x c e with y|⟨_,y,_⟩
  ·exact I.freeC x c y
  ·exact I.hok.fresh (by omega)
 ·show(w0_ keep more σ).length=N'.length
  unfold w0_;rw[Qa,Yh,Za,ok.len,ok.klen,I.len]
  omega
section
variable{prog:Program}{w:World}{A:Around}{R:Result->Shared->Prop}
theorem b7p{target:Expr}{it acc:Value}{env:Env}(I:Nat->Shared->Prop)
  (turn:∀n s,I n s->wpAny (model prog w) A (pyNext it) (fun r s₁=>match r with
   |none=>R (.ok .next) s₁
   |some v=>wpAny (model prog w) A (letOwnedTupleGo target it v) (fun _ s₁'=>wpAny (model prog w) A (assign target env v) (fun _ s₂=>
     wpAny (model prog w) A (forIn ifs true fun c r=>if r=true then do let ok←isTrue c env (eval c env);pure (ForInStep.yield ok)else pure (ForInStep.yield r)) (fun ok s₃=>
      if ok=true then wpAny (model prog w) A (eval elt env) (fun x s₄=>
       wpAny (model prog w) A (call (.builtin "list.append") [acc,x]) (fun _ s₅=>∃m,m<n/\I m s₅) (fun _ _=>False) s₄) (fun _ _=>False) s₃
      else∃m,m<n/\I m s₃) (fun _ _=>False) s₂) (fun _ _=>False) s₁') (fun _ _=>False) s₁) (fun _ _=>False) s)
  (n:Nat)(h:I n s):
  codeAny (model prog w) A (.compLoop (.ListComp elt [⟨target,iter,ifs,0⟩] scope pos) 0 it acc env) R s:=by
 refine codeAny_loop rfl I (fun n s hI=>?_) n h
 show wpAny _ A ((compTurn (.ListComp elt [⟨target,iter,ifs,0⟩] scope pos) 0 it acc env).onRaise (fun x=>do noteFrame x env;theTreesLotGoes x)) _ _ s
 refine wpAny_noted ?_
 rw[compTurn_list];refine Qq (Jc (Qq (Qi (turn n s hI) (fun r s₁ h₁=>?_) fun _ _ h'=>h'.elim)))
 cases r with
 |none=>exact Qk h₁
 |some v=>
  refine Qq (Qi h₁ (fun _ s₁' h₁'=>?_) fun _ _ h'=>h'.elim)
  refine Qq (Qi h₁' (fun _ s₂ h₂=>Qq (Qi h₂ (fun ok s₃ h₃=>?_) fun _ _ h'=>h'.elim)) fun _ _ h'=>h'.elim)
  cases ok with
  |false=>exact Qk ⟨rfl,h₃⟩
  |true=>
   exact Qq (Qq (Qi h₃ (fun x s₄ h₄=>Qq (Qi h₄ (fun _ s₅ h₅=>Qk (Qk ⟨rfl,h₅⟩)) fun _ _ h'=>h'.elim)) fun _ _ h'=>h'.elim))
theorem b1j{M:Model}{env:Env}{Q:Env->Shared->Prop}(cl:List (Str×Addr))
  (h:Q {scope:=scope,locals:=s.heap.objs.size,globals:=env.globals,cells:=cellsFrom (s.heap.objs.size+1) scope.names cl,qual:=env.qual,func:=none,code:=env.code,frame:=env.frame,builtins:=env.builtins}
   {s with heap:=pushCells (s.heap.push {cls:=.type "dict",data:=.dict #[]}) scope.names}):
  wpAny M A (newFunctionEnv scope env.globals cl [] env.qual none .none (some env)) Q E s:=by
 simp only[newFunctionEnv,Option.isSome_some,Zu];refine Qq (wpAny_alloc ?_);refine Qq (wpAny_layCells _ (fun name kind cells=>by cases hkc:kind==NameKind.cell<;>simp[hkc]) _ _ _ _ ?_)
 rw[show({s with heap:=s.heap.push {cls:=.type "dict",data:=.dict #[]}}:Shared).heap.objs.size=s.heap.objs.size+1 from Zc ..]
 exact Qq (by rw[Vw];exact Qk (Qk h))
end
def a0m(X:Cx)(ifs:List Expr)(t:TT):Prop:=
 ∀(pins:List (Addr×Obj)) (s:Shared) (σ:St) (H:Hp) (Q:Bool->Hp->Prop),Inv X pins σ H s->t σ H Q->
  wpAny (model X.prog X.w) X.A (forIn ifs true fun c r=>if r=true then do let ok←isTrue c X.env (eval c X.env);pure (ForInStep.yield ok)else pure (ForInStep.yield r)) (TP X pins σ Q) X.xe s
theorem b7q:a0m X [] (fun _ H Q=>Q true H):=fun _ _ _ H _ I h=>wpAny_tests_nil ⟨H,I,h⟩
theorem b7r{c:Expr}{t:TT}(h:PT X c t):a0m X [c] t:=fun pins s σ H Q I q=>wpAny_tests_one (h pins s σ H Q I q)
def b1k(J:It)(g:TG)(tt:TT)(te:TE)(p:Addr)(σ₀:St)(H₀:Hp)(Q:Hp->Prop):Prop:=
 ∃W:Nat->Nat->St->Hp->Prop,(∃m,W 0 m σ₀ (upd H₀ p (.lst [])))/\∀i m σ H,W i m σ H->
  (J.stop i H/\Q H)∨(J.go i H/\∀x H',J.yld i H x H'->g x σ H' fun σ2 H2=>tt σ2 H2 fun b H3=>
   if b=true then te σ2 H3 fun y H4=>∃ys,H4 p=some (.lst ys)/\ys.length<sizeLine/\∃m',m'<m/\W (i+1) m' σ2 (upd H4 p (.lst (ys++[y])))
   else∃m',m'<m/\W (i+1) m' σ2 H3)
section
variable{keep:List Bool}{g:TG}{tt:TT}{te:TE}
theorem b1l{it:Addr}{tn:Nat->Heap->Prop}{J:It}{Qf:Addr->Hp->Prop}{RR:Value->Addr->Result->Shared->Prop}
  (ok:CompOk X N' scope keep more)(hc:X.calm=true)(hg:∀s H fp,PG (y7_ X N' scope s H fp) tg g)(ht:∀s H fp,a0m (y7_ X N' scope s H fp) ifs tt)(he:∀s H fp,PE (y7_ X N' scope s H fp) elt te)
  (I:Inv X pins σ H s)(T:Turn X.prog X.w X.K tg J fp it tn)(st:tn 0 s.heap)(hf:∀b∈fp,w8_ X pins H b)
  (run:∀p,H p=none->b1k J g tt te p (w0_ keep more σ) H (Qf p))
  (hRR:∀p C s' H' m,Inv X pins σ H' s'->Qf p H'->s'.heap.Ns C m->C≠X.env.locals->(∀x c,X.env.cells.lookup x=some c->c≠C)->H' C=none->(∀σ'' H'' s'' h',Inv X pins σ'' H'' s''->H'' C=none->Heap.SameBut C s''.heap h'->Inv X pins σ'' H'' {s'' with heap:=h'})->RR (.ref p) C (.ok .next) s'):
  wpAny (model X.prog X.w) X.A (newList []) (fun acc s₃=>wpAny (model X.prog X.w) X.A (newFunctionEnv scope X.env.globals (u3_ X.env.cells scope.names []) [] X.env.qual none .none (some X.env)) (fun cenv s₄=>
   codeAny (model X.prog X.w) X.A (.compStart (.ListComp elt [⟨tg,iter,ifs,0⟩] scope pos) 0 (.ref it) acc {cenv with scope:=relabel scope X.env}) (RR acc cenv.locals) s₄) E s₃) E s:=by
 have hp0:H s.heap.objs.size=none:=I.hok.fresh (Qp _)
 refine Zl ?_
 have I3:Inv X pins σ (upd H s.heap.objs.size (.lst [])) {s with heap:=s.heap.push {cls:=.type "list",dict:=none,data:=.seq ([]:List Value).toArray}}:=
  I.laid (t':=s.toks) (fun b u e=>Qx _ e) (Qp _) ⟨Jt _,[],0,.nil,Qg _ rfl⟩
 have fpOld:∀b∈fp,b<s.heap.objs.size:=fun b hb=>by
  obtain⟨o,e,_⟩:=T.obj 0 _ st b hb;exact Qw e
 have hf3:∀b∈fp,w8_ X pins (upd H s.heap.objs.size (.lst [])) b/\b<(s.heap.push {cls:=.type "list",dict:=none,data:=.seq ([]:List Value).toArray}).objs.size:=fun b hb=>by
  refine⟨⟨by rw[q5_ (Qd (fpOld b hb))];exact(hf b hb).1,(hf b hb).2⟩,?_⟩
  rw[Zc];exact Vu (fpOld b hb)
 have st3:tn 0 (s.heap.push {cls:=.type "list",dict:=none,data:=.seq ([]:List Value).toArray}):=T.keep 0 _ _ st fun b hb o e=>Qx _ e
 generalize hs3:({s with heap:=s.heap.push {cls:=.type "list",dict:=none,data:=.seq ([]:List Value).toArray}}:Shared)=s3 at I3 ⊢
 have hs3h:s3.heap=s.heap.push {cls:=.type "list",dict:=none,data:=.seq ([]:List Value).toArray}:=by rw[←hs3]
 rw[←hs3h]at hf3 st3;generalize hp:s.heap.objs.size=p at hp0 I3 hf3 ⊢;generalize hH3:upd H p (.lst [])=H3 at I3 hf3;refine b1j _ ?_
 have I4:=b1i ok I3 hf3
 generalize hs4:({s3 with heap:=pushCells (s3.heap.push {cls:=.type "dict",data:=.dict #[]}) scope.names}:Shared)=s4 at I4 ⊢
 have st4:tn 0 s4.heap:=T.keep 0 _ _ st3 fun b hb o e=>by rw[←hs4];exact Ut _ _ _ _ (Qx _ e)
 obtain⟨W,⟨m0,w0⟩,turn⟩:=run p hp0;have stat:∀{H':Hp},(∀b∈fp,H' b=none)->∀b∈fp,w8_ (y7_ X N' scope s3 H3 fp) [] H' b:=fun hn b hb=>by
  have z:=I4.ok.exf b hb
  exact⟨hn b hb,z.1,I4.ok.exfs b hb,.inl hb,z.2,fun p hp=>absurd (show p∈([]:List (Addr×Obj))from hp) (by simp)⟩
 have loop:codeAny (model X.prog X.w) X.A (.compLoop (.ListComp elt [⟨tg,iter,ifs,0⟩] scope pos) 0 (.ref it) (.ref p) (a3j scope X.env s3.heap.objs.size)) (RR (.ref p) s3.heap.objs.size) s4:=by
  refine b7p (fun n s'=>∃i σ' H',Inv (y7_ X N' scope s3 H3 fp) [] σ' H' s'/\tn i s'.heap/\(∀b∈fp,H' b=none)/\W i n σ' H') ?_ m0 ⟨0,_,H3,I4,st4,fun b hb=>(hf3 b hb).1.1,by rw[←hH3];exact w0⟩
  rintro n s5 ⟨i,σ5,H5,I5,st5,fr5,w5⟩
  rcases turn i n σ5 H5 w5 with⟨stop,qf⟩|⟨go,step⟩
  ·refine thn (T.done (y7_ X N' scope s3 H3 fp) rfl rfl rfl hc i [] s5 σ5 H5 (fun _ _=>False) I5 (stat fr5) st5 stop) fun r s6 ⟨hr,I6⟩=>?_
   subst hr;obtain⟨m6,hn6,_⟩:=I6.loc;have hch:∀b∈fp,(b∈X.ex∨X.s₀.heap.objs.size≤b)/\b≠X.env.locals/\(∀x c,X.env.cells.lookup x=some c->c≠b)/\∀p∈X.pn++pins,p.1≠b:=fun b hb=>by
    obtain⟨_,f1,_,f3,f4,f5⟩:=hf b hb;exact⟨f3,f1,f4,f5⟩
   have IX:Inv X pins σ H5 s6:=I3.call' (s':=s6) (I6.os) (I6.base) I6.hok I6.bare hch
   have szC:X.s₀.heap.objs.size≤s3.heap.objs.size:=I3.sz
   have hCL:s3.heap.objs.size≠X.env.locals:=Ua I3.lt
   have hCc:∀x c,X.env.cells.lookup x=some c->c≠s3.heap.objs.size:=fun x c e=>by
    obtain⟨v,q⟩:=I3.cell x c e;exact Qd q.lt
   have hCp:∀q∈X.pn++pins,q.1≠s3.heap.objs.size:=fun q hq=>Qd (Qw (I3.pin q hq).1)
   refine hRR p s3.heap.objs.size s6 H5 m6 IX qf hn6 hCL hCc I6.free fun σ'' H'' s'' h' I'' hn hs=>?_
   exact I''.turned (t':=s''.toks) (it:=s3.heap.objs.size) (fun b o hb e=>(hs.2 b hb).trans e) hn hCL (.inr szC) hCc hCp
  ·refine thn (T.item (y7_ X N' scope s3 H3 fp) rfl rfl rfl hc i [] s5 σ5 H5 (fun _ _=>False) I5 (stat fr5) st5 go) fun r s6 ⟨u,hr,h6⟩=>?_
   subst hr;refine thn h6 fun _ s7 ⟨x,H7,I7,r7,y7,st7,fr7⟩=>?_
   have I7':=I7.pinned (stat fr7) (T.obj _ _ st7)
   have back:∀{σ8:St}{H8:Hp}{s8:Shared}{m':Nat},Inv (y7_ X N' scope s3 H3 fp) ([]++a2Y fp s7.heap) σ8 H8 s8->m'<n->W (i+1) m' σ8 H8->∃m,m<n/\∃i σ' H',Inv (y7_ X N' scope s3 H3 fp) [] σ' H' s8/\tn i s8.heap/\(∀b∈fp,H' b=none)/\W i m σ' H':=fun{σ8 H8 s8 m'} I8 hm w8=>by
    refine⟨m',hm,i+1,σ8,H8,I8.unpinned,T.keep _ _ _ st7 fun b hb o e=>(I8.pin (b,o) (Qt _ (Qt _ (a2t hb e)))).1,fun b hb=>?_,w8⟩
    obtain⟨o,e,d⟩:=T.obj _ _ st7 b hb;exact(I8.pin (b,o) (Qt _ (Qt _ (a2t hb e)))).2.1
   refine thn (hg s3 H3 fp _ s7 σ5 H7 x u _ I7' r7 (step x H7 y7)) fun _ s8 ⟨σ8,H8,I8,q8⟩=>?_
   refine thn (ht s3 H3 fp _ s8 σ8 H8 _ I8 q8) fun b s9 ⟨H9,I9,q9⟩=>?_
   cases b with
   |false=>
    simp only[Qo,Zo]at q9 ⊢;obtain⟨m',hm,w9⟩:=q9;exact back I9 hm w9
   |true=>
    simp only[Zu]at q9 ⊢;refine thn (he s3 H3 fp _ s9 σ8 H9 _ I9 q9) fun v s10 ⟨y,H10,I10,r10,ys,hys,hl,m',hm,w10⟩=>?_
    exact thn (a7y (X:=y7_ X N' scope s3 H3 fp) _ s10 σ8 H10 (.ref p) [y] (.ref p) [v] (fun _ H11=>W (i+1) m' σ8 H11) I10 rfl (.cons r10 .nil) ⟨p,ys,y,rfl,rfl,hys,hl,w10⟩) fun _ s11 ⟨_,H11,I11,_,w11⟩=>back I11 hm w11
 refine codeAny_compStart_list loop ?_
 exact Qi (T.self X.A 0 s4 _ (fun _ _=>False) st4 loop) (fun _ _ q=>q) fun _ _ q=>q.elim
def a6f(wi:TI)(keep:List Bool)(more:Nat)(g:TG)(tt:TT)(te:TE):TE:=fun σ H Q=>wi σ H fun J H1=>∀p,H1 p=none->b1k J g tt te p (w0_ keep more σ) H1 (Q (.ref p))
theorem b7s(ok:CompOk X N' scope keep more)(hc:X.calm=true)(hi:PI X tg iter wi)(hg:∀s H fp,PG (y7_ X N' scope s H fp) tg g)(ht:∀s H fp,a0m (y7_ X N' scope s H fp) ifs tt)(he:∀s H fp,PE (y7_ X N' scope s H fp) elt te)
  (hs:∀x,foldedSetIterable iter X.env x=pure x:=by intro _;rfl):PE X (.ListComp elt [⟨tg,iter,ifs,0⟩] scope pos) (a6f wi keep more g tt te):=by
 intro pins s σ H Q I h;rw[eval_ListComp];refine Vq (use:=none) rfl hs ok.clos ok.kind (fun x hx hl=>by have:=ok.uniq x hx;rwa [hl]at this) (thn (hi pins s σ H _ I h) fun v s1 h1=>thn h1 fun itv s2 h2=>?_)
 obtain⟨it,fp,tn,J,H2,e,I2,T,st2,f2,run⟩:=h2;subst e;refine b1l (Qf:=fun p H'=>Q (.ref p) H') (RR:=fun acc C=>compPost (model X.prog X.w) X.A X.xe none (EP X pins σ Q) acc C) ok hc hg ht he I2 T st2 f2 run ?_
 intro p C s' H' m IX qf hn hCL hCc hCn turn;exact⟨m,hn,fun h' hs'=>⟨.ref p,H',turn σ H' s' h' IX hCn hs',rfl,qf⟩⟩
theorem b1m(ok:CompOk X N' scope keep more)(hc:X.calm=true)(hN:X.N.Nodup)(hy:X.N[i]? =some y)(hyl:X.env.scope.names.lookup y=some .local)
  (hsw:swapsWith (.ListComp elt [⟨tg,iter,ifs,0⟩] scope pos) (some (.Name y py)) spos.line X.env=pure true)
  (hi:PI X tg iter wi)(hg:∀s H fp,PG (y7_ X N' scope s H fp) tg g)(ht:∀s H fp,a0m (y7_ X N' scope s H fp) ifs tt)(he:∀s H fp,PE (y7_ X N' scope s H fp) elt te)
  (hs:∀x,foldedSetIterable iter X.env x=pure x:=by intro _;rfl):PS X (.Assign [.Name y py] (.ListComp elt [⟨tg,iter,ifs,0⟩] scope pos) spos) (a7l (a6f wi keep more g tt te) (a7k i)):=by
 intro pins s σ H D I h;rw[exec_Assign_Name_used _ _ _ _ hsw];refine Qq (Jc (Qq ?_));show wpAny _ X.A (do let _←comprehension (.ListComp elt [⟨tg,iter,ifs,0⟩] scope pos) scope X.env _ (newList []) false (eval iter X.env) (some (assign (.Name y py) X.env))) _ _ s
 refine Qq (Qi (Vq (use:=some (assign (.Name y py) X.env)) (Q:=fun _ s'=>SP X pins D .next s') rfl hs ok.clos ok.kind (fun x hx hl=>by have:=ok.uniq x hx;rwa [hl]at this) (thn (hi pins s σ H _ I h) fun v s1 h1=>thn h1 fun itv s2 h2=>?_)) (fun _ s' hq=>Qk (Qk hq)) fun _ _ e=>e)
 obtain⟨it,fp,tn,J,H2,e,I2,T,st2,f2,run⟩:=h2;subst e;refine b1l (Qf:=fun p H'=>D.nx (σ.set i (some (.ref p))) H') (RR:=fun acc C=>compPost (model X.prog X.w) X.A X.xe (some (assign (.Name y py) X.env)) (fun _ s'=>SP X pins D .next s') acc C) ok hc hg ht he I2 T st2 f2 run ?_
 intro p C s' H' m IX qf hn hCL hCc hCn turn;refine wpAny_assign_Name (b0b (v:=.ref p) (u:=.ref p) IX hN hy (.inl hyl) rfl (fun s'' I'' hs''=>?_) (.inr hyl))
 obtain⟨a,hsb,ha⟩:=hs'';have hCa:C≠a:=by
  rcases ha with z|z
  ·rw[z];exact hCL
  ·exact fun q=>hCc y a z q.symm
 exact⟨m,hn.sameBut hsb hCa,fun h' hs'=>⟨_,H',turn _ H' s'' h' I'' hCn hs',qf⟩⟩
end
def k5_(keep:List Bool)(more:Nat)(env:Env'):Env':=List.zipWith (fun k w=>if k then w else .nil) keep env++List.replicate more .nil
def a0N:Bool->W->W->Option W
 |false,w,_=>some w
 |true,.nil,_=>some .nil
 |true,.dat d,_=>some (.dat d)
 |true,.own _,.own ds=>some (.own ds)
 |true,.own _,.dat d=>some (.dat d)
 |true,.par _,.par ds=>some (.par ds)
 |true,.ownD _ _,.ownD ks vs=>some (.ownD ks vs)
 |true,.ownD _ _,.dat d=>some (.dat d)
 |true,.parD _ _,.parD ks vs=>some (.parD ks vs)
 |_,_,_=>none
theorem b1n{w w':W}(h:a0N true w w2=some w')(e:w'.mut=some m):w2=w'/\∃d0,w.mut=some d0/\w.isOwn=w'.isOwn/\w.isPar=w'.isPar:=by
 cases w<;>cases w2<;>first
  |(simp only[a0N,Ze]at h;subst h;exact⟨rfl,_,rfl,rfl,rfl⟩)
  |(simp only[a0N,Ze]at h;subst h;cases e;done)
  |(simp[a0N]at h;done)
theorem b7t{w:W}(h:a0N true w w2=some (.dat d)):w=.dat d∨(w2=.dat d/\∃d0,w.mut=some d0):=by
 cases w<;>cases w2<;>first
  |(simp only[a0N,Ze]at h;exact .inl h)
  |(simp only[a0N,Ze]at h;exact .inr ⟨h,_,rfl⟩)
  |(simp[a0N]at h;done)
def w3_:List Bool->Env'->Env'->Option Env'
 |[],[],_=>some []
 |k::ks,w::ws,w2::ws2=>(a0N k w w2).bind fun x=>(w3_ ks ws ws2).map fun r=>x::r
 |_,_,_=>none
theorem a6g:∀{keep:List Bool}{env env2 env':Env'}{i:Nat}{w':W},w3_ keep env env2=some env'->env'[i]? =some w'->∃k w w2,keep[i]? =some k/\env[i]? =some w/\env2[i]? =some w2/\a0N k w w2=some w'
 |[],[],_,env',i,w',h,e=>by simp only[w3_,Ze]at h;subst h;simp at e
 |[],_::_,_,env',i,w',h,e=>by simp[w3_]at h
 |k::ks,[],_,env',i,w',h,e=>by simp[w3_]at h
 |k::ks,w::ws,[],env',i,w',h,e=>by simp[w3_]at h
 |k::ks,w::ws,w2::ws2,env',i,w',h,e=>by
  unfold w3_ at h;obtain⟨x,h1,h2⟩:=q2_ h;obtain⟨r,h3,h4⟩:=x4_ h2;subst h4;cases i with
  |zero=>simp at e;subst e;exact⟨k,w,w2,rfl,rfl,rfl,h1⟩
  |succ i=>simpa using a6g (i:=i) h3 (by simpa using e)
theorem b1o:∀{keep:List Bool}{env env2 env':Env'},w3_ keep env env2=some env'->env'.length=env.length
 |[],[],_,env',h=>by simp only[w3_,Ze]at h;subst h;rfl
 |[],_::_,_,env',h=>by simp[w3_]at h
 |k::ks,[],_,env',h=>by simp[w3_]at h
 |k::ks,w::ws,[],env',h=>by simp[w3_]at h
 |k::ks,w::ws,w2::ws2,env',h=>by
  unfold w3_ at h;obtain⟨x,h1,h2⟩:=q2_ h;obtain⟨r,h3,h4⟩:=x4_ h2;subst h4
  simp[b1o h3]
theorem a3l{keep:List Bool}{env:Env'}{w:W}(h:(k5_ keep more env)[i]? =some w)(hw:w≠.nil):keep[i]? =some true/\env[i]? =some w:=by
 unfold k5_ at h
 rcases a2w h with⟨_,h⟩|⟨_,h⟩
 ·rw[Jx]at h
  cases e1:keep[i]? with
  |none=>rw[e1]at h;cases h
  |some k=>
   cases e2:env[i]? with
   |none=>rw[e1,e2]at h;cases h
   |some u=>
    rw[e1,e2]at h;cases k with
    |true=>simp at h;exact⟨rfl,by rw[h]⟩
    |false=>simp at h;exact absurd h.symm hw
 ·exact absurd h hw
theorem a4Q{keep:List Bool}{v:Option V}(hk:keep[i]? =some true)(h:σ[i]? =some v):(w0_ keep more σ)[i]? =some v:=by
 unfold w0_;have h1:i<keep.length:=(Qb.mp hk).1;have h2:i<σ.length:=(Qb.mp h).1;rw[Jw (by rw[Yh];omega),Jx,hk,h]
 rfl
theorem a4R{w:W}{ds:Mu}(h:w.mut=some ds):w≠.nil:=fun z=>by rw[z]at h;cases h
section
variable{K:Qz}{env env2:Env'}{keep:List Bool}
theorem a4S{a:Addr}(h:Owned (w0_ keep more σ) (k5_ keep more env) a):Owned σ env a:=by
 obtain⟨i,w,ds,e1,e2,e3⟩:=h;exact⟨i,w,ds,(a3l e1 (a4R e2)).2,e2,(a3k e3).2⟩
theorem Rel.ext(r:Rel K B G σ env H)(hk:keep.length=σ.length):Rel K B G (w0_ keep more σ) (k5_ keep more env) H:=by
 refine⟨r.sub,?_,fun i d e=>?_,fun i w ds e1 e2=>?_,fun i j w w' ds es a q1 q2 q3 q4 q5 q6=>?_,fun i w a q1 qo q2=>?_,r.old,r.tabs,r.gnt⟩
 ·unfold k5_ w0_
  rw[Qa,Qa,Yh,Yh,Za,Za,r.len]
 ·obtain⟨k1,k2⟩:=a3l e (by simp)
  obtain⟨v,e1,e2⟩:=r.dat i d k2;exact⟨v,a4Q k1 e1,e2⟩
 ·obtain⟨k1,k2⟩:=a3l e1 (a4R e2)
  obtain⟨a,xs,e3,e4⟩:=r.own i w ds k2 e2;exact⟨a,xs,a4Q k1 e3,e4⟩
 ·exact r.inj i j w w' ds es a (a3l q1 (a4R q2)).2 q2 (a3l q3 (a4R q4)).2 q4 (a3k q5).2 (a3k q6).2
 ·exact r.fresh i w a (a3l q1 (by rintro rfl;cases qo)).2 qo (a3k q2).2
theorem Ev.out(r:Rel K B G σ env H)(hk:keep.length=σ.length)(ev:Ev K B G (w0_ keep more σ) (k5_ keep more env) H G' σ' env2 H')(hσ:∀j,j<σ.length->σ'[j]? =(w0_ keep more σ)[j]?)(ho:w3_ keep env env2=some env'):
  Ev K B G σ env H G' σ env' H':=by
 have mutO:∀(i:Nat) (w':W) (ds:Mu),env'[i]? =some w'->w'.mut=some ds->∃w0 d0,env[i]? =some w0/\w0.mut=some d0/\w0.isOwn=w'.isOwn/\w0.isPar=w'.isPar/\
   ∃a o,σ[i]? =some (some (V.ref a))/\H' a=some o/\RepM K G' o ds/\G' a=none:=fun i w' ds e1 e2=>by
  obtain⟨k,w,w2,h1,h2,h3,h4⟩:=a6g ho e1;have hi:i<σ.length:=by have:=(Qb.mp h2).1;rw[←r.len];exact this
  cases k with
  |false=>
   simp only[a0N,Ze]at h4;subst h4;obtain⟨a,xs,q1,q2,q3,q4⟩:=r.own i w ds h2 e2;have no:¬ Owned (w0_ keep more σ) (k5_ keep more env) a:=by
    rintro⟨j,v,es,y1,y2,y3⟩;obtain⟨z1,z2⟩:=a3l y1 (a4R y2);have:=r.inj j i v w es ds a z2 y2 h2 e2 (a3k y3).2 q1;subst this;rw[h1]at z1;cases z1
   exact⟨w,ds,h2,e2,rfl,rfl,a,xs,q1,ev.keep a _ no q3.nt q2,q3.mono ev.same,ev.stay a (by rw[q2];simp) no q4⟩
  |true=>
   obtain⟨z,d0,z1,z2,z3⟩:=b1n h4 e2;subst z;refine⟨w,d0,h2,z1,z2,z3,?_⟩;obtain⟨a,xs,q1,q2,q3,q4⟩:=ev.rel.own i w2 ds h3 e2;obtain⟨a0,xs0,p1,_⟩:=r.own i w d0 h2 z1;rw[hσ i hi,a4Q h1 p1]at q1;cases q1;exact⟨a,xs,p1,q2,q3,q4⟩
 refine⟨⟨ev.rel.sub,by rw[b1o ho];exact r.len,fun i d e=>?_,fun i w ds e1 e2=>?_,fun i j w w' ds es a q1 q2 q3 q4 q5 q6=>?_,fun i w a q1 qo q2=>?_,ev.rel.old,ev.rel.tabs,ev.rel.gnt⟩,ev.same,fun b o n t e=>ev.keep b o (fun z=>n (a4S z)) t e,ev.live,fun b e n g=>ev.stay b e (fun z=>n (a4S z)) g,fun a z=>.inl ?_,fun i w e hp=>⟨rfl,?_⟩,rfl⟩
 ·obtain⟨k,w,w2,h1,h2,h3,h4⟩:=a6g ho e
  have hi:i<σ.length:=by have:=(Qb.mp h2).1;rw[←r.len];exact this
  have old:w=.dat d->∃v,σ[i]? =some (some v)/\Rep K G' v d:=fun z=>by
   subst z;obtain⟨v,e1,e2⟩:=r.dat i d h2;exact⟨v,e1,Rep.mono ev.same d e2⟩
  cases k with
  |false=>simp only[a0N,Ze]at h4;exact old h4
  |true=>
   rcases b7t h4 with z|⟨z,d0,z0⟩
   ·exact old z
   ·subst z
    obtain⟨v,q1,q2⟩:=ev.rel.dat i d h3;obtain⟨a0,xs0,p1,_⟩:=r.own i _ d0 h2 z0;rw[hσ i hi,a4Q h1 p1]at q1;cases q1;exact⟨_,p1,q2⟩
 ·obtain⟨w0,d0,_,_,_,_,q⟩:=mutO i w ds e1 e2
  exact q
 ·obtain⟨w0,d0,y1,y2,_⟩:=mutO i w ds q1 q2
  obtain⟨w1,d1,y3,y4,_⟩:=mutO j w' es q3 q4;exact r.inj i j w0 w1 d0 d1 a y1 y2 y3 y4 q5 q6
 ·obtain⟨m,hm⟩:=own_mut qo
  obtain⟨w0,d0,y1,_,y3,_⟩:=mutO i _ m q1 hm;exact r.fresh i w0 a y1 (y3.trans qo) q2
 ·obtain⟨i,w,ds,e1,e2,e3⟩:=z
  obtain⟨w0,d0,y1,y2,_⟩:=mutO i w ds e1 e2;exact⟨i,w0,d0,y1,y2,e3⟩
 ·obtain⟨m,hm⟩:=par_mut hp
  obtain⟨w0,d0,y1,_,_,y4,_⟩:=mutO i _ m e hm;exact⟨w0,y1,y4.trans hp⟩
theorem Ev.swapAt(ev:Ev K B G σ env H G' σ' env' H')(no:¬ Owned σ env p)(hp:H p≠none)(gp:G p=none)(nt:NT o)(nx:∀φ,H' p≠some (.ext φ)):Ev K B G σ env (upd H p o) G' σ' env' (upd H' p o):=by
 have np:∀(i:Nat) (w:W) (ds:Mu) (a:Addr),env'[i]? =some w->w.mut=some ds->σ'[i]? =some (some (V.ref a))->a≠p:=fun i w ds a e1 e2 e3 z=>by
  rcases ev.sub a ⟨i,w,ds,e1,e2,e3⟩with q|q
  ·exact no (z ▸ q)
  ·exact hp (z ▸ q)
 have gp':G' p=none:=ev.stay p hp no gp
 have live':∀b,H' b≠none->(upd H' p o) b≠none:=fun b h=>by
  by_cases hb:b=p
  ·subst hb;rw[y5_];simp
  ·rw[q5_ hb];exact h
 refine⟨⟨fun b u e=>?_,ev.rel.len,ev.rel.dat,fun i w ds e1 e2=>?_,ev.rel.inj,ev.rel.fresh,fun b h=>live' b (ev.rel.old b h),ev.rel.tabs.upd nt nx,ev.rel.gnt⟩,ev.same,fun b u n t e=>?_,fun b e=>?_,fun b e n g=>?_,fun a z=>?_,ev.par,ev.slen⟩
 ·have hb:b≠p:=fun z=>by rw[z,gp']at e;cases e
  rw[q5_ hb];exact ev.rel.sub b u e
 ·obtain⟨a,xs,e3,e4,e5,e6⟩:=ev.rel.own i w ds e1 e2
  exact⟨a,xs,e3,by rw[q5_ (np i w ds a e1 e2 e3)];exact e4,e5,e6⟩
 ·by_cases hb:b=p
  ·subst hb;rw[y5_]at e ⊢;exact e
  ·rw[q5_ hb]at e ⊢;exact ev.keep b u n t e
 ·by_cases hb:b=p
  ·subst hb;rw[y5_];simp
  ·rw[q5_ hb]at e ⊢;exact ev.live b e
 ·by_cases hb:b=p
  ·subst hb;exact gp'
  ·rw[q5_ hb]at e;exact ev.stay b e n g
 ·obtain⟨i,w,ds,e1,e2,e3⟩:=id z
  rw[q5_ (np i w ds a e1 e2 e3)];exact ev.sub a z
end
def g2_(g:D->Env'->Option Env')(t:Mo Bool)(m:Mo D):List D->Mo (List D)
 |[],env=>some ([],env)
 |d::ds,env=>(g d env).bind fun e1=>(t e1).bind fun p=>if p.1 then(m p.2).bind fun q=>(g2_ g t m ds q.2).map fun r=>(q.1::r.1,r.2)else g2_ g t m ds p.2
def v9_(mi:Mo (List D))(keep:List Bool)(more:Nat)(g:D->Env'->Option Env')(t:Mo Bool)(m:Mo D):Mo (List D):=fun env=>(mi env).bind fun p=>if p.1.length≤100000 then
 (g2_ g t m p.1 (k5_ keep more p.2)).bind fun q=>(w3_ keep p.2 q.2).map fun e=>(q.1,e)else none
def v6_:Mo Bool:=fun env=>some (true,env)
theorem k9_:a0m X [] (TTm X.K B v6_):=fun pins s σ H Q I h=>by
 obtain⟨G,env,b,env',rl,e,k⟩:=h;cases e;exact b7q pins s σ H Q I (k G H (.refl rl))
theorem a6h{c:Expr}{t:Mo Bool}(h:ET X B c t):a0m X [c] (TTm X.K B t):=b7r h
theorem b1p{K:Qz}{keep:List Bool}{g:D->Env'->Option Env'}{t:Mo Bool}{m:Mo D}(hkl:keep.length=n):
  ∀(σ:St) H Q,σ.length=n->TL K B (v9_ mi keep more g t m) σ H Q->a6f (TIm K B mi) keep more (TGm K B n g) (TTm K B t) (TD K B m) σ H Q:=by
 rintro σ H Q hσn ⟨G,env,total,env',rl,e,k⟩;obtain⟨⟨items,env1⟩,e1,e2⟩:=q2_ e;dsimp only at e2;split at e2
 ·rename_i hlen
  obtain⟨⟨total',envF⟩,e3,e4⟩:=q2_ e2;obtain⟨env'',e5,e6⟩:=x4_ e4;cases e6;refine⟨G,env,items,env1,rl,e1,fun J G1 H1 ev1 itd p hp=>?_⟩
  have hk:keep.length=σ.length:=by rw[hkl,hσn]
  have gp:G1 p=none:=ev1.rel.gnone hp
  have no1:¬ Owned σ env1 p:=ev1.rel.unowned hp
  have no:¬ Owned (w0_ keep more σ) (k5_ keep more env1) p:=fun z=>no1 (a4S z)
  have relS:∀ys,Rel K B G1 σ env1 (upd H1 p (.lst ys)):=fun ys=>(ev1.rel.allocM hp).rel
  refine⟨fun i m' σ2 H2=>m'=items.length-i/\i≤items.length/\∃G2 env2 ys acc rest,Ev K B G1 (w0_ keep more σ) (k5_ keep more env1) (upd H1 p (.lst ys)) G2 σ2 env2 H2/\(∀j,j<n->σ2[j]? =(w0_ keep more σ)[j]?)/\
   z9_ K G2 ys acc/\g2_ g t m (items.drop i) env2=some (rest,envF)/\acc++rest=total'/\acc.length≤i,⟨_,rfl,Jt _,G1,_,[],[],total',.refl ((relS []).ext hk),fun _ _=>rfl,repL_nil,by simpa using e3,by simp,Qp _⟩,?_⟩
  rintro i m' σ2 H2 ⟨rfl,hi,G2,env2,ys,acc,rest,ev2,y2,r2,c2,t2,l2⟩;have hpS:(upd H1 p (.lst ys)) p=some (.lst ys):=y5_;have hp2:H2 p=some (.lst ys):=ev2.keep p _ no nt_lst hpS;have lH:Le G1 H2:=ev2.same.trans ev2.rel.sub
  by_cases hlt:i<items.length
  ·refine .inr ⟨itd.go i H2 lH hlt,fun x H3 y=>?_⟩
   have ed:items.drop i=items[i]::items.drop (i+1):=Jy hlt
   rw[ed]at c2;obtain⟨env4,e7,e8⟩:=q2_ c2;obtain⟨⟨b,env5⟩,e9,e10⟩:=q2_ e8;have hget:items[i]? =some items[i]:=by simp[hlt]
   have st:∃G3,Ev K B G1 (w0_ keep more σ) (k5_ keep more env1) (upd H1 p (.lst ys)) G3 σ2 env2 H3/\Le G2 G3/\Rep K G3 x items[i]:=by
    rcases itd.yld i H2 x H3 items[i] lH y hget with⟨rfl,r⟩|⟨q,o,hno,hq,rfl,r⟩
    ·exact⟨G2,ev2,Le.refl,Rep.mono ev2.same _ r⟩
    ·have gq:=ev2.rel.gnone hq
     refine⟨upd G2 q o,ev2.trans (ev2.rel.alloc hq hno),Le.upd gq,Rep.mono (fun b u z=>?_) _ r⟩
     by_cases hb2:b=q
     ·subst hb2;rw[y5_]at z ⊢;exact z
     ·rw[q5_ hb2]at z ⊢;exact ev2.same b u z
   obtain⟨G3,ev3,l3,r3⟩:=st;refine⟨G3,env2,items[i],env4,ev3.rel,r3,e7,fun σ4 G4 H4 ev4 y4=>?_⟩
   refine⟨G4,env4,b,env5,ev4.rel,e9,fun G5 H5 ev5=>?_⟩
   have ev6:=(ev3.trans ev4).trans ev5
   have r5:z9_ K G5 ys acc:=z9_.mono ((l3.trans ev4.same).trans ev5.same) acc r2
   have y5:∀j,j<n->σ4[j]? =(w0_ keep more σ)[j]?:=fun j hj=>(y4 j hj).trans (y2 j hj)
   cases b with
   |true=>
    simp only[Zu]at e10 ⊢;obtain⟨⟨d7,env7⟩,e11,e12⟩:=q2_ e10;obtain⟨⟨rest8,env8⟩,e13,e14⟩:=x4_ e12;cases e14;refine .bind ev5.rel e11 fun v G7 H7 ev7 r7=>?_
    have ev8:=ev6.trans ev7
    have hp7:H7 p=some (.lst ys):=ev8.keep p _ no nt_lst hpS
    refine⟨ys,hp7,by rw[r2.length];exact Ue l2 (Qc hlt (Zm hlen (by decide))),items.length-(i+1),by omega,rfl,hlt,G7,env7,ys++[v],acc++[d7],rest8,?_,y5,(z9_.mono ev7.same acc r5).append (repL_cons r7 repL_nil),e13,by rw[Ug];exact t2,by rw[Qa];simp;omega⟩
    have:=ev8.swapAt (o:=.lst (ys++[v])) no (by rw[hpS];simp) gp nt_lst (fun φ z=>by rw[ev8.keep p _ no nt_lst hpS]at z;cases z)
    rwa [a5B]at this
   |false=>
    simp only[Qo,Zo]at e10 ⊢;exact⟨items.length-(i+1),by omega,rfl,hlt,G5,env5,ys,acc,rest,ev6,y5,r5,e10,t2,by omega⟩
  ·have ei:i=items.length:=by omega
   subst ei;rw[Uh]at c2;cases c2;rw[Yn]at t2;subst t2;refine .inl ⟨itd.stop _ H2 lH (Qp _),?_⟩;have evO:=Ev.out (relS ys) hk ev2 (fun j hj=>y2 j (by omega)) e5
   have evA:=ev1.trans ((ev1.rel.allocM (o:=.lst ys) hp).trans evO)
   have hpn:H p=none:=by
    cases q:H p with
    |none=>rfl
    |some o=>exact absurd hp (ev1.live p (by rw[q];simp))
   refine k p ys G2 H2 evA hpn (fun z=>?_) hp2 (ev2.stay p (by rw[hpS];simp) no gp) r2
   rcases evO.sub p z with q|q
   ·exact no1 q
   ·rw[hpS]at q;cases q
 ·cases e2
section
variable{keep:List Bool}{g:D->Env'->Option Env'}{t:Mo Bool}{m:Mo D}
theorem w5_(ok:CompOk X N' scope keep more)(hc:X.calm=true)(hi:EI X B tg iter mi)(hg:∀s H fp,EG (y7_ X N' scope s H fp) B X.N.length tg g)(ht:∀s H fp,a0m (y7_ X N' scope s H fp) ifs (TTm X.K B t))(he:∀s H fp,ED (y7_ X N' scope s H fp) B elt m)
  (hs:∀x,foldedSetIterable iter X.env x=pure x:=by intro _;rfl):EL X B (.ListComp elt [⟨tg,iter,ifs,0⟩] scope pos) (v9_ mi keep more g t m):=by
 intro pins s σ H Q I h;exact b7s ok hc hi hg ht he hs pins s σ H Q I (b1p ok.klen σ H Q I.len h)
theorem a4T(ok:CompOk X N' scope keep more)(hc:X.calm=true)(hN:X.N.Nodup)(hy:X.N[i]? =some y)(hyl:X.env.scope.names.lookup y=some .local)
  (hsw:swapsWith (.ListComp elt [⟨tg,iter,ifs,0⟩] scope pos) (some (.Name y py)) spos.line X.env=pure true)
  (hi:EI X B tg iter mi)(hg:∀s H fp,EG (y7_ X N' scope s H fp) B X.N.length tg g)(ht:∀s H fp,a0m (y7_ X N' scope s H fp) ifs (TTm X.K B t))(he:∀s H fp,ED (y7_ X N' scope s H fp) B elt m)
  (hs:∀x,foldedSetIterable iter X.env x=pure x:=by intro _;rfl):ES X B (.Assign [.Name y py] (.ListComp elt [⟨tg,iter,ifs,0⟩] scope pos) spos) (j3_ i (v9_ mi keep more g t m)):=by
 intro pins s σ H D I h;obtain⟨G,env,fl,env',rl,e,k⟩:=h;obtain⟨⟨d,env1⟩,e1,e2⟩:=x4_ e;cases e2;exact b1m ok hc hN hy hyl hsw hi hg ht he hs pins s σ H D I (b1p ok.klen σ H _ I.len ⟨G,env,d,_,rl,e1,fun a xs G' H' ev ha no h' g' r=>k _ G' H' (ev.setOwn (fun z=>rl.old a z ha) ha no h' g' r)⟩)
end
section
variable{a c:Expr}
def tyD:D->String
 |.non=>"NoneType"|.bl _=>"bool"|.int _=>"int"|.str _=>"str"|.tup _=>"tuple"|.lst _=>"list"|.emp=>"dict"|.obj _=>"object"|.dct _ _=>"dict"
def a0Z(K:Qz)(T:String):Prop:=T∈(["tuple","list","int","bool","str"]:List String)
def a3P(t T:String):Bool:=t==T||(t=="bool"&&T=="int")
theorem b7u{K:Qz}(h:a0Z K T):∀d,(∀o,d≠.obj o)->PySem.W.kitOne K (.type (tyD d)) (.type T)=some (a3P (tyD d) T):=by
 intro d hd;unfold a0Z at h;simp only[Ql,Zw,Yo]at h
 rcases h with rfl|rfl|rfl|rfl|rfl<;>cases d<;>first|rfl|exact absurd rfl (hd _)
theorem b7v{A:Around}{Q:Value->Shared->Prop}{x:V}{u:Value}(I:Inv X pins σ H s)(l:Le G H)(rx:y2_ x u)(rp:Rep X.K G x d)
  (kt:a0Z X.K T)(h:∀tk,Q (.bool (a3P (tyD d) T)) {s with toks:=tk}):wpAny (model X.prog X.w) A (call (.builtin "isinstance") [u,.type T]) Q E s:=by
 have e:=b7u kt d
 cases d with
 |non=>simp only[Rep]at rp;subst rp;exact a3J I rx (.non) (e nofun) h
 |bl b=>simp only[Rep]at rp;subst rp;exact a3J I rx (.bl b) (e nofun) h
 |int i=>simp only[Rep]at rp;subst rp;exact a3J I rx (.int i) (e nofun) h
 |str z=>simp only[Rep]at rp;obtain⟨rp,_⟩:=rp;subst rp;exact a3J I rx (.str z) (e nofun) h
 |tup ds=>
  simp only[Rep]at rp;obtain⟨a,xs,rfl,q,_⟩:=rp;cases rx;obtain⟨its,_,⟨o,h1,h2,_⟩,_⟩:=I.tuple (l.sqT q);exact Zh PySem.W.kitx_tuple I.kIn ⟨o,h1,h2⟩ (e nofun) (fun z=>nomatch z) h
 |lst ds=>
  simp only[Rep]at rp;obtain⟨a,xs,rfl,q,_⟩:=rp;cases rx;obtain⟨its,_,⟨o,n,h1,h2,_⟩,_⟩:=I.list (l.sqL q);exact Zh Xm I.kIn ⟨o,h1,h2⟩ (e nofun) (fun z=>nomatch z) h
 |emp=>
  simp only[Rep]at rp;obtain⟨a,kvs,rfl,q⟩:=rp;exact a3J I rx (.dK (l _ _ q)) (e nofun) h
 |dct ks vs=>
  simp only[Rep]at rp;obtain⟨a,kvs,rfl,q,_⟩:=rp;exact a3J I rx (.dT (l _ _ q)) (e nofun) h
 |obj o=>
  have h0:a3P "object" T=false:=by
   unfold a0Z at kt;simp only[Ql,Zw,Yo]at kt
   rcases kt with rfl|rfl|rfl|rfl|rfl<;>rfl
  have h':∀tk,Q (.bool false) {s with toks:=tk}:=fun tk=>by have:=h tk;rwa [show a3P (tyD (.obj o)) T=false from h0]at this
  simp only[Rep]at rp;cases o with
  |exc n=>
   obtain⟨a,C,HP,rfl,_,h3,h4,h5⟩:=rp;cases rx;exact Zh h4 I.kIn (I.hok a _ (l _ _ h3)).1 (h5 T kt) (fun z=>nomatch z) h'
  |fn n=>
   obtain⟨f,rfl,_,h4⟩:=rp;cases rx;refine Zh h4 I.kIn True.intro ?_ (fun z=>nomatch z) h'
   unfold a0Z at kt;simp only[Ql,Zw,Yo]at kt
   rcases kt with rfl|rfl|rfl|rfl|rfl<;>rfl
theorem b7w{K:Qz}:a0Z K "tuple":=by simp[a0Z]
theorem b7x{K:Qz}:a0Z K "int":=by simp[a0Z]
theorem b7y{K:Qz}:a0Z K "bool":=by simp[a0Z]
def mIs(T:String)(m:Mo D):Mo D:=fun env=>(m env).map fun p=>(.bl (a3P (tyD p.1) T),p.2)
theorem a1n{p p2:Pos}(kt:a0Z X.K T)(ha:ED X B a ma)(hg:Gl X "isinstance")(hm:X.mg "isinstance"=none)(hgT:Gl X y)(hmT:X.mg y=none)(hvT:bootBuiltins y=some (.type T))
  (hnT:y≠"__name__":=by decide)(hdT:(y==("__debug__":Str))=false:=by decide)
  (he:starEach [a,.Name y p2] X.env=[(false,eval a X.env),(false,eval (.Name y p2) X.env)]:=by rfl):ED X B (.Call (.Name "isinstance" p) [a,.Name y p2] [] pos) (mIs T ma):=by
 have hT:PE X (.Name y p2) (tC (.ty T)):=b0e hgT hmT hvT rfl hnT hdT
 have hc:w9_ X (.builtin "isinstance") (fun xs H Q=>∃x G d,xs=[x,.ty T]/\Le G H/\Rep X.K G x d/\Q (.bl (a3P (tyD d) T)) H):=by
  intro pins s σ H xs us Q I r h;obtain⟨x,G,d,rfl,l,rp,q⟩:=h;obtain⟨u,w',rfl,r1,r2⟩:=a3a r;cases r2;exact b7v I l r1 rp kt fun tk=>⟨.bl _,H,I.tok _,rfl,q⟩
 have h1:starEach [Expr.Name y p2] X.env=[(false,eval (.Name y p2) X.env)]:=rfl
 refine pe_imp (a5F (pos:=pos) (p:=p) hc hg hm (by decide+kernel) (a1l ha (a1l hT a3b) he) (he:=he)) ?_
 rintro σ H Q ⟨G,env,d,env',rl,e,k⟩;obtain⟨⟨d1,env1⟩,e1,e2⟩:=x4_ e;cases e2;exact .bind rl e1 fun v G1 H1 ev r=>⟨v,G1,d1,rfl,ev.rel.sub,r,k _ G1 H1 ev (by simp only[Rep])⟩
def a0t:List D->Option Bool
 |[]=>some true
 |.bl b::r=>(a0t r).map fun k=>b&&k
 |_::_=>none
def a1a:List D->Option D
 |[.lst ds]=>(a0t ds).map fun k=>.bl k
 |_=>none
theorem b1q{K:Qz}{G:Hp}:∀{ds:List D}{xs:List V}{us:List Value}{k:Bool},z9_ K G xs ds->q8_ xs us->a0t ds=some k->∃bs,LSm.BoolsAre us bs/\bs.all id=k
 |[],_,us,k,r,v,e=>by
  simp only[z9_]at r;subst r;cases v;cases e;exact⟨[],.nil,rfl⟩
 |d::ds,_,us,k,r,v,e=>by
  simp only[z9_]at r;obtain⟨x,t,rfl,q,r⟩:=r;cases d<;>first|(exact absurd (show(none:Option Bool)=some k from e) (by simp))|skip
  obtain⟨k',e1,e2⟩:=x4_ (show(a0t ds).map _=some k from e)
  simp only[Rep]at q;subst q;cases v with
  |cons v1 v2=>
   cases v1;obtain⟨bs,h1,h2⟩:=b1q r v2 e1;exact⟨_::bs,.cons _ h1,by rw[←e2,←h2];rfl⟩
theorem a3m(hc:X.calm=true):w9_ X (.builtin "all") (fun xs H Q=>∃p G ys ds k,xs=[.ref p]/\Le G H/\SqL X.K G p ys/\z9_ X.K G ys ds/\a0t ds=some k/\Q (.bl k) H):=by
 intro pins s σ H xs us Q I r h;obtain⟨p,G,ys,ds,k,rfl,l,hq,rp,ek,q⟩:=h;obtain⟨u,rfl,rx⟩:=a1w r;cases rx;obtain⟨its,r',pl,hz⟩:=I.list (l.sqL hq);obtain⟨bs,hb,hk⟩:=b1q rp r' ek;have hh:X.A.handled=none:=I.ok.hd hc;have hl:=pl.isList;have hlt:p<s.heap.objs.size:=by obtain⟨_,e,_⟩:=hl;exact Qw e
 refine call_all_walk (Jd hl ?_);refine⟨s.heap.objs.size,[s.heap.objs.size,p],[s.heap.objs.size],its.toArray.size,_,_,fun i=>(bs[i]?).getD true,rfl,Walks.list (A:=X.A.in1) hh _ p (Qd hlt) its.toArray,
  ⟨⟨_,Qg _ rfl,rfl,rfl⟩,hl.push _⟩,fun i v s' Q' E' hP hQ=>?_,fun h' tk hk'=>?_⟩
 ·obtain⟨b,e,rfl⟩:=hb.get i v (by simpa using hP)
  simp only[e,Option.getD_some]at hQ;exact Yj hQ
 ·have e:((List.range its.toArray.size).all fun i=>(bs[i]?).getD true)=bs.all id:=by
   rw[Qh,hb.length];exact LSm.range_all bs
  rw[e,hk];exact⟨.bl k,H,I.kept (t':=tk) (Uc hk'),rfl,q⟩
theorem b7z:a0X X B (fun xs H Q=>∃p G ys ds k,xs=[.ref p]/\Le G H/\SqL X.K G p ys/\z9_ X.K G ys ds/\a0t ds=some k/\Q (.bl k) H) a1a:=by
 intro G σ env H xs ds c Q rl r e k;unfold a1a at e;split at e
 ·rename_i ds
  obtain⟨x,rfl,q⟩:=a0B r;obtain⟨k',e1,e2⟩:=x4_ e;subst e2;simp only[Rep]at q;obtain⟨a,ys,rfl,h1,h2⟩:=q;exact⟨a,G,ys,ds,k',rfl,rl.sub,h1,h2,e1,k _ G H (.refl rl) (by simp only[Rep])⟩
 ·cases e
def a3Q:List D->Option D
 |[.int i,.int j]=>some (.int (if j>i then j else i))
 |_=>none
def a3R:List D->Option D
 |[.int i,.int j]=>some (.int (if j<i then j else i))
 |_=>none
def a3n:List D->Option D
 |[.int i]=>some (.int i)
 |[.bl k]=>some (.int (if k then 1 else 0))
 |_=>none
theorem b7A:a0X X B (fun xs H Q=>∃i j,xs=[.int i,.int j]/\Q (.int (if j>i then j else i)) H) a3Q:=by
 intro G σ env H xs ds c Q rl r e k;unfold a3Q at e;split at e
 ·rename_i i j
  cases e;obtain⟨x,y,rfl,q1,q2⟩:=a3f r;simp only[Rep]at q1 q2;subst q1 q2;exact⟨i,j,rfl,k _ G H (.refl rl) (by simp only[Rep])⟩
 ·cases e
theorem b7B:a0X X B (fun xs H Q=>∃i j,xs=[.int i,.int j]/\Q (.int (if j<i then j else i)) H) a3R:=by
 intro G σ env H xs ds c Q rl r e k;unfold a3R at e;split at e
 ·rename_i i j
  cases e;obtain⟨x,y,rfl,q1,q2⟩:=a3f r;simp only[Rep]at q1 q2;subst q1 q2;exact⟨i,j,rfl,k _ G H (.refl rl) (by simp only[Rep])⟩
 ·cases e
theorem b7C:a0X X B (fun xs H Q=>(∃i,xs=[.int i]/\Q (.int i) H)∨ ∃k,xs=[.bl k]/\Q (.int (if k then 1 else 0)) H) a3n:=by
 intro G σ env H xs ds c Q rl r e k;unfold a3n at e;split at e
 ·rename_i i
  cases e;obtain⟨x,rfl,q1⟩:=a0B r;simp only[Rep]at q1;subst q1;exact .inl ⟨i,rfl,k _ G H (.refl rl) (by simp only[Rep])⟩
 ·rename_i b
  cases e;obtain⟨x,rfl,q1⟩:=a0B r;simp only[Rep]at q1;subst q1;exact .inr ⟨b,rfl,k _ G H (.refl rl) (by simp only[Rep])⟩
 ·cases e
def ints?:List D->Option (List Int)
 |[]=>some []
 |.int i::r=>(ints? r).map fun l=>i::l
 |_::_=>none
theorem a3o{K:Qz}{G:Hp}:∀{ds:List D}{xs:List V}{ns:List Int},z9_ K G xs ds->ints? ds=some ns->xs=ns.map V.int
 |[],_,ns,r,e=>by simp only[z9_]at r;subst r;cases e;rfl
 |d::ds,_,ns,r,e=>by
  simp only[z9_]at r;obtain⟨x,t,rfl,q,r⟩:=r;cases d<;>first|(exact absurd (show(none:Option (List Int))=some ns from e) (by simp))|skip
  obtain⟨l,e1,e2⟩:=x4_ (show(ints? ds).map _=some ns from e)
  subst e2;simp only[Rep]at q;subst q;rw[a3o r e1];rfl
def dIn(neg:Bool):D->D->Option D
 |.int i,d=>d.items.bind fun ds=>(ints? ds).map fun ns=>.bl (if neg then !ns.contains i else ns.contains i)
 |_,_=>none
theorem b7D(ns:List Int):(ns.map V.int).all a0T=true:=by
 induction ns with
 |nil=>rfl
 |cons n ns ih=>simp[a0T,ih]
theorem b7E(i:Int)(ns:List Int):inV (.int i) (ns.map V.int)=ns.contains i:=by
 unfold inV
 induction ns with
 |nil=>rfl
 |cons n ns ih=>
  rw[Qr,Xg,ih,Xb]
  congr 1
  show(n==i)=(i==n);exact Bool.beq_comm ..
theorem b7F:OpD X B (rIn X.K neg) (dIn neg):=by
 intro G σ env H x y a b d Q rl ra rb e k;cases a<;>first|(exact absurd (show(none:Option D)=some d from e) (by simp))|skip
 rename_i i;obtain⟨ds,e1,e2⟩:=q2_ (show b.items.bind _=some d from e)
 obtain⟨ns,e3,e4⟩:=x4_ e2;subst e4;simp only[Rep]at ra;subst ra;obtain⟨p,xs,rfl,h1,h2⟩:=a7H rl.sub rb e1;have hx:=a3o h2 e3;subst hx;exact⟨p,_,rfl,h1,rfl,b7D ns,k _ G H (.refl rl) (by rw[b7E];simp only[Rep])⟩
end
mutual
def toP:D->PyData
 |.non=>.none
 |.bl b=>.bool b
 |.int i=>.int i
 |.str x=>.str x
 |.tup ds=>.tuple (a0u ds)
 |.lst ds=>.list (a0u ds)
 |.emp=>.dict []
 |.obj _=>.dict []
 |.dct _ _=>.dict []
def a0u:List D->List PyData
 |[]=>[]
 |d::ds=>toP d::a0u ds
end
def shp(d:D):Bool:=SeqAt.shaped (toP d)
mutual
theorem reads_of(I:Inv X pins σ H s)(l:Le G H):∀(d:D) (x:V) (u:Value),(toP d).canLay0=true->y2_ x u->Rep X.K G x d->∃as,Reads s.heap u (toP d) as
 |.non,x,u,c,r,p=>by simp only[Rep]at p;subst p;cases r;exact⟨_,.none⟩
 |.bl b,x,u,c,r,p=>by simp only[Rep]at p;subst p;cases r;exact⟨_,.bool b⟩
 |.int i,x,u,c,r,p=>by simp only[Rep]at p;subst p;obtain⟨t,rfl⟩:=r;exact⟨_,.int i t⟩
 |.str z,x,u,c,r,p=>by simp only[Rep]at p;obtain⟨p,_⟩:=p;subst p;obtain⟨t,rfl⟩:=r;exact⟨_,.str z t⟩
 |.tup ds,x,u,c,r,p=>by
  simp only[Rep]at p;obtain⟨a,xs,rfl,q,rp⟩:=p;cases r;obtain⟨its,rv,⟨o,h1,h2,n,h3⟩,_⟩:=I.tuple (l.sqT q);have hc:PyData.canLayAll0 (a0u ds)=true:=by simpa [toP,PyData.canLay0]using c
  obtain⟨as,h⟩:=readsAll_of I l ds xs its hc rv rp;exact⟨_,.tuple h1 h2 h3 (by simpa using h)⟩
 |.lst ds,x,u,c,r,p=>by
  simp only[Rep]at p;obtain⟨a,xs,rfl,q,rp⟩:=p;cases r;obtain⟨its,rv,⟨o,n,h1,h2,_,h3⟩,_⟩:=I.list (l.sqL q);have hc:PyData.canLayAll0 (a0u ds)=true:=by simpa [toP,PyData.canLay0]using c
  obtain⟨as,h⟩:=readsAll_of I l ds xs its hc rv rp;exact⟨_,.list h1 h2 h3 (by simpa using h)⟩
 |.emp,x,u,c,r,p=>by simp[toP,PyData.canLay0]at c
 |.obj _,x,u,c,r,p=>by simp[toP,PyData.canLay0]at c
 |.dct _ _,x,u,c,r,p=>by simp[toP,PyData.canLay0]at c
theorem readsAll_of(I:Inv X pins σ H s)(l:Le G H):∀(ds:List D) (xs:List V) (us:List Value),PyData.canLayAll0 (a0u ds)=true->q8_ xs us->z9_ X.K G xs ds->∃as,ReadsAll s.heap us (a0u ds) as
 |[],xs,us,c,v,p=>by simp only[z9_]at p;subst p;cases v;exact⟨_,.nil⟩
 |d::ds,xs,us,c,v,p=>by
  simp only[z9_]at p;obtain⟨x,r,rfl,q,t⟩:=p;have hc:(toP d).canLay0=true/\PyData.canLayAll0 (a0u ds)=true:=by simpa [a0u,PyData.canLayAll0]using c
  cases v with
  |cons v1 v2=>
   obtain⟨as,h1⟩:=reads_of I l d x _ hc.1 v1 q;obtain⟨bs,h2⟩:=readsAll_of I l ds r _ hc.2 v2 t;exact⟨_,.cons h1 h2⟩
end
def rEqD(K:Qz)(neg:Bool):R2:=fun x y H Q=>∃G a b,Le G H/\Rep K G x a/\Rep K G y b/\shp a=true/\shp b=true/\Q (.bl (if neg then !PyData.eqv (toP a) (toP b)else PyData.eqv (toP a) (toP b))) H
theorem op_eqD(hu:X.A.units+64<cLine):OpR X (compareOp .Eq) (rEqD X.K false):=by
 intro pins s σ H x y v u Q I rx ry h;obtain⟨G,a,b,l,ra,rb,ha,hb,q⟩:=h;obtain⟨as,h1⟩:=reads_of I l a x v (Uu ha) rx ra;obtain⟨bs,h2⟩:=reads_of I l b y u (Uu hb) ry rb;exact eq_dataH h1 h2 ha hb hu ⟨.bl _,H,I,rfl,q⟩
theorem op_neD(hu:X.A.units+64<cLine):OpR X (compareOp .NotEq) (rEqD X.K true):=by
 intro pins s σ H x y v u Q I rx ry h;obtain⟨G,a,b,l,ra,rb,ha,hb,q⟩:=h;obtain⟨as,h1⟩:=reads_of I l a x v (Uu ha) rx ra;obtain⟨bs,h2⟩:=reads_of I l b y u (Uu hb) ry rb;exact ne_dataH h1 h2 ha hb hu ⟨.bl _,H,I,rfl,q⟩
def dEq(neg:Bool):D->D->Option D:=fun a b=>if shp a&&shp b then some (.bl (if neg then !PyData.eqv (toP a) (toP b)else PyData.eqv (toP a) (toP b)))else none
theorem opd_eq:OpD X B (rEqD X.K neg) (dEq neg):=by
 intro G σ env H x y a b d Q rl ra rb e k;unfold dEq at e;split at e
 ·rename_i h
  rw[Qy]at h;cases e;exact⟨G,a,b,rl.sub,ra,rb,h.1,h.2,k _ G H (.refl rl) (by simp only[Rep])⟩
 ·cases e
def rCatT'(K:Qz):R2:=fun x y H Q=>∃a b xs ys,x=.ref a/\y=.ref b/\SqT K H a xs/\SqT K H b ys/\xs.length+ys.length≤sizeLine/\
 (xs=[]->Q (.ref b) H)/\(ys=[]->Q (.ref a) H)/\(∀p,H p=none->Q (.ref p) (upd H p (.tup (xs++ys))))
theorem op_catT':OpR X (binaryOp .Add) (rCatT' X.K):=by
 intro pins s σ H x y v u Q I rx ry h;obtain⟨a,b,xs,ys,rfl,rfl,ha,hb,hz,q0,q1,q2⟩:=h;cases rx;cases ry;obtain⟨vs,r1,p1,_⟩:=I.tuple ha;obtain⟨ws,r2,p2,_⟩:=I.tuple hb;have hsz:vs.length+ws.length≤sizeLine:=by rw[←r1.length,←r2.length];exact hz
 obtain⟨⟨cls,dd,data,sl⟩,ho,hc,n,hd⟩:=id p1;obtain⟨⟨cls2,dd2,data2,sl2⟩,ho2,hc2,n2,hd2⟩:=id p2;simp only at hc hd hc2 hd2;subst hc hd hc2 hd2;have e:vs.toArray++ws.toArray=(vs++ws).toArray:=by simp
 by_cases hv:vs=[]
 ·exact concat_meets ⟨_,ho,rfl⟩ ⟨_,ho2,rfl⟩ noFill_tuple_add seq_tuple_add Vg Vy (Vz _ _)
   (tuple_addW0 a b vs.toArray ws.toArray n n2 dd dd2 sl sl2 (by simp[hv])) ⟨ho,ho2,⟨.ref b,H,I,rfl,q0 (r1.nil_iff.mp hv)⟩⟩
 ·by_cases hw:ws=[]
  ·exact concat_meets ⟨_,ho,rfl⟩ ⟨_,ho2,rfl⟩ noFill_tuple_add seq_tuple_add Vg Vy (Vz _ _)
    (tuple_addW1 a b vs.toArray ws.toArray n n2 dd dd2 sl sl2 (by simpa using hv) (by simp[hw])) ⟨ho,ho2,⟨.ref a,H,I,rfl,q1 (r2.nil_iff.mp hw)⟩⟩
  ·refine concat_meets ⟨_,ho,rfl⟩ ⟨_,ho2,rfl⟩ noFill_tuple_add seq_tuple_add Vg Vy (Vz _ _)
    (tuple_addW2 a b vs.toArray ws.toArray n n2 dd dd2 sl sl2 (by simpa using hv) (by simpa using hw) (by rw[Qh,Qh];exact hsz)) ⟨ho,ho2,?_⟩
   rw[e];refine⟨.ref s.heap.objs.size,_,I.laid (t':=s.toks) (o:=.tup (xs++ys)) (fun b ob q=>Qx _ q) (Qp _) ?_,rfl,q2 _ (I.hok.fresh (Qp _))⟩
   exact⟨by rw[Qa];exact hz,_,r1.append r2,a0K.new _ _⟩
def rCatL'(K:Qz):R2:=fun x y H Q=>∃a b xs ys,x=.ref a/\y=.ref b/\SqL K H a xs/\SqL K H b ys/\xs.length+ys.length≤sizeLine/\
 (∀p,H p=none->Q (.ref p) (upd H p (.lst (xs++ys))))
theorem op_catL':OpR X (binaryOp .Add) (rCatL' X.K):=by
 intro pins s σ H x y v u Q I rx ry h;obtain⟨a,b,xs,ys,rfl,rfl,ha,hb,hz,q2⟩:=h;cases rx;cases ry;obtain⟨vs,r1,p1,_⟩:=I.list ha;obtain⟨ws,r2,p2,_⟩:=I.list hb;have hsz:vs.length+ws.length≤sizeLine:=by rw[←r1.length,←r2.length];exact hz
 obtain⟨⟨cls,dd,data,sl⟩,ho,hc,n,hd⟩:=id p1.isList;obtain⟨⟨cls2,dd2,data2,sl2⟩,ho2,hc2,n2,hd2⟩:=id p2.isList;simp only at hc hd hc2 hd2;subst hc hd hc2 hd2;have e:vs.toArray++ws.toArray=(vs++ws).toArray:=by simp
 refine concat_meets ⟨_,ho,rfl⟩ ⟨_,ho2,rfl⟩ noFill_list_add seq_list_add PySem.F.slot_list_add PySem.F.entry_list_add (PySem.F.args_list_add_2 _ _)
    (list_addW a b vs.toArray ws.toArray n n2 dd dd2 sl sl2 (by rw[Qh,Qh];exact hsz)) ⟨ho,ho2,?_⟩
 rw[e];refine⟨.ref s.heap.objs.size,_,I.lnew (t':=s.toks) (r1.append r2) (by rw[Qa];exact hz),rfl,q2 _ I.fresh⟩
end L2.Mir
namespace L2.Mir
open PySem PySem.Spec PyProof.Rows PySem.Builtin
open AutoSeq1 (wpAny_loadPart')
theorem b7G:fillsNumberSlot (.type "tuple") "mul"=pure false:=
 PySem.fillsNumberSlot_seq (id:="tuple.__mul__") (r:=some (.builtin "tuple.__rmul__")) Vl.lookup (by decide+kernel) F.slot_tuple_rmul.lookup (by decide+kernel)
theorem b7H:seqRepeat? (.type "tuple")=pure (some (.builtin "tuple.__mul__")):=by
 unfold seqRepeat?;rw[PySem.seqSlot_of (T:="tuple") (name:="__mul__") (id:="tuple.__mul__") Vl.lookup (by decide+kernel),PySem.seqSlot_of (T:="tuple") (name:="__rmul__") (id:="tuple.__rmul__") F.slot_tuple_rmul.lookup (by decide+kernel)]
 rfl
theorem b7I(a:Int)(t:Tok)(l:Addr)(items:Array Value)(n:Nat)(dd:Option Addr)(sl:Array (Option Value)):
  Meets (Builtin.«int.__rmul__» ⟨[.int a t,.ref l],[]⟩) (fun _ R s=>s.heap.get? l=some {cls:=.type "tuple",dict:=dd,data:=.seq items n,slots:=sl}/\R (.ok (.ret Value.notImplemented)) s):=
 .of_wp fun prog w A R s h=>by obtain⟨hp,g,d,tk,os⟩:=s;obtain⟨hl,h⟩:=h;wp_walk;exact⟨_,rfl,h⟩
theorem b7J(l:Addr)(items:Array Value)(n:Nat)(dd:Option Addr)(sl:Array (Option Value))(x:Int)(u:Tok)(hx:x=1):
  Meets (Builtin.«tuple.__mul__» ⟨[.ref l,.int x u],[]⟩) (fun _ R s=>s.heap.get? l=some {cls:=.type "tuple",dict:=dd,data:=.seq items n,slots:=sl}/\R (.ok (.ret (.ref l))) s):=
 .of_wp fun prog w A R s h=>by
  obtain⟨hp,g,d,tk,os⟩:=s;obtain⟨hl,h⟩:=h;subst hx;have f1:=AutoSeq1.idx_int
  wp_walk using Jp hl
  exact⟨_,rfl,h⟩
theorem b7K(l:Addr)(its:List Value)(n:Nat)(dd:Option Addr)(sl:Array (Option Value))(x:Int)(u:Tok)(hi:its≠[])(h1:2≤x)(h2:x<2^63)(hz:its.length * x.toNat≤sizeLine):
  Meets (Builtin.«tuple.__mul__» ⟨[.ref l,.int x u],[]⟩) (fun _ R s=>s.heap.get? l=some {cls:=.type "tuple",dict:=dd,data:=.seq its.toArray n,slots:=sl}/\R (.ok (.ret (.ref s.heap.objs.size))) {s with heap:=s.heap.push {cls:=Value.type "tuple",data:=Data.seq (List.replicate x.toNat its).flatten.toArray}}):=
 .of_wp fun prog w A R s h=>by
  obtain⟨hp,g,d,tk,os⟩:=s;obtain⟨hl,h⟩:=h;have f1:=AutoSeq1.idx_int;have hi':its.toArray.isEmpty=false:=by simpa using hi
  have hb:¬ ((decide (x< -(2^63))||decide (x ≥ 2^63))=true):=by simp;omega
  have hc:¬ ((its.toArray.isEmpty||x==1)=true):=by rw[hi'];simp;omega
  have hd:¬ ((decide (x≤0)||its.toArray.isEmpty)=true):=by rw[hi'];simp;omega
  have e1:(its.toArray.size:Int) * x=((its.length * x.toNat:Nat):Int):=by rw[Qh,Int.natCast_mul,Int.toNat_of_nonneg (by omega)]
  have he:¬ ((its.toArray.size:Int) * x>(2^63-1)/8):=by
   have e2:(sizeLine:Nat)≤(2^63-1)/8:=by decide
   rw[e1];omega
  have hf:¬ (Tuple.tupleTooMany ((its.toArray.size:Int) * x)=true):=by
   rw[e1];intro z;have z':=of_decide_eq_true z
   omega
  have hnew:List.foldl (fun x1 x2=>x1++x2) #[] (List.replicate x.toNat its.toArray)=(List.replicate x.toNat its).flatten.toArray:=by
   have:=b0L its x.toNat [];rw[Xq]at this;exact this
  have hsz:sizeOk (.seq (List.replicate x.toNat its).flatten.toArray):=by
   show(List.replicate x.toNat its).flatten.toArray.size≤sizeLine;rw[Qh,b0M,Nat.mul_comm];exact hz
  wp_walk using Jp hl
  refine Uk (Zg hb) ?_
  wp_walk using Jp hl
  refine Uk (Zg hc) ?_
  wp_walk using Jp hl
  refine Uk (Zg hd) ?_
  wp_walk using Jp hl
  refine Uk (Zg he) ?_
  wp_walk using Jp hl
  refine Uk (Zg hf) ?_
  rw[hnew]
  wp_walk using Jp hl
  refine Uk (Zg (Nat.not_lt.mpr hsz)) ?_
  wp_walk using Jp hl
  exact⟨_,rfl,h⟩
section
variable{X:Cx}{B:Addr->Prop}
def a6i(K:Qz):R2:=fun x y H Q=>∃a k xs,x=.ref a/\y=.int k/\SqT K H a xs/\xs≠[]/\1≤k/\k<2^63/\xs.length * k.toNat≤sizeLine/\
 (k=1->Q (.ref a) H)/\∀p,H p=none->Q (.ref p) (upd H p (.tup (List.replicate k.toNat xs).flatten))
theorem b7L:OpR X (binaryOp .Mult) (a6i X.K):=by
 intro pins s σ H x y v u Q I rx ry h;obtain⟨a,k,xs,rfl,rfl,ha,hne,h1,h2,hz,q1,q2⟩:=h;cases rx;obtain⟨t,rfl⟩:=ry;obtain⟨its,r,⟨⟨cls,dd,data,sl⟩,ho,hc,n,hd⟩,hzz⟩:=I.tuple ha;simp only at hc hd;subst hc hd;refine wpAny_binaryOp_repeat_ref (T:="tuple") (U:="int") (by decide) ⟨_,ho,rfl⟩ (fun s'=>typeIs_int s' k t) b7G F.fills_int_mul F.slot_int_rmul b7H F.slot_int_index.lookup
  (Xl F.slot_int_rmul (typeIs_int s k t) F.entry_int_rmul (F.args_int_rmul_2 _ _) (b7I k t a its.toArray n dd sl)
   ⟨ho,rfl,⟨_,ho,rfl⟩,?_⟩)
 by_cases hk:k=1
 ·exact Xl Vl ⟨_,ho,rfl⟩ F.entry_tuple_mul (F.args_tuple_mul_2 _ _) (b7J a its.toArray n dd sl k t hk) ⟨ho,⟨.ref a,H,I,rfl,q1 hk⟩⟩
 ·refine Xl Vl ⟨_,ho,rfl⟩ F.entry_tuple_mul (F.args_tuple_mul_2 _ _) (b7K a its n dd sl k t (fun z=>hne (r.nil_iff.mp z)) (by omega) h2 (by rw[←r.length];exact hz)) ⟨ho,?_⟩
  refine⟨.ref s.heap.objs.size,_,I.laid (t':=s.toks) (o:=.tup (List.replicate k.toNat xs).flatten) (fun b ob q=>Qx _ q) (Qp _) ?_,rfl,q2 _ (I.hok.fresh (Qp _))⟩
  exact⟨by rw[b0M,Nat.mul_comm];exact hz,_,r.rep k.toNat,a0K.new _ _⟩
end
section
variable{X:Cx}{B:Addr->Prop}{pos:Pos}{a b:Expr}{ma mb:Mo D}
def a7R:D->D->Option D
 |.tup xs,.tup ys=>if xs.length+ys.length≤10000 then some (.tup (xs++ys))else none
 |_,_=>none
theorem a7S{n:Nat}(h:n≤10000):n≤sizeLine:=Zm h (by decide)
theorem b7M:OpD X B (rCatT' X.K) a7R:=by
 intro G σ env H x y a b d Q rl ra rb e k;cases a<;>cases b<;>first|(exact absurd (show(none:Option D)=some d from e) (by simp))|skip
 rename_i ds es;simp only[a7R]at e;split at e
 ·rename_i hl
  cases e;have ra0:=ra;have rb0:=rb;simp only[Rep]at ra rb;obtain⟨p,xs,rfl,q1,r1⟩:=ra;obtain⟨p',ys,rfl,q2,r2⟩:=rb;refine⟨p,p',xs,ys,rfl,rfl,rl.sub.sqT q1,rl.sub.sqT q2,by rw[r1.length,r2.length];exact a7S hl,fun z=>?_,fun z=>?_,fun l hp=>?_⟩
  ·subst z
   have:ds=[]:=List.length_eq_zero_iff.mp r1.length.symm;subst this;exact k _ G H (.refl rl) rb0
  ·subst z
   have:es=[]:=List.length_eq_zero_iff.mp r2.length.symm;subst this;exact k _ G H (.refl rl) (by rw[Yn];exact ra0)
  ·exact k _ _ _ (rl.alloc hp) (a1V y5_ (z9_.mono (Le.upd (rl.gnone hp)) _ (r1.append r2)))
 ·cases e
def a6j:D->D->Option D
 |.tup [d],.int k=>if 1≤k/\k≤1000 then some (.tup (List.replicate k.toNat d))else none
 |_,_=>none
theorem b7N{α:Type}(x:α)(n:Nat):(List.replicate n [x]).flatten=List.replicate n x:=by
 induction n with
 |zero=>rfl
 |succ n ih=>rw[Yz,Ub,ih,Yz];rfl
theorem b1r{K:Qz}{G:Hp}{x:V}{d:D}(h:Rep K G x d):∀n,z9_ K G (List.replicate n x) (List.replicate n d)
 |0=>repL_nil
 |n+1=>by rw[Yz,Yz];exact repL_cons h (b1r h n)
theorem b7O:OpD X B (a6i X.K) a6j:=by
 intro G σ env H x y a b d Q rl ra rb e k;unfold a6j at e;split at e
 ·rename_i d0 n
  split at e
  ·rename_i hn
   cases e;have ra0:=ra;simp only[Rep]at ra rb;obtain⟨p,xs,rfl,q1,r1⟩:=ra;subst rb;obtain⟨v,rfl,rv⟩:=a0B r1;refine⟨p,n,[v],rfl,rfl,rl.sub.sqT q1,by simp,by omega,by omega,?_,fun z=>?_,fun l hp=>?_⟩
   ·exact a7S (by simp;omega)
   ·subst z
    exact k _ G H (.refl rl) ra0
   ·rw[b7N]
    exact k _ _ _ (rl.alloc hp) (a1V y5_ (z9_.mono (Le.upd (rl.gnone hp)) _ (b1r rv _)))
  ·cases e
 ·cases e
def v3_:=fOr a5R a7R
def j4_:=fOr a4E a6j
theorem b7P:OpR X (binaryOp .Add) (fun x y H Q=>rI0 (fun i j=>.int (i+j)) x y H Q∨rCatT' X.K x y H Q):=OpR.or b5X op_catT'
theorem b7Q:OpD X B (fun x y H Q=>rI0 (fun i j=>.int (i+j)) x y H Q∨rCatT' X.K x y H Q) v3_:=b0T.or b7M
theorem b7R:OpR X (binaryOp .Mult) (fun x y H Q=>rI a2Z (fun i j=>.int (i * j)) x y H Q∨a6i X.K x y H Q):=OpR.or b5Z b7L
theorem b7S:OpD X B (fun x y H Q=>rI a2Z (fun i j=>.int (i * j)) x y H Q∨a6i X.K x y H Q) j4_:=b6R.or b7O
def a0E(ma mb:Mo D):Mo (List D):=fun env=>(ma env).bind fun p=>(mb p.2).bind fun q=>match p.1,q.1 with
 |.lst xs,.lst ys=>if xs.length+ys.length≤10000 then some (xs++ys,q.2)else none
 |_,_=>none
theorem a2c(ha:ED X B a ma)(hb:ED X B b mb):EL X B (.BinOp a .Add b pos) (a0E ma mb):=by
 refine pe_imp (a7p op_catL' ha hb) ?_
 rintro σ H Q ⟨G,env,ds,env',rl,e,k⟩;obtain⟨⟨d1,env1⟩,e1,e2⟩:=q2_ e;obtain⟨⟨d2,env2⟩,e3,e4⟩:=q2_ e2;dsimp only at e4 e3;refine .bind rl e1 fun v1 G1 H1 ev1 r1=>.bind ev1.rel e3 fun v2 G2 H2 ev2 r2=>?_
 split at e4
 ·rename_i xs ys
  split at e4
  ·rename_i hl
   cases e4;have r1':=Rep.mono ev2.same _ r1;simp only[Rep]at r1' r2;obtain⟨p,us,rfl,q1,t1⟩:=r1';obtain⟨p',ws,rfl,q2,t2⟩:=r2;exact⟨p,p',us,ws,rfl,rfl,ev2.rel.sub.sqL q1,ev2.rel.sub.sqL q2,by rw[t1.length,t2.length];exact a7S hl,fun l hp=>a5T (ev1.trans ev2) hp (t1.append t2) k⟩
  ·cases e4
 ·cases e4
end
end L2.Mir
namespace HT
open PySem PySem.Spec PyProof.Rows
variable{Q:Value->Shared->Prop}{sl:Addr}
section
variable{prog:Program}{w:World}{A:Around}{E:Value->Shared->Prop}{s:Shared}
theorem getItem_tuple_whole{t:Addr}{items:Array Value}{vl vu:Value}{lo hi:Option Int}(ht:IsTup s.heap t items)(hs:s.heap.IsSliceOf sl vl vu .none)(pl:IsPart vl lo)(pu:IsPart vu hi)
  (hw:sIx items.size 0 lo=0/\sIx items.size items.size hi=items.size)
  (h:Q (.ref t) s):wpAny (model prog w) A (getItem (.ref t) (.ref sl)) Q E s:=by
 obtain⟨os,hos,hcs,hds⟩:=id hs;have hTs:s.TypeIs (.ref sl) "slice":=⟨os,hos,hcs⟩;unfold getItem
 try with_reducible refine Yu ?_
 first|refine Qq (Qk ?_)|skip
 refine Qq (wpAny_sequenceKey ht.typeIs (by decide) ?_)
 refine Qq (Zr (name:=Str.ofString "__getitem__") ht.typeIs Zk
  (Yl Zk ht.typeIs entry_tuple_getitem ?_ (args_tuple_getitem _ _)))
 show wpAny _ _ (Builtin.Tuple.tupleItemsOf (.ref t)>>=_) _ _ s;refine Qq (tupleItemsOf_ ht ?_);refine Qq (Va hTs ?_);rw[Qn (by decide)]
 refine Qq (sliceApplied_gen hs pl pu ?_);have hno:((((sIx items.size 0 lo:Nat):Int)==0&&(1:Int)==1&&(sIx items.size items.size hi-sIx items.size 0 lo)==items.size)=true):=by
  rw[hw.1,hw.2];simp
 show wpAny _ _ (if(((sIx items.size 0 lo:Nat):Int)==0&&(1:Int)==1&&(sIx items.size items.size hi-sIx items.size 0 lo)==items.size)=true then _ else _) _ _ s
 rw[Qn hno];refine Qq (Qq (m:=typeOf (.ref t)) (Va ht.typeIs (Qk ?_)));rw[Qn (by decide)]
 refine Qq (Uf ?_)
 first
  |exact Qk ⟨_,rfl,Qk h⟩
  |exact Qq (Qk ⟨_,rfl,Qk h⟩)
  |exact Qq (Qq (Qk ⟨_,rfl,Qk h⟩))
theorem sliceApplied_rev{t:Tok}{n:Nat}{Q:Int×Int×Nat->Shared->Prop}(hs:s.heap.IsSliceOf sl .none .none (.int (-1) t))
  (h:Q ((n:Int)-1,-1,n) s):wpAny (model prog w) A (Builtin.Slice.sliceApplied (.ref sl) (pure (n:Int))) Q E s:=by
 obtain⟨os,hos,hcs,hds⟩:=id hs;unfold Builtin.Slice.sliceApplied Builtin.Slice.sliceFields;refine Qq (Qq (Zv hos hds (x:=.none) rfl (Qq (Zv hos hds (x:=.none) rfl (Qq (Zv hos hds (x:=.int (-1) t) rfl (Qk ?_)))))));refine Qq (slicePart_int ?_);show wpAny _ _ (if((-1:Int)==0)=true then _ else _) _ _ s
 rw[Qe (by decide)]
 refine Qq (slicePart_none (Qq (slicePart_none (Qq (Qk ?_)))));have e:Builtin.Slice.slicePlaces ((n:Int)-1) (-1) (-1)=n:=by
  unfold Builtin.Slice.slicePlaces;have h1:¬ ((-1:Int)>0):=by omega
  simp only[h1,Zo];split
  ·rw[show(- -1:Int)=1 by decide,Int.ediv_one];omega
  ·omega
 show wpAny _ _ (pure ((n:Int)-1,(-1:Int),Builtin.Slice.slicePlaces ((n:Int)-1) (-1) (-1))) _ _ s;rw[e];exact Qk h
theorem filterMap_congr'{α β:Type}{f g:α->Option β}:∀{l:List α},(∀x∈l,f x=g x)->l.filterMap f=l.filterMap g
 |[],_=>rfl
 |a::l,h=>by
  rw[Jf,Jf,h a (by simp),filterMap_congr' (l:=l) fun x hx=>h x (by simp[hx])]
theorem pick_rev(xs:Array Value):((List.range xs.size).filterMap fun(m:Nat)=>xs[(((xs.size:Int)-1)+(m:Int) * (-1)).toNat]?).toArray=xs.toList.reverse.toArray:=by
 have h:=PySem.W.krv_all xs
 have h2:=Yx List.reverse h
 rw[←List.filterMap_reverse,←PySem.W.krv_range,List.filterMap_map]at h2;rw[←h2]
 congr 1
 apply filterMap_congr'
 intro m hm;have:=Zt.mp hm;show xs[_]? =xs[xs.size-1-m]?
 congr 1
 omega
theorem getItem_tuple_rev{t:Addr}{items:Array Value}{tk:Tok}(ht:IsTup s.heap t items)(hs:s.heap.IsSliceOf sl .none .none (.int (-1) tk))
  (h:Q (.ref s.heap.objs.size) {s with heap:=s.heap.push {cls:=.type "tuple",data:=.seq items.toList.reverse.toArray}})
  (hsz:items.size≤sizeLine):wpAny (model prog w) A (getItem (.ref t) (.ref sl)) Q E s:=by
 have htake:sizeOk (.seq items.toList.reverse.toArray):=by
  show items.toList.reverse.toArray.size≤sizeLine
  simpa using hsz
 obtain⟨os,hos,hcs,hds⟩:=id hs;have hTs:s.TypeIs (.ref sl) "slice":=⟨os,hos,hcs⟩;unfold getItem
 try with_reducible refine Yu ?_
 first|refine Qq (Qk ?_)|skip
 refine Qq (wpAny_sequenceKey ht.typeIs (by decide) ?_)
 refine Qq (Zr (name:=Str.ofString "__getitem__") ht.typeIs Zk
  (Yl Zk ht.typeIs entry_tuple_getitem ?_ (args_tuple_getitem _ _)))
 show wpAny _ _ (Builtin.Tuple.tupleItemsOf (.ref t)>>=_) _ _ s;refine Qq (tupleItemsOf_ ht ?_);refine Qq (Va hTs ?_);rw[Qn (by decide)]
 refine Qq (sliceApplied_rev hs ?_);have hno:¬ ((((items.size:Int)-1)==0&&(-1:Int)==1&&items.size==items.size)=true):=by
  rw[show((-1:Int)==1)=false by decide];simp
 show wpAny _ _ (if(((items.size:Int)-1)==0&&(-1:Int)==1&&items.size==items.size)=true then _ else _) _ _ s
 rw[Qe hno,pick_rev]
 first
  |exact Qq (m:=Builtin.Tuple.tupleExact _) (Zl (Qk ⟨_,rfl,Qk h⟩) htake)
  |exact Qq (m:=Builtin.Tuple.tupleExact _) (Zl (Qq (Qk (Qk ⟨_,rfl,Qk h⟩))) htake)
  |exact Qq (Qq (m:=Builtin.Tuple.tupleExact _) (Zl (Qk (Qk ⟨_,rfl,Qk h⟩)) htake))
  |exact Qq (Qq (m:=Builtin.Tuple.tupleExact _) (Zl (Qk ⟨_,rfl,Qk h⟩) htake))
end
end HT
namespace L2.Mir
open PySem PySem.Spec PyProof.Rows
variable{B:Addr->Prop}{C i1 i2 it z:Addr}{E Q:Value->Shared->Prop}{G H:Hp}{M:Model}{P:Program}{X:Cx}{as:Mo (List Ar)}{av:List Ar}{b x y:Value}{ch:List Addr}{d:D}{ds:List D}{e:Expr}{e1 e2:Env'}{elts es:List Expr}{h h':Heap}{i k1 k2 kk more n t':Nat}{j:Int}{m ma:Mo D}{mb:Mo Fl}{mi ms:Mo (List D)}{o:HO}{p pos tp:Pos}{pins:List (Addr×Obj)}{qual:Str}{r:Rr}{s:Shared}{scope:Scope}{tk:Tok}{ws ws':List W}{xs ys:Array Value}{σ:St}
section
variable{lo hi st:Expr}{ml mh:Mo D}{p2:Pos}
def b7T(K:Qz):V->Option Int->Option Int->Hp->VK->Prop:=fun x lo hi H Q=>∃a xs,x=.ref a/\SqT K H a xs/\
 ((HT.sIx xs.length 0 lo=0/\HT.sIx xs.length xs.length hi=xs.length)->Q (.ref a) H)/\∀p,H p=none->Q (.ref p) (upd H p (.tup (a1U xs lo hi)))
theorem b1s:SlR X (b7T X.K):=by
 intro pins s σ H x v vl vu lo hi sl Q I rx hs pl pu h;obtain⟨a,xs,rfl,hx,qw,q⟩:=h
 by_cases hw:HT.sIx xs.length 0 lo=0/\HT.sIx xs.length xs.length hi=xs.length
 ·cases rx
  obtain⟨its,r,ht,hz⟩:=I.tuple hx;have hlen:its.toArray.size=xs.length:=by rw[Qh];exact r.length.symm
  refine⟨"tuple",_,Zk.lookup,ht.typeIs,?_⟩;exact HT.getItem_tuple_whole ht hs pl pu (by rw[hlen];exact hw) ⟨.ref a,H,I,rfl,qw hw⟩
 ·exact a5H pins s σ H (.ref a) v vl vu lo hi sl Q I rx hs pl pu ⟨a,xs,rfl,hx,hw,q⟩
def u9_(xs:List D)(lo hi:Option Int):List D:=(xs.drop (HT.sIx xs.length 0 lo)).take (HT.sIx xs.length xs.length hi-HT.sIx xs.length 0 lo)
def k1_:Mo (Option Int):=fun env=>some (none,env)
def k2_(m:Mo D):Mo (Option Int):=fun env=>(m env).bind fun p=>match p.1 with
 |.int i=>some (some i,p.2)
 |_=>none
def TOm(K:Qz)(B:Addr->Prop)(m:Mo (Option Int)):TO:=fun σ H Q=>∃G env o env',Rel K B G σ env H/\m env=some (o,env')/\∀G' H',Ev K B G σ env H G' σ env' H'->Q o H'
abbrev EO(X:Cx)(B:Addr->Prop)(e:Option Expr)(m:Mo (Option Int)):Prop:=PO X e (TOm X.K B m)
theorem b1t{e:Option Expr}{t t':TO}(h:PO X e t)(i:∀σ H Q,t' σ H Q->t σ H Q):PO X e t':=fun pins s σ H Q I q=>h pins s σ H Q I (i σ H Q q)
theorem a0a:EO X B none k1_:=by
 refine b1t b6y ?_
 rintro σ H Q ⟨G,env,o,env',rl,e,k⟩;cases e;exact k G H (.refl rl)
theorem a0b(h:ED X B e ma):EO X B (some e) (k2_ ma):=by
 refine b1t (b6z h) ?_
 rintro σ H Q ⟨G,env,o,env',rl,e,k⟩;obtain⟨⟨d,env1⟩,e1,e2⟩:=q2_ e;dsimp only at e2;split at e2
 ·rename_i i
  cases e2;refine .bind rl e1 fun v G1 H1 ev r=>?_
  simp only[Rep]at r;exact⟨i,r,k G1 H1 ev⟩
 ·cases e2
def mSl(m:Mo D)(ml mh:Mo (Option Int)):Mo D:=fun env=>(m env).bind fun p=>(ml p.2).bind fun q=>(mh q.2).bind fun r=>match p.1 with
 |.tup ds=>some (.tup (u9_ ds q.1 r.1),r.2)
 |_=>none
theorem z9_.cut{K:Qz}{xs:List V}(r:z9_ K G xs ds)(lo hi:Option Int):z9_ K G (a1U xs lo hi) (u9_ ds lo hi):=by
 unfold a1U u9_;rw[r.length];exact(r.drop _).take _
theorem b1u{lo hi:Option Int}(h:HT.sIx ds.length 0 lo=0/\HT.sIx ds.length ds.length hi=ds.length):u9_ ds lo hi=ds:=by
 unfold u9_;rw[h.1,h.2];simp
theorem a0i{lo hi:Option Expr}{ml mh:Mo (Option Int)}(he:ED X B e ma)(hl:EO X B lo ml)(hh:EO X B hi mh):ED X B (.Subscript e (.Slice lo hi none p2) pos) (mSl ma ml mh):=by
 refine pe_imp (b0B b1s he hl hh) ?_
 rintro σ H Q ⟨G,env,d,env',rl,e,k⟩;obtain⟨⟨d1,env1⟩,e1,e2⟩:=q2_ e;obtain⟨⟨l,env2⟩,e3,e4⟩:=q2_ e2;obtain⟨⟨u,env3⟩,e5,e6⟩:=q2_ e4;dsimp only at e3 e5 e6;split at e6
 ·rename_i ds
  cases e6;refine .bind rl e1 fun v G1 H1 ev1 r1=>⟨G1,env1,l,env2,ev1.rel,e3,fun G2 H2 ev2=>⟨G2,env2,u,_,ev2.rel,e5,fun G3 H3 ev3=>?_⟩⟩
  have r3:=Rep.mono (ev2.same.trans ev3.same) _ r1
  have r30:=r3
  simp only[Rep]at r3;obtain⟨p,xs,rfl,q,t⟩:=r3;refine⟨p,xs,rfl,ev3.rel.sub.sqT q,fun hw=>?_,fun l' hp=>?_⟩
  ·rw[t.length]at hw
   exact k _ G3 H3 ((ev1.trans ev2).trans ev3) (by rw[b1u hw];exact r30)
  ·exact k _ _ _ (((ev1.trans ev2).trans ev3).trans (ev3.rel.alloc hp)) (a1V y5_ (z9_.mono (Le.upd (ev3.rel.gnone hp)) _ (t.cut l u)))
 ·cases e6
theorem b7U{te:TE}(he:PE X e te)(hst:PE X st (tC (.int (-1)))):PE X (.Subscript e (.Slice none none (some st) p2) pos) (fun σ H Q=>te σ H fun x H1=>∃a xs,x=.ref a/\SqT X.K H1 a xs/\∀p,H1 p=none->Q (.ref p) (upd H1 p (.tup xs.reverse))):=by
 intro pins s σ H Q I h;refine Subscript_ (thn (he pins s σ H _ I h) fun v s1 ⟨x,H1,I1,r1,q1⟩=>?_)
 refine wpAny_Slice ?_
 rw[evalPart_none];refine Qk (Qk ?_);rw[evalPart_some];refine thn (hst pins s1 σ H1 (fun x H2=>x=.int (-1)/\H2=H1) I1 ⟨rfl,rfl⟩) fun vst s3 ⟨y,H3,I3,r3,q3⟩=>?_
 obtain⟨rfl,rfl⟩:=q3;obtain⟨tk,rfl⟩:=r3;obtain⟨a,xs,rfl,hx,q⟩:=q1;cases r1;have I4:Inv X pins σ H3 {s3 with heap:=s3.heap.push {cls:=.type "slice",data:=.fields #[.none,.none,.int (-1) tk]}}:=I3.kept (t':=s3.toks) fun b ob q=>Qx _ q
 obtain⟨its,r,ht,hz⟩:=I4.tuple hx;have hlen:its.toArray.size=xs.length:=by rw[Qh];exact r.length.symm
 show wpAny (model X.prog X.w) X.A (subscriptTail e (.Slice none none (some st) p2) (.ref a) (.ref s3.heap.objs.size)) (EP X pins σ Q) X.xe {s3 with heap:=s3.heap.push {cls:=.type "slice",data:=.fields #[.none,.none,.int (-1) tk]}}
 refine tail_any (ops:=[.ref a,.ref s3.heap.objs.size]) ht.typeIs Zk.lookup ?_ (by with_unfolding_all rfl)
 refine HT.getItem_tuple_rev (tk:=tk) ht (Heap.IsSliceOf.new ..) ?_ (by rw[hlen];exact hz)
 refine⟨.ref _,_,I4.laid (t':=s3.toks) (o:=.tup xs.reverse) (fun b ob q=>Qx _ q) (Qp _) ?_,rfl,q _ (I4.hok.fresh (Qp _))⟩
 exact⟨by rw[List.length_reverse];exact hz,_,r.reverse,a0K.new _ _⟩
def a3S(m:Mo D):Mo D:=fun env=>(m env).bind fun p=>match p.1 with
 |.tup ds=>some (.tup ds.reverse,p.2)
 |_=>none
theorem a7T(he:ED X B e ma)(hst:PE X st (tC (.int (-1)))):ED X B (.Subscript e (.Slice none none (some st) p2) pos) (a3S ma):=by
 refine pe_imp (b7U he hst) ?_
 rintro σ H Q ⟨G,env,d,env',rl,e,k⟩;obtain⟨⟨d1,env1⟩,e1,e2⟩:=q2_ e;dsimp only at e2;split at e2
 ·rename_i ds
  cases e2;refine .bind rl e1 fun v G1 H1 ev1 r1=>?_
  simp only[Rep]at r1;obtain⟨p,xs,rfl,q,t⟩:=r1;exact⟨p,xs,rfl,ev1.rel.sub.sqT q,fun l' hp=>k _ _ _ (ev1.trans (ev1.rel.alloc hp)) (a1V y5_ (z9_.mono (Le.upd (ev1.rel.gnone hp)) _ t.reverse))⟩
 ·cases e2
theorem b1v{j:Nat}:PE X (.UnaryOp .USub (.Constant (.int 1) j p) pos) (tC (.int (-1))):=pe_imp (b0o b0p b0c) fun σ H Q q=>⟨1,rfl,q⟩
end
theorem a6k(I:Inv X pins σ H s)(k:∀b o,b∉ch->s.heap.get? b=some o->h'.get? b=some o)(hf:∀b∈ch,w8_ X pins H b):Inv X pins σ H {s with heap:=h',toks:=t'}:=by
 have nit:∀b u,H b=some u->b∉ch:=fun b u e z=>by rw[(hf b z).1]at e;cases e
 refine I.step (g':=s.gens) (d':=s.drawn) (ch:=ch) (fun b hb=>⟨(hf b hb).2.2.2.1,(hf b hb).2.1,(hf b hb).2.2.2.2.1,(hf b hb).2.2.2.2.2⟩) (fun b o _ _ hc e _=>k b o hc e) (fun b o _ _ hc e _=>⟨o.slots,k b o hc e⟩) (fun _ _ _ _ n=>n)
  (fun b o hc e=>⟨o,k b o hc e⟩) (fun _ _ e=>e) (fun _ _ _ e=>e) (fun b ps e=>⟨#[],by rw[e];simp⟩) (fun m hm=>?_) (fun b u e=>?_) I.bare
 ·obtain⟨o,es,ep,ho,r⟩:=hm
  exact⟨o,es,ep,k _ o (fun z=>(hf _ z).2.1 rfl) ho,r⟩
 ·refine(I.hok b u e).stay (fun c v hc q=>k c v ?_ q) (fun _ q=>q) fun _ _ q=>q
  rcases hc with z|z
  ·rw[z];exact nit b u e
  ·exact nit c _ z
theorem b1w{p:Addr}(I:Inv X pins σ H s)(k:∀b o,b∉ch->s.heap.get? b=some o->h'.get? b=some o)(hf:∀b∈ch,w8_ X pins H b)
  (hp:s.heap.objs.size≤p)(new:j5_ X.prog X.w (upd H p o) h' p o):Inv X pins σ (upd H p o) {s with heap:=h',toks:=t'}:=by
 have nit:∀b u,H b=some u->b∉ch:=fun b u e z=>by rw[(hf b z).1]at e;cases e
 have hn:H p=none:=I.hok.fresh hp
 have np:∀b u,s.heap.get? b=some u->b≠p:=fun b u q=>Qd (Qc (Qw q) hp)
 refine I.step (g':=s.gens) (d':=s.drawn) (ch:=ch) (fun b hb=>⟨(hf b hb).2.2.2.1,(hf b hb).2.1,(hf b hb).2.2.2.2.1,(hf b hb).2.2.2.2.2⟩) (fun b o _ _ hc e _=>k b o hc e) (fun b o _ _ hc e _=>⟨o.slots,k b o hc e⟩) (fun b o _ e n=>by rw[q5_ (np b o e)];exact n)
  (fun b o hc e=>⟨o,k b o hc e⟩) (fun b xs q=>by rw[q5_ (g4_ q hn)];exact q) (fun b u xs q=>by rw[q5_ (g4_ q hn)];exact q) (fun b ps e=>⟨#[],by rw[q5_ (g4_ e hn),e];simp⟩) (fun m hm=>?_) (fun b u e=>?_) I.bare
 ·obtain⟨o,es,ep,ho,r⟩:=hm
  exact⟨o,es,ep,k _ o (fun z=>(hf _ z).2.1 rfl) ho,r⟩
 ·by_cases hb:b=p
  ·subst hb;rw[y5_]at e;cases e;exact new
  ·rw[q5_ hb]at e
   refine(I.hok b u e).stay (fun c v hc q=>k c v ?_ q) (fun c q=>by rw[q5_ (g4_ q hn)];exact q) fun c xs q=>by rw[q5_ (g4_ q hn)];exact q
   rcases hc with z|z
   ·rw[z];exact nit b u e
   ·exact nit c _ z
def Sq1(k:Bool)(h:Heap)(l:Addr)(xs:Array Value):Prop:=if k then h.IsTuple l xs else h.IsList l xs
def It1(k:Bool)(h:Heap)(i l:Addr)(n:Nat):Prop:=if k then h.IsTupleIter i l n else h.IsListIter i l n
section
variable{k:Bool}{i l b:Addr}
theorem Sq1.at'(x:Sq1 k h l xs)(e:∀o,h.get? l=some o->h'.get? l=some o):Sq1 k h' l xs:=by
 cases k
 ·exact Heap.IsList.at (show h.IsList l xs from x) e
 ·obtain⟨o,ho,r⟩:=(show h.IsTuple l xs from x)
  exact(⟨o,e _ ho,r⟩:h'.IsTuple l xs)
theorem It1.at'(x:It1 k h i l n)(e:∀o,h.get? i=some o->h'.get? i=some o):It1 k h' i l n:=by
 cases k
 ·exact Heap.IsListIter.at (show h.IsListIter i l n from x) e
 ·exact Heap.IsTupleIter.at (show h.IsTupleIter i l n from x) e
theorem It1.get(x:It1 k h i l n):∃o,h.get? i=some o/\∀v,o.data≠.cell v:=by
 cases k
 ·obtain⟨o,ho,_,d⟩:=(show h.IsListIter i l n from x);exact⟨o,ho,fun v z=>by rw[d]at z;cases z⟩
 ·obtain⟨o,ho,_,d⟩:=(show h.IsTupleIter i l n from x);exact⟨o,ho,fun v z=>by rw[d]at z;cases z⟩
theorem It1.but(x:It1 k h i l n)(hs:Heap.ExtBut b h h')(hb:i≠b):It1 k h' i l n:=x.at' fun o e=>hs i o hb e
theorem Sq1.but(x:Sq1 k h l xs)(hs:Heap.ExtBut b h h')(hb:l≠b):Sq1 k h' l xs:=x.at' fun o e=>hs l o hb e
end
section
variable{prog:Program}{w:World}{A:Around}
theorem b7V{l:Addr}{items:Array Value}(hit:s.heap.IsTupleIter it l i)(hl:s.heap.IsTuple l items)(hx:items[i]? =some x)
  (hQ:∀h',h'.IsTupleIter it l (i+1)->Heap.SameBut it s.heap h'->Q x {s with heap:=h'}):wpAny (model prog w) A (Builtin.SmallTypes.nextOf (.ref it)) Q E s:=by
 obtain⟨o,ho,hc,hd⟩:=id hit;obtain⟨ol,hol,_,nl,hdl⟩:=hl;unfold Builtin.SmallTypes.nextOf;refine Qq (Zr (name:=Str.ofString "__next__") hit.typeIs Jq (Yl Jq hit.typeIs Vf ?_ (Vp _)));show wpAny _ _ (field (.ref it) 0>>=_) _ _ s;refine Qq (Zv ho hd (x:=.ref l) rfl ?_);rw[Qe (show ¬ ((Value.ref l==Value.none)=true)from Yy)]
 refine Qq (Zv ho hd (x:=.int i 0) rfl ?_);refine Qq (Yb hol hdl ?_);simp only[Yg,hx];refine Qq (wpAny_setField ho hd (by simp) (Qk ⟨x,rfl,Qk (hQ _ ⟨_,Jj _ ho (Obj.isFreed_of_fields (Obj.data_mapFields hd _)),(Obj.cls_mapFields ..).trans hc,?_⟩ (Heap.SameBut.update ..))⟩))
 rw[Obj.data_mapFields hd];simp[rawInt]
theorem b7W{l:Addr}{items:Array Value}(hh:A.handled=none)(hit:s.heap.IsTupleIter it l i)(hl:s.heap.IsTuple l items)(hx:items[i]? =none)
  (hE:∀h' e,Heap.ExtBut it s.heap h'->(∃o,h'.get? e=some o/\o.cls=.type "StopIteration")->E (.ref e) {s with heap:=h'}):wpAny (model prog w) A (Builtin.SmallTypes.nextOf (.ref it)) Q E s:=by
 obtain⟨o,ho,hc,hd⟩:=id hit;obtain⟨ol,hol,_,nl,hdl⟩:=hl;unfold Builtin.SmallTypes.nextOf;refine Qq (Zr (name:=Str.ofString "__next__") hit.typeIs Jq (Yl Jq hit.typeIs Vf ?_ (Vp _)));show wpAny _ _ (field (.ref it) 0>>=_) _ _ s;refine Qq (Zv ho hd (x:=.ref l) rfl ?_);rw[Qe (show ¬ ((Value.ref l==Value.none)=true)from Yy)]
 refine Qq (Zv ho hd (x:=.int i 0) rfl ?_);refine Qq (Yb hol hdl ?_);simp only[Yg,hx];refine Qq (Uf (Qq (wpAny_setField ho hd (by simp) ?_)))
 refine Qq ?_
 simp only[newExc,newTuple];refine Qq (Zl ?_ (by size_fits))
 refine Qq (m:=firstArgMember _ _) (wpAny_of_eq (a:=Value.none) (by first|rfl|(simp only[firstArgMember];rfl)) ?_)
 refine Zl ?_ (by size_fits)
 simp only[raiseNew];refine Qq (wpAny_handled ?_)
 first|rw[show A.in1.handled=none from hh]|rw[hh]
 refine Qq (Qk (wpAny_throw ?_));exact hE _ _ (((Heap.SameBut.update ..).extBut.push _).push _) ⟨_,Qg _ rfl,rfl⟩
theorem a3T{k:Bool}{l:Addr}{items:Array Value}(hit:It1 k s.heap it l i)(hl:Sq1 k s.heap l items)(hx:items[i]? =some x)
  (hQ:∀h',It1 k h' it l (i+1)->Heap.SameBut it s.heap h'->Q x {s with heap:=h'}):wpAny (model prog w) A (Builtin.SmallTypes.nextOf (.ref it)) Q E s:=by
 cases k
 ·exact wpAny_nextOf_list_item hit hl hx hQ
 ·exact b7V hit hl hx hQ
theorem a6l{k:Bool}{l:Addr}{items:Array Value}(hh:A.handled=none)(hit:It1 k s.heap it l i)(hl:Sq1 k s.heap l items)(hx:items[i]? =none)
  (hE:∀h' e,Heap.ExtBut it s.heap h'->(∃o,h'.get? e=some o/\o.cls=.type "StopIteration")->E (.ref e) {s with heap:=h'}):wpAny (model prog w) A (Builtin.SmallTypes.nextOf (.ref it)) Q E s:=by
 cases k
 ·exact wpAny_nextOf_list_end hh hit hl hx hE
 ·exact b7W hh hit hl hx hE
end
section
variable{prog:Program}{w:World}{A:Around}{c1 c2:Bool}
theorem b7X{TI TO l1 l2:Addr}{a:Value}(D:ZipApart z TI TO i1 i2 l1 l2)
  (hz:IsZip s.heap z TI TO .none)(hTI:IsPair s.heap TI (.ref i1) (.ref i2))(hTO:IsPair s.heap TO a b)
  (h1:It1 c1 s.heap i1 l1 k1)(h2:It1 c2 s.heap i2 l2 k2)(hl1:Sq1 c1 s.heap l1 xs)(hl2:Sq1 c2 s.heap l2 ys)(hx:xs[k1]? =some x)(hy:ys[k2]? =some y)
  (hQ:∀h',IsZip h' z TI TO (rawInt s.heap.objs.size)->IsPair h' TO x y->It1 c1 h' i1 l1 (k1+1)->It1 c2 h' i2 l2 (k2+1)->IsPair h' s.heap.objs.size x y->h'.objs.size=s.heap.objs.size+1->
   (∀c o,c≠z->c≠TO->c≠i1->c≠i2->s.heap.get? c=some o->h'.get? c=some o)->Q (.ref s.heap.objs.size) {s with heap:=h'}):
  wpAny (model prog w) A (Builtin.«zip.__next__» ⟨[.ref z],[]⟩) (fun fin s'=>∃v,fin=.done (.ret v)/\Q v s') E s:=by
 show wpAny _ _ (field (.ref z) 2>>=_) _ _ _;refine Qq (Zv hz rfl (x:=.bool false) rfl (Qq (Zv hz rfl (x:=.ref TI) rfl ?_)));refine Qq (Yb hTI rfl (Qq ?_));unfold Builtin.SmallTypes.ownedTupleIsFree;refine Qq (Zv hz rfl (x:=.none) rfl (Qk ?_));simp only[Zu];refine Qq (Uf (Qq (Zv hz rfl (x:=.ref TO) rfl ?_)));refine Qq (Jk hz (by simp) fun g1 (z1:IsZip g1 z TI TO .ellipsis) s1=>Qq ?_)
 simp only[List.zipIdx_cons,List.zipIdx_nil,Xz,Vw];refine Qq (Qq (Vm (Qq (m:=Builtin.SmallTypes.nextOf (.ref i1)) ?_)));refine a3T (h1.but s1.extBut D.i1z) (hl1.but s1.extBut D.l1z) hx fun g2 a2 s2=>Qk ?_
 have p2:IsPair g2 TO a b:=s2.extBut _ _ D.TOi1 (s1.extBut _ _ D.TOz hTO)
 refine Qq (Yb p2 rfl (Qq (Xj p2 fun g3 (p3:IsPair g3 TO x b) s3=>?_)))
 refine Qq (wpAny_letGo (Qk (Qq (Qq (Vm (Qq (m:=Builtin.SmallTypes.nextOf (.ref i2)) ?_))))));refine a3T (((h2.but s1.extBut D.i2z).but s2.extBut D.i12.symm).but s3.extBut D.TOi2.symm) (((hl2.but s1.extBut D.l2z).but s2.extBut D.l2i1).but s3.extBut D.l2TO) hy fun g4 a4 s4=>Qk ?_
 have p4:IsPair g4 TO x b:=s4.extBut _ _ D.TOi2 p3
 refine Qq (Yb p4 rfl (Qq (Xj p4 fun g5 (p5:IsPair g5 TO x y) s5=>?_)))
 refine Qq (wpAny_letGo (Qk (Qk (Qq (Yb p5 rfl (Qq (wpAny_newTuple ?_)))))));have hsz:g5.objs.size=s.heap.objs.size:=by rw[s5.1,s4.1,s3.1,s2.1,s1.1]
 have z5:IsZip g5 z TI TO .ellipsis:=s5.extBut _ _ D.TOz.symm (s4.extBut _ _ D.i2z.symm (s3.extBut _ _ D.TOz.symm (s2.extBut _ _ D.i1z.symm z1)))
 have k5:∀c o,c≠z->c≠TO->c≠i1->c≠i2->s.heap.get? c=some o->g5.get? c=some o:=fun c o n1 n2 n3 n4 e=>
  s5.extBut _ _ n2 (s4.extBut _ _ n4 (s3.extBut _ _ n2 (s2.extBut _ _ n3 (s1.extBut _ _ n1 e))))
 have b1:It1 c1 g5 i1 l1 (k1+1):=((a2.but s3.extBut D.TOi1.symm).but s4.extBut D.i12).but s5.extBut D.TOi1.symm
 have b2:It1 c2 g5 i2 l2 (k2+1):=a4.but s5.extBut D.TOi2.symm
 refine Qq (m:=Builtin.SmallTypes.ownedTupleHandOut (.ref z) (.ref g5.objs.size)) ?_
 unfold Builtin.SmallTypes.ownedTupleHandOut;have z6:IsZip (g5.push {cls:=.type "tuple",data:=.seq #[x,y]}) z TI TO .ellipsis:=Qx _ z5;refine Qq (Jk z6 (by simp) fun g7 (z7:IsZip g7 z TI TO (rawInt g5.objs.size)) s7=>?_)
 refine Jk z7 (by simp) fun g8 (z8:IsZip g8 z TI TO (rawInt g5.objs.size)) s8=>?_
 have up:∀c o,c≠z->g5.get? c=some o->g8.get? c=some o:=fun c o n1 e=>s8.extBut _ _ n1 (s7.extBut _ _ n1 (Qx _ e))
 have t8:IsPair g8 g5.objs.size x y:=s8.extBut _ _ (Ua (Qw z5)) (s7.extBut _ _ (Ua (Qw z5)) (Qg _ rfl))
 have e8:g8.objs.size=g5.objs.size+1:=by rw[s8.1,s7.1,Zc]
 rw[hsz]at z8 t8 e8;refine Qk ⟨_,rfl,?_⟩;show Q (.ref g5.objs.size) _;rw[hsz];exact hQ g8 z8 (up _ _ D.TOz p5) (b1.at' fun o e=>up _ o D.i1z e) (b2.at' fun o e=>up _ o D.i2z e) t8 e8 fun c o n1 n2 n3 n4 e=>up c o n1 (k5 c o n1 n2 n3 n4 e)
theorem b7Y{TI TO l1 l2:Addr}{a:Value}{Q:PySem.Fin->Shared->Prop}(hh:A.handled=none)(D:ZipApart z TI TO i1 i2 l1 l2)
  (hz:IsZip s.heap z TI TO .none)(hTI:IsPair s.heap TI (.ref i1) (.ref i2))(hTO:IsPair s.heap TO a b)
  (h1:It1 c1 s.heap i1 l1 k1)(h2:It1 c2 s.heap i2 l2 k2)(hl1:Sq1 c1 s.heap l1 xs)(hl2:Sq1 c2 s.heap l2 ys)(hend:xs[k1]? =none∨ys[k2]? =none)
  (hE:∀h' e,(∀c o,c≠z->c≠TO->c≠i1->c≠i2->s.heap.get? c=some o->h'.get? c=some o)->(∃o,h'.get? e=some o/\o.cls=.type "StopIteration")->E (.ref e) {s with heap:=h'}):
  wpAny (model prog w) A (Builtin.«zip.__next__» ⟨[.ref z],[]⟩) Q E s:=by
 show wpAny _ _ (field (.ref z) 2>>=_) _ _ _;refine Qq (Zv hz rfl (x:=.bool false) rfl (Qq (Zv hz rfl (x:=.ref TI) rfl ?_)));refine Qq (Yb hTI rfl (Qq ?_));unfold Builtin.SmallTypes.ownedTupleIsFree;refine Qq (Zv hz rfl (x:=.none) rfl (Qk ?_));simp only[Zu];refine Qq (Uf (Qq (Zv hz rfl (x:=.ref TO) rfl ?_)));refine Qq (Jk hz (by simp) fun g1 (z1:IsZip g1 z TI TO .ellipsis) s1=>Qq ?_)
 simp only[List.zipIdx_cons,List.zipIdx_nil,Xz,Vw];refine Qq (Qq (Vm (Qq (m:=Builtin.SmallTypes.nextOf (.ref i1)) ?_)));cases hx:xs[k1]? with
 |none=>
  refine a6l hh (h1.but s1.extBut D.i1z) (hl1.but s1.extBut D.l1z) hx fun g2 e s2 he=>?_
  obtain⟨oe,q1,q2⟩:=he;have z2:IsZip g2 z TI TO .ellipsis:=s2 _ _ D.i1z.symm z1;have ne:e≠z:=fun x=>by subst x;rw[z2]at q1;cases q1;simp at q2
  exact Jk z2 (by simp) fun g3 _ s3=>hE g3 e (fun c o n1 _ n3 _ x=>s3.extBut _ _ n1 (s2 _ _ n3 (s1.extBut _ _ n1 x))) ⟨oe,s3.extBut _ _ ne q1,q2⟩
 |some x=>
  have hy:ys[k2]? =none:=by
   rcases hend with h|h
   ·rw[hx]at h;cases h
   ·exact h
  refine a3T (h1.but s1.extBut D.i1z) (hl1.but s1.extBut D.l1z) hx fun g2 a2 s2=>Qk ?_
  have p2:IsPair g2 TO a b:=s2.extBut _ _ D.TOi1 (s1.extBut _ _ D.TOz hTO)
  refine Qq (Yb p2 rfl (Qq (Xj p2 fun g3 p3 s3=>?_)))
  refine Qq (wpAny_letGo (Qk (Qq (Qq (Vm (Qq (m:=Builtin.SmallTypes.nextOf (.ref i2)) ?_))))));refine a6l hh (((h2.but s1.extBut D.i2z).but s2.extBut D.i12.symm).but s3.extBut D.TOi2.symm) (((hl2.but s1.extBut D.l2z).but s2.extBut D.l2i1).but s3.extBut D.l2TO) hy fun g4 e s4 he=>?_
  obtain⟨oe,q1,q2⟩:=he;have z4:IsZip g4 z TI TO .ellipsis:=s4 _ _ D.i2z.symm (s3.extBut _ _ D.TOz.symm (s2.extBut _ _ D.i1z.symm z1));have ne:e≠z:=fun x=>by subst x;rw[z4]at q1;cases q1;simp at q2
  exact Jk z4 (by simp) fun g5 _ s5=>hE g5 e (fun c o n1 n2 n3 n4 x=>s5.extBut _ _ n1 (s4 _ _ n4 (s3.extBut _ _ n2 (s2.extBut _ _ n3 (s1.extBut _ _ n1 x))))) ⟨oe,s5.extBut _ _ ne q1,q2⟩
theorem b1x{TI TO l1 l2:Addr}{a:Value}{Q:Option Value->Shared->Prop}(D:ZipApart z TI TO i1 i2 l1 l2)
  (hz:IsZip s.heap z TI TO .none)(hTI:IsPair s.heap TI (.ref i1) (.ref i2))(hTO:IsPair s.heap TO a b)
  (h1:It1 c1 s.heap i1 l1 k1)(h2:It1 c2 s.heap i2 l2 k2)(hl1:Sq1 c1 s.heap l1 xs)(hl2:Sq1 c2 s.heap l2 ys)(hx:xs[k1]? =some x)(hy:ys[k2]? =some y)
  (hQ:∀h',IsZip h' z TI TO (rawInt s.heap.objs.size)->IsPair h' TO x y->It1 c1 h' i1 l1 (k1+1)->It1 c2 h' i2 l2 (k2+1)->IsPair h' s.heap.objs.size x y->h'.objs.size=s.heap.objs.size+1->
   (∀c o,c≠z->c≠TO->c≠i1->c≠i2->s.heap.get? c=some o->h'.get? c=some o)->Q (some (.ref s.heap.objs.size)) {s with heap:=h'}):
  wpAny (model prog w) A (pyNext (.ref z)) Q E s:=by
 have hT:s.TypeIs (.ref z) "zip":=⟨_,hz,rfl⟩
 unfold pyNext;exact Qq (Xf (Zr (name:=Str.ofString "__next__") hT Yv (Yl Yv hT Up
  (b7X D hz hTI hTO h1 h2 hl1 hl2 hx hy fun h' a1 a2 a3 a4 a5 a6 a7=>Qk (hQ h' a1 a2 a3 a4 a5 a6 a7)) (Uz _))))
theorem b1y{TI TO l1 l2:Addr}{a:Value}{Q:Option Value->Shared->Prop}(hh:A.handled=none)(D:ZipApart z TI TO i1 i2 l1 l2)
  (hz:IsZip s.heap z TI TO .none)(hTI:IsPair s.heap TI (.ref i1) (.ref i2))(hTO:IsPair s.heap TO a b)
  (h1:It1 c1 s.heap i1 l1 k1)(h2:It1 c2 s.heap i2 l2 k2)(hl1:Sq1 c1 s.heap l1 xs)(hl2:Sq1 c2 s.heap l2 ys)(hend:xs[k1]? =none∨ys[k2]? =none)
  (hQ:∀h',(∀c o,c≠z->c≠TO->c≠i1->c≠i2->s.heap.get? c=some o->h'.get? c=some o)->Q none {s with heap:=h'}):wpAny (model prog w) A (pyNext (.ref z)) Q E s:=by
 have hT:s.TypeIs (.ref z) "zip":=⟨_,hz,rfl⟩
 unfold pyNext;refine Qq (Xf (Zr (name:=Str.ofString "__next__") hT Yv (Yl Yv hT Up
  (b7Y hh D hz hTI hTO h1 h2 hl1 hl2 hend fun h' e hk he=>?_) (Uz _))))
 obtain⟨o,ho,hc⟩:=he;exact Qq (wpAny_isInstance (T:="StopIteration") (b:=true) ⟨o,ho,hc⟩ isSubtype_stop (Qk (hQ _ hk)))
end
def b1z(c:Bool):String:=if c then "tuple_iterator" else "list_iterator"
abbrev zh1(c1:Bool)(h:Heap)(l1:Addr):Heap:=h.push {cls:=.type (b1z c1),data:=.fields #[.ref l1,.int 0 0]}
abbrev zh2(c1 c2:Bool)(h:Heap)(l1 l2:Addr):Heap:=(zh1 c1 h l1).push {cls:=.type (b1z c2),data:=.fields #[.ref l2,.int 0 0]}
abbrev zh3(c1 c2:Bool)(h:Heap)(l1 l2:Addr):Heap:=(zh2 c1 c2 h l1 l2).push {cls:=.type "tuple",data:=.seq #[.ref h.objs.size,.ref (zh1 c1 h l1).objs.size]}
abbrev zh4(c1 c2:Bool)(h:Heap)(l1 l2:Addr):Heap:=(zh3 c1 c2 h l1 l2).push {cls:=.type "tuple",data:=.seq #[.none,.none]}
abbrev zh5(c1 c2:Bool)(h:Heap)(l1 l2:Addr):Heap:=(zh4 c1 c2 h l1 l2).push {cls:=.type "zip",data:=.fields #[.none,.bool false,.bool false,.ref (zh2 c1 c2 h l1 l2).objs.size,.ref (zh3 c1 c2 h l1 l2).objs.size]}
section
variable{prog:Program}{w:World}{A:Around}
theorem b1A{c:Bool}{l:Addr}{items:Array Value}(hl:Sq1 c s.heap l items)(hQ:Q (.ref s.heap.objs.size) {s with heap:=zh1 c s.heap l}):wpAny (model prog w) A (pyIter (.ref l)) Q E s:=by
 cases c
 ·exact Jd hl hQ
 ·exact Uo hl hQ
end
theorem b7Z(c1 c2:Bool)(l1 l2:Addr)(xs ys:Array Value):
  Meets (Builtin.«zip.__new__» ⟨[.type "zip",.ref l1,.ref l2],[]⟩) (fun _ R s=>Sq1 c1 s.heap l1 xs/\Sq1 c2 s.heap l2 ys/\R (.ok (.ret (.ref (zh4 c1 c2 s.heap l1 l2).objs.size))) {s with heap:=zh5 c1 c2 s.heap l1 l2}):=
 .of_wp fun prog w A R s h=>by
  obtain⟨hp,g,d,tk,os⟩:=s;obtain⟨hl1,hl2,h⟩:=h;have hsub:=sub_zip;have hL1:Sq1 c1 (Shared.heap ⟨hp,g,d,tk,os⟩) l1 xs:=hl1;have hL2:Sq1 c2 (Shared.heap ⟨zh1 c1 hp l1,g,d,tk,os⟩) l2 ys:=Sq1.at' hl2 fun o e=>Qx _ e
  wp_walk using b1A hL1,b1A hL2
  exact⟨_,rfl,h⟩
section
variable{prog:Program}{w:World}{A:Around}
theorem b1B{c1 c2:Bool}{l1 l2:Addr}(hl1:Sq1 c1 s.heap l1 xs)(hl2:Sq1 c2 s.heap l2 ys)
  (h:∀h',IsZip h' (s.heap.objs.size+4) (s.heap.objs.size+2) (s.heap.objs.size+3) .none->IsPair h' (s.heap.objs.size+2) (.ref s.heap.objs.size) (.ref (s.heap.objs.size+1))->
   IsPair h' (s.heap.objs.size+3) .none .none->It1 c1 h' s.heap.objs.size l1 0->It1 c2 h' (s.heap.objs.size+1) l2 0->h'.objs.size=s.heap.objs.size+5->
   (∀c o,s.heap.get? c=some o->h'.get? c=some o)->Q (.ref (s.heap.objs.size+4)) {s with heap:=h'}):
  wpAny (model prog w) A (call (.type "zip") [.ref l1,.ref l2]) Q E s:=by
 refine callType_new PySem.F.called_zip (by decide) (PySem.F.typeCall_zip_2 _ _) (PySem.F.newCall_zip_2 _ _) (fun obj=>PySem.F.args_object_init_3 obj _ _) PySem.F.entry_zip_new (b7Z c1 c2 l1 l2 xs ys) ⟨hl1,hl2,?_⟩
 have z1:(zh1 c1 s.heap l1).objs.size=s.heap.objs.size+1:=Zc ..
 have z2:(zh2 c1 c2 s.heap l1 l2).objs.size=s.heap.objs.size+2:=by rw[Zc,z1]
 have z3:(zh3 c1 c2 s.heap l1 l2).objs.size=s.heap.objs.size+3:=by rw[Zc,z2]
 have z4:(zh4 c1 c2 s.heap l1 l2).objs.size=s.heap.objs.size+4:=by rw[Zc,z3]
 have z5:(zh5 c1 c2 s.heap l1 l2).objs.size=s.heap.objs.size+5:=by rw[Zc,z4]
 have g5:(zh5 c1 c2 s.heap l1 l2).get? (zh4 c1 c2 s.heap l1 l2).objs.size=some _:=Qg _ rfl
 have g4:(zh5 c1 c2 s.heap l1 l2).get? (zh3 c1 c2 s.heap l1 l2).objs.size=some _:=Qx _ (Qg _ rfl)
 have g3:(zh5 c1 c2 s.heap l1 l2).get? (zh2 c1 c2 s.heap l1 l2).objs.size=some _:=Qx _ (Qx _ (Qg _ rfl))
 have g2:(zh5 c1 c2 s.heap l1 l2).get? (zh1 c1 s.heap l1).objs.size=some _:=Qx _ (Qx _ (Qx _ (Qg _ rfl)))
 have g1:(zh5 c1 c2 s.heap l1 l2).get? s.heap.objs.size=some _:=Qx _ (Qx _ (Qx _ (Qx _ (Qg _ rfl))))
 show _/\_;rw[z2,z3,z4]at g5;rw[z1,z2]at g3;rw[z3]at g4;rw[z1]at g2;rw[z4];refine⟨⟨_,g5,rfl⟩,h _ g5 g3 g4 ?_ ?_ z5 fun c o x=>Qx _ (Qx _ (Qx _ (Qx _ (Qx _ x))))⟩
 ·cases c1
  ·exact(⟨_,g1,rfl,rfl⟩:Heap.IsListIter _ _ _ _)
  ·exact(⟨_,g1,rfl,rfl⟩:Heap.IsTupleIter _ _ _ _)
 ·cases c2
  ·exact(⟨_,g2,rfl,rfl⟩:Heap.IsListIter _ _ _ _)
  ·exact(⟨_,g2,rfl,rfl⟩:Heap.IsTupleIter _ _ _ _)
end
def SqA(c:Bool)(K:Qz)(H:Hp)(a:Addr)(xs:List V):Prop:=if c then SqT K H a xs else SqL K H a xs
theorem Le.sqA{K:Qz}{G':Hp}(l:Le G G'){c:Bool}{a:Addr}{xs:List V}(h:SqA c K G a xs):SqA c K G' a xs:=by
 cases c
 ·exact l.sqL h
 ·exact l.sqT' h
section
variable{c:Bool}{a b:Addr}{xs:List V}
theorem a1b(I:Inv X pins σ H s)(h:SqA c X.K H a xs):∃its:List Value,q8_ xs its/\Sq1 c s.heap a its.toArray/\xs.length≤sizeLine:=by
 cases c
 ·obtain⟨its,r,p,z⟩:=I.list h
  exact⟨its,r,p.isList,z⟩
 ·obtain⟨its,r,p,z⟩:=I.tuple h
  exact⟨its,r,p,z⟩
theorem a2z(I:Inv X pins σ H s)(f:w8_ X pins H b)(h:SqA c X.K H a xs):a≠b:=by
 have k:∀{u:HO},Rd H a u->a≠b:=fun r z=>by
  subst z
  rcases r with r|⟨_,r⟩
  ·rw[f.1]at r;cases r
  ·rw[f.1]at r;cases r
 have m:∀{o:Obj},X.K.lookup a=some o->a≠b:=fun{o} q z=>by
  subst z;have e:X.base.get? a=some o:=I.mod.kin a o q
  rcases f.2.2.2.1 with z|z
  ·exact I.ok.noex a o e z
  ·exact absurd (Qc (Qw e) (Zm I.ok.bsz z)) (Yi _)
 cases c
 ·rcases h with h|⟨o,_,_,q,_⟩
  ·exact k h
  ·exact m q
 ·rcases h with h|⟨o,_,_,q,_⟩
  ·exact k h
  ·exact m q
end
def Itz(K:Qz)(c1 c2:Bool)(l1 l2:Addr)(xs ys:List V):It:=
 ⟨fun i H=>i<min xs.length ys.length/\SqA c1 K H l1 xs/\SqA c2 K H l2 ys,
  fun i H x H'=>∃p a b,H p=none/\x=.ref p/\H'=upd H p (.tup [a,b])/\xs[i]? =some a/\ys[i]? =some b,
  fun i H=>min xs.length ys.length≤i/\SqA c1 K H l1 xs/\SqA c2 K H l2 ys⟩
def b8a(c1 c2:Bool)(n:Nat)(l1 l2:Addr)(i:Nat)(h:Heap):Prop:=
 IsZip h (n+4) (n+2) (n+3) .none/\IsPair h (n+2) (.ref n) (.ref (n+1))/\(∃a b,IsPair h (n+3) a b)/\It1 c1 h n l1 i/\It1 c2 h (n+1) l2 i
theorem apart{n l1 l2:Addr}(h1:∀j,j<5->l1≠n+j)(h2:∀j,j<5->l2≠n+j):ZipApart (n+4) (n+2) (n+3) n (n+1) l1 l2:=by
 constructor<;>first
  |(show(_:Nat)≠_;omega)
  |exact h1 4 (by decide)
  |exact h1 3 (by decide)
  |exact h1 1 (by decide)
  |exact h1 0 (by decide)
  |exact h2 4 (by decide)
  |exact h2 3 (by decide)
  |exact h2 1 (by decide)
  |exact h2 0 (by decide)
abbrev fp5(n:Nat):List Addr:=[n+4,n+2,n+3,n,n+1]
abbrev fp4(n:Nat):List Addr:=[n+4,n+3,n,n+1]
theorem a2d(n:Nat):∀{j:Nat},j<5->(n+j:Nat)∈fp5 n
 |0,_=>by simp[fp5]
 |1,_=>by simp[fp5]
 |2,_=>by simp[fp5]
 |3,_=>by simp[fp5]
 |4,_=>by simp[fp5]
 |j+5,h=>by omega
theorem a6m{c:Addr}(h:c∈fp4 n):c∈fp5 n:=by
 simp only[fp4,fp5,Ql,Zw,Yo]at h ⊢
 rcases h with h|h|h|h<;>simp[h]
theorem b8b{c:Addr}(h:c∈[n+4]):c∈fp5 n:=by
 simp only[Ql,Zw,Yo]at h;rw[h];simp
theorem le5{c:Addr}(h:c∈fp5 n):n≤c:=by
 simp only[fp5,Ql,Zw,Yo]at h
 rcases h with rfl|rfl|rfl|rfl|rfl
 ·exact Vd _ _
 ·exact Vd _ _
 ·exact Vd _ _
 ·exact Qp _
 ·exact Vd _ _
theorem b8c{w:World}{K:Qz}(c1 c2:Bool)(n l1 l2:Addr)(xs ys:List V):
  Turn P w K (.Tuple elts kk tp) (Itz K c1 c2 l1 l2 xs ys) [n+4,n+2,n+3,n,n+1] (n+4) (b8a c1 c2 n l1 l2)where
 mem:=by simp
 obj:=fun i h st b hb=>by
  obtain⟨hz,hI,⟨a,b',hO⟩,h1,h2⟩:=st;simp only[Ql,Zw,Yo]at hb
  rcases hb with rfl|rfl|rfl|rfl|rfl
  ·exact⟨_,hz,fun v z=>by cases z⟩
  ·exact⟨_,hI,fun v z=>by cases z⟩
  ·exact⟨_,hO,fun v z=>by cases z⟩
  ·exact h1.get
  ·exact h2.get
 keep:=fun i h h' st k=>by
  obtain⟨hz,hI,⟨a,b',hO⟩,h1,h2⟩:=st;exact⟨k _ (by simp) _ hz,k _ (by simp) _ hI,⟨a,b',k _ (by simp) _ hO⟩,h1.at' fun o e=>k _ (by simp) o e,h2.at' fun o e=>k _ (by simp) o e⟩
 item:=by
  intro X hP hw hK hc i pins s σ H E I hf st hg;subst hP hw hK;obtain⟨hi,q1,q2⟩:=hg;obtain⟨hz,hI,⟨a,b,hO⟩,h1,h2⟩:=st;obtain⟨its,r1,p1,_⟩:=a1b I q1;obtain⟨jts,r2,p2,_⟩:=a1b I q2;have ex:xs[i]? =some (xs[i]'(by omega)):=by simp
  have ey:ys[i]? =some (ys[i]'(by omega)):=by simp
  obtain⟨u,hu,ru⟩:=r1.get ex;obtain⟨v,hv,rv⟩:=r2.get ey;have D:ZipApart (n+4) (n+2) (n+3) n (n+1) l1 l2:=apart
   (fun j hj=>a2z I (hf _ (a2d n hj)) q1)
   (fun j hj=>a2z I (hf _ (a2d n hj)) q2)
  refine b1x D hz hI hO h1 h2 p1 p2 (x:=u) (y:=v) (by simpa using hu) (by simpa using hv) fun h' a1 a2 a3 a4 a5 a6 a7=>?_
  have hn:H s.heap.objs.size=none:=I.fresh
  have I1:Inv X pins σ (upd H s.heap.objs.size (.tup [xs[i]'(by omega),ys[i]'(by omega)])) {s with heap:=h'}:=b1w (ch:=[n+4,n+3,n,n+1]) (t':=s.toks) I
   (fun c o hc e=>a7 c o (fun z=>hc (by simp[z])) (fun z=>hc (by simp[z])) (fun z=>hc (by simp[z])) (fun z=>hc (by simp[z])) e)
   (fun c hc=>hf c (a6m hc)) (Qp _)
   ⟨by show 2≤sizeLine;decide,[u,v],.cons ru (.cons rv .nil),_,a5,rfl,rfl,0,rfl⟩
  have lt5:∀c∈[n+4,n+2,n+3,n,n+1],c≠s.heap.objs.size:=fun c hc=>by
   have:∃o,s.heap.get? c=some o:=by
    simp only[Ql,Zw,Yo]at hc
    rcases hc with rfl|rfl|rfl|rfl|rfl
    ·exact⟨_,hz⟩
    ·exact⟨_,hI⟩
    ·exact⟨_,hO⟩
    ·obtain⟨o,e,_⟩:=h1.get;exact⟨o,e⟩
    ·obtain⟨o,e,_⟩:=h2.get;exact⟨o,e⟩
   obtain⟨o,e⟩:=this;exact Qd (Qw e)
  have hf2:∀c∈[n+4,n+2,n+3,n,n+1],w8_ X pins (upd H s.heap.objs.size (.tup [xs[i]'(by omega),ys[i]'(by omega)])) c:=fun c hc=>⟨by rw[q5_ (lt5 c hc)];exact(hf c hc).1,(hf c hc).2⟩
  have hI':IsPair h' (n+2) (.ref n) (.ref (n+1)):=a7 _ _ D.TIz D.TITO D.TIi1 D.TIi2 hI
  refine⟨.ref s.heap.objs.size,rfl,wpAny_letOwnedTupleGo_zip (s:={s with heap:=h'}) a1 fun h2' b1 b2=>?_⟩
  have I2:Inv X pins σ (upd H s.heap.objs.size (.tup [xs[i]'(by omega),ys[i]'(by omega)])) {s with heap:=h2'}:=a6k (s:={s with heap:=h'}) (ch:=[n+4]) (t':=s.toks) I1
   (fun c o hc e=>b2.extBut _ _ (fun z=>hc (by simp[z])) e) (fun c hc=>hf2 c (b8b hc))
  exact⟨.ref s.heap.objs.size,_,I2,rfl,⟨_,_,_,hn,rfl,rfl,ex,ey⟩,
   ⟨b1,b2.extBut _ _ D.TIz hI',⟨_,_,b2.extBut _ _ D.TOz a2⟩,a3.but b2.extBut D.i1z,a4.but b2.extBut D.i2z⟩,fun c hc=>(hf2 c hc).1⟩
 done:=by
  intro X hP hw hK hc i pins s σ H E I hf st hg;subst hP hw hK;obtain⟨hi,q1,q2⟩:=hg;obtain⟨hz,hI,⟨a,b,hO⟩,h1,h2⟩:=st;obtain⟨its,r1,p1,_⟩:=a1b I q1;obtain⟨jts,r2,p2,_⟩:=a1b I q2;have D:ZipApart (n+4) (n+2) (n+3) n (n+1) l1 l2:=apart
   (fun j hj=>a2z I (hf _ (a2d n hj)) q1)
   (fun j hj=>a2z I (hf _ (a2d n hj)) q2)
  have e1:=r1.length
  have e2:=r2.length
  have hend:its.toArray[i]? =none∨jts.toArray[i]? =none:=by
   by_cases h:its.length≤i
   ·exact .inl (by simp;omega)
   ·exact .inr (by simp;omega)
  exact b1y (I.ok.hd hc) D hz hI hO h1 h2 p1 p2 hend fun h' hk=>⟨rfl,a6k (ch:=[n+4,n+3,n,n+1]) (t':=s.toks) I
   (fun c o hc e=>hk c o (fun z=>hc (by simp[z])) (fun z=>hc (by simp[z])) (fun z=>hc (by simp[z])) (fun z=>hc (by simp[z])) e)
   (fun c hc=>hf c (a6m hc))⟩
 self:=fun _ _ _ _ _ st h=>wpAny_pyIter_zip st.1 h
theorem b1C:bootBuiltins "zip"=some (.type "zip"):=by decide+kernel
section
variable{a b:Expr}
def b8d(K:Qz)(ta:TA):TI:=fun σ H R=>ta σ H fun vs H1=>∃c1 c2 l1 l2 xs ys,vs=[.ref l1,.ref l2]/\SqA c1 K H1 l1 xs/\SqA c2 K H1 l2 ys/\R (Itz K c1 c2 l1 l2 xs ys) H1
theorem b8e{ta:TA}(hg:Gl X "zip")(hm:X.mg "zip"=none)(ha:PA X [a,b] ta)(hs:starEach [a,b] X.env=[(false,eval a X.env),(false,eval b X.env)]:=by rfl)(hs2:starEach [b] X.env=[(false,eval b X.env)]:=by rfl):
  PI X (.Tuple elts kk tp) (.Call (.Name "zip" p) [a,b] [] pos) (b8d X.K ta):=by
 intro pins s σ H R I h;refine Call_ (a2s I hg hm b1C (Yw (thn (ha pos pins s σ H _ I h) fun us s1 ⟨vs,H1,I1,r1,q1⟩=>?_) (by rw[hs,hs2]) (by rw[hs2];rfl)))
 obtain⟨c1,c2,l1,l2,xs,ys,rfl,h1,h2,q⟩:=q1;obtain⟨u,v,rfl,ru,rv⟩:=a3a r1;cases ru;cases rv;obtain⟨its,r1,p1,_⟩:=a1b I1 h1;obtain⟨jts,r2,p2,_⟩:=a1b I1 h2;refine b1B p1 p2 fun h' a1 a2 a3 a4 a5 a6 a7=>?_
 refine wpAny_pyIter_zip a1 ?_
 refine⟨s1.heap.objs.size+4,_,_,_,H1,rfl,I1.kept (t':=s1.toks) a7,b8c c1 c2 s1.heap.objs.size l1 l2 xs ys,⟨a1,a2,⟨_,_,a3⟩,a4,a5⟩,fun c hc=>?_,q⟩
 have hle:s1.heap.objs.size≤c:=le5 hc
 exact I1.fpOk hle (I1.hok.fresh hle)
def g3_(xs ys:List D):List D:=(xs.zip ys).map fun p=>.tup [p.1,p.2]
def a0c(ms:Mo (List D)):Mo (List D):=fun env=>(ms env).bind fun p=>match p.1 with
 |[d,e]=>d.items.bind fun xs=>e.items.map fun ys=>(g3_ xs ys,p.2)
 |_=>none
theorem a6n{K:Qz}{v:V}(r:Rep K G v d)(h:d.items=some ds):∃c a xs,v=.ref a/\SqA c K G a xs/\z9_ K G xs ds:=by
 cases d<;>first|(exact absurd (show(none:Option (List D))=some ds from h) (by simp))|skip
 ·cases h;simp only[Rep]at r;obtain⟨a,xs,e,q,t⟩:=r;exact⟨true,a,xs,e,q.t,t⟩
 ·cases h;simp only[Rep]at r;obtain⟨a,xs,e,q,t⟩:=r;exact⟨false,a,xs,e,q,t⟩
theorem b8f{K:Qz}{c1 c2:Bool}{l1 l2:Addr}{xs ys:List V}{es:List D}(h1:SqA c1 K G l1 xs)(h2:SqA c2 K G l2 ys)(r1:z9_ K G xs ds)(r2:z9_ K G ys es):ItD K (Itz K c1 c2 l1 l2 xs ys) G (g3_ ds es)where
 go:=fun i H l hi=>⟨by rw[r1.length,r2.length];simpa [g3_]using hi,l.sqA h1,l.sqA h2⟩
 stop:=fun i H l hi=>⟨by rw[r1.length,r2.length];simpa [g3_]using hi,l.sqA h1,l.sqA h2⟩
 yld:=fun i H x H' d l y e=>by
  obtain⟨p,a,b,hp,rfl,rfl,ea,eb⟩:=y;obtain⟨da,e1,ra⟩:=r1.get' ea;obtain⟨db,e2,rb⟩:=r2.get' eb;have ed:d=.tup [da,db]:=by
   unfold g3_ at e;rw[Zj,List.getElem?_zip_eq_some.mpr (⟨e1,e2⟩:ds[i]? =some (da,db).1/\es[i]? =some (da,db).2)]at e;cases e;rfl
  subst ed;have gp:G p=none:=by
   cases q:G p with
   |none=>rfl
   |some o=>rw[l p o q]at hp;cases hp
  exact .inr ⟨p,_,nt_tup,hp,rfl,a1V y5_ (repL_cons (Rep.mono (Le.upd gp) _ ra) (repL_cons (Rep.mono (Le.upd gp) _ rb) repL_nil))⟩
theorem a2A(hg:Gl X "zip")(hm:X.mg "zip"=none)(ha:EDs X B [a,b] ms)(hs:starEach [a,b] X.env=[(false,eval a X.env),(false,eval b X.env)]:=by rfl)(hs2:starEach [b] X.env=[(false,eval b X.env)]:=by rfl):
  EI X B (.Tuple elts kk tp) (.Call (.Name "zip" p) [a,b] [] pos) (a0c ms):=by
 refine a5X (b8e hg hm ha hs hs2) ?_
 rintro σ H R ⟨G,env,ds,env',rl,e,k⟩;obtain⟨⟨ds',env1⟩,e1,e2⟩:=q2_ e;dsimp only at e2;split at e2
 ·rename_i d1 d2
  obtain⟨xs,e3,e4⟩:=q2_ e2;obtain⟨ys,e5,e6⟩:=x4_ e4;cases e6;refine⟨G,env,_,_,rl,e1,fun vs G1 H1 ev r=>?_⟩
  obtain⟨v,w,rfl,r1,r2⟩:=a3f r;obtain⟨c1,l1,us,rfl,q1,t1⟩:=a6n r1 e3;obtain⟨c2,l2,ws,rfl,q2,t2⟩:=a6n r2 e5;exact⟨c1,c2,l1,l2,us,ws,rfl,ev.rel.sub.sqA q1,ev.rel.sub.sqA q2,k _ G1 H1 ev (b8f q1 q2 t1 t2)⟩
 ·cases e2
end
def a1o(h:Heap):List Value->List (List Int)->Prop
 |[],[]=>True
 |v::vs,k::ks=>(∃a its,v=.ref a/\IsTup h a its.toArray/\IntsAre its k/\k≠[])/\a1o h vs ks
 |_,_=>False
theorem b1D{w:World}{a:Addr}(x:j5_ P w H h a o):∃ob,h.get? a=some ob:=by
 cases o with
 |lst xs=>obtain⟨_,_,_,_,e⟩:=x;exact⟨_,e⟩
 |tup xs=>obtain⟨_,_,_,ob,e,_⟩:=x;exact⟨_,e⟩
 |dK kvs=>obtain⟨_,_,_,_,o,_,_,e,_⟩:=x;exact⟨_,e⟩
 |dT C kvs=>obtain⟨_,_,_,_,o,_,_,e,_⟩:=x;exact⟨_,e⟩
 |set S n=>obtain⟨o,_,_,_,e,_⟩:=x;exact⟨_,e⟩
 |ins C dx fs=>obtain⟨_,_,_,e,_⟩:=x;exact⟨_,e⟩
 |own y=>obtain⟨_,e⟩:=x;exact⟨_,e⟩
 |xd fs=>obtain⟨_,⟨_,_,_,e,_⟩,_⟩:=x;exact⟨_,e⟩
 |rng lo hi=>obtain⟨_,_,_,e⟩:=x;exact⟨_,e⟩
 |frz ob u=>obtain⟨e,_⟩:=x;exact⟨_,e⟩
 |tbl ps=>exact⟨_,(show h.get? a=some _ from x)⟩
 |met f y=>exact⟨_,(show h.get? a=some _ from x)⟩
 |ext φ=>obtain⟨_,⟨_,e⟩,_⟩:=x;exact⟨_,e⟩
theorem a1o.mono{h h':Heap}:∀{vs:List Value}{ks:List (List Int)},a1o h vs ks->(∀a its,IsTup h a its->IsTup h' a its)->a1o h' vs ks
 |[],[],_,_=>trivial
 |v::vs,k::ks,⟨⟨a,its,e,t,i,n⟩,r⟩,f=>⟨⟨a,its,e,f _ _ t,i,n⟩,a1o.mono r f⟩
 |[],_::_,h,_=>h.elim
 |_::_,[],h,_=>h.elim
theorem a1o.len{h:Heap}:∀{vs:List Value}{ks:List (List Int)},a1o h vs ks->vs.length=ks.length
 |[],[],_=>rfl
 |v::vs,k::ks,h=>by simp[a1o.len h.2]
 |[],_::_,h=>h.elim
 |_::_,[],h=>h.elim
theorem a1o.get{h:Heap}:∀{vs:List Value}{ks:List (List Int)}{i:Nat},a1o h vs ks->i<vs.length->∃a its,vs.getD i Value.none=.ref a/\IsTup h a its.toArray/\IntsAre its (ks.getD i [])
 |v::vs,k::ks,0,⟨⟨a,its,e,t,i,n⟩,r⟩,_=>⟨a,its,by simpa using e,t,by simpa using i⟩
 |v::vs,k::ks,i+1,⟨_,r⟩,hi=>by
  obtain⟨a,its,e,t,j⟩:=a1o.get (i:=i) r (by simpa using hi)
  exact⟨a,its,by simpa using e,t,by simpa using j⟩
 |[],_,_,_,hi=>by simp at hi
 |_::_,[],_,h,_=>h.elim
section
variable{prog:Program}{w:World}{A:Around}{fin:Bool}{Q:Bool->Shared->Prop}
end
def keys(ds:List D):Option (List (List Int)):=ds.mapM fun d=>match d with
 |.tup es=>(ints? es).bind fun ns=>if ns.isEmpty then none else some ns
 |_=>none
theorem b8g(I:Inv X pins σ H s):sysModules<s.heap.objs.size:=by
 have h:mainGlobals<s.heap.objs.size:=(I.mod.glob.keeps I.bk).lt
 exact Vo (by decide) h
section
variable{fn:Fn}{k:Nat}{f:Addr}{fd:FuncData}{ps:List Str}{x:Str}
structure Def(P:Program)(w:World)(K:Qz)(mg:Str->Option Value)(base:Heap)(x:Str)(k n:Nat)(fn:Fn):Prop where
 ex:∃(f:Addr) (fd:FuncData) (ps:List Str),FnOk P w K mg base CX0 k f fd ps (SpF K n fn)/\ps.length=n/\mg x=some (.ref f)/\PySem.W.keepIn K (.ref f)=true/\a0S K fd ps []
theorem v7_(D:Def X.prog X.w X.K X.mg X.base x k n fn)(hr:Room k X.A)(hg:Gl X x)(ha:EAr X B (e::es) as)(hdb:(x==("__debug__":Str))=false:=by decide)
  (he:starEach (e::es) X.env=(false,eval e X.env)::starEach es X.env:=by rfl)(hpl:(backTo pos (starEach es X.env)).any (·.1)=false:=by rfl):
  ED X B (.Call (.Name x p) (e::es) [] pos) (mCD n fn as):=by
 obtain⟨f,fd,ps,F,rfl,hm,hk,hb⟩:=D.ex;exact b7n F hr hg hm hk hb ha hdb he hpl
theorem a3U(D:Def X.prog X.w X.K X.mg X.base x k n fn)(hr:Room k X.A)(hg:Gl X x)(ha:EAr X B (e::es) as)(hdb:(x==("__debug__":Str))=false:=by decide)
  (he:starEach (e::es) X.env=(false,eval e X.env)::starEach es X.env:=by rfl)(hpl:(backTo pos (starEach es X.env)).any (·.1)=false:=by rfl):
  EL X B (.Call (.Name x p) (e::es) [] pos) (a0Y n fn as):=by
 obtain⟨f,fd,ps,F,rfl,hm,hk,hb⟩:=D.ex;exact b7o F hr hg hm hk hb ha hdb he hpl
def a2B:Option NameKind->Option NameKind->Bool:=fun a b=>decide (a=b)
def b1E(outN N':List Str)(outNames:List (Str×NameKind))(cells:List (Str×Addr))(scope:Scope)(keep:List Bool)(more:Nat):Bool:=
 (decide (scope.kind=.function)&&(scope.names.all (fun y=>a2B (scope.names.lookup y.1) (some y.2))&&(scope.names.all (fun y=>!a2B (some y.2) (some .free)||(cells.lookup y.1).isSome)&&(decide (keep.length=outN.length)&&(decide (N'.length=outN.length+more)&&
  (List.range keep.length).all fun i=>!(keep.getD i false)||match N'[i]?,outN[i]? with
   |some x,some y=>decide (x=y)&&(!a2B (scope.names.lookup x) (some .local)&&(!a2B (scope.names.lookup x) (some .cell)&&(!a2B (scope.names.lookup x) (some .free)||(a2B (outNames.lookup x) (some .cell)||a2B (outNames.lookup x) (some .free)))))
   |_,_=>false)))))
theorem b8h{N':List Str}{keep:List Bool}(c:closureFor scope X.env=pure (u3_ X.env.cells scope.names []))(h:b1E X.N N' X.env.scope.names X.env.cells scope keep more=true):CompOk X N' scope keep more:=by
 unfold b1E at h;simp only[Qy,Zs,Qu,a2B]at h;obtain⟨h1,h2,h3,h4,h5,h6⟩:=h;have gt:∀(i:Nat) (x:Str),keep[i]? =some true->N'[i]? =some x->∃y,X.N[i]? =some y/\x=y/\ ¬ (scope.names.lookup x=some .local)/\ ¬ (scope.names.lookup x=some .cell)/\(scope.names.lookup x=some .free->X.env.scope.names.lookup x=some .cell∨X.env.scope.names.lookup x=some .free):=fun i x e1 e2=>by
  have hi:i<keep.length:=(Qb.mp e1).1
  have q:=h6 i (Zt.mpr hi)
  have e3:keep.getD i false=true:=by simp[e1]
  rw[e3,e2]at q;cases e4:X.N[i]? with
  |none=>rw[e4]at q;simp at q
  |some y=>
   rw[e4]at q;simp only[Bool.not_true,Bool.false_or,Qy,Zs,Xc,decide_eq_false_iff_not,Xo]at q;obtain⟨q1,q2,q3,q4⟩:=q;exact⟨y,rfl,q1,q2,q3,fun z=>q4.elim (fun n=>absurd z n) id⟩
 refine⟨h1,h2,c,fun y hy hf=>?_,h4,h5,fun i x e1 e2=>?_,fun i x e1 e2 e3=>?_⟩
 ·have q:=h3 y hy
  rw[hf]at q
  simpa using q
 ·obtain⟨y,g1,g2,g3,g4,_⟩:=gt i x e1 e2
  exact⟨by rw[g1,g2],g3,g4⟩
 ·have hi:i<keep.length:=(Qb.mp e1).1
  have hN:i<N'.length:=by omega
  obtain⟨y,g1,g2,g3,g4,g5⟩:=gt i _ e1 (Zx hN);rw[e2]at g1;cases g1;rw[g2]at g5;exact g5 e3
end
theorem b1F{x:Str}{i:Int}(hg:Gl X x)(hm:∃t,X.mg x=some (.int i t))(hd:(x==("__debug__":Str))=false:=by decide):ED X B (.Name x pos) (mC (.int i)):=by
 obtain⟨t,hm⟩:=hm;exact b6P hg hm hd
def Kp(i:Nat)(m:Mo D):Prop:=∀env d env' w ds,m env=some (d,env')->env'[i]? =some w->w.mut=some ds->∃w0 ds0,env[i]? =some w0/\w0.mut=some ds0
theorem a7U:Kp i (mC d):=fun env d' env' w ds e h1 h2=>by cases e;exact⟨w,ds,h1,h2⟩
theorem b8i(h:Kp i m):Kp i (j8_ m):=fun env d' env' w ds e h1 h2=>by
 obtain⟨⟨d,env1⟩,e1,e2⟩:=q2_ e;dsimp only at e2;split at e2
 ·cases e2;exact h env _ _ w ds e1 h1 h2
 ·cases e2
theorem b8j:bootBuiltins "int"=some (.type "int"):=by decide+kernel
theorem b8k:bootBuiltins "bool"=some (.type "bool"):=by decide+kernel
theorem b8l:bootBuiltins "tuple"=some (.type "tuple"):=by decide+kernel
theorem b1G:bootBuiltins "list"=some (.type "list"):=by decide+kernel
theorem b8m:bootBuiltins "all"=some (.builtin "all"):=by decide+kernel
theorem b8n:bootBuiltins "max"=some (.builtin "max"):=by decide+kernel
theorem b8o:bootBuiltins "min"=some (.builtin "min"):=by decide+kernel
theorem b1H{K:Qz}{G:Hp}:∀ns:List Int,z9_ K G (ns.map V.int) (ns.map D.int)
 |[]=>repL_nil
 |n::ns=>repL_cons (by simp only[Rep]) (b1H ns)
def a4U:Expr->Bool
 |.Starred _ _=>true
 |_=>false
theorem g9_{env:Env}(h:a4U e=false):starEach (e::es) env=(false,eval e env)::starEach es env:=by
 cases e<;>first|rfl|cases h
theorem se1{a:Expr}{env:Env}(h:a4U a=false):starEach [a] env=[(false,eval a env)]:=by rw[g9_ h];rfl
theorem se2{a b:Expr}{env:Env}(h:a4U a=false)(h2:a4U b=false):starEach [a,b] env=[(false,eval a env),(false,eval b env)]:=by rw[g9_ h,se1 h2]
theorem a2C{pos:Pos}{env:Env}:∀{es:List Expr},es.all (fun e=>!a4U e)=true->(backTo pos (starEach es env)).any (·.1)=false
 |[],_=>rfl
 |e::es,h=>by
  rw[Jl,Qy,Xc]at h;rw[g9_ h.1];show(false||(backTo pos (starEach es env)).any (·.1))=false
  rw[a2C h.2];rfl
theorem w1_{m n:Mo Fl}{e:Env'}(h:m e=some (.nx,e1)):q1_ m n e=n e1:=by unfold q1_;rw[h];rfl
theorem a1p{m n:Mo Fl}{e:Env'}(h:m e=some (.ret d,e1)):q1_ m n e=some (.ret d,e1):=by unfold q1_;rw[h];rfl
theorem a1c{t:Mo Bool}{m n:Mo Fl}{e:Env'}(h:t e=some (true,e1)):y9_ t m n e=m e1:=by unfold y9_;rw[h];rfl
theorem a0O{t:Mo Bool}{m n:Mo Fl}{e:Env'}(h:t e=some (false,e1)):y9_ t m n e=n e1:=by unfold y9_;rw[h];rfl
theorem a3V(neg:Bool)(i j:Int):dEq neg (.int i) (.int j)=some (.bl (if neg then !(i==j)else(i==j))):=rfl
theorem b8p(neg:Bool)(i j:Bool):dEq neg (.bl i) (.bl j)=some (.bl (if neg then !(i==j)else(i==j))):=rfl
theorem a7V{g:D->Env'->Option Env'}{m:Mo D}{P:Env'->Prop}{f:D->D}:∀{ds:List D}{env:Env'},(∀d∈ds,∀e,P e->∃e1 e2,g d e=some e1/\m e1=some (f d,e2)/\P e2)->P env->
  ∃env',g2_ g v6_ m ds env=some (ds.map f,env')/\P env'
 |[],env,_,p=>⟨env,rfl,p⟩
 |d::ds,env,h,p=>by
  obtain⟨e1,e2,h1,h2,h3⟩:=h d (by simp) env p
  obtain⟨e3,h4,h5⟩:=a7V (ds:=ds) (fun x hx=>h x (by simp[hx])) h3
  refine⟨e3,?_,h5⟩;unfold g2_;rw[h1];simp only[Qj,v6_,Zu];rw[h2];simp only[Qj];rw[h4];rfl
theorem a6o{g:D->Env'->Option Env'}{b:Mo Fl}{P:Env'->Prop}:∀{ds:List D}{env:Env'},(∀d∈ds,∀e,P e->∃e1 e2,g d e=some e1/\b e1=some (.nx,e2)/\P e2)->P env->∃env',loop g b ds env=some (.nx,env')/\P env'
 |[],env,_,p=>⟨env,rfl,p⟩
 |d::ds,env,h,p=>by
  obtain⟨e1,e2,h1,h2,h3⟩:=h d (by simp) env p
  obtain⟨e3,h4,h5⟩:=a6o (ds:=ds) (fun x hx=>h x (by simp[hx])) h3
  refine⟨e3,?_,h5⟩;unfold loop;rw[h1];simp only[Qj];rw[h2];exact h4
theorem a3p{α:Type}(f:α->Bool):∀l:List α,a0t (l.map fun x=>D.bl (f x))=some (l.all f)
 |[]=>rfl
 |x::l=>by simp[a0t,a3p f l]
theorem w2_{N:Nat}{env:List W}(h:mb (ws++List.replicate (N-ws.length) .nil)=some (.ret d,env)):fnM N mb ws=some (.d d,a0M ws env):=by unfold fnM;rw[h]
theorem a7W{N:Nat}{env:List W}{d:List D}(h:mb (ws++List.replicate (N-ws.length) .nil)=some (.retL d,env)):fnM N mb ws=some (.l d,a0M ws env):=by unfold fnM;rw[h]
def stop(b:Bool)(d:D):Fl:=if b then .nx else .ret d
theorem b1I{g:D->Env'->Option Env'}{b:Mo Fl}{P:Env'->Prop}{ok:D->Bool}{r:D}:∀{ds:List D}{env:Env'},(∀d∈ds,∀e,P e->∃e1 e2,g d e=some e1/\b e1=some (stop (ok d) r,e2)/\P e2)->P env->∃env',loop g b ds env=some (stop (ds.all ok) r,env')/\P env'
 |[],env,_,p=>⟨env,rfl,p⟩
 |d::ds,env,h,p=>by
  obtain⟨e1,e2,h1,h2,h3⟩:=h d (by simp) env p
  by_cases hk:ok d=true
  ·obtain⟨e3,h4,h5⟩:=b1I (ds:=ds) (fun x hx=>h x (by simp[hx])) h3
   refine⟨e3,?_,h5⟩;unfold loop;rw[h1];simp only[Qj];rw[h2,hk,Jl,hk,Yp];exact h4
  ·have hk':ok d=false:=by simpa using hk
   refine⟨e2,?_,h3⟩;unfold loop;rw[h1];simp only[Qj];rw[h2,hk',Jl,hk',Ja];rfl
theorem b8q{es:List D}{f:D->Bool}:a0t (es.map fun d=>.bl (f d))=some (es.all f):=a3p f es
theorem a2D{keep:List Bool}{g:D->Env'->Option Env'}{t:Mo Bool}{env e3:Env'}{r:List D}(h:mi env=some (ds,e1))(hl:ds.length≤100000)(hc:g2_ g t m ds (k5_ keep more e1)=some (r,e2))(ho:w3_ keep e1 e2=some e3):
  v9_ mi keep more g t m env=some (r,e3):=by
 unfold v9_;rw[h];show(if ds.length≤100000 then(g2_ g t m ds (k5_ keep more e1)).bind _ else none)=_
 rw[Qn hl,hc];show(w3_ keep e1 e2).map _=_;rw[ho];rfl
theorem a6p{env:Env'}(h:ms env=some ([.int j],e1))(h1: -1000000<j)(h2:j<1000000):g0_ ms env=some (a0l 0 j.toNat,e1):=by
 unfold g0_;rw[h];exact Qn ⟨h1,h2⟩
theorem b8r{env:Env'}{i:Int}(h:ms env=some ([.int i,.int j],e1))(h1: -1000000<i)(h2:i<1000000)(h3: -1000000<j)(h4:j<1000000):a4M ms env=some (a0l i (j-i).toNat,e1):=by
 unfold a4M;rw[h];exact Qn ⟨h1,h2,h3,h4⟩
theorem x5_{f:List D->Option D}{env:Env'}(h:ms env=some (ds,e1))(hf:f ds=some d):mCB f ms env=some (d,e1):=by unfold mCB;rw[h];show(f ds).map _=_;rw[hf];rfl
theorem q4_{env:Env'}(h:m env=some (d,e1))(h2:ms e1=some (ds,e2)):z1_ m ms env=some (d::ds,e2):=by unfold z1_;rw[h];show(ms e1).map _=_;rw[h2];rfl
theorem a2E{ms:Mo (List Ar)}{env:Env'}{ds:List Ar}(h:m env=some (d,e1))(h2:ms e1=some (ds,e2)):z6_ m ms env=some (.d d::ds,e2):=by unfold z6_;rw[h];show(ms e1).map _=_;rw[h2];rfl
theorem k3_{m:Mo (List D)}{env:Env'}(h:m env=some (ds,e1)):mF m env=some (.lst ds,e1):=by unfold mF;rw[h];rfl
theorem a0P{env:Env'}(h:m env=some (d,e1))(hd:d.items=some ds):y1_ m env=some (ds,e1):=by unfold y1_;rw[h];show d.items.map _=_;rw[hd];rfl
theorem v0_{f:D->D->Option D}{mb:Mo D}{env:Env'}{a b c:D}(h1:ma env=some (a,e1))(h2:mb e1=some (b,e2))(hf:f a b=some c):z5_ f ma mb env=some (c,e2):=by
 unfold z5_;rw[h1];show(mb e1).bind _=_;rw[h2];show(f a b).map _=_;rw[hf];rfl
theorem u7_{env:Env'}(h:m env=some (d,e1)):y0_ m env=some (.ret d,e1):=by unfold y0_;rw[h];rfl
theorem b1J{m:Mo (List D)}{env:Env'}{d:List D}(h:m env=some (d,e1)):a2u m env=some (.retL d,e1):=by unfold a2u;rw[h];rfl
theorem a1d{env:Env'}(h:m env=some (d,e1)):v1_ i m env=some (.nx,e1.set i (.dat d)):=by unfold v1_;rw[h];rfl
theorem b1K{m:Mo (List D)}{env:Env'}{d:List D}(h:m env=some (d,e1)):j3_ i m env=some (.nx,e1.set i (.own d)):=by unfold j3_;rw[h];rfl
theorem w4_{env:Env'}{b:Bool}(h:m env=some (.bl b,e1)):mT m env=some (b,e1):=by unfold mT;rw[h];rfl
theorem a0v{m:Mo Bool}{env:Env'}{b:Bool}(h:m env=some (b,e1)):x3_ m env=some (!b,e1):=by unfold x3_;rw[h];rfl
theorem a1G{g:D->Env'->Option Env'}{b:Mo Fl}{env:Env'}(h:mi env=some (ds,e1)):g1_ mi g b env=loop g b ds e1:=by unfold g1_;rw[h];rfl
theorem a1e{f:Fn}{env:Env'}(h:as env=some (av,e1))(hn:av.length=n)(hs:slots av=[])(hf:f (av.map (u6_ (.l [])))=some (r,ws')):a2b n f as env=some (r,e1):=by
 unfold a2b;rw[h];show(if av.length=n then _ else none)=_
 rw[Qn hn];simp only[hs];rw[hf];rfl
theorem a3W{f:Fn}{env:Env'}{w:W}{c c':List D}(h:as env=some (av,e1))(hn:av.length=n)(hs:slots av=[i])(hw:e1[i]? =some w)(hm:w.mutL=some c)(hf:f (av.map (u6_ (.l c)))=some (r,ws'))(hp:a2x ws'=some (.l c')):
  a2b n f as env=some (r,e1.set i (w.put c')):=by
 unfold a2b;rw[h];show(if av.length=n then _ else none)=_
 rw[Qn hn];simp only[hs];rw[hw];simp only[Qj];rw[W.mutL_of hm];simp only[Qj];rw[hf];simp only[Qj];rw[hp,W.put_eq hm];rfl
theorem a0Q{f:Fn}{env:Env'}(h:a2b n f as env=some (.d d,e1)):mCD n f as env=some (d,e1):=by unfold mCD;rw[h];rfl
theorem a4V{f:Fn}{env:Env'}{d:List D}(h:a2b n f as env=some (.l d,e1)):a0Y n f as env=some (d,e1):=by unfold a0Y;rw[h];rfl
def a3q(m:Mo D):Mo Fl:=fun env=>(m env).map fun p=>(.nx,p.2)
theorem a4W(h:ED X B e ma)(hsw:swapsWith e none pos.line X.env=pure false:=by rfl):ES X B (.Expr e pos) (a3q ma):=by
 refine ps_imp (a7g (te:=TD X.K B ma) h hsw) ?_
 rintro D σ H ⟨G,env,fl,env',rl,e,k⟩;obtain⟨⟨d,env1⟩,e1,e2⟩:=x4_ e;cases e2;exact .bind rl e1 fun v G' H' ev r=>k σ G' H' ev
theorem a4X{env:Env'}(h:m env=some (d,e1)):a3q m env=some (.nx,e1):=by unfold a3q;rw[h];rfl
theorem b8s{N:Nat}{env:List W}(h:mb (ws++List.replicate (N-ws.length) .nil)=some (.nx,env)):fnM N mb ws=some (.d .non,a0M ws env):=by unfold fnM;rw[h]
section
variable{a b c:Expr}{mb mc:Mo D}
end
def a2e:List D->Option Bool
 |[]=>some false
 |.bl b::r=>(a2e r).map fun k=>b||k
 |_::_=>none
def a3X:List D->Option D
 |[.lst ds]=>(a2e ds).map fun k=>.bl k
 |_=>none
theorem b1L{K:Qz}{G:Hp}:∀{ds:List D}{xs:List V}{us:List Value}{k:Bool},z9_ K G xs ds->q8_ xs us->a2e ds=some k->∃bs,LSm.BoolsAre us bs/\bs.any id=k
 |[],_,us,k,r,v,e=>by
  simp only[z9_]at r;subst r;cases v;cases e;exact⟨[],.nil,rfl⟩
 |d::ds,_,us,k,r,v,e=>by
  simp only[z9_]at r;obtain⟨x,t,rfl,q,r⟩:=r;cases d<;>first|(exact absurd (show(none:Option Bool)=some k from e) (by simp))|skip
  obtain⟨k',e1,e2⟩:=x4_ (show(a2e ds).map _=some k from e)
  simp only[Rep]at q;subst q;cases v with
  |cons v1 v2=>
   cases v1;obtain⟨bs,h1,h2⟩:=b1L r v2 e1;exact⟨_::bs,.cons _ h1,by rw[←e2,←h2];rfl⟩
theorem b1M(hc:X.calm=true):w9_ X (.builtin "any") (fun xs H Q=>∃p G ys ds k,xs=[.ref p]/\Le G H/\SqL X.K G p ys/\z9_ X.K G ys ds/\a2e ds=some k/\Q (.bl k) H):=by
 intro pins s σ H xs us Q I r h;obtain⟨p,G,ys,ds,k,rfl,l,hq,rp,ek,q⟩:=h;obtain⟨u,rfl,rx⟩:=a1w r;cases rx;obtain⟨its,r',pl,hz⟩:=I.list (l.sqL hq);obtain⟨bs,hb,hk⟩:=b1L rp r' ek;have hh:X.A.handled=none:=I.ok.hd hc;have hl:=pl.isList;have hlt:p<s.heap.objs.size:=by obtain⟨_,e,_⟩:=hl;exact Qw e
 refine call_any_walk (Jd hl ?_);refine⟨s.heap.objs.size,[s.heap.objs.size,p],[s.heap.objs.size],its.toArray.size,_,_,fun i=>(bs[i]?).getD false,rfl,Walks.list (A:=X.A.in1) hh _ p (Qd hlt) its.toArray,
  ⟨⟨_,Qg _ rfl,rfl,rfl⟩,hl.push _⟩,fun i v s' Q' E' hP hQ=>?_,fun h' tk hk'=>?_⟩
 ·obtain⟨b,e,rfl⟩:=hb.get i v (by simpa using hP)
  simp only[e,Option.getD_some]at hQ;exact Yj hQ
 ·have e:((List.range its.toArray.size).any fun i=>(bs[i]?).getD false)=bs.any id:=by
   rw[Qh,hb.length];exact LSm.range_any bs
  rw[e,hk];exact⟨.bl k,H,I.kept (t':=tk) (Uc hk'),rfl,q⟩
theorem b8t:a0X X B (fun xs H Q=>∃p G ys ds k,xs=[.ref p]/\Le G H/\SqL X.K G p ys/\z9_ X.K G ys ds/\a2e ds=some k/\Q (.bl k) H) a3X:=by
 intro G σ env H xs ds c Q rl r e k;unfold a3X at e;split at e
 ·rename_i ds
  obtain⟨x,rfl,q⟩:=a0B r;obtain⟨k',e1,e2⟩:=x4_ e;subst e2;simp only[Rep]at q;obtain⟨a,ys,rfl,h1,h2⟩:=q;exact⟨a,G,ys,ds,k',rfl,rl.sub,h1,h2,e1,k _ G H (.refl rl) (by simp only[Rep])⟩
 ·cases e
def a2f:List D->Option D
 |[.lst ds]=>(ints? ds).map fun ns=>.int ns.sum
 |[.tup ds]=>(ints? ds).map fun ns=>.int ns.sum
 |_=>none
theorem a6q:∀{us:List Value}{ns:List Int},IntsAre us ns->∀(i:Nat) (v:Value),us[i]? =some v->∃t,v=.int (ns.getD i 0) t
 |_,_,.nil,i,v,h=>by simp at h
 |_,_,.cons n t r,i,v,h=>by
  cases i with
  |zero=>simp at h;exact⟨t,by simp[←h]⟩
  |succ i=>exact a6q r i v (by simpa using h)
def b1N(X:Cx):List V->Hp->VK->Prop:=fun xs H Q=>∃(p:Addr) (ns:List Int),xs=[.ref p]/\(SqL X.K H p (ns.map V.int)∨SqT X.K H p (ns.map V.int))/\Q (.int ns.sum) H
theorem a6r(hc:X.calm=true):w9_ X (.builtin "sum") (b1N X):=by
 intro pins s σ H xs us Q I r h;obtain⟨p,ns,rfl,hq,q⟩:=h;obtain⟨u,rfl,rx⟩:=a1w r;cases rx;have hh:X.A.handled=none:=I.ok.hd hc
 rcases hq with hq|hq
 ·obtain⟨its,r',pl,hz⟩:=I.list hq
  have hi:IntsAre its ns:=a5G r'
  have hl:=pl.isList
  have hlt:p<s.heap.objs.size:=by obtain⟨_,e,_⟩:=hl;exact Qw e
  refine call_sum_walkG (Jd hl ?_);refine⟨s.heap.objs.size,[s.heap.objs.size,p],[s.heap.objs.size],its.toArray.size,_,_,fun i=>ns.getD i 0,rfl,Walks.list (A:=X.A.in1) hh _ p (Qd hlt) its.toArray,
   ⟨⟨_,Qg _ rfl,rfl,rfl⟩,hl.push _⟩,fun b hb=>?_,fun i v hP=>a6q hi i v (by simpa using hP),fun h' tk t' hk'=>?_⟩
  ·have hs:=Qw (Qg s.heap (o:={cls:=.type "list_iterator",data:=.fields #[.ref p,.int 0 0]}) rfl)
   rcases Ql.mp hb with rfl|hb
   ·exact hs
   ·rcases Ql.mp hb with rfl|hb
    ·exact Vo hlt hs
    ·cases hb
  ·rw[Qh,hi.length,PyProof.Rows.preSum_getD,Jh (Qp _)]
   exact⟨.int ns.sum,H,I.kept (t':=tk) (Uc hk'),⟨t',rfl⟩,q⟩
 ·obtain⟨its,r',pl,hz⟩:=I.tuple hq
  have hi:IntsAre its ns:=a5G r'
  have hl:s.heap.IsTuple p its.toArray:=pl
  have hlt:p<s.heap.objs.size:=by obtain⟨_,e,_⟩:=hl;exact Qw e
  refine call_sum_walkG (Uo hl ?_);refine⟨s.heap.objs.size,[s.heap.objs.size,p],[s.heap.objs.size],its.toArray.size,_,_,fun i=>ns.getD i 0,rfl,Walks.tuple (A:=X.A.in1) hh _ p (Qd hlt) its.toArray,
   ⟨⟨_,Qg _ rfl,rfl,rfl⟩,hl.push _⟩,fun b hb=>?_,fun i v hP=>a6q hi i v (by simpa using hP),fun h' tk t' hk'=>?_⟩
  ·have hs:=Qw (Qg s.heap (o:={cls:=.type "tuple_iterator",data:=.fields #[.ref p,.int 0 0]}) rfl)
   rcases Ql.mp hb with rfl|hb
   ·exact hs
   ·rcases Ql.mp hb with rfl|hb
    ·exact Vo hlt hs
    ·cases hb
  ·rw[Qh,hi.length,PyProof.Rows.preSum_getD,Jh (Qp _)]
   exact⟨.int ns.sum,H,I.kept (t':=tk) (Uc hk'),⟨t',rfl⟩,q⟩
theorem b8u:a0X X B (b1N X) a2f:=by
 intro G σ env H xs ds c Q rl r e k;unfold a2f at e;split at e
 ·rename_i ds
  obtain⟨x,rfl,q⟩:=a0B r;obtain⟨ns,e1,e2⟩:=x4_ e;subst e2;simp only[Rep]at q;obtain⟨a,ys,rfl,h1,h2⟩:=q;have:=a3o h2 e1;subst this;exact⟨a,ns,rfl,.inl (rl.sub.sqL h1),k _ G H (.refl rl) (by simp only[Rep])⟩
 ·rename_i ds
  obtain⟨x,rfl,q⟩:=a0B r;obtain⟨ns,e1,e2⟩:=x4_ e;subst e2;simp only[Rep]at q;obtain⟨a,ys,rfl,h1,h2⟩:=q;have:=a3o h2 e1;subst this;exact⟨a,ns,rfl,.inr (rl.sub.sqT h1),k _ G H (.refl rl) (by simp only[Rep])⟩
 ·cases e
theorem b8v:bootBuiltins "any"=some (.builtin "any"):=by decide+kernel
theorem b8w:bootBuiltins "sum"=some (.builtin "sum"):=by decide+kernel
theorem b1O{p:Addr}{ns:List Int}{A:Around}(I:Inv X pins σ H s)(hh:X.A.in1.handled=none)(hq:SqL X.K H p (ns.map V.int)∨SqT X.K H p (ns.map V.int))
  (h:∀(o:Obj) (P:Nat->Value->Prop) (T:Nat->Heap->Prop),Walks X.prog X.w X.A.in1 s.heap.objs.size [s.heap.objs.size,p] [s.heap.objs.size] ns.length P T->T 0 (s.heap.push o)->(∀b∈[s.heap.objs.size,p],b<(s.heap.push o).objs.size)->
   (∀i v,P i v->i<ns.length/\∃t,v=.int (ns.getD i 0) t)->Q (.ref s.heap.objs.size) {s with heap:=s.heap.push o}):wpAny (model X.prog X.w) A (pyIter (.ref p)) Q E s:=by
 have key:∀(its:List Value),IntsAre its ns->∀i v,its.toArray[i]? =some v->i<ns.length/\∃t,v=.int (ns.getD i 0) t:=fun its hi i v hv=>by
  have hv':its[i]? =some v:=by simpa using hv
  refine⟨?_,a6q hi i v hv'⟩;have:=(Qb.mp hv').1;rw[hi.length]at this;exact this
 have low:∀(o:Obj),p<s.heap.objs.size->∀b∈[s.heap.objs.size,p],b<(s.heap.push o).objs.size:=fun o hlt b hb=>by
  have hs:s.heap.objs.size<(s.heap.push o).objs.size:=by rw[Zc];exact Vc _
  rcases Ql.mp hb with rfl|hb
  ·exact hs
  ·rcases Ql.mp hb with rfl|hb
   ·exact Vo hlt hs
   ·cases hb
 rcases hq with hq|hq
 ·obtain⟨its,r',pl,hz⟩:=I.list hq
  have hi:IntsAre its ns:=a5G r'
  have hl:=pl.isList
  have hlt:p<s.heap.objs.size:=by obtain⟨_,e,_⟩:=hl;exact Qw e
  have W:=Walks.list (prog:=X.prog) (w:=X.w) (A:=X.A.in1) hh s.heap.objs.size p (Qd hlt) its.toArray
  have es:its.toArray.size=ns.length:=by rw[Qh,hi.length]
  rw[es]at W;exact Jd hl (h _ _ _ W ⟨⟨_,Qg _ rfl,rfl,rfl⟩,hl.push _⟩ (low _ hlt) (key its hi))
 ·obtain⟨its,r',pl,hz⟩:=I.tuple hq
  have hi:IntsAre its ns:=a5G r'
  have hl:s.heap.IsTuple p its.toArray:=pl
  have hlt:p<s.heap.objs.size:=by obtain⟨_,e,_⟩:=hl;exact Qw e
  have W:=Walks.tuple (prog:=X.prog) (w:=X.w) (A:=X.A.in1) hh s.heap.objs.size p (Qd hlt) its.toArray
  have es:its.toArray.size=ns.length:=by rw[Qh,hi.length]
  rw[es]at W;exact Uo hl (h _ _ _ W ⟨⟨_,Qg _ rfl,rfl,rfl⟩,hl.push _⟩ (low _ hlt) (key its hi))
def a0j(gt:Bool)(ns:List Int):Int:=ns.getD (argBest (fun i j=>if gt then decide (ns.getD i 0>ns.getD j 0)else decide (ns.getD i 0<ns.getD j 0)) (ns.length-1)) 0
def a7X(X:Cx)(gt:Bool):List V->Hp->VK->Prop:=fun xs H Q=>∃(p:Addr) (ns:List Int),xs=[.ref p]/\(SqL X.K H p (ns.map V.int)∨SqT X.K H p (ns.map V.int))/\0<ns.length/\Q (.int (a0j gt ns)) H
theorem b1P(hc:X.calm=true):w9_ X (.builtin "max") (a7X X true):=by
 intro pins s σ H xs us Q I r h;obtain⟨p,ns,rfl,hq,h0,q⟩:=h;obtain⟨u,rfl,rx⟩:=a1w r;cases rx;have hh:X.A.handled=none:=I.ok.hd hc;refine call_max_walk (b1O I hh hq fun o P T W st low key=>?_)
 refine⟨_,_,_,_,_,_,_,rfl,W,st,low,h0,CmpOf.ints_gt (fun i=>ns.getD i 0) (fun i v hv=>(key i v hv).2),fun v h' tk hP hk=>?_⟩
 obtain⟨_,t,rfl⟩:=key _ v hP;exact⟨.int _,H,I.kept (t':=tk) (Uc hk),⟨t,rfl⟩,q⟩
theorem a4Y(hc:X.calm=true):w9_ X (.builtin "min") (a7X X false):=by
 intro pins s σ H xs us Q I r h;obtain⟨p,ns,rfl,hq,h0,q⟩:=h;obtain⟨u,rfl,rx⟩:=a1w r;cases rx;have hh:X.A.handled=none:=I.ok.hd hc;refine call_min_walk (b1O I hh hq fun o P T W st low key=>?_)
 refine⟨_,_,_,_,_,_,_,rfl,W,st,low,h0,CmpOf.ints_lt (fun i=>ns.getD i 0) (fun i v hv=>(key i v hv).2),fun v h' tk hP hk=>?_⟩
 obtain⟨_,t,rfl⟩:=key _ v hP;exact⟨.int _,H,I.kept (t':=tk) (Uc hk),⟨t,rfl⟩,q⟩
def u4_(gt:Bool):List D->Option D
 |[.lst ds]=>(ints? ds).bind fun ns=>if ns.isEmpty then none else some (.int (a0j gt ns))
 |[.tup ds]=>(ints? ds).bind fun ns=>if ns.isEmpty then none else some (.int (a0j gt ns))
 |_=>none
theorem b8x{gt:Bool}:a0X X B (a7X X gt) (u4_ gt):=by
 intro G σ env H xs ds c Q rl r e k;unfold u4_ at e;split at e
 ·rename_i ds
  obtain⟨x,rfl,q⟩:=a0B r;obtain⟨ns,e1,e2⟩:=q2_ e;split at e2
  ·cases e2
  ·rename_i h0
   cases e2;simp only[Rep]at q;obtain⟨a,ys,rfl,h1,h2⟩:=q;have:=a3o h2 e1;subst this;exact⟨a,ns,rfl,.inl (rl.sub.sqL h1),by cases ns with|nil=>simp at h0|cons _ _=>simp,k _ G H (.refl rl) (by simp only[Rep])⟩
 ·rename_i ds
  obtain⟨x,rfl,q⟩:=a0B r;obtain⟨ns,e1,e2⟩:=q2_ e;split at e2
  ·cases e2
  ·rename_i h0
   cases e2;simp only[Rep]at q;obtain⟨a,ys,rfl,h1,h2⟩:=q;have:=a3o h2 e1;subst this;exact⟨a,ns,rfl,.inr (rl.sub.sqT h1),by cases ns with|nil=>simp at h0|cons _ _=>simp,k _ G H (.refl rl) (by simp only[Rep])⟩
 ·cases e
section
variable{a b c:Expr}
end
section
variable{c:Expr}{t:Mo Bool}
end
section
variable{ml:Mo (List D)}
end
section
variable{prog:Program}{w:World}{A:Around}{c:Bool}
end
section
variable{prog:Program}{w:World}{A:Around}
end
section
variable{a:Expr}
end
theorem b1Q{w:World}(x:HOk P w H h)(k:∀b u o,H b=some u->h.get? b=some o->h'.get? b=some o):HOk P w H h':=fun a o e=>
 (x a o e).stay (fun b u hb q=>by
  rcases hb with rfl|hb
  ·exact k _ _ _ e q
  ·exact k _ _ _ hb q) (fun _ q=>q) fun _ _ q=>q
def CXE(P:Program)(w:World):CXT:=fun outer H s E ev s'=>
 ∃(e t C:Addr) (H':Hp) (Bh:Heap),ev=.ref e/\s'.os=s.os/\AllBare s'.gens/\Heap.FlyingW Bh outer e (.ref C) (.ref t) s'.heap/\
  Un (frs outer) [] H H' s.heap s'.heap/\HOk P w H' Bh/\(∀b o,s.heap.get? b=some o->H b=none->b∉frs outer->Bh.get? b=some o)/\
  (∀b o,s.heap.get? b=some o->b∉frs outer->∃o',Bh.get? b=some o')/\E (.ref C) none H'
section
variable{H':Hp}{s':Shared}{E:XK}{e t:Addr}{Bh:Heap}
theorem a6s(hst:X.stack=X.env::X.outer)(hfr:X.env.frame=some X.env.locals)(hex:X.ex=[])(I:Inv X pins σ H s)(os:s'.os=s.os)(bare:AllBare s'.gens)(fly:Heap.FlyingW Bh X.outer e (.ref C) (.ref t) s'.heap)
  (kept:∀b o,s.heap.get? b=some o->H b=none->b∉frs X.stack->Bh.get? b=some o)
  (thr:∀b o,s.heap.get? b=some o->b∉frs X.stack->∃o',Bh.get? b=some o')
  (slots:∀b o,s.heap.get? b=some o->H b=none->b∈X.fs->∃sl,s'.heap.get? b=some {o with slots:=sl})
  (free:∀b o,s.heap.get? b=some o->H b=none->H' b=none)(tups:∀b xs,H b=some (.tup xs)->H' b=some (.tup xs))(frzs:∀b o u,H b=some (.frz o u)->H' b=some (.frz o u))
  (tbls:∀b ps,H b=some (.tbl ps)->∃more,H' b=some (.tbl (ps++more)))(hok:HOk X.prog X.w H' Bh)(hE:E (.ref C) none H'):
  CXE X.prog X.w X.outer X.H₀ X.s₀ E (.ref e) s':=by
 have nb:∀b o,X.s₀.heap.get? b=some o->b∉X.fs->b∉frs X.stack:=fun b o q n z=>by
  rw[hst]at z;unfold frs at z;rw[Jf,hfr]at z
  rcases Ql.mp z with z|z
  ·exact absurd (Qw q) (Nat.not_lt.mpr (by rw[z];exact I.ok.above))
  ·exact n z
 have nx:∀b,b∉X.ex:=fun b z=>by rw[hex]at z;cases z
 refine⟨e,t,C,H',Bh,rfl,os.trans I.os,bare,fly,⟨fun b o q n hb _=>?_,fun b o q n hb _=>?_,fun b o q n _=>?_,fun b o q _=>?_,fun b xs q=>tups b xs (I.base.tups b xs q),fun b o u q=>frzs b o u (I.base.frzs b o u q),fun b ps q=>?_⟩,hok,fun b o q n hb=>?_,fun b o q hb=>?_,hE⟩
 ·exact fly.1 b o (kept b o (I.base.keep b o q n hb (nx b)) (I.base.free b o q n (nx b)) (nb b o q hb))
 ·obtain⟨sl,q1⟩:=I.base.slot b o q n hb (nx b)
  obtain⟨sl',q2⟩:=slots b _ q1 (I.base.free b o q n (nx b)) hb;exact⟨sl',q2⟩
 ·obtain⟨o',q1⟩:=I.base.there b o q (nx b)
  exact free b o' q1 (I.base.free b o q n (nx b))
 ·obtain⟨o',q1⟩:=I.base.there b o q (nx b)
  by_cases hb:b∈X.fs
  ·obtain⟨sl,q2⟩:=slots b _ q1 (I.base.free b o q (I.ok.frf b hb) (nx b)) hb
   exact⟨_,q2⟩
  ·obtain⟨o2,q2⟩:=thr b o' q1 (nb b o q hb)
   exact⟨o2,fly.1 b o2 q2⟩
 ·obtain⟨m1,e1⟩:=I.base.tbls b ps q
  obtain⟨m2,e2⟩:=tbls b _ e1;exact⟨m1++m2,by rw[e2,Xw]⟩
 ·exact kept b o (I.base.keep b o q n hb (nx b)) (I.base.free b o q n (nx b)) (nb b o q hb)
 ·obtain⟨o',q1⟩:=I.base.there b o q (nx b)
  exact thr b o' q1 (nb b o q hb)
structure XOk(X:Cx)(E:XK):Prop where
 pass:a4y (CXE X.prog X.w) X E
 made:∀(pins:List (Addr×Obj)) (σ:St) (H:Hp) (s:Shared) (h':Heap) (e C:Addr) (vs:List Value),Inv X pins σ H s->Heap.MadeExcOf s.heap h' e (.ref C) vs->E (.ref C) none H->X.xe (.ref e) {s with heap:=h'}
end
theorem a6t{w:World}{K:Qz}{mg:Str->Option Value}{base:Heap}{N:List Str}{f:Addr}{cd:Value}{A:Around}{outer:List Env}{s₀:Shared}{H₀:Hp}{E:XK}:
  XOk (u1_ (CXE P w) P w K mg base N qual scope f cd A outer s₀ H₀ E) E:=by
 refine⟨fun pins σ H s ev s' I h=>?_,fun pins σ H s h' e C vs I hm hE=>?_⟩
 ·obtain⟨e,t,C,H',Bh,rfl,os,bare,fly,un,hok,kept,thr,hE⟩:=h
  refine wpAny_leaves_onW (L:=s₀.heap.objs.size) I.ok.frames rfl fly fun h2 fly2 ups=>?_
  refine a6s (X:=u1_ (CXE P w) P w K mg base N qual scope f cd A outer s₀ H₀ E) rfl rfl rfl I os bare fly2 kept thr (fun b o q n hb=>?_) (fun b o q n=>un.free b o q n (by simp)) un.tups un.frzs un.tbls hok hE
  obtain⟨sl,q1⟩:=un.any q n (by simp)
  obtain⟨_,o1,g1,g2⟩:=I.funs.mem hb;rw[q]at g1;cases g1;obtain⟨sl2,q2⟩:=ups b _ q1 g2;exact⟨sl2,q2⟩
 ·have hst:=I.stack
  have hmem:∀{b:Addr},b∈frs (u1_ (CXE P w) P w K mg base N qual scope f cd A outer s₀ H₀ E).stack->H b=none:=fun{b} hb=>I.stkFree b hb
  refine wpAny_leaves_madeW (L:=s₀.heap.objs.size) (base:=PySem.W.hideAll s.heap (frs (u1_ (CXE P w) P w K mg base N qual scope f cd A outer s₀ H₀ E).stack)) (h:=s.heap) I.ok.frames rfl (fun b o q=>PySem.W.of_hideAll _ q)
   (PySem.W.funFrames_hide hst fun env he b hb=>Xu.mpr ⟨env,he,hb⟩) hm fun h2 t fly _ hn ups=>?_
  refine a6s (X:=u1_ (CXE P w) P w K mg base N qual scope f cd A outer s₀ H₀ E) (s:=s) (s':={s with heap:=h2}) rfl rfl rfl I rfl I.bare fly (fun b o q _ hb=>Jm _ q hb) (fun b o q hb=>⟨o,Jm _ q hb⟩) (fun b o q n hb=>?_) (fun b o q n=>n) (fun _ _ q=>q) (fun _ _ _ q=>q) (fun b ps q=>⟨#[],by rw[q];simp⟩) ?_ hE
  ·obtain⟨_,o1,g1,g2⟩:=I.funs.mem hb
   rw[q]at g1;cases g1;obtain⟨sl2,q2⟩:=ups b _ (hm.keeps b o q) g2;exact⟨sl2,q2⟩
  ·exact b1Q (P:=P) (w:=w) I.hok fun b u o q1 q2=>Jm _ q2 fun z=>by rw[hmem z]at q1;cases q1
theorem PS.nox{st:Stmt}{t:TS}(h:PS X.nox st t):PS X st t:=fun pins s σ H D I hw=>
 Qi (h pins s σ H D (I.wish _) hw) (fun _ _ q=>q.unwish) fun _ _ z=>False.elim z
theorem PA.nox{t:TA}(h:PA X.nox es t):PA X es t:=fun pos pins s σ H Q I hw=>
 Qi (h pos pins s σ H Q (I.wish _) hw) (fun _ _ ⟨v,H',I',r,q⟩=>⟨v,H',I'.unwish,r,q⟩) fun _ _ z=>False.elim z
def vmro:List Value:=[.type "ValueError",.type "Exception",.type "BaseException",.type "object"]
def a2F(K:Qz)(n:Str):Bool:=match PySem.W.nsIn K mainGlobals n with
 |some (some (.ref C))=>PySem.W.excIn K C vmro "ValueError.__new__"
 |_=>false
theorem b1R{K:Qz}{n:Str}(h:a2F K n=true):∃C,PySem.W.nsIn K mainGlobals n=some (some (.ref C))/\PySem.W.excIn K C vmro "ValueError.__new__"=true:=by
 unfold a2F at h;split at h
 ·rename_i C hC;exact⟨C,hC,h⟩
 ·cases h
theorem b8y{K:Qz}{h₀:Heap}{mg:Str->Option Value}{x:Str}{bmB:List Value}{newId:String}(X:K.In h₀)(G:h₀.Ns mainGlobals mg)(e:PySem.W.nsIn K mainGlobals x=some (some (.ref C)))(q:PySem.W.excIn K C bmB newId=true):OwnCls x C bmB newId mg h₀:=by
 refine⟨Xh X G e,?_⟩;unfold PySem.W.excIn at q;split at q
 ·rename_i dd cd sl ho
  split at q
  ·rename_i C' bm k0 k1 k2 k3 n k5 hm hs
   simp only[Qy,Yt,Xc]at q;obtain⟨⟨⟨⟨⟨rfl,rfl⟩,hdel⟩,ht⟩,hok⟩,hni⟩:=q;obtain⟨nm,bs,mro,ns,qn,hd,sn,sub,ab,col,del⟩:=cd;dsimp only at hm hdel hok hni;subst hm hdel;have hsl:sl= #[k0,k1,k2,k3,some (.builtin n),k5]:=by
    obtain⟨l⟩:=sl;simp only at hs;rw[hs]
   subst hsl;exact⟨bm,ns,nm,qn,bs,hd,sn,sub,ab,col,dd,k0,k1,k2,k3,k5,_,X _ _ ho,.of_isNs (PySem.W.isNs_of_in X hok),PySem.W.nsMap_none_of_in X hok hni,PySem.W.tail_of_in X ht⟩
  ·cases q
 ·cases q
abbrev Mx:=Env'->Option Str
section
variable(K:Qz)(B:Addr->Prop)(E:XK)
def XW(G:Hp)(σ:St)(env:Env')(H:Hp)(n:Str):Prop:=∃C,PySem.W.nsIn K mainGlobals n=some (some (.ref C))/\∀σ' G' env' H',Ev K B G σ env H G' σ' env' H'->E (.ref C) none H'
def TX(m:Mx)(σ:St)(H:Hp):Prop:=∃G env n,Rel K B G σ env H/\m env=some n/\XW K B E G σ env H n
end
theorem XW.after{K:Qz}{E:XK}{G1:Hp}{σ1:St}{env env1:Env'}{H1:Hp}{n:Str}(w:XW K B E G σ env H n)(ev:Ev K B G σ env H G1 σ1 env1 H1):XW K B E G1 σ1 env1 H1 n:=by
 obtain⟨C,h,k⟩:=w;exact⟨C,h,fun σ' G' env' H' ev2=>k σ' G' env' H' (ev.trans ev2)⟩
def EDx(X:Cx)(B:Addr->Prop)(E:XK)(e:Expr)(m:Mx):Prop:=PE X e fun σ H _=>TX X.K B E m σ H
def ETx(X:Cx)(B:Addr->Prop)(E:XK)(e:Expr)(m:Mx):Prop:=PT X e fun σ H _=>TX X.K B E m σ H
def EAx(X:Cx)(B:Addr->Prop)(E:XK)(es:List Expr)(m:Mx):Prop:=PA X es fun σ H _=>TX X.K B E m σ H
def ESx(X:Cx)(B:Addr->Prop)(E:XK)(st:Stmt)(m:Mx):Prop:=PS X st fun _ σ H=>TX X.K B E m σ H
def a2G(X:Cx)(B:Addr->Prop)(E:XK)(st:List Stmt)(m:Mx):Prop:=PSs X st fun _ σ H=>TX X.K B E m σ H
def xNo:Mx:=fun _=>none
def xOr(x y:Mx):Mx:=fun env=>match x env with
 |some n=>some n
 |none=>y env
def a0F(x:Mx)(s:Mo Fl)(y:Mx):Mx:=fun env=>match x env with
 |some n=>some n
 |none=>match s env with
  |some (.nx,env1)=>y env1
  |_=>none
def xIf(t:Mo Bool)(x y:Mx):Mx:=fun env=>(t env).bind fun p=>if p.1 then x p.2 else y p.2
section
variable{E:XK}{st:Stmt}{rest:List Stmt}{x1 x2:Mx}{s1:Mo Fl}
theorem a4Z:ESx X B E st xNo:=fun _ _ _ _ _ _ ⟨_,_,_,_,e,_⟩=>nomatch e
theorem a7Y:a2G X B E [] xNo:=fun _ _ _ _ _ _ ⟨_,_,_,_,e,_⟩=>nomatch e
theorem a3r(h1:ESx X B E st x1)(n1:ES X B st s1)(h2:a2G X B E rest x2):a2G X B E (st::rest) (a0F x1 s1 x2):=by
 intro pins s σ H D I ⟨G,env,n,rl,e,w⟩;unfold a0F at e;cases q:x1 env with
 |some m=>
  rw[q]at e;cases e;exact a2X h1 b0i pins s σ H D I ⟨G,env,_,rl,q,w⟩
 |none=>
  rw[q]at e;dsimp only at e;split at e
  ·rename_i env1 q1
   exact a2X n1 h2 pins s σ H D I ⟨G,env,.nx,env1,rl,q1,fun σ1 G1 H1 ev=>⟨G1,env1,n,ev.rel,e,w.after ev⟩⟩
  ·cases e
theorem a2H(h1:ESx X B E st x1):a2G X B E [st] x1:=by
 intro pins s σ H D I h;exact a2X h1 b0i pins s σ H D I h
theorem a7Z{c:Expr}{s t:List Stmt}{tc:Mo Bool}(hc:ET X B c tc)(h1:a2G X B E s x1)(h2:a2G X B E t x2):ESx X B E (.If c s t pos) (xIf tc x1 x2):=by
 intro pins sh σ H D I ⟨G,env,n,rl,e,w⟩;obtain⟨⟨b1,env1⟩,e1,e2⟩:=q2_ e;dsimp only at e2;refine a7i hc h1 h2 pins sh σ H D I ⟨G,env,b1,env1,rl,e1,fun G1 H1 ev=>?_⟩
 cases b1 with
 |true=>simp only[Zu]at e2 ⊢;exact⟨G1,env1,n,ev.rel,e2,w.after ev⟩
 |false=>simp only[Qo,Zo]at e2 ⊢;exact⟨G1,env1,n,ev.rel,e2,w.after ev⟩
theorem a8a(h:EDx X B E e x1)(hsw:swapsWith e none pos.line X.env=pure false:=by rfl):ESx X B E (.Expr e pos) x1:=fun pins s σ H D I q=>a7g h hsw pins s σ H D I q
def a8b(n:Str)(ms:Mo (List D)):Mx:=fun env=>(ms env).bind fun p=>if p.1.length≤1000 then some n else none
theorem a8c{n:Str}{np cpos:Pos}(hx:XOk X E)(hc:X.calm=true)(ho:a2F X.K n=true)(hg:Gl X n)(ha:EDs X B (e::es) ms)
  (he:starEach (e::es) X.env=(false,eval e X.env)::starEach es X.env:=by rfl)(hpl:(backTo cpos (starEach es X.env)).any (·.1)=false:=by rfl)(hd:(n==("__debug__":Str))=false:=by decide):
  ESx X B E (.Raise (some (.Call (.Name n np) (e::es) [] cpos)) none pos) (a8b n ms):=by
 intro pins s σ H D I ⟨G,env,c,rl,em,w⟩;obtain⟨⟨ds,env1⟩,e1,e2⟩:=q2_ em;dsimp only at e2;split at e2
 ·rename_i hl
  cases e2;obtain⟨C,hC,hw⟩:=w;obtain⟨C',hC',hex⟩:=b1R ho;rw[hC]at hC';cases hC';have O:=b8y I.mod.kin I.mod.glob hC hex;obtain⟨tl,N,nm,q,bs,hdct,sn,sub,ab,col,dd,k0,k1,k2,k3,k5,mN,hCo,hN,hni,T⟩:=O.obj;refine wpAny_Raise_call_subU (C:=C) (nm:=nm) (q:=q) (N:=N) (bs:=bs) (bm:=tl) (hdct:=hdct) (sn:=sn) (sub:=sub) (ab:=ab) (col:=col) (dd:=dd) (k0:=k0) (k1:=k1) (k2:=k2) (k3:=k3) (k5:=k5)
   PySem.F.excBase_ValueError (by decide+kernel) PySem.F.excBase_ValueError (mN:=mN) (T.hasType PySem.F.excBase_ValueError.hasBase) (I.ok.hd hc) (by rw[he];show(false||(backTo cpos (starEach es X.env)).any (·.1))=false;rw[hpl];rfl) hni (a4v I hg O.bound ⟨rfl,?_⟩ hd)
  have h1:=ha cpos pins s σ H (fun vs H1=>vs.length≤sizeLine/\E (.ref C) none H1) I ⟨G,env,ds,env1,rl,e1,fun vs G1 H1 ev r=>⟨by rw[r.length];exact Jo (a5K hl),hw σ G1 env1 H1 ev⟩⟩
  rw[he]at h1 ⊢;refine Calls.evalArgs_plain (Qi h1 (fun us s2 ⟨vs,H2,I2,r2,q1,q2⟩=>⟨rfl,by rw[←r2.length];exact q1,I2.bk _ _ hCo,hN.keeps I2.bk,T.keeps I2.bk,fun h' e hm=>?_⟩) fun _ _ y=>y)
  exact hx.made pins σ H2 s2 h' e C us I2 hm q2
 ·cases e2
def SpX(K:Qz)(n:Nat)(g:List W->Option Str):Sp:=fun vs H _ E=>∃G ws c C,ws.length=n/\a4N ws/\Rel K u8_ G (vs.map some) ws H/\g ws=some c/\PySem.W.nsIn K mainGlobals c=some (some (.ref C))/\
 ∀G' ws' H',Ev K u8_ G (vs.map some) ws H G' (vs.map some) ws' H'->E (.ref C) none H'
structure DefX(P:Program)(w:World)(K:Qz)(mg:Str->Option Value)(base:Heap)(x:Str)(k n:Nat)(g:List W->Option Str):Prop where
 ex:∃(f:Addr) (fd:FuncData) (ps:List Str),FnOk P w K mg base (CXE P w) k f fd ps (SpX K n g)/\ps.length=n/\mg x=some (.ref f)/\PySem.W.keepIn K (.ref f)=true/\a0S K fd ps []
def a2g(n:Nat)(g:List W->Option Str)(as:Mo (List Ar)):Mx:=fun env=>(as env).bind fun p=>if p.1.length=n then(match slots p.1 with
 |[]=>g (p.1.map (u6_ (.l [])))
 |_=>none)else none
theorem a3Y{x:Str}{k n:Nat}{g:List W->Option Str}{as:Mo (List Ar)}(hx:XOk X E)(Df:DefX X.prog X.w X.K X.mg X.base x k n g)(hr:Room k X.A)(hg:Gl X x)(ha:EAr X B (e::es) as)(hdb:(x==("__debug__":Str))=false:=by decide)
  (he:starEach (e::es) X.env=(false,eval e X.env)::starEach es X.env:=by rfl)(hpl:(backTo pos (starEach es X.env)).any (·.1)=false:=by rfl):
  EDx X B E (.Call (.Name x p) (e::es) [] pos) (a2g n g as):=by
 obtain⟨f,fd,ps,F,rfl,hm,hk,hb⟩:=Df.ex;intro pins s σ H Q I ⟨G,env,c,rl,em,C,hC,w⟩;refine a5E F hr hg hm hk hb .nil hx.pass ha hdb he hpl pins s σ H Q I ?_
 obtain⟨⟨av,env1⟩,e1,e2⟩:=q2_ em;dsimp only at e2;split at e2
 ·rename_i hn
  split at e2
  ·rename_i hs
   refine⟨G,env,av,env1,rl,e1,fun vs G1 H1 ev ra=>?_⟩
   show SpX X.K ps.length g (vs++[]) H1 Q E;rw[Yn];exact⟨G1,av.map (u6_ (.l [])),c,C,by rw[Qv];exact hn,a5Z,a6a (i:=0) (w:=.nil) ev.rel ra (fun k j e=>absurd e (a1F hs k j)) (fun k k' j j' e=>absurd e (a1F hs k j)),e2,hC,
    fun G2 ws' H2 ev2=>w σ G2 env1 H2 (ev.trans (a6b ev.rel ra hs ev2))⟩
  ·cases e2
 ·cases e2
end
def fnX(N:Nat)(mx:Mx):List W->Option Str:=fun ws=>mx (ws++List.replicate (N-ws.length) .nil)
theorem a5a{w:World}{K:Qz}{mg:Str->Option Value}{base:Heap}{x:Str}{st:Stmt}{f:Addr}{fd:FuncData}{N ps:List Str}{k:Nat}{mx:Mx}(F:Fun K x qual st f fd)(S:FnScope N ps (y3_ st))
  (hb:∀(cdv:Value) (A:Around) (outer:List Env) (s:Shared) (H:Hp) (E:XK),Room k (A.deeper (envOfC qual (y3_ st) s.heap.objs.size f cdv))->
   a2G (u1_ (CXE P w) P w K mg base N qual (y3_ st) f cdv A outer s H E) (fun b=>H b≠none) E (a0U st) mx):FnOk P w K mg base (CXE P w) (k+1) f fd ps (SpX K ps.length (fnX N.length mx)):=by
 have hpl:ps.length≤N.length:=by have:=Yx List.length S.pre;rw[Ye]at this;omega
 obtain⟨oc,od,kV,doc,pm,an,cdv,ct,osl,rfl,lk,hcd⟩:=F.ex;refine a7v lk hcd S (fun vs H Q E h=>?_) fun A outer s H vs Q E hr h=>?_
 ·obtain⟨G,ws,c,C,hl,ok,rl,_⟩:=h
  have:=rl.len;rw[Qv]at this;omega
 ·obtain⟨G,ws,c,C,hl,ok,rl,e,hC,k⟩:=h
  have hv:ws.length=vs.length:=by have:=rl.len;rwa [Qv]at this
  exact⟨_,hb cdv A outer s H E hr,G,_,c,a7K (N:=N) rl ok (by omega),e,C,hC,fun σ' G' env' H' ev=>k G' (a0M ws env') H' (a3g rl ok (by omega) ev)⟩
open PySem.W Builtin Builtin.ObjectAttr Builtin.Getset_descriptor PySem.Calls
def a0w(e C:Addr)(h:Heap):Prop:=∃o,h.get? e=some o/\o.cls=.ref C
theorem a0w.type{e:Addr}(p:a0w e C h):Looks M h (typeOf (.ref e)) (.ref C):=by
 obtain⟨o,h1,h2⟩:=p;exact h2 ▸ (Looks.ld h1).andThen .now
section
variable{prog:Program}{w:World}{A:Around}{K:Frag}{x:Addr}{g:Array GenState}{d:Drawn}{t:Nat}{os:OsState}
theorem b8z{R:Result->Shared->Prop}{tp:Value}(X:K.In h)(I:a0w x C h)(hm:mroIn K C (.type "object")=some true)
  (hq:R (.ok (.ret (.ref C))) ⟨h,g,d,t,os⟩):codeAny (model prog w) A (.call (.builtin "getset_descriptor.__get__") ⟨[.builtin "object.__class__",.ref x,tp],[]⟩) R ⟨h,g,d,t,os⟩:=by
 have L0:=I.type (M:=model prog w)
 have L1:=looks_mroIn (M:=model prog w) X hm
 refine Um KF.slot_gs.plain KF.entry_gs (KF.slot_gs.check _ _ _ _ _ _ _ _ KF.type_class (KF.args_gs _ _ _) ?_);unfold Builtin.«getset_descriptor.__get__» descrGet;rw[dga_obj];refine Qq (Qk ?_);unfold descrGetter descrCheckInstance descrNameAndClass isInstance;simp only[KF.owner_class]
 repeat (first|with_reducible refine L0.at ?_|with_reducible refine L1.at ?_|wp_step)
 refine⟨Code.quiet_builtin _ (by decide+kernel),Xx KF.entry_class ?_⟩
 unfold Builtin.«object.__class__» shownTypeOf
 repeat (first|with_reducible refine L0.at ?_|with_reducible refine L1.at ?_|wp_step)
 exact hq
theorem b8A(X:K.In h)(I:a0w x C h)(ha:findIn K (.ref C) "__class__"=some (some (.builtin "object.__class__")))
  (hn:specialIn K (.builtin "object.__class__") "__get__"=some (some (.builtin "getset_descriptor.__get__")))(htk:takesIn K (.builtin "object.__class__")=some true)(M:Model):
  Looks M h (find (.ref x) (.ref C) "__class__") (.bind (.builtin "getset_descriptor.__get__") (.builtin "object.__class__")):=by
 have L1:=looks_findIn (M:=M) X ha
 have L2:Looks M h (getOf (some (.builtin "object.__class__"))) (some (.builtin "getset_descriptor.__get__")):=looks_specialIn X hn
 have L3:=looks_takesIn (M:=M) X htk
 exact L1.andThen (L2.andThen ((show Looks M h (dataDescriptor? (some (.builtin "object.__class__")) (some (.builtin "getset_descriptor.__get__"))) (some (.builtin "getset_descriptor.__get__",.builtin "object.__class__"))from L3.andThen .now).andThen (Looks.tag .now)))
theorem b8B{Q:Fin->Shared->Prop}(X:K.In h)(I:a0w x C h)(hm:mroIn K C (.type "object")=some true)(ha:findIn K (.ref C) "__class__"=some (some (.builtin "object.__class__")))
  (hn:specialIn K (.builtin "object.__class__") "__get__"=some (some (.builtin "getset_descriptor.__get__")))(htk:takesIn K (.builtin "object.__class__")=some true)(hq:Q (.done (.ret (.ref C))) ⟨h,g,d,t,os⟩):
  wpAny (model prog w) A (Builtin.«object.__getattribute__» ⟨[.ref x,.str "__class__" tk],[]⟩) Q E ⟨h,g,d,t,os⟩:=by
 have L0:=I.type (M:=model prog w)
 have L1:=b8A X I ha hn htk (model prog w)
 unfold Builtin.«object.__getattribute__»
 repeat (any_goals (first|assumption|with_reducible refine L0.at ?_|with_reducible refine L1.at ?_|wp_step))
 refine b8z X I hm ?_
 repeat (any_goals (first|assumption|wp_step))
theorem b8C{nameV:Value}{Q:Unit->Shared->Prop}(X:K.In h)(I:a0w x C h)(hm:mroIn K C (.type "BaseException")=some true)(hq:Q () ⟨h,g,d,t,os⟩):
  wpAny M A (checkBuiltinCall "BaseException.__getattribute__" ⟨[.ref x,nameV],[]⟩) Q E ⟨h,g,d,t,os⟩:=by
 have hk:builtinKind "BaseException.__getattribute__"=some .slot:=by decide+kernel
 have hsplit:splitId "BaseException.__getattribute__"=some ("BaseException","__getattribute__"):=by decide+kernel
 have L0:=I.type (M:=M)
 have L1:=looks_mroIn (M:=M) X hm
 have ha:=F.args_bexc_ga (.ref x) nameV
 simp only[checkBuiltinCall,hk,hsplit];refine Qq ?_
 unfold isInstance
 repeat (first|with_reducible refine L0.at ?_|with_reducible refine L1.at ?_|wp_step)
 exact hq
theorem b8D{fill expr:Bool}(X:K.In h)(I:a0w x C h)(hmB:mroIn K C (.type "BaseException")=some true)(hm:mroIn K C (.type "object")=some true)(ha:findIn K (.ref C) "__class__"=some (some (.builtin "object.__class__")))
  (hn:specialIn K (.builtin "object.__class__") "__get__"=some (some (.builtin "getset_descriptor.__get__")))(htk:takesIn K (.builtin "object.__class__")=some true)
  (hga:findIn K (.ref C) "__getattribute__"=some (some (.builtin "BaseException.__getattribute__")))(hno:findIn K (.ref C) "__getattr__"=some none)(hq:Q (.ref C) ⟨h,g,d,t,os⟩):
  wpAny (model prog w) A (getAttrBy (.ref x) (.str "__class__" tk) fill expr) Q E ⟨h,g,d,t,os⟩:=by
 have L0:=I.type (M:=model prog w)
 have L1:=looks_findIn (M:=model prog w) X hga
 have L2:=looks_findIn (M:=model prog w) X hno
 have f3:=F.attrBase_ValueError.ga.bind (.ref x)
 have hx0:(expr&&onTheHeap (Value.builtin "BaseException.__getattribute__"))=false:=by cases expr<;>rfl
 have hx2:(Value.builtin "BaseException.__getattribute__"==Value.builtin "object.__getattribute__")=false:=by decide+kernel
 have hx1:(onTheHeap (Value.ref C)&&Value.builtin "BaseException.__getattribute__"==Value.builtin "object.__getattribute__")=false:=by rw[hx2];rfl
 repeat (any_goals (first|assumption|with_reducible refine L0.at ?_|with_reducible refine L1.at ?_|with_reducible refine L2.at ?_|wp_step))
 refine Um F.attrBase_ValueError.ga.plain F.entry_bexc_ga (b8C X I hmB (b8B X I hm ha hn htk ?_))
 repeat (any_goals (first|assumption|wp_step))
theorem b8E{Q:Option Value->Shared->Prop}(X:K.In h)(I:a0w x C h)(hmB:mroIn K C (.type "BaseException")=some true)(hm:mroIn K C (.type "object")=some true)(ha:findIn K (.ref C) "__class__"=some (some (.builtin "object.__class__")))
  (hn:specialIn K (.builtin "object.__class__") "__get__"=some (some (.builtin "getset_descriptor.__get__")))(htk:takesIn K (.builtin "object.__class__")=some true)
  (hga:findIn K (.ref C) "__getattribute__"=some (some (.builtin "BaseException.__getattribute__")))(hno:findIn K (.ref C) "__getattr__"=some none)(hq:Q (some (.ref C)) ⟨h,g,d,t+1,os⟩):
  wpAny (model prog w) A (getAttr? (.ref x) "__class__") Q E ⟨h,g,d,t,os⟩:=by
 unfold getAttr? getAttrBy?
 repeat (any_goals (first|assumption|with_reducible apply b8D X I hmB hm ha hn htk hga hno|wp_step))
end
def b8F:List String:=["tuple","list","int","bool","str"]
def a1f(K:Frag)(C:Addr):Bool:=
 (mroIn K C (.type "BaseException")==some true)&&((mroIn K C (.type "object")==some true)&&((findIn K (.ref C) "__class__"==some (some (.builtin "object.__class__")))&&((specialIn K (.builtin "object.__class__") "__get__"==some (some (.builtin "getset_descriptor.__get__")))&&
 ((takesIn K (.builtin "object.__class__")==some true)&&((findIn K (.ref C) "__getattribute__"==some (some (.builtin "BaseException.__getattribute__")))&&((findIn K (.ref C) "__getattr__"==some none)&&((clsIn K C).isSome&&((kitOne K (.ref C) (.type "ValueError")==some true)&&b8F.all fun T=>kitOne K (.ref C) (.type T)==some false))))))))
theorem b8G{K:Frag}{e:Addr}(h:a1f K C=true):KitX K (.ref e) (.ref C) (a0w e C):=by
 unfold a1f at h;simp only[Qy,Yt]at h;obtain⟨h1,h2,h3,h4,h5,h6,h7,h8,_,_⟩:=h;obtain⟨cdD,hcD⟩:=Yk.mp h8;refine⟨fun _ _ _ p=>p.type,fun _ _ X _=>?_,fun h tp dd its n sl X htp=>?_,fun{prog w A E Q s} X I k=>?_⟩
 ·unfold clsIn at hcD
  split at hcD
  ·rename_i c' d' cd' sl' ho
   intro A' Q' E' s' k q;unfold isType loadHead;exact Qq (wpAny_loadPart (k _ _ (X _ _ ho)) (Qk q))
  ·cases hcD
 ·refine Bool.eq_false_iff.mpr fun q=>?_
  have e:C=tp:=Value.ref.inj (Yt.mp q)
  subst e;unfold clsIn at hcD;split at hcD
  ·rename_i c' d' cd' sl' ho
   have z:=(X _ _ ho).symm.trans htp
   cases z
  ·cases hcD
 ·obtain⟨hh,g,d,t,os⟩:=s
  exact b8E X I h1 h2 h3 h4 h5 h6 h7 k
theorem b8H{K:Frag}(h:a1f K C=true):b0S K (.ref C):=by
 unfold a1f at h;simp only[Qy]at h;obtain⟨_,_,_,_,_,_,_,_,_,h9⟩:=h;intro T hT;have:=Qu.mp h9 T hT
 simpa using this
theorem b8I{K:Frag}(h:a1f K C=true):kitOne K (.ref C) (.type "ValueError")=some true:=by
 unfold a1f at h;simp only[Qy]at h;obtain⟨_,_,_,_,_,_,_,_,h9,_⟩:=h
 simpa using h9
def a1H(K:Frag)(S:Str)(names:List Str):Bool:=names.all fun n=>a2F K n&&match nsIn K mainGlobals n with
 |some (some (.ref C))=>a1f K C&&((match nsIn K mainGlobals S with
   |some (some (.ref D))=>mroIn K C (.ref D)==some true&&(a2F K S&&a1f K D)
   |_=>false)&&names.all fun m=>match nsIn K mainGlobals m with
   |some (some (.ref D))=>kitOne K (.ref C) (.ref D)==some (n==m)
   |_=>false)
 |_=>false
structure ExcF(K:Frag)(S:Str)(names:List Str)(n:Str)(C:Addr):Prop where
 nm:nsIn K mainGlobals n=some (some (.ref C))
 one:a2F K n=true
 kit:a1f K C=true
 sub:∃D,nsIn K mainGlobals S=some (some (.ref D))/\mroIn K C (.ref D)=some true/\a2F K S=true/\a1f K D=true
 pair:∀m∈names,∃D,nsIn K mainGlobals m=some (some (.ref D))/\kitOne K (.ref C) (.ref D)=some (n==m)
theorem a3Z{K:Frag}{S:Str}{names:List Str}(h:a1H K S names=true){n:Str}(hn:n∈names):∃C,ExcF K S names n C:=by
 have q:=Qu.mp h n hn
 simp only[Qy]at q;obtain⟨h1,h2⟩:=q;split at h2
 ·rename_i C hC
  simp only[Qy]at h2;obtain⟨h3,h4,h5⟩:=h2;split at h4
  ·rename_i D hD
   simp only[Qy,Yt]at h4;refine⟨C,hC,h1,h3,⟨D,hD,h4.1,h4.2.1,h4.2.2⟩,fun m hm=>?_⟩
   have:=Qu.mp h5 m hm;split at this
   ·rename_i D' hD'
    exact⟨D',hD',by simpa using this⟩
   ·cases this
  ·cases h4
 ·cases h2
def a0G(names:List Str)(m:Str)(ma:Mo D):Mo D:=fun env=>(ma env).bind fun p=>match p.1 with
 |.obj (.exc n)=>if names.contains n then some (.bl (n==m),p.2)else none
 |_=>none
def b1S(names:List Str)(ma:Mo D):Mo D:=fun env=>(ma env).bind fun p=>match p.1 with
 |.obj (.exc n)=>if names.contains n then some (.bl true,p.2)else none
 |_=>none
section
variable{p2:Pos}{a:Expr}{S m:Str}{names:List Str}
theorem a0H(hx:a1H X.K S names=true)(hm:m∈names)(ha:ED X B a ma)(hg:Gl X "isinstance")(hi:X.mg "isinstance"=none)(hgm:Gl X m)(hdm:(m==("__debug__":Str))=false:=by decide)
  (he:starEach [a,.Name m p2] X.env=[(false,eval a X.env),(false,eval (.Name m p2) X.env)]:=by rfl):ED X B (.Call (.Name "isinstance" p) [a,.Name m p2] [] pos) (a0G names m ma):=by
 obtain⟨C0,F0⟩:=a3Z hx hm;intro pins0 s0 σ0 H0 Q0 I0;have hT:PE X (.Name m p2) (tC (.ref C0)):=a7e hgm (Xh I0.mod.kin I0.mod.glob F0.nm) rfl hdm;have hc:w9_ X (.builtin "isinstance") (fun xs H Q=>∃x G n,xs=[x,.ref C0]/\Le G H/\Rep X.K G x (.obj (.exc n))/\n∈names/\Q (.bl (n==m)) H):=by
  intro pins s σ H xs us Q I r h;obtain⟨x,G,n,rfl,l,rp,hn,q⟩:=h;obtain⟨u,w',rfl,r1,r2⟩:=a3a r;cases r2;simp only[Rep]at rp;obtain⟨e,C,HP,rfl,h2,h3,h4,h5⟩:=rp;cases r1;obtain⟨C',F⟩:=a3Z hx hn;have:=F.nm;rw[h2]at this;cases this;obtain⟨D,hD,hk⟩:=F.pair m hm;have:=F0.nm;rw[hD]at this;cases this;exact Zh h4 I.kIn (I.hok e _ (l _ _ h3)).1 hk (fun z=>nomatch z) fun tk=>⟨.bl _,H,I.tok _,rfl,q⟩
 refine pe_imp (a5F (pos:=pos) (p:=p) hc hg hi (by decide+kernel) (a1l ha (a1l hT a3b) he) (he:=he)) ?_ pins0 s0 σ0 H0 Q0 I0
 rintro σ H Q ⟨G,env,d,env',rl,e,k⟩;obtain⟨⟨d1,env1⟩,e1,e2⟩:=q2_ e;dsimp only at e2;split at e2
 ·rename_i n
  split at e2
  ·rename_i hn
   cases e2;exact .bind rl e1 fun v G1 H1 ev r=>⟨v,G1,n,rfl,ev.rel.sub,r,by simpa using hn,k _ G1 H1 ev (by simp only[Rep])⟩
  ·cases e2
 ·cases e2
theorem b1T(hx:a1H X.K S names=true)(ha:ED X B a ma)(hg:Gl X "isinstance")(hi:X.mg "isinstance"=none)(hgm:Gl X "ValueError")(hmv:X.mg "ValueError"=none)
  (he:starEach [a,.Name "ValueError" p2] X.env=[(false,eval a X.env),(false,eval (.Name "ValueError" p2) X.env)]:=by rfl):ED X B (.Call (.Name "isinstance" p) [a,.Name "ValueError" p2] [] pos) (b1S names ma):=by
 have hT:PE X (.Name "ValueError" p2) (tC (.ty "ValueError")):=b0e hgm hmv PyProof.Rows.Boot.«ValueError» rfl
 have hc:w9_ X (.builtin "isinstance") (fun xs H Q=>∃x G n,xs=[x,.ty "ValueError"]/\Le G H/\Rep X.K G x (.obj (.exc n))/\n∈names/\Q (.bl true) H):=by
  intro pins s σ H xs us Q I r h;obtain⟨x,G,n,rfl,l,rp,hn,q⟩:=h;obtain⟨u,w',rfl,r1,r2⟩:=a3a r;cases r2;simp only[Rep]at rp;obtain⟨e,C,HP,rfl,h2,h3,h4,h5⟩:=rp;cases r1;obtain⟨C',F⟩:=a3Z hx hn;have:=F.nm;rw[h2]at this;cases this;exact Zh h4 I.kIn (I.hok e _ (l _ _ h3)).1 (b8I F.kit) (fun z=>nomatch z) fun tk=>⟨.bl _,H,I.tok _,rfl,q⟩
 refine pe_imp (a5F (pos:=pos) (p:=p) hc hg hi (by decide+kernel) (a1l ha (a1l hT a3b) he) (he:=he)) ?_
 rintro σ H Q ⟨G,env,d,env',rl,e,k⟩;obtain⟨⟨d1,env1⟩,e1,e2⟩:=q2_ e;dsimp only at e2;split at e2
 ·rename_i n
  split at e2
  ·rename_i hn
   cases e2;exact .bind rl e1 fun v G1 H1 ev r=>⟨v,G1,n,rfl,ev.rel.sub,r,by simpa using hn,k _ G1 H1 ev (by simp only[Rep])⟩
  ·cases e2
 ·cases e2
def b1U:D->Bool
 |.non=>true
 |_=>false
def a8d:D->D->Option D
 |a,.non=>some (.bl (b1U a))
 |_,_=>none
theorem b8J{K:Frag}{x:V}{a:D}(r:Rep K G x a):decide (x=.non)=b1U a:=by
 cases a with
 |non=>simp only[Rep]at r;subst r;rfl
 |bl _=>simp only[Rep]at r;subst r;rfl
 |int _=>simp only[Rep]at r;subst r;rfl
 |str _=>simp only[Rep]at r;obtain⟨r,_⟩:=r;subst r;rfl
 |tup _=>simp only[Rep]at r;obtain⟨_,_,r,_⟩:=r;subst r;rfl
 |lst _=>simp only[Rep]at r;obtain⟨_,_,r,_⟩:=r;subst r;rfl
 |emp=>simp only[Rep]at r;obtain⟨_,_,r,_⟩:=r;subst r;rfl
 |dct _ _=>simp only[Rep]at r;obtain⟨_,_,r,_⟩:=r;subst r;rfl
 |obj o=>
  simp only[Rep]at r;cases o with
  |exc n=>obtain⟨_,_,_,r,_⟩:=r;subst r;rfl
  |fn n=>obtain⟨_,r,_⟩:=r;subst r;rfl
theorem b8K:OpD X B (fun x y H Q=>y=.non/\Q (.bl (decide (x=.non))) H) a8d:=by
 intro G σ env H x y a b d Q rl ra rb e k;unfold a8d at e;split at e
 ·cases e
  simp only[Rep]at rb;subst rb;rw[b8J ra];exact⟨rfl,k _ G H (.refl rl) (by simp only[Rep])⟩
 ·cases e
end
end L2.Mir
namespace L2.Mir
open PySem PySem.Spec PyProof.Rows PySem.W
variable{B:Addr->Prop}{C fl:Addr}{E:Value->Shared->Prop}{G H H':Hp}{M:Model}{N' names ps:List Str}{P:Program}{X:Cx}{body:Expr}{cd:Value}{cl:List (Str×Addr)}{env1:Env'}{fd:FuncData}{i kc tk:Nat}{n qual x:Str}{o:Option Str}{od:Option Addr}{params:Arguments}{pins:List (Addr×Obj)}{pos:Pos}{s s₁:Shared}{scope:Scope}{ts:List Addr}{σ σ1:St}
section
variable{σ':St}{e:Addr}{φ:Heap->Prop}
theorem b8L(I:Inv X pins σ H s)(hn:H e=none)(h0:X.s₀.heap.get? e=none)(hL:e≠X.env.locals)(hc:∀x c,X.env.cells.lookup x=some c->c≠e)(hp:∀p∈X.pn++pins,p.1≠e)
  (ph:φ s.heap)(po:∃o,s.heap.get? e=some o)(ps:∀h1 h2:Heap,φ h1->(∀o,h1.get? e=some o->h2.get? e=some o)->φ h2):Inv X pins σ (upd H e (.ext φ)) s:=by
 have ne:∀{b u},H b=some u->b≠e:=fun q z=>by rw[z,hn]at q;cases q
 refine⟨I.ok,I.os,I.bare,⟨I.base.keep,I.base.slot,fun b o q n hx=>?_,I.base.there,fun b xs q=>?_,fun b o u q=>?_,fun b ps q=>?_⟩,I.loc,I.cell,?_,fun x c q=>?_,fun p q=>?_,fun b u q=>?_,I.len⟩
 ·have hb:b≠e:=fun z=>by rw[z,h0]at q;cases q
  rw[q5_ hb];exact I.base.free b o q n hx
 ·have:=I.base.tups b xs q;rw[q5_ (ne this)];exact this
 ·have:=I.base.frzs b o u q;rw[q5_ (ne this)];exact this
 ·obtain⟨m,q'⟩:=I.base.tbls b ps q;exact⟨m,by rw[q5_ (ne q')];exact q'⟩
 ·rw[q5_ (Zy hL)];exact I.free
 ·rw[q5_ (hc x c q)];exact I.freeC x c q
 ·obtain⟨h1,h2,h3,h4,h5⟩:=I.pin p q
  exact⟨h1,by rw[q5_ (hp p q)];exact h2,h3,h4,h5⟩
 ·by_cases hb:b=e
  ·subst hb;rw[y5_]at q;cases q;exact⟨ph,po,ps⟩
  ·rw[q5_ hb]at q
   exact(I.hok b u q).stay (fun _ _ _ z=>z) (fun c z=>by rw[q5_ (ne z)];exact z) fun c xs z=>by rw[q5_ (ne z)];exact z
theorem b8M{h':Heap}{m':Str->Option Value}(I:Inv X pins σ H s)(hn':h'.Ns X.env.locals m')(hs:Heap.SameBut X.env.locals s.heap h')(hl:σ'.length=σ.length)
  (hσ:∀(i:Nat) (x:Str) (v:V),X.N[i]? =some x->σ'[i]? =some (some v)->Vis X.env.scope x->∃u,y2_ v u/\b0a X.env h' m' x u):Inv X pins σ' H {s with heap:=h',toks:=tk}:=by
 have cne:=I.cne
 refine⟨I.ok,I.os,I.bare,⟨fun b o e n hb hx=>?_,fun b o e n hb hx=>?_,I.base.free,fun b o e hx=>?_,I.base.tups,I.base.frzs,I.base.tbls⟩,⟨_,hn',hσ⟩,fun y c e=>?_,I.free,I.freeC,fun p hp=>?_,fun b ob e=>?_,hl.trans I.len⟩
 ·exact(hs.2 b (Qd (Qc (Qw e) I.ok.above))).trans (I.base.keep b o e n hb hx)
 ·obtain⟨sl,e1⟩:=I.base.slot b o e n hb hx
  exact⟨sl,(hs.2 b (Qd (Qc (Qw e) I.ok.above))).trans e1⟩
 ·obtain⟨o',e1⟩:=I.base.there b o e hx
  exact⟨o',(hs.2 b (Qd (Qc (Qw e) I.ok.above))).trans e1⟩
 ·obtain⟨w',z⟩:=I.cell y c e
  exact⟨w',z.sameBut hs (cne y c e)⟩
 ·obtain⟨e,n,ne,nf,d⟩:=I.pin p hp
  exact⟨(hs.2 p.1 ne).trans e,n,ne,nf,d⟩
 ·refine(I.hok b ob e).stay (fun c w' hc q=>(hs.2 c ?_).trans q) (fun _ q=>q) fun _ _ q=>q
  rintro rfl
  rcases hc with rfl|hc
  ·rw[I.free]at e;cases e
  ·rw[I.free]at hc;cases hc
theorem b8N{A:Around}{Q:Unit->Shared->Prop}(I:Inv X pins σ H s)(hN:X.N.Nodup)(hi:X.N[i]? =some n)(hk:X.env.scope.names.lookup n=some .local)
  (h:∀s',Inv X pins (σ.set i none) H s'->Q () s'):wpAny M A (do bindName X.env n .none;unbindBehindTheSuite X.env n pos) Q E s:=by
 have hcls:(X.env.scope.kind==.class||(X.env.scope.kind==.module&&X.env.locals !=X.env.globals))=false:=by rw[I.ok.kind];rfl
 have hiσ:i<σ.length:=by rw[I.len];exact(Qb.mp hi).1
 refine Qq (wpAny_bindName (a2W (v:=.non) (u:=.none) I hN hi (.inl hk) rfl (fun s1 I1=>?_) (.inr hk)))
 unfold unbindBehindTheSuite;refine Vm ?_
 obtain⟨m,hn,hl⟩:=I1.loc;obtain⟨u,ru,lk⟩:=hl i n .non hi (Zi hiσ) (.inl hk);have hm:m n=some u:=by
  rcases lk with⟨_,z⟩|⟨z,_⟩
  ·exact z
  ·have:X.env.kindOf n=some .local:=hk
   rcases z with z|z<;>(rw[this]at z;cases z)
 refine wpAny_unbindName_local hk hn hm hcls fun h' u' hn' hs=>?_
 obtain⟨hh,g,d,t,o⟩:=s1;refine h _ (b8M (tk:=t) I1 hn' hs (by simp) fun j y v e1 e2 e3=>?_)
 by_cases hj:j=i
 ·subst hj;rw[Zi hiσ]at e2;cases e2
 ·rw[Qm (Zy hj)]at e2
  obtain⟨w,rw',q⟩:=hl j y v e1 (by rw[Qm (Zy hj)];exact e2) e3
  refine⟨w,rw',?_⟩
  rcases q with⟨k,e⟩|⟨k,c,e,z⟩
  ·refine .inl ⟨k,?_⟩
   have:y≠n:=fun e=>hj (a7c hN e1 (e ▸ hi))
   simp[this,e]
  ·exact .inr ⟨k,c,e,z.sameBut hs (I1.cne y c e)⟩
end
theorem Ev.setNone{K:Frag}{G1:Hp}{env:Env'}{H1:Hp}(ev:Ev K B G σ env H G1 σ1 env1 H1):Ev K B G σ env H G1 (σ1.set i none) (env1.set i .nil) H1:=by
 have e0:=ev.setNil (i:=i)
 have rl:=e0.rel
 have ne:∀(j:Nat) (w:W),(env1.set i .nil)[j]? =some w->w≠.nil->(σ1.set i none)[j]? =σ1[j]?:=fun j w q1 q2=>by
  rcases w6_ q1 with⟨_,z⟩|z
  ·exact absurd z q2
  ·exact Qm (Zy z.1)
 have nm:∀(w:W) (es:Mu),w.mut=some es->w≠.nil:=fun w es h z=>by rw[z]at h;cases h
 refine⟨⟨rl.sub,by rw[rl.len];simp,fun j d q=>?_,fun j w es q1 q2=>?_,fun j k w w' es fs b q1 q2 q3 q4 q5 q6=>?_,fun j w b q1 qo q2=>?_,rl.old,rl.tabs,rl.gnt⟩,e0.same,e0.keep,e0.live,e0.stay,fun b z=>?_,fun j w q qp=>?_,by rw[Zf];exact e0.slen⟩
 ·rw[ne j _ q (by simp)];exact rl.dat j d q
 ·rw[ne j _ q1 (nm w es q2)];exact rl.own j w es q1 q2
 ·rw[ne j _ q1 (nm w es q2)]at q5;rw[ne k _ q3 (nm w' fs q4)]at q6;exact rl.inj j k w w' es fs b q1 q2 q3 q4 q5 q6
 ·rw[ne j _ q1 (by rintro rfl;cases qo)]at q2;exact rl.fresh j w b q1 qo q2
 ·obtain⟨j,w,es,q1,q2,q3⟩:=z
  rw[ne j _ q1 (nm w es q2)]at q3;exact e0.sub b ⟨j,w,es,q1,q2,q3⟩
 ·rw[ne j _ q (by rintro rfl;cases qp)];exact e0.par j w q qp
theorem b8O{l:List Env}{h h1 h2 Bh:Heap}(un:Un (frs l) [] H H' h h1)(kept:∀b o,h.get? b=some o->H b=none->b∉frs l->Bh.get? b=some o)(thr:∀b o,h.get? b=some o->b∉frs l->∃o',Bh.get? b=some o')
  (stay:Bh.StaysIn h2)(ups:h1.UpToSlots h2)(fr:∀b∈frs l,H b=none/\∃o,h.get? b=some o/\∀vs,o.data≠.fields vs):Un (frs l) [] H H' h h2:=by
 have sl:∀b o,h.get? b=some o->b∈frs l->∃sl,h2.get? b=some {o with slots:=sl}:=fun b o q hb=>by
  obtain⟨n,o1,g1,g2⟩:=fr b hb;rw[q]at g1;cases g1;obtain⟨s1,q1⟩:=un.slot b o q n hb (by simp)
  obtain⟨s2,q2⟩:=ups b _ q1 g2;exact⟨s2,q2⟩
 exact⟨fun b o q n hb _=>stay b o (kept b o q n hb),fun b o q n hb _=>sl b o q hb,un.free,fun b o q _=>by
  by_cases hb:b∈frs l
  ·obtain⟨s1,q1⟩:=sl b o q hb;exact⟨_,q1⟩
  ·obtain⟨o',q1⟩:=thr b o q hb;exact⟨o',stay b o' q1⟩,un.tups,un.frzs,un.tbls⟩
section
variable{A:Around}{K:Frag}{e Dd:Addr}{h:Heap}{g:Array GenState}{d:Drawn}{t:Nat}{os:OsState}
theorem b8P{Q:Bool->Shared->Prop}{cd:ClassData}{sl:Array (Option Value)}(X:K.In h)(I:a0w e C h)(hsub:mroIn K C (.ref Dd)=some true)(hD:mroIn K Dd (.type "BaseException")=some true)(hk:K.lookup Dd=some ⟨.type "type",od,.cls cd,sl⟩)
  (hq:Q true ⟨h,g,d,t,os⟩):wpAny M A (excMatches (.ref e) (.ref Dd)) Q E ⟨h,g,d,t,os⟩:=by
 have L0:=I.type (M:=M)
 have L1:=looks_mroIn (M:=M) X hsub
 have L2:=looks_mroIn (M:=M) X hD
 have f:=tc_notTuple
 have hC:=X _ _ hk
 unfold excMatches
 repeat (first|with_reducible refine L0.at ?_|with_reducible refine L1.at ?_|with_reducible refine L2.at ?_|with_reducible refine wpAny_loadPart_at hC ?_|wp_step)
 exact hq
end
theorem b8Q{K:Frag}{bm:List Value}{nid:String}(h:excIn K C bm nid=true):∃od cd sl,K.lookup C=some ⟨.type "type",od,.cls cd,sl⟩:=by
 unfold excIn at h;split at h
 ·rename_i dd cd sl ho;exact⟨dd,cd,sl,ho⟩
 ·cases h
theorem b8R{K:Frag}(h:a1f K C=true):mroIn K C (.type "BaseException")=some true:=by
 unfold a1f at h;simp only[Qy,Yt]at h;exact h.1
def a4a(a:Addr)(h:Heap):Prop:=∃o fd,h.get? a=some o/\o.data=.func fd
theorem b8S{a:Addr}(h:Heap)(p:a4a a h):∃k,(k=Keeper.frame∨k=Keeper.machine∨k=Keeper.boundFrame)/\Looks M h (keeperOf (.ref a)) k:=by
 obtain⟨o,fd,h1,h2⟩:=p;refine⟨.frame,.inl rfl,(Looks.ld (part:=none) h1).andThen ?_⟩;rw[h2];exact .now
def a8e(X:Cx)(B:Addr->Prop)(fl:Addr)(o:Option Str)(G:Hp):Prop:=
 ∀(pins:List (Addr×Obj)) (s:Shared) (σ:St) (env:Env') (Q:VK) (E:XK),Inv X pins σ X.H₀ s->Rel X.K B G σ env X.H₀->
  (o=none->∀v G' H',Ev X.K B G σ env X.H₀ G' σ env H'->Q v H')->
  (∀n C,o=some n->nsIn X.K mainGlobals n=some (some (.ref C))->∀G' H',Ev X.K B G σ env X.H₀ G' σ env H'->E (.ref C) none H')->
  codeAny (model X.prog X.w) X.A (.call (.ref fl) ⟨[],[]⟩) (CR (CXE X.prog X.w) X.stack X.prog X.w X.H₀ s Q E) s
section
variable{S y:Str}{i0 j:Nat}{G₀:Hp}{cp cpos epos sp yp np apos hpos tpos:Pos}
abbrev exD(n:Str):D:=.obj (.exc n)
def b8T(X:Cx)(B:Addr->Prop)(names:List Str)(fl:Addr)(i0 i j:Nat)(o:Option Str)(G:Hp):TS:=fun D σ H=>σ[i0]? =some (some (.ref fl))/\H=X.H₀/\∃env,Rel X.K B G σ env H/\
 (o=none->∀G' H',Ev X.K B G σ env H G' σ env H'->D.nx σ H')/\∀c,o=some c->c∈names/\∀σ' G' H',Ev X.K B G σ env H G' σ' (((env.set i (.dat (exD c))).set j (.dat (exD c))).set i .nil) H'->D.nx σ' H'
theorem caught{s':Shared}{env:Env'}{D:Ends}{ev:Value}(hst:X.stack=X.env::X.outer)(hfr:X.env.frame=some X.env.locals)(hex:X.ex=[])(hx:a1H X.K S names=true)(hN:X.N.Nodup)
  (hi:X.N[i]? =some n)(hil:X.env.scope.names.lookup n=some .local)(hj:X.N[j]? =some y)(hjl:X.env.scope.names.lookup y=some .local)(hgS:Gl X S)
  (I:Inv X pins σ H s)(rl:Rel X.K B G σ env H)(hX:∀c,o=some c->c∈names/\∀σ' G' H',Ev X.K B G σ env H G' σ' (((env.set i (.dat (exD c))).set j (.dat (exD c))).set i .nil) H'->D.nx σ' H')
  (cx:CXE X.prog X.w X.stack H s (fun cls _ H'=>∃c C G',o=some c/\nsIn X.K mainGlobals c=some (some (.ref C))/\cls=.ref C/\Ev X.K B G σ env H G' σ env H') ev s')
  (hdS:(S==("__debug__":Str))=false)(hdn:(n==("__debug__":Str))=false)(hcdn:(n==("__classdict__":Str))=false)(hsw:swapsWith (.Name n np) (some (.Name y yp)) apos.line X.env=pure false):
  wpAny (model X.prog X.w) X.A (noteFrame ev X.env) (fun _ s₂=>wpAny (model X.prog X.w) X.A (setFlight ev none) (fun _ s₃=>
   wpAny (model X.prog X.w) X.A (handleBy ev X.env [.ExceptHandler (some (.Name S sp)) (some n) [.Assign [.Name y yp] (.Name n np) apos] hpos]) (SP X pins D) X.xe s₃) X.xe s₂) X.xe s':=by
 obtain⟨e,t,C,H',Bh,rfl,os,bare,fly,un,hok,kept,thr,c,C',G',ho,hC,hcc,evx⟩:=cx;cases hcc;obtain⟨hcn,hD⟩:=hX c ho;obtain⟨C2,F⟩:=a3Z hx hcn;have:=F.nm;rw[hC]at this;cases this;obtain⟨Sd,hS,hsub,hoS,hkS⟩:=F.sub;have frF:∀b∈frs X.stack,H b=none/\∃o,s.heap.get? b=some o/\∀vs,o.data≠.fields vs:=fun b hb=>⟨I.stkFree b hb,(I.stack.mem hb).2⟩
 have eB:Bh.get? e=none:=fly.2.1
 obtain⟨oe0,vs0,he0,_,hd0,_⟩:=fly.first
 have eS:s.heap.get? e=none:=by
  cases q:s.heap.get? e with
  |none=>rfl
  |some o0=>
   by_cases hb:e∈frs X.stack
   ·obtain⟨_,o1,g1,g2⟩:=fly.2.2.1.mem hb
    rw[he0]at g1;cases g1;exact absurd hd0 (g2 vs0)
   ·obtain⟨o',q'⟩:=thr e o0 q hb
    rw[eB]at q';cases q'
 have e0:X.s₀.heap.get? e=none∨e∈X.ex:=by
  by_cases hx:e∈X.ex
  ·exact .inr hx
  ·refine .inl ?_
   cases q:X.s₀.heap.get? e with
   |none=>rfl
   |some o0=>obtain⟨o',q'⟩:=I.base.there e o0 q hx;rw[eS]at q';cases q'
 have eH:H' e=none:=by
  cases q:H' e with
  |none=>rfl
  |some u=>
   have ok:=hok e u q
   have:∃o,Bh.get? e=some o:=by
    cases u with
    |lst xs=>obtain⟨_,_,_,_,z⟩:=ok;exact⟨_,z⟩
    |tup xs=>obtain⟨_,_,_,ob,z,_⟩:=ok;exact⟨_,z⟩
    |dK kvs=>obtain⟨_,_,_,_,o,_,_,z,_⟩:=ok;exact⟨_,z⟩
    |dT C kvs=>obtain⟨_,_,_,_,o,_,_,z,_⟩:=ok;exact⟨_,z⟩
    |set S n=>obtain⟨o,_,_,_,z,_⟩:=ok;exact⟨_,z⟩
    |ins C dx fs=>obtain⟨_,_,_,z,_⟩:=ok;exact⟨_,z⟩
    |own y=>obtain⟨_,z⟩:=ok;exact⟨_,z⟩
    |xd fs=>obtain⟨_,⟨_,_,_,z,_⟩,_⟩:=ok;exact⟨_,z⟩
    |rng lo hi=>obtain⟨_,_,_,z⟩:=ok;exact⟨_,z⟩
    |frz ob u=>obtain⟨z,_⟩:=ok;exact⟨_,z⟩
    |tbl ps=>exact⟨_,(show Bh.get? e=some _ from ok)⟩
    |met f y=>exact⟨_,(show Bh.get? e=some _ from ok)⟩
    |ext φ=>obtain⟨_,z,_⟩:=ok;exact z
   rw[eB]at this;obtain⟨_,z⟩:=this;cases z
 have invAt:∀h2:Heap,Bh.StaysIn h2->s'.heap.UpToSlots h2->Inv X pins σ H' {s' with heap:=h2}:=fun h2 st ups=>
  I.call' (s':={s' with heap:=h2}) (ch:=[]) os (b8O un kept thr st ups frF) (hok.kept fun b u q=>st b u q) bare (fun b z=>absurd z (by simp))
 rw[hst]at fly;have frames:X.A.frames=some (X.env::X.outer):=by rw[I.ok.frames,hst]
 refine wpAny_looks_onW (L:=X.env.locals) frames hfr fly fun h4 held4 ups4=>?_
 refine wpAny_landsW held4 fun h5 fly5 ups5=>?_
 have I5:=invAt h5 fly5.1 (ups4.trans ups5)
 refine wpAny_handleBy_cons (codeAny_handlers_test ?_) (by intro q;cases q)
 have markI:∀{σ:St}{H:Hp}{s:Shared},Inv X pins σ H s->Inv ({X with A:=X.A.mark (some (.ref e)),calm:=false,xe:=fun _ _=>False}:Cx) pins σ H s:=fun J=>
  ⟨⟨J.ok.mod,J.ok.kind,J.ok.glob,J.ok.blt,J.ok.above,J.ok.inj,J.ok.has,J.ok.cab,(fun z=>nomatch z),J.ok.frames,J.ok.stk,J.ok.exf,J.ok.bs,J.ok.bsz,J.ok.noex,J.ok.exfs,J.ok.funs,J.ok.frf⟩,J.os,J.bare,J.base,J.loc,J.cell,J.free,J.freeC,J.pin,J.hok,J.len⟩
 have unmark:∀{σ:St}{H:Hp}{s:Shared},Inv ({X with A:=X.A.mark (some (.ref e)),calm:=false,xe:=fun _ _=>False}:Cx) pins σ H s->Inv X pins σ H s:=fun J=>⟨I.ok,J.os,J.bare,J.base,J.loc,J.cell,J.free,J.freeC,J.pin,J.hok,J.len⟩
 refine a4v (X:=({X with A:=X.A.mark (some (.ref e)),calm:=false,xe:=fun _ _=>False}:Cx)) (markI I5) hgS (mg_of I.mod.kin I.mod.glob hS) ?_ hdS
 obtain⟨od,cd,sl,hlk⟩:=b8Q (let ⟨Z,z1,z2⟩:=b1R hoS;by rw[hS]at z1;cases z1;exact z2)
 obtain⟨oe5,vs5,he5,hc5,_,_⟩:=fly5.first
 refine b8P I5.kIn ⟨oe5,he5,hc5⟩ hsub (b8R hkS) hlk ?_
 dsimp only[if_true];refine codeAny_handlers_suite_as ?_
 refine lands_againW fly5 fun h6 fly6 ups6=>?_
 have I6:=invAt h6 fly6.1 ((ups4.trans ups5).trans ups6)
 obtain⟨oe6,vs6,he6,hc6,_,_⟩:=fly6.first
 have hexN:e∉X.ex:=fun z=>by rw[hex]at z;cases z
 have I7:Inv X pins σ (upd H' e (.ext (a0w e C))) {s' with heap:=h6}:=by
  refine b8L I6 eH (e0.elim id fun z=>absurd z hexN) (fun z=>?_) (fun x c q z=>?_) (fun p q z=>?_) ⟨oe6,he6,hc6⟩ ⟨_,he6⟩ fun h1 h2 p k=>?_
  ·obtain⟨m,⟨o1,_,_,g,_⟩,_⟩:=I.loc
   rw[←z,eS]at g;cases g
  ·obtain⟨v,o1,g,_⟩:=I.cell x c q
   rw[z,eS]at g;cases g
  ·obtain⟨g,_⟩:=I.pin p q
   rw[z,eS]at g;cases g
  ·obtain⟨o1,g1,g2⟩:=p
   exact⟨o1,k o1 g1,g2⟩
 refine a2W I7 hN hi (.inl hil) (show y2_ (.ref e) (.ref e)from rfl) (fun s8 I8=>?_) (.inr hil)
 have hiσ:i<σ.length:=by rw[I.len];exact(Qb.mp hi).1
 refine Qi (a7f (a4w (X:=({X with A:=X.A.mark (some (.ref e)),calm:=false,xe:=fun _ _=>False}:Cx)) (pos:=apos) (pos':=yp) hN hj (.inl hjl) (a7d (pos:=np) hi (.inl hil) hdn hcdn) hsw (.inr hjl)) pins s8 (σ.set i (some (.ref e))) (upd H' e (.ext (a0w e C)))
  {nx:=fun σ' H2=>σ'=(σ.set i (some (.ref e))).set j (some (.ref e))/\H2=upd H' e (.ext (a0w e C)),rt:=fun _ _=>False} (markI I8) ⟨_,Zi hiσ,rfl,rfl⟩) (fun f s9 q=>?_) fun _ _ z=>z.elim
 cases f with
 |ret u=>obtain⟨_,_,_,_,_,z⟩:=q;exact z.elim
 |brk=>obtain⟨_,_,_,z⟩:=q;exact z.elim
 |cont=>obtain⟨_,_,_,z⟩:=q;exact z.elim
 |next=>
  obtain⟨σ9,H9,I9,rfl,rfl⟩:=q;refine b8N (unmark I9) hN hi hil fun s10 I10=>?_
  refine⟨_,_,I10,?_⟩;have ev2:=evx.trans (evx.rel.alloc (o:=.ext (a0w e C)) eH);have rp:Rep X.K (upd G' e (.ext (a0w e C))) (.ref e) (exD c):=by
   simp only[Rep];exact⟨e,C,_,rfl,hC,y5_,b8G F.kit,b8H F.kit⟩
  exact hD _ _ _ (((ev2.setDat (i:=i) rp).setDat (i:=j) rp).setNone (i:=i))
theorem b8U(hst:X.stack=X.env::X.outer)(hfr:X.env.frame=some X.env.locals)(hex:X.ex=[])(hx:a1H X.K S names=true)(hN:X.N.Nodup)(h0:X.N[i0]? =some x)(hv:Vis X.env.scope x)
  (hi:X.N[i]? =some n)(hil:X.env.scope.names.lookup n=some .local)(hj:X.N[j]? =some y)(hjl:X.env.scope.names.lookup y=some .local)(hgS:Gl X S)
  (fn:∀pins σ H s,Inv X pins σ H s->a4a fl s.heap)(clo:a8e X B fl o G₀)
  (hdx:(x==("__debug__":Str))=false:=by decide)(hcdx:(x==("__classdict__":Str))=false:=by decide)(hdS:(S==("__debug__":Str))=false:=by decide)(hdn:(n==("__debug__":Str))=false:=by decide)(hcdn:(n==("__classdict__":Str))=false:=by decide)
  (hsw:swapsWith (.Name n np) (some (.Name y yp)) apos.line X.env=pure false:=by rfl)(hsw2:swapsWith (.Call (.Name x cp) [] [] cpos) none epos.line X.env=pure false:=by rfl):
  PS X (.Try [.Expr (.Call (.Name x cp) [] [] cpos) epos] [.ExceptHandler (some (.Name S sp)) (some n) [.Assign [.Name y yp] (.Name n np) apos] hpos] [] [] tpos) (b8T X B names fl i0 i j o G₀):=by
 intro pins s σ H D I ⟨hσ,hH,env,rl,hN0,hX0⟩;subst hH;refine wpAny_Try_except ?_
 refine wpAny_execs_cons (wpAny_Expr_any ?_ I.quiet hsw2);refine Yc ?_
 have name:=fun(W:Value->Shared->Prop)=>a7d (X:=X.wish W) (pos:=cp) h0 hv hdx hcdx pins s σ X.H₀ (fun v H'=>v=.ref fl/\H'=X.H₀) (I.wish W) ⟨_,hσ,rfl,rfl⟩
 refine Qi (name fun _ _=>False) (fun u s1 ⟨v,H1,I1,r1,q1,q2⟩=>?_) fun _ _ z=>False.elim z
 subst q1;subst q2;cases (show u=Value.ref fl from r1)
 have I1:=I1.unwish
 refine callWith_of (P:=a4a fl) rfl (fun h p=>b8S h p) (evalArgs_nil3 ⟨fn pins σ _ s1 I1,?_⟩)
 refine wpAny_call (Vi (clo pins s1 σ env (fun _ H'=>D.nx σ H') (fun cls _ H'=>∃c C G',o=some c/\nsIn X.K mainGlobals c=some (some (.ref C))/\cls=.ref C/\Ev X.K B G₀ σ env _ G' σ env H') I1 rl (fun z v G' H' ev=>hN0 z G' H' ev) (fun c C z hC G' H' ev=>⟨c,C,G',z,hC,rfl,ev⟩)) fun r s' hq=>?_)
 cases r with
 |error ev=>exact caught hst hfr hex hx hN hi hil hj hjl hgS I1 rl hX0 hq hdS hdn hcdn hsw
 |ok f=>
  cases f with
  |next=>exact False.elim hq
  |brk=>exact False.elim hq
  |cont=>exact False.elim hq
  |ret u=>
   obtain⟨v,H',I',_,q⟩:=I1.after hq;exact Us (Us ⟨σ,H',I',q⟩)
end
def a8f(names:List Str)(i j:Nat)(o:Option Str):Mo Fl:=fun env=>match o with
 |none=>some (.nx,env)
 |some c=>if names.contains c then some (.nx,((env.set i (.dat (exD c))).set j (.dat (exD c))).set i .nil)else none
section
variable{S y:Str}{i0 j:Nat}{G₀:Hp}{cp cpos epos sp yp np apos hpos tpos yp0 spos0 npos0:Pos}{rest:List Stmt}{m:Mo Fl}{kk:Nat}
theorem b8V(hst:X.stack=X.env::X.outer)(hfr:X.env.frame=some X.env.locals)(hex:X.ex=[])(hx:a1H X.K S names=true)(hN:X.N.Nodup)(h0:X.N[i0]? =some x)(hv:Vis X.env.scope x)
  (hi:X.N[i]? =some n)(hil:X.env.scope.names.lookup n=some .local)(hj:X.N[j]? =some y)(hjl:X.env.scope.names.lookup y=some .local)(hij:i0≠j)(hgS:Gl X S)
  (fn:∀pins σ H s,Inv X pins σ H s->a4a fl s.heap)(clo:a8e X B fl o G₀)(hr:ESs X B rest m)
  (hdx:(x==("__debug__":Str))=false:=by decide)(hcdx:(x==("__classdict__":Str))=false:=by decide)(hdS:(S==("__debug__":Str))=false:=by decide)(hdn:(n==("__debug__":Str))=false:=by decide)(hcdn:(n==("__classdict__":Str))=false:=by decide)
  (hsw:swapsWith (.Name n np) (some (.Name y yp)) apos.line X.env=pure false:=by rfl)(hsw2:swapsWith (.Call (.Name x cp) [] [] cpos) none epos.line X.env=pure false:=by rfl)
  (hsw3:swapsWith (.Constant .none kk npos0) (some (.Name y yp0)) spos0.line X.env=pure false:=by rfl):
  PSs X (.Assign [.Name y yp0] (.Constant .none kk npos0) spos0::.Try [.Expr (.Call (.Name x cp) [] [] cpos) epos] [.ExceptHandler (some (.Name S sp)) (some n) [.Assign [.Name y yp] (.Name n np) apos] hpos] [] [] tpos::rest)
   (fun D σ H=>σ[i0]? =some (some (.ref fl))/\H=X.H₀/\∃env f env',Rel X.K B G₀ σ env H/\(q1_ (v1_ j (mC .non)) (q1_ (a8f names i j o) m)) env=some (f,env')/\Post X.K B G₀ σ env H env' D f):=by
 refine pss_imp (a2X (a4w hN hj (.inl hjl) b0d hsw3 (.inr hjl)) (a2X (b8U hst hfr hex hx hN h0 hv hi hil hj hjl hgS fn clo hdx hcdx hdS hdn hcdn hsw hsw2) hr)) ?_
 rintro D σ H ⟨hσ,hH,env,f,env',rl,e,k⟩;obtain⟨⟨f1,env1⟩,e1,e2⟩:=q2_ e;cases e1;dsimp only at e2;obtain⟨⟨f2,env2⟩,e3,e4⟩:=q2_ e2;have ev1:Ev X.K B G₀ σ env H G₀ (σ.set j (some .non)) (env.set j (.dat .non)) H:=(Ev.refl rl).setDat (i:=j) (v:=.non) (d:=.non) (by simp only[Rep])
 refine⟨by rw[Qm (Zy hij)];exact hσ,hH,_,ev1.rel,fun z G' H' ev=>?_,fun c z=>?_⟩
 ·subst z
  cases e3;exact⟨G',_,f,env',ev.rel,e4,Post.after _ _ k (ev1.trans ev)⟩
 ·subst z
  unfold a8f at e3;dsimp only at e3;split at e3
  ·rename_i hc
   cases e3;exact⟨by simpa using hc,fun σ' G' H' ev=>⟨G',_,f,env',ev.rel,e4,Post.after _ _ k (ev1.trans ev)⟩⟩
  ·cases e3
end
theorem b8W{E:XK}(hst:X.stack=X.env::X.outer)(hfr:X.env.frame=some X.env.locals)(hex:X.ex=[])
  (hxe:∀e s',wpAny (model X.prog X.w) X.A (leaving X.env e) (fun _ s''=>CXE X.prog X.w X.outer X.H₀ X.s₀ E e s'') (fun e' s''=>CXE X.prog X.w X.outer X.H₀ X.s₀ E e' s'') s'->X.xe e s'):XOk X E:=by
 refine⟨fun pins σ H s ev s' I h=>hxe _ _ ?_,fun pins σ H s h' e C vs I hm hE=>hxe _ _ ?_⟩
 ·obtain⟨e,t,C,H',Bh,rfl,os,bare,fly,un,hok,kept,thr,hE⟩:=h
  rw[hst]at fly;refine wpAny_leaves_onW (L:=X.env.locals) (by rw[I.ok.frames,hst]) hfr fly fun h2 fly2 ups=>?_
  refine a6s hst hfr hex I os bare fly2 kept thr (fun b o q n hb=>?_) (fun b o q n=>un.free b o q n (by simp)) un.tups un.frzs un.tbls hok hE
  obtain⟨sl,q1⟩:=un.any q n (by simp)
  obtain⟨_,o1,g1,g2⟩:=I.funs.mem hb;rw[q]at g1;cases g1;obtain⟨sl2,q2⟩:=ups b _ q1 g2;exact⟨sl2,q2⟩
 ·have hs:=I.stack
  rw[hst]at hs;refine wpAny_leaves_madeW (L:=X.env.locals) (base:=hideAll s.heap (frs X.stack)) (h:=s.heap) (by rw[I.ok.frames,hst]) hfr (fun b o q=>of_hideAll _ q)
   (funFrames_hide hs fun env he b hb=>by rw[hst];exact Xu.mpr ⟨env,he,hb⟩) hm fun h2 t fly _ hn ups=>?_
  refine a6s (s:=s) (s':={s with heap:=h2}) hst hfr hex I rfl I.bare fly (fun b o q _ hb=>Jm _ q hb) (fun b o q hb=>⟨o,Jm _ q hb⟩) (fun b o q n hb=>?_) (fun b o q n=>n) (fun _ _ q=>q) (fun _ _ _ q=>q) (fun b ps q=>⟨#[],by rw[q];simp⟩) ?_ hE
  ·obtain⟨_,o1,g1,g2⟩:=I.funs.mem hb
   rw[q]at g1;cases g1;obtain⟨sl2,q2⟩:=ups b _ (hm.keeps b o q) g2;exact⟨sl2,q2⟩
  ·exact b1Q (P:=X.prog) (w:=X.w) I.hok fun b u o q1 q2=>Jm _ q2 fun z=>by rw[I.stkFree b z]at q1;cases q1
theorem a5b{K:Frag}{B1 B2:Addr->Prop}{G':Hp}{σ1' σ2:St}{env1' env2:Env'}(ev:Ev K B1 G σ1 env1 H G' σ1' env1' H')(no:∀a,¬ Owned σ1 env1 a)(rl:Rel K B2 G σ2 env2 H):Ev K B2 G σ2 env2 H G' σ2 env2 H':=by
 refine⟨⟨ev.rel.sub,rl.len,fun i d e=>?_,fun i w ds e1 e2=>?_,rl.inj,rl.fresh,fun b h=>ev.live b (rl.old b h),ev.rel.tabs,ev.rel.gnt⟩,ev.same,fun b o _ t e=>ev.keep b o (no b) t e,ev.live,fun b e _ g=>ev.stay b e (no b) g,fun a z=>.inl z,fun i w e hp=>⟨rfl,w,e,hp⟩,rfl⟩
 ·obtain⟨v,q1,q2⟩:=rl.dat i d e
  exact⟨v,q1,Rep.mono ev.same d q2⟩
 ·obtain⟨a,xs,q1,q2,q3,q4⟩:=rl.own i w ds e1 e2
  exact⟨a,xs,q1,ev.keep a _ (no a) q3.nt q2,q3.mono ev.same,ev.stay a (by rw[q2];simp) (no a) q4⟩
theorem b1V{K:Frag}{env:Env'}(rl:Rel K B G σ env H):Rel K u8_ G [] [] H:=
 ⟨rl.sub,rfl,fun i d e=>by simp at e,fun i w ds e=>by simp at e,fun i j w w' ds es a e=>by simp at e,fun i ds a e=>by simp at e,fun b h=>h.elim,rl.tabs,rl.gnt⟩
theorem a8g{a:Addr}:¬ Owned [] [] a:=fun⟨i,w,ds,e,_⟩=>by simp at e
def a2I(P:Program)(w:World)(K:Frag)(mg:Str->Option Value)(base:Heap)(N':List Str)(q:Str)(scope:Scope)(fl:Addr)(cd:Value)(cl:List (Str×Addr))(A:Around)(outer:List Env)(s:Shared)(H:Hp)(E:XK):Cx where
 prog:=P
 w:=w
 K:=K
 mg:=mg
 base:=base
 A:=A.deeper (envX q scope s.heap.objs.size fl cd cl)
 N:=N'
 s₀:=s
 H₀:=H
 env:=envX q scope s.heap.objs.size fl cd cl
 outer:=outer
 stack:=envX q scope s.heap.objs.size fl cd cl::outer
 ex:=[]
 fn:=fun _=>false
 calm:=true
 pn:=[]
 xe:=fun e s'=>wpAny (model P w) (A.deeper (envX q scope s.heap.objs.size fl cd cl)) (leaving (envX q scope s.heap.objs.size fl cd cl) e) (fun _ s''=>CXE P w outer H s E e s'') (fun e' s''=>CXE P w outer H s E e' s'') s'
section
variable{w:World}{K:Frag}{mg:Str->Option Value}{base:Heap}{q:Str}{A:Around}{outer:List Env}{E:XK}
theorem b8X:XOk (a2I P w K mg base N' q scope fl cd cl A outer s H E) E:=b8W rfl rfl rfl fun _ _ h=>h
theorem b8Y{h₁:Heap}{m:Str->Option Value}(e0:Env0 P w K mg base A outer s H)(hd:A.handled=none)(hk:scope.kind=.function)(hnc:∀x,scope.names.lookup x≠some .cell)
  (inj:∀x y c,cl.lookup x=some c->cl.lookup y=some c->x=y)(has:∀x,scope.names.lookup x=some .free->∃c,cl.lookup x=some c)
  (cell:∀x c,cl.lookup x=some c->(∃v,s.heap.IsCell c v)/\H c=none)
  (val:∀(i:Nat) (x:Str) (v:V),N'[i]? =some x->σ[i]? =some (some v)->Vis scope x->scope.names.lookup x=some .free/\∃c u,cl.lookup x=some c/\y2_ v u/\s.heap.IsCell c (some u))
  (hl:σ.length=N'.length)(hns:h₁.Ns s.heap.objs.size m)(kp:∀b o,s.heap.get? b=some o->h₁.get? b=some o):
  Inv (a2I P w K mg base N' q scope fl cd cl A outer s H E) [] σ H {s with heap:=h₁,toks:=tk}:=by
 have noA:∀b:Addr,b∉(a2I P w K mg base N' q scope fl cd cl A outer s H E).ex:=fun b z=>absurd (show b∈([]:List Addr)from z) (by simp)
 refine⟨⟨e0.mod,hk,rfl,rfl,Qp _,inj,fun y hy=>?_,fun y c z=>absurd (show(false:Bool)=true from z) (by decide),fun _=>hd,Around.frames_deeper e0.frames,.inr ⟨rfl,rfl⟩,fun b z=>absurd z (noA b),e0.bs,e0.bsz,fun b _ _=>noA b,fun b z=>absurd z (noA b),e0.funs,e0.frf⟩,
  rfl,e0.bare,Un.kept kp,⟨_,hns,fun i x v h1 h2 h3=>?_⟩,fun x c e=>?_,e0.hok.fresh (Qp _),fun x c e=>(cell x c e).2,fun p hp=>absurd (show p∈([]:List (Addr×Obj))from hp) (by simp),e0.hok.kept kp,hl⟩
 ·rcases hy with hy|hy
  ·exact absurd hy (hnc y)
  ·exact has y hy
 ·obtain⟨k,c,u,g1,g2,g3⟩:=val i x v h1 h2 h3
  exact⟨u,g2,.inr ⟨.inr k,c,g1,g3.keeps kp⟩⟩
 ·obtain⟨⟨v,z⟩,_⟩:=cell x c e
  exact⟨v,z.keeps kp⟩
end
structure LamAt(K:Frag)(params:Arguments)(body:Expr)(scope:Scope)(N':List Str)(lq:Str)(fl c':Addr)(cl:List (Str×Addr))(σ:St)(s₁:Shared)(H₁:Hp)(outer₁:List Env):Prop where
 obj:∃pm ctv,s₁.heap.get? fl=some (kla_obj "<lambda>" lq params body scope cl pm c' ctv)
 free:H₁ fl=none
 nfr:fl∉frs outer₁
 code:∃φ,H₁ c'=some (.ext φ)/\∀h:Heap,φ h->h.CodeRec (.ref c') lq
 inj:∀x y c,cl.lookup x=some c->cl.lookup y=some c->x=y
 has:∀x,scope.names.lookup x=some .free->∃c,cl.lookup x=some c
 cell:∀x c,cl.lookup x=some c->(∃v,s₁.heap.IsCell c v)/\H₁ c=none/\c∉frs outer₁
 val:∀(i:Nat) (x:Str) (v:V),N'[i]? =some x->σ[i]? =some (some v)->Vis scope x->scope.names.lookup x=some .free/\∃c u,cl.lookup x=some c/\y2_ v u/\s₁.heap.IsCell c (some u)
 len:σ.length=N'.length
def a8h(P:Program)(w:World)(K:Frag)(mg:Str->Option Value)(base:Heap)(kc:Nat)(fl:Addr)(s₁:Shared)(H₁:Hp)(outer₁:List Env)(o:Option Str)(G:Hp):Prop:=
 (∀(H':Hp) (s:Shared),Un (frs outer₁) [] H₁ H' s₁.heap s.heap->a4a fl s.heap)/\
 ∀(A:Around) (outer:List Env) (s:Shared) (Q:VK) (E:XK),Room kc A->Env0 P w K mg base A outer s H₁->Un (frs outer₁) [] H₁ H₁ s₁.heap s.heap->
  (o=none->∀v G' H',Ev K u8_ G [] [] H₁ G' [] [] H'->Q v H')->
  (∀n C,o=some n->nsIn K mainGlobals n=some (some (.ref C))->∀G' H',Ev K u8_ G [] [] H₁ G' [] [] H'->E (.ref C) none H')->
  codeAny (model P w) A (.call (.ref fl) ⟨[],[]⟩) (CR (CXE P w) outer P w H₁ s Q E) s
def outcome(names:List Str)(mb:Mo D)(xb:Mx)(env:Env'):Option (Option Str):=match xb env with
 |some n=>if names.contains n then some (some n)else none
 |none=>(mb env).map fun _=>none
theorem b8Z{w:World}{K:Frag}{mg:Str->Option Value}{base:Heap}{lq:Str}{c':Addr}{H₁:Hp}{outer₁:List Env}{lw:Env'}{mb:Mo D}{xb:Mx}
  (L:LamAt K params body scope N' lq fl c' cl σ s₁ H₁ outer₁)(hk:scope.kind=.function)(hco:scope.isCoroutine=false)(hgen:scope.isGenerator=false)(hnc:∀x∈scope.names,x.2≠.cell)
  (hbind:∀pm ctv,bindArgs (kla_fn "<lambda>" lq params body scope cl pm (.ref c') ctv) ⟨[],[]⟩=pure [])
  (rl:Rel K (fun b=>H₁ b≠none) G σ lw H₁)(no:∀a,¬ Owned σ lw a){S:Str}(hex:a1H K S names=true)(ho:outcome names mb xb lw=some o)
  (hb:∀(A:Around) (outer:List Env) (s:Shared) (E:XK),Room kc (A.deeper (envX lq scope s.heap.objs.size fl (.ref c') cl))->ED (a2I P w K mg base N' lq scope fl (.ref c') cl A outer s H₁ E) (fun b=>H₁ b≠none) body mb)
  (hx:∀(A:Around) (outer:List Env) (s:Shared) (E:XK),Room kc (A.deeper (envX lq scope s.heap.objs.size fl (.ref c') cl))->EDx (a2I P w K mg base N' lq scope fl (.ref c') cl A outer s H₁ E) (fun b=>H₁ b≠none) E body xb):
  a8h P w K mg base (kc+1) fl s₁ H₁ outer₁ o G:=by
 obtain⟨pm,ctv,hobj⟩:=L.obj;have hnc':∀x,scope.names.lookup x≠some .cell:=fun x z=>hnc _ (Zz z) rfl
 refine⟨fun H' s un=>⟨_,_,un.keep fl _ hobj L.free L.nfr (by simp),rfl⟩,fun A outer s Q E hr e0 un hN hX=>?_⟩
 have cellK:∀x c v,cl.lookup x=some c->s₁.heap.IsCell c v->s.heap.IsCell c v:=fun x c v e ⟨oc,h1,h2⟩=>⟨oc,un.keep c oc h1 (L.cell x c e).2.1 (L.cell x c e).2.2 (by simp),h2⟩
 have hcd:s.heap.CodeRec (.ref c') lq:=by
  obtain⟨φ,h1,h2⟩:=L.code;exact h2 _ (e0.hok c' _ h1).1
 have lim:s.heap.NoLimit:=e0.mod.nolimit.keeps fun b o e=>(e0.bs b o e).1
 refine kla_callFunE hr.depth (un.keep fl _ hobj L.free L.nfr (by simp)) rfl hco hgen rfl hcd ?_
 rw[hbind];refine Qk (wpAny_newFunctionEnv hnc (fun x z=>by simp at z) (fun h₁ hns hsb=>⟨lim.fresh _ hsb,?_⟩) hk)
 show codeAny _ _ (.expr body (envX lq scope s.heap.objs.size fl (.ref c') cl)) _ _;have kp:∀b o,s.heap.get? b=some o->h₁.get? b=some o:=fun b o e=>hsb.extBut b o (Qd (Qw e)) (Qx _ e)
 have I:Inv (a2I P w K mg base N' lq scope fl (.ref c') cl A outer s H₁ E) [] σ H₁ {s with heap:=h₁,toks:=s.toks+([]:List (Str×Value)).length}:=by
  refine b8Y e0 hr.hd hk hnc' L.inj L.has (fun x c e=>?_) (fun i x v h1 h2 h3=>?_) L.len hns kp
  ·obtain⟨⟨v,z⟩,z2,_⟩:=L.cell x c e
   exact⟨⟨v,cellK x c v e z⟩,z2⟩
  ·obtain⟨k,c,u,g1,g2,g3⟩:=L.val i x v h1 h2 h3
   exact⟨k,c,u,g1,g2,cellK x c _ g1 g3⟩
 have side:∀{G' H':Hp}{σ':St}{lw':Env'},Ev K (fun b=>H₁ b≠none) G σ lw H₁ G' σ' lw' H'->Ev K u8_ G [] [] H₁ G' [] [] H':=fun ev=>a5b ev no (b1V rl)
 refine kla_codeExpr ?_
 unfold outcome at ho;cases hxb:xb lw with
 |some n=>
  rw[hxb]at ho;dsimp only at ho;split at ho
  ·rename_i hn
   cases ho;obtain⟨C,F⟩:=a3Z hex (by simpa using hn)
   exact Qi (hx A outer s E (hr.deeper _) [] _ σ H₁ (fun _ _=>False) I ⟨G,lw,n,rl,hxb,C,F.nm,fun σ' G' env' H' ev=>hX n C rfl F.nm G' H' (side ev)⟩) (fun v s' ⟨_,_,_,_,z⟩=>z.elim) fun _ _ z=>z
  ·cases ho
 |none=>
  rw[hxb]at ho;obtain⟨⟨d,lw'⟩,e1,e2⟩:=x4_ ho;cases e2;refine Qi (hb A outer s E (hr.deeper _) [] _ σ H₁ Q I ⟨G,lw,d,lw',rl,e1,fun v G' H' ev rp=>hN rfl v G' H' (side ev)⟩) (fun v s' ⟨x,H',J,rv,z⟩=>?_) fun _ _ z=>z
  exact⟨x,H',J.os,J.bare,J.base,J.hok,rv,z⟩
theorem b9a{K:Frag}{c P:Addr}{q:Str}(h1:codeHdIn K c P=true)(h2:codeIn K (.ref c) qual=true)(h3:tabQ K P q=true):q=qual:=by
 unfold codeHdIn at h1;unfold codeIn at h2;split at h1
 ·rename_i vs _ hk
  have m:=Qu.mp h3 _ (mem_of_lookupK hk)
  simp only[hk]at h2;simp only[Qy]at h1;obtain⟨⟨⟨⟨⟨e1,_⟩,_⟩,_⟩,_⟩,_⟩:=h1
  replace m:((match (vs[11]? :Option Value)with|some (.ref P')=>P' !=P|_=>true)||(match vs.toList with|_::.str n _::_=>n==q|_=>false))=true:=by
   split at m
   ·rename_i heq;cases heq;exact m
   ·rename_i hne;exact absurd rfl (hne _ _ _)
  split at e1
  ·rename_i P' h11
   have hP:P'=P:=Yt.mp e1
   subst hP;rw[h11]at m;simp only[bne_self_eq_false,Bool.false_or]at m;split at h2
   ·rename_i n t r hl
    simp only[hl]at m;rw[←Yt.mp m,←Yt.mp h2]
   ·cases h2
  ·cases e1
 ·cases h1
def a2h(mg:Str->Option Value)(base:Heap):Prop:=∃bm o,mg "__builtins__"=some (.ref bm)/\bm≠builtinsNs/\bm≠mainGlobals/\base.get? bm=some o/\o.cls=.type "module"/\o.dict=some builtinsNs/\o.data=.plain
theorem b1W:∀(l:List Value) {a b:Int}{t u:Tok}{c:Value},TriplesOk l->TriplesOk (l++[.int a t,.int b u,c])
 |[],_,_,_,_,_,_=>trivial
 |.int _ _::.int _ _::_::rest,_,_,_,_,_,h=>b1W rest h
theorem b1X:∀(l:List Value) {pos pos':Pos}{c v:Value},TriplesOk l->codeAmong pos' (l++[rawInt pos.line,rawInt pos.col,c])=some v->codeAmong pos' l=some v∨v=c
 |[],pos,pos',c,v,_,h=>by
  simp only[Xq,rawInt,codeAmong]at h;split at h
  ·cases h;exact .inr rfl
  ·cases h
 |.int a t::.int b u::d::rest,pos,pos',c,v,hk,h=>by
  simp only[Xi,codeAmong]at h ⊢;split at h
  ·rename_i z;rw[Qn z];exact .inl h
  ·rename_i z;rw[Qe z];exact b1X rest hk h
section
variable{P c:Addr}{ps:Array Value}
structure Made(X:Cx)(pins:List (Addr×Obj))(σ:St)(H:Hp)(s:Shared)(P:Addr)(qual:Str)(params:Arguments)(body:Expr)(scope:Scope)(cl:List (Str×Addr))(fl c':Addr)(H1:Hp)(s1:Shared):Prop where
 inv:Inv X pins σ H1 s1
 ev:∀(B:Addr->Prop) (G:Hp) (env:Env'),Rel X.K B G σ env H->Ev X.K B G σ env H G σ env H1
 obj:∃pm ctv,s1.heap.get? fl=some (kla_obj "<lambda>" (lamQ qual) params body scope cl pm c' ctv)
 new:s.heap.objs.size≤fl
 free:H1 fl=none
 code:H1 c'=some (LamC X.K P c')
 keep:∀b o,H b=none->s.heap.get? b=some o->s1.heap.get? b=some o/\H1 b=none
theorem b9b{A:Around}{Q:Value->Shared->Prop}(I:Inv X pins σ H s)(hcode:X.env.code=.ref c)(hc:codeHdIn X.K c P=true)(hq:codeIn X.K (.ref c) qual=true)(htq:tabQ X.K P qual=true)(henv:X.env.qual=qual++".<locals>.")
  (bm:a2h X.mg X.base)(hP:H P=some (.tbl ps))(tabs:TabsOk X.K H)(hcl:closureFor scope X.env=pure cl)(hdef:defaultsOf params X.env=([],[]))
  (h:∀fl c' H1 s1,Made X pins σ H s P qual params body scope cl fl c' H1 s1->Q (.ref fl) s1):wpAny M A (eval (.Lambda params body scope pos) X.env) Q E s:=by
 obtain⟨ht,hent⟩:=tabs P ps hP;have hPo:s.heap.get? P=some (tabObj ps):=I.hok P _ hP;have C:=codeHd_of_K I.kIn hc;have nbase:∀{b o},X.base.get? b=some o->b≠P:=fun{b o} e z=>by rw[z]at e;have:=(I.bs P o e).2;rw[hP]at this;cases this
 have hgs:s.heap.Ns mainGlobals X.mg:=I.mod.glob.keeps I.bk
 have hgP:mainGlobals≠P:=by
  obtain⟨o,_,_,e,_⟩:=I.mod.glob;exact nbase e
 obtain⟨b,ob,b1,b2,b3,b4,b5,b6,b7⟩:=bm;have hB:s.heap.BuiltinsAt X.mg P:=⟨b,ob,b1,b2,b3,nbase b4,I.bk _ _ b4,b5,b6,b7⟩;have hlq:X.env.qual++"<lambda>"=lamQ qual:=by rw[henv];rfl
 refine kla_eval hdef ?_
 rw[hlq];cases hca:codeAmong pos ps.toList with
 |some cv=>
  obtain⟨c',rfl,hc'⟩:=hent pos cv hca;refine kla_makeFunctionHit hcl I.ok.glob hgs hcode C hPo ht hca hB fun ctv h' tk hk hsz=>?_
  have kp:∀b o,s.heap.get? b=some o->(h'.push ({cls:=.type "function",data:=.func (kla_fn "<lambda>" (lamQ qual) params body scope cl ((X.mg "__name__").getD .none) (.ref c') ctv)}:Obj)).get? b=some o:=fun b o e=>Qx _ (hk b o e)
  refine h h'.objs.size c' H _ ⟨?_,fun B G env rl=>.refl rl,⟨_,_,Qg _ rfl⟩,hsz,I.hok.fresh hsz,hc',fun b o n e=>⟨kp b o e,n⟩⟩
  exact I.kept kp
 |none=>
  refine kla_makeFunction hcl I.ok.glob hgs hcode C hPo ht hca hgP hB fun c' ctv h' tk hx hge hlt hrec htb=>?_
  have hfsz:s.heap.objs.size≤h'.objs.size:=Jo (Ue hge hlt)
  have hPc:P≠c':=Qd (Qc (Qw hPo) hge)
  have hnc:H c'=none:=I.hok.fresh hge
  have hcf:c'≠h'.objs.size:=Qd hlt
  have hPf:P≠h'.objs.size:=Qd (Qc (Qw hPo) hfsz)
  have get1:∀{b},(upd (upd H P (.tbl (ps++ #[rawInt pos.line,rawInt pos.col,.ref c']))) c' (LamC X.K P c')) b=if b=c' then some (LamC X.K P c')else if b=P then some (.tbl (ps++ #[rawInt pos.line,rawInt pos.col,.ref c']))else H b:=fun{b}=>rfl
  have kp:∀b o,b≠P->s.heap.get? b=some o->(h'.push (kla_obj "<lambda>" (lamQ qual) params body scope cl ((X.mg "__name__").getD .none) c' ctv)).get? b=some o:=fun b o n e=>Qx _ (hx b o n e)
  have other:∀{b u},H b=some u->b≠P->(upd (upd H P (.tbl (ps++ #[rawInt pos.line,rawInt pos.col,.ref c']))) c' (LamC X.K P c')) b=some u:=fun{b u} e n=>by
   rw[q5_ (g4_ e hnc),q5_ n];exact e
  have free1:∀{b o},H b=none->s.heap.get? b=some o->(upd (upd H P (.tbl (ps++ #[rawInt pos.line,rawInt pos.col,.ref c']))) c' (LamC X.K P c')) b=none:=fun{b o} n e=>by
   rw[q5_ (Qd (Qc (Qw e) hge)),q5_ (fun z=>by rw[z,hP]at n;cases n)];exact n
  have tab1:TabsOk X.K (upd (upd H P (.tbl (ps++ #[rawInt pos.line,rawInt pos.col,.ref c']))) c' (LamC X.K P c')):=by
   intro P2 ps2 e2;rw[get1]at e2;split at e2
   ·cases e2
   ·split at e2
    ·rename_i z
     subst z;cases e2;refine⟨by rw[Array.toList_append];exact b1W _ ht,fun p v e=>?_⟩
     rw[Array.toList_append]at e
     rcases b1X _ ht e with q|q
     ·obtain⟨a,q1,q2⟩:=hent p v q
      exact⟨a,q1,other q2 (fun z=>by rw[z,hP]at q2;cases q2)⟩
     ·exact⟨c',q,y5_⟩
    ·obtain⟨q1,q2⟩:=tabs P2 ps2 e2
     refine⟨q1,fun p v e=>?_⟩
     obtain⟨a,q3,q4⟩:=q2 p v e;exact⟨a,q3,other q4 (fun z=>by rw[z,hP]at q4;cases q4)⟩
  have live1:∀b,H b≠none->(upd (upd H P (.tbl (ps++ #[rawInt pos.line,rawInt pos.col,.ref c']))) c' (LamC X.K P c')) b≠none:=fun b e=>by
   rw[get1];split
   ·simp
   ·split
    ·simp
    ·exact e
  refine h h'.objs.size c' _ _ ⟨?_,fun B G env rl=>?_,⟨_,_,Qg _ rfl⟩,hfsz,?_,y5_,fun b o n e=>⟨kp b o (fun z=>by rw[z,hP]at n;cases n) e,free1 n e⟩⟩
  ·refine I.un (h':=h'.push (kla_obj "<lambda>" (lamQ qual) params body scope cl ((X.mg "__name__").getD .none) c' ctv)) (t':=tk) ⟨fun b o e n _ _=>?_,fun b o e n _ _=>⟨o.slots,?_⟩,fun b o e n _=>free1 n e,fun b o e _=>?_,fun b xs e=>?_,fun b o u e=>?_,fun b ps2 e=>?_⟩ fun b u e=>?_
   ·exact kp b o (fun z=>by rw[z,hP]at n;cases n) e
   ·exact kp b o (fun z=>by rw[z,hP]at n;cases n) e
   ·by_cases z:b=P
    ·subst z;exact⟨_,Qx _ htb⟩
    ·exact⟨o,kp b o z e⟩
   ·exact other e (fun z=>by rw[z,hP]at e;cases e)
   ·exact other e (fun z=>by rw[z,hP]at e;cases e)
   ·by_cases z:b=P
    ·subst z
     rw[hP]at e;cases e;exact⟨#[rawInt pos.line,rawInt pos.col,.ref c'],by rw[q5_ hPc,y5_]⟩
    ·exact⟨#[],by rw[other e z];simp⟩
   ·rw[get1]at e
    split at e
    ·rename_i z
     subst z;cases e;have hrec2:=hrec.push (kla_obj "<lambda>" (lamQ qual) params body scope cl ((X.mg "__name__").getD .none) b ctv);obtain⟨c2,oc,vs,t,e2,hoc,hd,hv⟩:=id hrec2;cases e2;refine⟨fun q hq2=>?_,⟨oc,hoc⟩,fun h1 h2 p k q hq2=>?_⟩
     ·rw[b9a hc hq hq2];exact hrec2
     ·obtain⟨c3,oc3,vs3,t3,e3,g1,g2⟩:=p q hq2
      cases e3;exact⟨_,oc3,vs3,t3,rfl,k oc3 g1,g2⟩
    ·split at e
     ·rename_i z
      subst z;cases e;exact Qx _ htb
     ·rename_i z1 z2
      refine(I.hok b u e).stay (fun b2 o2 hb q=>kp b2 o2 (fun z=>?_) q) (fun b2 q=>other q (fun z=>by rw[z,hP]at q;cases q)) fun b2 xs q=>other q (fun z=>by rw[z,hP]at q;cases q)
      rcases hb with hb|hb
      ·exact z2 (hb.symm.trans z)
      ·rw[z,hP]at hb;cases hb
  ·refine⟨⟨fun b o e=>?_,rl.len,rl.dat,fun i wv ds e1 e2=>?_,rl.inj,rl.fresh,fun b hb=>live1 b (rl.old b hb),tab1,rl.gnt⟩,Le.refl,fun b o _ nt e=>?_,live1,fun b e _ g=>g,fun a z=>.inl z,fun i w e hp=>⟨rfl,w,e,hp⟩,rfl⟩
   ·exact other (rl.sub b o e) (fun z=>by have q:=rl.sub b o e;rw[z,hP]at q;cases q;exact rl.gnt b _ e _ rfl)
   ·obtain⟨a,xs,q1,q2,q3,q4⟩:=rl.own i wv ds e1 e2
    exact⟨a,xs,q1,other q2 (fun z=>by rw[z,hP]at q2;cases q2;exact q3.nt _ rfl),q3,q4⟩
   ·exact other e (fun z=>by rw[z,hP]at e;cases e;exact nt _ rfl)
  ·rw[q5_ (Zy hcf),q5_ (Zy hPf)];exact I.hok.fresh hfsz
end
theorem b9c{CX:CXT}{w:World}{K:Frag}{mg:Str->Option Value}{base:Heap}{k:Nat}{f:Addr}{name:Str}{body:List Stmt}{dV kV doc pm cdv ct oc:Value}{an:Option Addr}
  {osl:Array (Option Value)}{N:List Str}(lk:K.lookup f=some ⟨oc,od,.func (fnOf name qual params body scope dV kV doc pm an cdv ct),osl⟩)(hcd:codeIn K cdv qual=true)(S:FnScope N ps scope)
  {A:Around}{outer:List Env}{args:Args}{us:List Value}{vs:List V}{Q:VK}{E:XK}(hr:Room (k+1) A)(e0:Env0 P w K mg base A outer s H)(hb:BindsTo s (fnOf name qual params body scope dV kV doc pm an cdv ct) args (ps.zip us))(r:q8_ vs us)(hl:vs.length=ps.length)
  (hbody:Room k (A.deeper (envOfC qual scope s.heap.objs.size f cdv))->∃t,PSs (u1_ CX P w K mg base N qual scope f cdv A outer s H E) body t/\t {nx:=fun _ H'=>Q .non H',rt:=Q} (start N vs) H):
  codeAny (model P w) A (.call (.ref f) args) (CR CX outer P w H s Q E) s:=by
 have KX:K.In s.heap:=e0.mod.kin.keeps fun b o e=>(e0.bs b o e).1
 have lim:s.heap.NoLimit:=e0.mod.nolimit.keeps fun b o e=>(e0.bs b o e).1
 have hkind:∀y∈ps.zip us,scope.names.lookup y.1=some .local∨(scope.names.lookup y.1=some .cell/\((cellsFrom (s.heap.objs.size+1) scope.names []).lookup y.1).isSome=true):=fun⟨n,v⟩ hy=>by
  rcases S.par n (Vt hy).1 with q|q
  ·exact .inl q
  ·exact .inr ⟨q,cellsFrom_some _ _ _ (.inl q)⟩
 refine codeAny_call_function hr.depth (KX _ _ lk) rfl S.co S.gen rfl (codeRec_of KX hcd) (hb _ _ _ _ ?_);refine wpAny_newFunctionEnv_cells S.kind hkind fun env he s1 x=>?_
 subst he;refine⟨lim.keeps x.toInCall.keep,codeAny_func ?_⟩;obtain⟨t,ht,hq⟩:=hbody (hr.deeper _);have I:Inv (u1_ CX P w K mg base N qual scope f cdv A outer s H E) [] (start N vs) H s1:=b0z S hr.hd e0 hl r x;refine Qi (ht [] s1 (start N vs) H _ I hq) (fun fl s' hs=>?_) fun e s' hs=>hs
 have fin:∀{σ':St}{H':Hp}{v:V}{u:Value},Inv (u1_ CX P w K mg base N qual scope f cdv A outer s H E) [] σ' H' s'->y2_ v u->Q v H'->CE outer P w H s Q u s':=
  fun{σ' H' v u} J rv q=>⟨v,H',J.os,J.bare,J.base,J.hok,rv,q⟩
 cases fl with
 |ret u=>
  obtain⟨v,σ',H',J,rv,q⟩:=hs;exact fin J rv q
 |next=>
  obtain⟨σ',H',J,q⟩:=hs;exact fin (v:=V.non) (u:=Value.none) J rfl q
 |brk=>
  obtain⟨_,_,_,q⟩:=hs;exact False.elim q
 |cont=>
  obtain⟨_,_,_,q⟩:=hs;exact False.elim q
structure RefDef(P:Program)(w:World)(K:Frag)(mg:Str->Option Value)(base:Heap)(x:Str)(k kc:Nat)(fr:Option Str->Option D):Prop where
 ex:∃f:Addr,mg x=some (.ref f)/\keepIn K (.ref f)=true/\∀(A:Around) (outer:List Env) (s:Shared) (H:Hp) (fl:Addr) (o:Option Str) (G:Hp) (Q:VK),Room k A->Env0 P w K mg base A outer s H->a8h P w K mg base kc fl s H outer o G->Rel K u8_ G [] [] H->
  (∃d,fr o=some d/\∀v G' H',Ev K u8_ G [] [] H G' [] [] H'->Rep K G' v d->Q v H')->codeAny (model P w) A (.call (.ref f) ⟨[.ref fl],[]⟩) (CR CX0 outer P w H s Q E0) s
def a8i(N:Nat)(mb:Option Str->Mo Fl)(o:Option Str):Option D:=match mb o (List.replicate N .nil)with
 |some (.ret d,_)=>some d
 |some (.nx,_)=>some .non
 |_=>none
theorem b9d{K:Frag}{B':Addr->Prop}{σ':St}{env:Env'}(rl:Rel K B G σ env H)(old:∀b,B' b->H b≠none):Rel K B' G σ' (List.replicate σ'.length .nil) H:=by
 have nn:∀{i:Nat}{w:W},(List.replicate σ'.length W.nil)[i]? =some w->w=.nil:=fun{i w} e=>by
  rw[Jb]at e;split at e
  ·cases e;rfl
  ·cases e
 exact⟨rl.sub,by simp,(fun i d e=>by cases nn e),(fun i w ds e1 e2=>by rw[nn e1]at e2;cases e2),(fun i j w w' ds es a e1 e2=>by rw[nn e1]at e2;cases e2),(fun i w a e eo=>by rw[nn e]at eo;cases eo),old,rl.tabs,rl.gnt⟩
theorem b9e{n:Nat}{a:Addr}:¬ Owned σ (List.replicate n .nil) a:=fun⟨i,w,ds,e1,e2,_⟩=>by
 rw[Jb]at e1;split at e1
 ·cases e1;cases e2
 ·cases e1
theorem b9f{N:List Str}{v:V}(h:1≤N.length):(start N [v]).length=N.length:=by
 unfold start;simp only[Qa,Qv,Za,Uq,List.length_nil]
 omega
theorem b9g{w:World}{K:Frag}{mg:Str->Option Value}{base:Heap}{p1:Str}{st:Stmt}{f:Addr}{N:List Str}{k:Nat}{mb:Option Str->Mo Fl}(F:Fun K x qual st f fd)(S:FnScope N [p1] (y3_ st))(hm:mg x=some (.ref f))(hbi:a0S K fd [p1] [])(hkc:kc≤k)
  (hb:∀(cdv:Value) (A:Around) (outer:List Env) (s:Shared) (H:Hp) (E:XK) (fl:Addr) (o:Option Str) (G:Hp),Room k (A.deeper (envOfC qual (y3_ st) s.heap.objs.size f cdv))->
   (∀pins σ H' s',Inv (u1_ CX0 P w K mg base N qual (y3_ st) f cdv A outer s H E).nox pins σ H' s'->a4a fl s'.heap)->a8e (u1_ CX0 P w K mg base N qual (y3_ st) f cdv A outer s H E).nox (fun b=>H b≠none) fl o G->
   PSs (u1_ CX0 P w K mg base N qual (y3_ st) f cdv A outer s H E).nox (a0U st) (fun D σ H'=>σ[0]? =some (some (.ref fl))/\H'=H/\∃env fw env',Rel K (fun b=>H b≠none) G σ env H'/\mb o env=some (fw,env')/\Post K (fun b=>H b≠none) G σ env H' env' D fw)):
  RefDef P w K mg base x (k+1) kc (a8i N.length mb):=by
 have hN:1≤N.length:=by have:=Yx List.length S.pre;rw[Ye]at this;simp only[Uq,List.length_nil]at this;omega
 refine⟨f,hm,F.kp,fun A outer s H fl o G Q hr e0 clo rl hfr=>?_⟩
 obtain⟨oc,od,kV,doc,pm,an,cdv,ct,osl,rfl,lk,hcd⟩:=F.ex;obtain⟨d,hd,hQ⟩:=hfr;have KX:K.In s.heap:=e0.mod.kin.keeps fun b o e=>(e0.bs b o e).1
 refine b9c (us:=[.ref fl]) (vs:=[.ref fl]) lk hcd S hr e0 ?_ (.cons rfl .nil) rfl fun hr'=>?_
 ·have:=hbi s [.ref fl] KX rfl
  simpa using this
 ·have un0:∀{pins:List (Addr×Obj)}{σ:St}{H':Hp}{s':Shared},Inv (u1_ CX0 P w K mg base N qual (y3_ st) f cdv A outer s H E0).nox pins σ H' s'->Un (frs outer) [] H H' s.heap s'.heap:=fun I=>I.base
  have q:=hb cdv A outer s H E0 fl o G hr' (fun pins σ H' s' I=>clo.1 H' s' (un0 I)) (fun pins s' σ env Q' E' I rl' hN' hX'=>?_)
  ·refine⟨_,q.nox,?_⟩
   have rl0:Rel K (fun b=>H b≠none) G (start N [.ref fl]) (List.replicate N.length .nil) H:=by
    have:=b9d (B':=fun b=>H b≠none) (σ':=start N [.ref fl]) rl (fun b h=>h)
    rwa [b9f hN]at this
   have side:∀{G' H':Hp}{σ':St}{env':Env'},Ev K (fun b=>H b≠none) G (start N [.ref fl]) (List.replicate N.length .nil) H G' σ' env' H'->Ev K u8_ G [] [] H G' [] [] H':=fun ev=>a5b ev (fun a=>b9e) rl
   unfold a8i at hd;split at hd
   ·rename_i d' env' em
    cases hd;exact⟨by rw[a1E (by simp)];rfl,rfl,_,_,env',rl0,em,fun v σ' G' H' ev rp=>hQ v G' H' (side ev) rp⟩
   ·rename_i env' em
    cases hd;exact⟨by rw[a1E (by simp)];rfl,rfl,_,_,env',rl0,em,fun σ' G' H' ev=>hQ .non G' H' (side ev) (by simp only[Rep])⟩
   ·cases hd
  ·exact clo.2 _ _ s' Q' E' (hr'.mono hkc) I.env0 (un0 I) (fun z v G' H' ev=>hN' z v G' H' (a5b ev (fun a=>a8g) rl')) fun n C z hC G' H' ev=>hX' n C z hC G' H' (a5b ev (fun a=>a8g) rl')
def b9h(k:Bool)(w:W):W:=if k then(match w with|.dat d=>.dat d|_=>.nil)else .nil
def a2i(keep:List Bool)(env:Env'):Env':=List.zipWith b9h keep env
theorem a8j{keep:List Bool}{env:Env'}{w:W}(h:(a2i keep env)[i]? =some w)(hw:w≠.nil):∃d,w=.dat d/\keep[i]? =some true/\env[i]? =some (.dat d):=by
 unfold a2i at h;rw[Jx]at h;cases e1:keep[i]? with
 |none=>rw[e1]at h;cases h
 |some k=>
  cases e2:env[i]? with
  |none=>rw[e1,e2]at h;cases h
  |some w0=>
   rw[e1,e2]at h;cases k with
   |false=>cases h;exact absurd rfl hw
   |true=>
    cases w0 with
    |dat d=>cases h;exact⟨d,rfl,rfl,rfl⟩
    |nil=>cases h;exact absurd rfl hw
    |own _=>cases h;exact absurd rfl hw
    |par _=>cases h;exact absurd rfl hw
    |ownD _ _=>cases h;exact absurd rfl hw
    |parD _ _=>cases h;exact absurd rfl hw
theorem b9i{K:Frag}{env:Env'}{keep:List Bool}(rl:Rel K B G σ env H)(hk:keep.length=σ.length):Rel K (fun b=>H b≠none) G (w0_ keep 0 σ) (a2i keep env) H:=by
 have nm:∀(w:W) (es:Mu),w.mut=some es->w≠.nil:=fun w es h z=>by rw[z]at h;cases h
 have no:∀(i:Nat) (w:W) (ds:Mu),(a2i keep env)[i]? =some w->w.mut=some ds->False:=fun i w ds e1 e2=>by
  obtain⟨d,z,_⟩:=a8j e1 (nm w ds e2);rw[z]at e2;cases e2
 refine⟨rl.sub,?_,fun i d e=>?_,fun i w ds e1 e2=>(no i w ds e1 e2).elim,fun i j w w' ds es a e1 e2=>(no i w ds e1 e2).elim,fun i w a e eo=>(let ⟨m,q⟩:=own_mut eo;no i _ m e q).elim,fun b h=>h,rl.tabs,rl.gnt⟩
 ·unfold a2i w0_
  rw[Qa,Yh,Yh,Za,rl.len];rfl
 ·obtain⟨d',z,k1,k2⟩:=a8j e (by simp)
  cases z;obtain⟨v,e1,e2⟩:=rl.dat i d k2;exact⟨v,a4Q k1 e1,e2⟩
theorem b9j{keep:List Bool}{env:Env'}{a:Addr}:¬ Owned σ (a2i keep env) a:=fun⟨i,w,ds,e1,e2,_⟩=>by
 have:w≠.nil:=fun z=>by rw[z]at e2;cases e2
 obtain⟨d,z,_⟩:=a8j e1 this;rw[z]at e2;cases e2
def a1I(names:List Str)(keep:List Bool)(mb:Mo D)(xb:Mx)(fr:Option Str->Option D):Mo D:=fun env=>(outcome names mb xb (a2i keep env)).bind fun o=>(fr o).map fun d=>(d,env)
structure TabF(K:Frag)(mg:Str->Option Value)(base:Heap)(cd:Value)(qual:Str)(P:Addr):Prop where
 ex:∃c,cd=.ref c/\codeHdIn K c P=true/\codeIn K (.ref c) qual=true
 tq:tabQ K P qual=true
 bm:a2h mg base
section
variable{S:Str}{k:Nat}{fr:Option Str->Option D}{P:Addr}{keep:List Bool}{mb:Mo D}{xb:Mx}{p lpos:Pos}{ps0:Array Value}
theorem b9k(Rd:RefDef X.prog X.w X.K X.mg X.base x k (kc+1) fr)(hr:Room k X.A)(hg:Gl X x)(T:TabF X.K X.mg X.base X.env.code qual P)(hq:X.env.qual=qual++".<locals>.")(hP:X.H₀ P=some (.tbl ps0))(hfn:∀y,X.fn y=true)(hx:a1H X.K S names=true)
  (ok:CompOk X N' scope keep 0)(hco:scope.isCoroutine=false)(hgen:scope.isGenerator=false)(hnc:∀x∈scope.names,x.2≠.cell)(hdef:defaultsOf params X.env=([],[]))
  (hbind:∀cl pm c' ctv,bindArgs (kla_fn "<lambda>" (lamQ qual) params body scope cl pm (.ref c') ctv) ⟨[],[]⟩=pure [])
  (hb:∀(fl c':Addr) (cl:List (Str×Addr)) (H₁:Hp) (A:Around) (outer:List Env) (s:Shared) (E:XK),Room kc (A.deeper (envX (lamQ qual) scope s.heap.objs.size fl (.ref c') cl))->ED (a2I X.prog X.w X.K X.mg X.base N' (lamQ qual) scope fl (.ref c') cl A outer s H₁ E).nox (fun b=>H₁ b≠none) body mb)
  (hxb:∀(fl c':Addr) (cl:List (Str×Addr)) (H₁:Hp) (A:Around) (outer:List Env) (s:Shared) (E:XK),Room kc (A.deeper (envX (lamQ qual) scope s.heap.objs.size fl (.ref c') cl))->EDx (a2I X.prog X.w X.K X.mg X.base N' (lamQ qual) scope fl (.ref c') cl A outer s H₁ E) (fun b=>H₁ b≠none) E body xb)
  (hdb:(x==("__debug__":Str))=false:=by decide)(he:starEach [.Lambda params body scope lpos] X.env=(false,eval (.Lambda params body scope lpos) X.env)::starEach [] X.env:=by rfl)(hpl:(backTo pos (starEach [] X.env)).any (·.1)=false:=by rfl):
  ED X B (.Call (.Name x p) [.Lambda params body scope lpos] [] pos) (a1I names keep mb xb fr):=by
 intro pins s σ H Q I ⟨G,env,d,env',rl,em,k⟩;obtain⟨o,eo,e2⟩:=q2_ em;obtain⟨d',ed,e3⟩:=x4_ e2;cases e3;obtain⟨f,hm,hkp,hrun⟩:=Rd.ex;obtain⟨more,hPs⟩:=I.base.tbls P ps0 hP;obtain⟨c,hcd,hc1,hc2⟩:=T.ex;refine Yc (a4v I hg hm ?_ hdb);refine callWith_K (h₀:=X.base) I.ok.mod.kin hkp ?_ he hpl;rw[he];show wpAny _ _ (spliced ((false,eval (.Lambda params body scope lpos) X.env)::backTo pos (starEach [] X.env))) _ _ s;refine Xp (b9b I hcd hc1 hc2 T.tq hq T.bm hPs rl.tabs ok.clos hdef fun fl c' H1 s1 Md=>?_)
 refine Calls.spliced_nil ⟨Md.inv.kIn,?_⟩;have ev1:=Md.ev B G env rl;have kl:keep.length=σ.length:=by rw[ok.klen,I.len]
 have stk:∀{b},b∈frs X.stack->b<s.heap.objs.size:=fun{b} hb=>by obtain⟨_,o,g,_⟩:=I.stack.mem hb;exact Qw g
 have L:LamAt X.K params body scope N' (lamQ qual) fl c' (u3_ X.env.cells scope.names []) (w0_ keep 0 σ) s1 H1 X.stack:=by
  have sub:∀{y c},(u3_ X.env.cells scope.names []).lookup y=some c->X.env.cells.lookup y=some c:=fun{y c} z=>(a2y z).elim (fun q=>by cases q) id
  refine⟨Md.obj,Md.free,fun z=>absurd (stk z) (Nat.not_lt.mpr Md.new),⟨_,Md.code,fun h p=>p qual T.tq⟩,fun y z c q1 q2=>I.ok.inj y z c (sub q1) (sub q2),fun y z=>Yk.mp (a3i (Zz z) (ok.free _ (Zz z) rfl)),fun y c q=>?_,fun i y v q1 q2 q3=>?_,?_⟩
  ·obtain⟨v,oc,g1,g2⟩:=I.cell y c (sub q)
   have g:=Md.keep c oc (I.freeC y c (sub q)) g1
   refine⟨⟨v,oc,g.1,g2⟩,g.2,fun z=>?_⟩
   rcases Ql.mp (I.stkSub c z)with z|z
   ·exact I.cne y c (sub q) z
   ·obtain⟨_,o2,g3,_⟩:=I.ok.funs.mem z
    exact absurd (Qw g3) (Nat.not_lt.mpr (I.ok.cab y c (hfn y) (sub q)))
  ·obtain⟨k1,k2⟩:=a3k q2
   obtain⟨h1,h2,h3⟩:=ok.kept i y k1 q1;have hfree:scope.names.lookup y=some .free:=by
    rcases q3 with z|z|z
    ·exact absurd z h2
    ·exact absurd z h3
    ·exact z
   obtain⟨m,hn,hl⟩:=I.loc;have ov:=ok.outVis i y k1 h1 hfree;obtain⟨u,r,l⟩:=hl i y v h1 k2 (.inr ov);obtain⟨c0,hc0⟩:=Yk.mp (a3i (acc:=[]) (Zz hfree) (ok.free _ (Zz hfree) rfl));refine⟨hfree,c0,u,hc0,r,?_⟩
   rcases l with⟨kl,_⟩|⟨_,c1,hc1,oc,g1,g2⟩
   ·have kl':X.env.scope.names.lookup y=some .local:=kl
    rcases ov with z|z<;>(rw[z]at kl';cases kl')
   ·have hc0':=sub hc0
    rw[hc1]at hc0';cases hc0';exact⟨oc,(Md.keep c0 oc (I.freeC y c0 (sub hc0)) g1).1,g2⟩
  ·unfold w0_
   rw[Qa,Yh,Za,ok.len,ok.klen,I.len];omega
 have clo:a8h X.prog X.w X.K X.mg X.base (kc+1) fl s1 H1 X.stack o G:=
  b8Z L ok.kind hco hgen hnc (fun pm ctv=>hbind _ pm c' ctv) (b9i ev1.rel kl) (fun a=>b9j) hx eo (fun A outer s E hr=>(hb fl c' _ H1 A outer s E hr).nox) (fun A outer s E hr=>hxb fl c' _ H1 A outer s E hr)
 refine wpAny_call (Vi (hrun X.A X.stack s1 H1 fl o G Q hr Md.inv.env0 clo (b1V ev1.rel) ⟨_,ed,fun v G' H' ev rp=>k v G' H' (ev1.trans (a5b ev (fun a=>a8g) ev1.rel)) rp⟩) fun r s' hq=>?_)
 cases r with
 |error e=>exact False.elim hq
 |ok fw=>
  cases fw with
  |ret u=>exact Md.inv.after hq
  |next=>exact False.elim hq
  |brk=>exact False.elim hq
  |cont=>exact False.elim hq
end
def b1Y(ts:List Addr)(H:Hp):Prop:=∀P∈ts,∃ps,H P=some (.tbl ps)
def SpT(K:Frag)(ts:List Addr)(n:Nat)(f:Fn):Sp:=fun vs H Q E=>b1Y ts H/\SpF K n f vs H Q E
theorem b9l{w:World}{K:Frag}{mg:Str->Option Value}{base:Heap}{st:Stmt}{f:Addr}{N:List Str}{k:Nat}{mb:Mo Fl}{cdv0:Value}(F:Fun K x qual st f fd)(hcd0:fd.code=cdv0)(S:FnScope N ps (y3_ st))
  (hb:∀(A:Around) (outer:List Env) (s:Shared) (H:Hp) (E:XK),b1Y ts H->Room k (A.deeper (envOfC qual (y3_ st) s.heap.objs.size f cdv0))->
   ESs (u1_ CX0 P w K mg base N qual (y3_ st) f cdv0 A outer s H E).nox (fun b=>H b≠none) (a0U st) mb):FnOk P w K mg base CX0 (k+1) f fd ps (SpT K ts ps.length (fnM N.length mb)):=by
 have hpl:ps.length≤N.length:=by have:=Yx List.length S.pre;rw[Ye]at this;omega
 obtain⟨oc,od,kV,doc,pm,an,cdv,ct,osl,rfl,lk,hcd⟩:=F.ex;obtain rfl:cdv=cdv0:=hcd0;refine a7v lk hcd S (fun vs H Q E h=>?_) (fun A outer s H vs Q E hr h=>?_)
 ·obtain⟨_,G,ws,r,ws',hl,ok,rl,_⟩:=h
  have:=rl.len;rw[Qv]at this;omega
 ·obtain⟨tb,G,ws,r,ws',hl,ok,rl,e,k⟩:=h
  have hv:ws.length=vs.length:=by have:=rl.len;rwa [Qv]at this
  refine⟨_,(hb A outer s H E tb hr).nox,?_⟩;have rl':=a7K (N:=N) rl ok (by omega)
  unfold fnM at e;split at e
  ·rename_i d env em
   cases e;refine⟨G,_,_,env,rl',em,?_⟩;exact fun v σ' G' H' ev rp=>k v G' H' (a3g rl ok (by omega) ev) rp
  ·rename_i ds env em
   cases e;refine⟨G,_,_,env,rl',em,?_⟩;intro a xs σ' G' H' ev nb no h' g' rp;refine k a xs G' H' (a3g rl ok (by omega) ev) (Js nb) ?_ h' g' rp
   rintro⟨i,w',es,e1,e2,e3⟩;obtain⟨w1,w2,q1,q2,q3⟩:=a5Y e1;subst q3;obtain⟨q4,q5,q6,q7⟩:=a7L (ok _ (Yr q1)) e2;have hi:i<vs.length:=by have:=(Qb.mp q1).1;omega
   exact no ⟨i,_,es,q2,q4,by rw[(ev.par i w2 q2 q5).1,a1E hi];exact e3⟩
  ·rename_i env em
   cases e;refine⟨G,_,_,env,rl',em,?_⟩;exact fun σ' G' H' ev=>k .non G' H' (a3g rl ok (by omega) ev) (by simp only[Rep])
  ·cases e
theorem b9m{w:World}{K:Frag}{mg mb:Str->Option Value}{k:Nat}{fa a:Addr}{fn:Fn}{vs:List Value}{ns:List Int}
  (KX:K.In s₁.heap)(hnt:noTabs K=true)(hts:∀p∈ts,s₁.heap.get? p=some (tabObj #[]))(hcs:∀p∈ts,∃c,codeHdIn K c p=true)(hns:s₁.heap.Ns mainGlobals mg)(hb:s₁.heap.Ns builtinsNs mb)(hbb:∀x:Str,x≠"__name__"->mb x=bootBuiltins x)(hlim:s₁.heap.NoLimit)(hbm:a2h mg s₁.heap)(hg:s₁.gens= #[])
  (ha:s₁.heap.get? a=some {cls:=.type "list",data:=.seq vs.toArray})(hi:IntsAre vs ns)(hl:ns.length≤sizeLine)(hr:Room k callerA)
  (F:∀base:Heap,K.In base->base.Ns mainGlobals mg->a2h mg base->FnOk P w K mg base CX0 k fa fd [x] (SpT K ts 1 fn))(hbind:∀(s:Shared) (u:Value),BindsTo s fd ⟨[u],[]⟩ [(x,u)])
  (ht:∃ws',fn [.dat (.lst (ns.map D.int))]=some (.d (.bl true),ws')):
  codeAny (model P w) callerA (.call (.ref fa) ⟨[.ref a],[]⟩) (fun r s'=>r=.ok (.ret (.bool true))/\OldK s₁.heap s'.heap/\s'.os=s₁.os/\AllBare s'.gens) s₁:=by
 have rv:=b0N hi
 have lenV:=hi.length
 have nat:a∉ts:=fun z=>by have:=hts a z;rw[ha]at this;cases this
 have kno:∀{b:Addr}{o:Obj},K.lookup b=some o->b∉ts:=fun{b o} e z=>by
  have h2:=Qu.mp hnt (b,o) (mem_of_lookupK e)
  have h3:=KX b o e
  rw[hts b z]at h3;cases h3;cases h2
 have core:∀(H:Hp),(∀b,H b=none∨(b=a/\∃o xs,H b=some (.frz o (.lst xs)))∨(b∈ts/\H b=some (.tbl #[])))->(∀b∈ts,H b=some (.tbl #[]))->SqL K H a (ns.map V.int)->HOk P w H s₁.heap->(H a≠none->K.lookup a=none)->
   codeAny (model P w) callerA (.call (.ref fa) ⟨[.ref a],[]⟩) (fun r s'=>r=.ok (.ret (.bool true))/\OldK s₁.heap s'.heap/\s'.os=s₁.os/\AllBare s'.gens) s₁:=by
  intro H hO hT hS hok hK;have base_of:∀{b:Addr}{o:Obj},s₁.heap.get? b=some o->H b=none->(a1v s₁.heap H).get? b=some o:=fun e n=>b5f e n
  have noA:∀{b:Addr}{o:Obj},s₁.heap.get? b=some o->o.cls≠.type "list"->o.cls≠.none->H b=none:=fun{b o} e d1 d2=>by
   rcases hO b with q|⟨q,_⟩|⟨q,_⟩
   ·exact q
   ·subst q;rw[ha]at e;cases e;exact absurd rfl d1
   ·rw[hts b q]at e;cases e;exact absurd rfl d2
  have noD:∀{b:Addr}{o:Obj}{es:Array DictEntry}{ep:Nat},s₁.heap.get? b=some o->o.data=.dict es ep->H b=none:=fun{b o es ep} e d=>by
   rcases hO b with q|⟨q,_⟩|⟨q,_⟩
   ·exact q
   ·subst q;rw[ha]at e;cases e;cases d
   ·rw[hts b q]at e;cases e;cases d
  have nsK:∀{b:Addr}{m:Str->Option Value},s₁.heap.Ns b m->(a1v s₁.heap H).Ns b m:=fun{b m} ⟨o,es,ep,e,d,r⟩=>⟨o,es,ep,base_of e (noD e d),d,r⟩
  have hKb:K.In (a1v s₁.heap H):=fun b o e=>base_of (KX b o e) (by
   rcases hO b with q|⟨q,o',xs,z⟩|⟨q,_⟩
   ·exact q
   ·subst q;rw[hK (by rw[z];simp)]at e;cases e
   ·exact absurd q (kno e))
  have hM:Mod K mg (a1v s₁.heap H):=⟨hKb,nsK hns,⟨mb,nsK hb,hbb⟩,let ⟨mc,h1,h2⟩:=hlim;⟨mc,nsK h1,h2⟩⟩
  have hBm:a2h mg (a1v s₁.heap H):=by
   obtain⟨bm,o,b1,b2,b3,b4,b5,b6,b7⟩:=hbm;exact⟨bm,o,b1,b2,b3,base_of b4 (noA b4 (by rw[b5];simp) (by rw[b5];simp)),b5,b6,b7⟩
  have e0:Env0 P w K mg (a1v s₁.heap H) callerA [] s₁ H:=⟨rfl,hM,fun b o e=>b5g e,Xd (b5e _ _),trivial,fun b hb=>absurd (show b∈([]:List Addr)from hb) (by simp),hok,.of_eq hg⟩
  have sp:SpT K ts 1 fn [.ref a] H (fun v _=>v=.bl true) (fun _ _ _=>False):=by
   obtain⟨ws',e⟩:=ht;refine⟨fun p hp=>⟨#[],hT p hp⟩,fun b=>if b∈ts then none else H b,[.dat (.lst (ns.map D.int))],.d (.bl true),ws',rfl,fun v hv=>.inl ?_,⟨fun b o z=>?_,rfl,fun i d z=>?_,fun i v ds e1 e2=>?_,fun i j v v' ds es a e1 e2=>?_,fun i w a e1 e2=>?_,fun b h=>h.elim,fun p ps z=>?_,fun b o z ps y=>?_⟩,e,?_⟩
   ·simp at hv;exact⟨_,hv⟩
   ·split at z
    ·cases z
    ·exact z
   ·cases i with
    |zero=>
     simp at z
     subst z;refine⟨.ref a,rfl,?_⟩;simp only[Rep];refine⟨a,_,rfl,?_,b1H ns⟩
     rcases hS with(q|⟨o,q⟩)|q
     ·exact .inl (.inl ((Qe nat).trans q))
     ·exact .inl (.inr ⟨o,(Qe nat).trans q⟩)
     ·exact .inr q
    |succ i=>simp at z
   ·cases i with
    |zero=>simp at e1;subst e1;cases e2
    |succ i=>simp at e1
   ·cases i with
    |zero=>simp at e1;subst e1;cases e2
    |succ i=>simp at e1
   ·cases i with
    |zero=>simp at e1;subst e1;cases e2
    |succ i=>simp at e1
   ·rcases hO p with q|⟨_,o,xs,q⟩|⟨_,q⟩
    ·rw[q]at z;cases z
    ·rw[q]at z;cases z
    ·rw[q]at z;cases z
     exact⟨trivial,fun pos v y=>by cases y⟩
   ·split at z
    ·cases z
    ·rename_i hb
     rcases hO b with q|⟨_,o',xs,q⟩|⟨q,_⟩
     ·rw[q]at z;cases z
     ·rw[q]at z;cases z;cases y
     ·exact hb q
   ·intro v G' H' _ rp
    simpa only[Rep]using rp
  refine Vi ((F _ hKb (nsK hns) hBm).run callerA [] s₁ H ⟨[.ref a],[]⟩ [.ref a] [.ref a] _ _ hr e0 (hbind s₁ (.ref a)) (.cons rfl .nil) sp) fun r s' h=>?_
  cases r with
  |error e=>exact False.elim h
  |ok fl=>
   cases fl with
   |next=>exact False.elim h
   |brk=>exact False.elim h
   |cont=>exact False.elim h
   |ret u=>
    obtain⟨v,H',os,bare,un,hok',r',q⟩:=h;have q':v=.bl true:=q;subst q';obtain rfl:u=Value.bool true:=r';refine⟨rfl,⟨fun b o e=>?_,fun b o e=>un.there b o e (by simp)⟩,os,bare⟩
    rcases hO b with q|⟨_,ob,xs,z⟩|⟨hb,z⟩
    ·exact .inl (un.keep b o e q (by intro z;exact absurd (show b∈([]:List Addr)from z) (by simp)) (by simp))
    ·have z2:=un.frzs b ob _ z
     obtain⟨e1,_⟩:=hok b _ z;obtain⟨e2,_⟩:=hok' b _ z2;rw[e]at e1;cases e1;exact .inl e2
    ·obtain⟨more,z2⟩:=un.tbls b #[] z
     have e2:s'.heap.get? b=some {cls:=.none,data:=.fields (#[]++more)}:=hok' b _ z2
     have e3:=hts b hb
     rw[e]at e3;cases e3;obtain⟨c,hc⟩:=hcs b hb;exact .inr (.inl ⟨((codeHd_of_K KX hc).tab (hts b hb)).isCodeTable,rfl,#[],more,rfl,e2⟩)
 cases hk:K.lookup a with
 |some o=>
  have e:=KX a o hk
  rw[ha]at e;cases e;refine core (fun b=>if b∈ts then some (.tbl #[])else none) (fun b=>?_) (fun b hb=>Qn hb) (.inr ⟨_,vs.toArray,_,hk,rfl,rfl,rfl,by rw[Qh,lenV];exact hl,by simpa using rv⟩) (fun b u z=>?_) fun z=>absurd (Qe nat) z
  ·by_cases hb:b∈ts
   ·exact .inr (.inr ⟨hb,Qn hb⟩)
   ·exact .inl (Qe hb)
  ·dsimp only at z
   split at z
   ·rename_i hb;cases z;exact hts b hb
   ·cases z
 |none=>
  refine core (fun b=>if b=a then some (.frz {cls:=.type "list",data:=.seq vs.toArray} (.lst (ns.map V.int)))else if b∈ts then some (.tbl #[])else none) (fun b=>?_) (fun b hb=>by
   have hne:b≠a:=fun z=>nat (by rw[←z];exact hb)
   show(if b=a then _ else if b∈ts then _ else _)=_
   rw[Qe hne,Qn hb]) (.inl (.inr ⟨{cls:=.type "list",data:=.seq vs.toArray},Qn rfl⟩)) (fun b u z=>?_) fun _=>hk
  ·by_cases hb:b=a
   ·exact .inr (.inl ⟨hb,_,_,Qn hb⟩)
   ·by_cases hb2:b∈ts
    ·exact .inr (.inr ⟨hb2,by rw[Qe hb,Qn hb2]⟩)
    ·exact .inl (by rw[Qe hb,Qe hb2])
  ·dsimp only at z
   split at z
   ·rename_i hb
    cases z;subst hb;exact⟨ha,by rw[Qv];exact hl,vs,_,rv,ha⟩
   ·split at z
    ·rename_i hb;cases z;exact hts b hb
    ·cases z
theorem b9n{l:OpenLaw}{k:Nat}{q:Program}{loose:List Str}{XP:(Str->Option Value)->Heap->Prop}{YP:World->Heap->Prop}{d:DefRec}{K:Params->Frag}{fn:Fn}
  (hn:l.most=some 63)(hdf:d.params.defaults=[])(hr:Room k callerA)(hY:∀(w:World) (h:Heap),YP w h->(K w.params).In h/\∀p∈ts,h.get? p=some (tabObj #[]))
  (F:∀(w:World) (mg:Str->Option Value) (fa:Addr) (h:Heap),(K w.params).In h->h.Ns mainGlobals mg->mg d.name=some (.ref fa)->
   ∃fd:FuncData,(∀(s:Shared) (u:Value),BindsTo s fd ⟨[u],[]⟩ [(x,u)])/\noTabs (K w.params)=true/\(∀p∈ts,∃c,codeHdIn (K w.params) c p=true)/\∀base:Heap,(K w.params).In base->base.Ns mainGlobals mg->a2h mg base->FnOk l.prog w (K w.params) mg base CX0 k fa fd [x] (SpT (K w.params) ts 1 fn))
  (ht:∀ns:List Int,ns.length≤63->∃ws',fn [.dat (.lst (ns.map D.int))]=some (.d (.bl true),ws')):
  WalkO q loose XP YP l.row.toRowW d [] (fun f vs=>PySem.call f vs):=by
 refine Att.attach_call hn hdf fun w s₀ s₁ mg mb fa o pm cd doc a vs ns G Y ho hd hcd hmg hobj hints hlen hg=>?_
 obtain⟨KX,hT⟩:=hY w _ Y;obtain⟨fd,hb,hnt,hcs,hF⟩:=F w mg fa _ KX G.T.g hmg;have hbm:a2h mg s₁.heap:=by
  obtain⟨bm,ob,b1,b2,b3,b4,b5,b6⟩:=G.T.bmain;refine⟨bm,ob,b1,b2,fun z=>?_,b3,b4,b5,b6⟩
  obtain⟨o,es,ep,e,hd,_⟩:=G.T.g;rw[z,e]at b3;cases b3;rw[hd]at b6;cases b6
 exact b9m KX hnt hT hcs G.T.g G.T.b G.T.builtins G.T.nolimit hbm hg hobj hints (Zm hlen (by decide)) hr hF hb (ht ns hlen)
theorem b9o{K:Frag}{S:Str}(h:a1H K S names=true)(hn:n∈names):a2F K n=true:=let ⟨_,F⟩:=a3Z h hn;F.one
def a6u(K:Frag)(cd:Value)(P:Addr):Bool:=match cd with
 |.ref c=>codeHdIn K c P
 |_=>false
theorem b1Z{K:Frag}{P:Addr}(h:a6u K cd P=true):∃c,cd=.ref c/\codeHdIn K c P=true:=by
 unfold a6u at h;split at h
 ·exact⟨_,rfl,h⟩
 ·cases h
theorem b9p{K:Frag}{mg:Str->Option Value}{base:Heap}{P:Addr}(h1:a6u K cd P=true)(h2:codeIn K cd qual=true)(h3:tabQ K P qual=true)(hb:a2h mg base):TabF K mg base cd qual P:=by
 obtain⟨c,rfl,hc⟩:=b1Z h1;exact⟨⟨c,rfl,hc,h2⟩,h3,hb⟩
end L2.Mir
namespace L2.Mir
open PySem PySem.Spec PyProof.Rows PySem.W
variable{B:Addr->Prop}{E:Value->Shared->Prop}{H:Hp}{J:Nat->Hp->List V->Prop}{Q:Option Value->Shared->Prop}{X:Cx}{acc it x y:Value}{b:Bool}{d k1 k2 more x1 x2:Nat}{e elt iter target tg:Expr}{gens:List Comprehension}{i j:Int}{i1 i2 p z:Addr}{ifs:List Expr}{ma:Mo D}{mi ms:Mo (List D)}{o:Obj}{p1 p2 pos:Pos}{pins:List (Addr×Obj)}{s:Shared}{scope:Scope}{wi:TI}{xs ys:Array Value}{σ:St}
def bools?:List D->Option (List Bool)
 |[]=>some []
 |.bl i::r=>(bools? r).map fun l=>i::l
 |_::_=>none
theorem b2a{K:Qz}{G:Hp}:∀{ds:List D}{xs:List V}{ns:List Bool},z9_ K G xs ds->bools? ds=some ns->xs=ns.map V.bl
 |[],_,ns,r,e=>by simp only[z9_]at r;subst r;cases e;rfl
 |d::ds,_,ns,r,e=>by
  simp only[z9_]at r;obtain⟨x,t,rfl,q,r⟩:=r;cases d<;>first|(exact absurd (show(none:Option (List Bool))=some ns from e) (by simp))|skip
  obtain⟨l,e1,e2⟩:=x4_ (show(bools? ds).map _=some ns from e)
  subst e2;simp only[Rep]at q;subst q;rw[b2a r e1];rfl
def a8k:D->D->Option D
 |.lst ds,.bl b=>(bools? ds).bind fun bs=>(bs.findIdx? fun y=>y==b).map fun(j:Nat)=>D.int (j:Int)
 |_,_=>none
section
variable{o:Expr}{mb:Mo D}
theorem b9q(ns:List Bool):(ns.map V.bl).all a0T=true:=by
 induction ns with
 |nil=>rfl
 |cons n ns ih=>simp[a0T,ih]
def b9r(K:Frag):V->List V->Hp->VK->Prop:=fun x vs H Q=>∃(p:Addr) (bs:List Bool) (b:Bool) (j:Nat),x=.ref p/\vs=[.bl b]/\SqL K H p (bs.map V.bl)/\(bs.findIdx? fun y=>y==b)=some j/\Q (.int j) H
theorem b9s:MtM X "list.index" (b9r X.K):=by
 intro pins s σ H x vs v us Q I rx rv h;obtain⟨p,bs,b,j,rfl,rfl,hq,hj,q⟩:=h;cases rx;obtain⟨u,rfl,ru⟩:=rv.one;have ru':=ru;cases ru;obtain⟨its,r,pl,hz⟩:=I.list hq;obtain⟨⟨oc,od,odt,osl⟩,n,e,hc,hd,hdt⟩:=pl;dsimp only at hc hd hdt;subst hc hd hdt;obtain⟨hjl,hj1,hj2⟩:=List.findIdx?_eq_some_iff_getElem.mp hj;have hlen:its.length=bs.length:=by have:=r.length;simpa using this.symm
 have item:∀(m:Nat) (hm:m<its.length),its[m]=.bool (bs[m]'(by omega)):=fun m hm=>by
  obtain⟨u,h1,h2⟩:=r.get (i:=m) (x:=.bl (bs[m]'(by omega))) (by simp[show m<bs.length by omega])
  rw[Zx hm]at h1;cases h1;exact h2
 refine Xl PySem.F.slot_list_index ⟨_,e,rfl⟩ PySem.F.entry_list_index (PySem.F.args_list_index_2 _ _)
  (SeqAt.list_indexAt p its.toArray n none osl (.bool b) (eqU (.bl b)) j (by simpa using (by omega:j<its.length)) ?_ ?_ ?_) ⟨?_,fun w hw=>a5I (x:=.bl b) ru' rfl r (b9q bs) w (by simpa using hw),⟨.int j,H,I.tok _,⟨_,rfl⟩,q⟩⟩
 ·have:its.length≤sizeLine:=by rw[hlen];simpa using hz
  rw[sizeLine_eq]at this
  omega
 ·rw[List.getElem_toArray,item j (by omega)]
  show(bs[j]==b)=true;exact hj1
 ·intro m hm hlt
  rw[List.getElem_toArray,item m (by simpa using hm)]
  show(bs[m]==b)=false;exact Bool.eq_false_iff.mpr (hj2 m hlt)
 ·exact e
theorem b2b{apos cpos:Pos}(ho:ED X B o ma)(he:ED X B e mb)
  (hbase:attributeBase o "index" X.env (eval o X.env)=eval o X.env:=by rfl)
  (hfew:((backTo cpos (starEach [e] X.env)).all (fun x=>!x.1)&&(backToKw cpos (keywordEach [] X.env)).all (fun x=>x.1.isSome)
   &&decide ([e].length+([]:List Keyword).length+(if([]:List Keyword).isEmpty then 0 else 1)<30))=true:=by rfl)
  (hline:(apos.endLine==cpos.line)=true:=by rfl)(hs:starEach [e] X.env=(false,eval e X.env)::starEach [] X.env:=by rfl)(hplain:(backTo cpos (starEach [] X.env)).any (·.1)=false:=by rfl):
  ED X B (.Call (.Attribute o "index" apos) [e] [] cpos) (z5_ a8k ma mb):=by
 refine pe_imp (b0K PySem.F.plainAttrs_list PySem.F.slot_list_index PySem.F.type_list_index b9s ho (a1l he a3b hs) hbase hfew hline hs hplain) ?_
 rintro σ H Q ⟨G,env,d,env',rl,e,k⟩;obtain⟨⟨d1,env1⟩,e1,e2⟩:=q2_ e;obtain⟨⟨d2,env2⟩,e3,e4⟩:=q2_ e2;obtain⟨d3,e5,e6⟩:=x4_ e4;cases e6;dsimp only at e3 e5;unfold a8k at e5;split at e5
 ·rename_i ds b
  obtain⟨bs,e7,e8⟩:=q2_ e5;obtain⟨j,e9,e10⟩:=x4_ e8;cases e10;refine .bind rl e1 fun v G1 H1 ev1 r1=>?_
  simp only[Rep]at r1;obtain⟨a,xs,rfl,hq,rp⟩:=r1;refine⟨.inl ⟨rfl,xs,ev1.rel.sub.sqL hq⟩,.bind ev1.rel e3 fun v2 G2 H2 ev2 r2=>?_⟩
  simp only[Rep]at r2;subst r2;have hb:=b2a rp e7;subst hb;exact⟨a,bs,b,j,rfl,rfl,(ev2.same.trans ev2.rel.sub).sqL hq,e9,k _ G2 H2 (ev1.trans ev2) (by simp only[Rep])⟩
 ·cases e5
end
open AutoSeq1 (wpAny_loadPart')
section
variable{prog:Program}{w:World}{A:Around}
end
section
variable{a b c:Expr}
end
def a1q(elt:Expr)(gens:List Comprehension)(scope:Scope)(pos:Pos)(d:Nat)(acc:Value)(env:Env):Sem Unit:=match gens[d+1]? with
 |some g'=>do
  let x←eval g'.iter env
  standAt g'.iter.pos
  let x←if g'.is_async !=0 then foldedIterable g'.iter x else foldedSetIterable g'.iter env x
  let _←runOwn (.compStart (.ListComp elt gens scope pos) (d+1) (←holding [x] (if g'.is_async !=0 then asyncIter x else pyIter x)) acc env) env
 |none=>do let _←call (.builtin "list.append") [acc,←eval elt env]
theorem b9t{env:Env}(hd:gens[d]? =some ⟨target,iter,ifs,0⟩):
  compTurn (.ListComp elt gens scope pos) d it acc env=(do
   standAt iter.pos
   match←pyNext it with
   |none=>pure (.done .next)
   |some v=>
    letOwnedTupleGo target it v
    assign target env v
    let mut ok:=true
    for c in ifs do
     if ok then ok←isTrue c env (eval c env)
    if ok then
     a1q elt gens scope pos d acc env
    again (.compLoop (.ListComp elt gens scope pos) d it acc env)):=by
 unfold compTurn a1q;dsimp only;rw[hd];cases gens[d+1]? with
 |none=>rfl
 |some g'=>
  show(standAt iter.pos>>=fun _=>pyNext it>>=fun r=>_)=_
  refine Yx (standAt iter.pos>>= ·) (funext fun _=>Yx (pyNext it>>= ·) (funext fun r=>?_))
  cases r with
  |none=>rfl
  |some v=>
   refine Yx (letOwnedTupleGo target it v>>= ·) (funext fun _=>Yx (assign target env v>>= ·) (funext fun _=>Yx (_>>= ·) (funext fun ok=>?_)))
   cases ok with
   |false=>rfl
   |true=>
    by_cases ha:(g'.is_async !=0)=true
    ·simp only[ha,Zu,bind_assoc,pure_bind]
    ·simp only[ha,Zu,Zo,bind_assoc,pure_bind,Qo]
section
variable{prog:Program}{w:World}{A:Around}{R:Result->Shared->Prop}
theorem b2c{env:Env}(hd:gens[d]? =some ⟨target,iter,ifs,0⟩)(I:Nat->Shared->Prop)
  (turn:∀n s,I n s->wpAny (model prog w) A (pyNext it) (fun r s₁=>match r with
   |none=>R (.ok .next) s₁
   |some v=>wpAny (model prog w) A (letOwnedTupleGo target it v) (fun _ s₁'=>wpAny (model prog w) A (assign target env v) (fun _ s₂=>
     wpAny (model prog w) A (forIn ifs true fun c r=>if r=true then do let ok←isTrue c env (eval c env);pure (ForInStep.yield ok)else pure (ForInStep.yield r)) (fun ok s₃=>
      if ok=true then wpAny (model prog w) A (a1q elt gens scope pos d acc env) (fun _ s₅=>∃m,m<n/\I m s₅) (fun _ _=>False) s₃
      else∃m,m<n/\I m s₃) (fun _ _=>False) s₂) (fun _ _=>False) s₁') (fun _ _=>False) s₁) (fun _ _=>False) s)
  (n:Nat)(h:I n s):
  codeAny (model prog w) A (.compLoop (.ListComp elt gens scope pos) d it acc env) R s:=by
 refine codeAny_loop rfl I (fun n s hI=>?_) n h
 show wpAny _ A ((compTurn (.ListComp elt gens scope pos) d it acc env).onRaise (fun x=>do noteFrame x env;theTreesLotGoes x)) _ _ s
 refine wpAny_noted ?_
 rw[b9t hd];refine Qq (Jc (Qq (Qi (turn n s hI) (fun r s₁ h₁=>?_) fun _ _ h'=>h'.elim)))
 cases r with
 |none=>exact Qk h₁
 |some v=>
  refine Qq (Qi h₁ (fun _ s₁' h₁'=>?_) fun _ _ h'=>h'.elim)
  refine Qq (Qi h₁' (fun _ s₂ h₂=>Qq (Qi h₂ (fun ok s₃ h₃=>?_) fun _ _ h'=>h'.elim)) fun _ _ h'=>h'.elim)
  cases ok with
  |false=>exact Qk ⟨rfl,h₃⟩
  |true=>exact Qq (Qi h₃ (fun _ s₅ h₅=>Qk ⟨rfl,h₅⟩) fun _ _ h'=>h'.elim)
theorem b9u{env:Env}(hd:gens[d]? =some ⟨target,iter,ifs,0⟩)
  (h0:codeAny (model prog w) A (.compLoop (.ListComp elt gens scope pos) d it acc env) R s)
  (h:wpAny (model prog w) A (pyIter it) (fun it' s'=>codeAny (model prog w) A (.compLoop (.ListComp elt gens scope pos) d it' acc env) R s')
   (notedBy (model prog w) A env fun x s'=>R (.error x) s') s):
  codeAny (model prog w) A (.compStart (.ListComp elt gens scope pos) d it acc env) R s:=by
 refine codeAny_of_tree ?_
 show wpAny _ _ ((compStart (.ListComp elt gens scope pos) d it acc env).onRaise (fun x=>do noteFrame x env;standAt theWindowsPlace)) _ _ s
 refine wpAny_notedAt ?_
 unfold compStart;rw[show clausesOf (.ListComp elt gens scope pos)=gens from rfl,hd]
 show wpAny _ _ (ask>>=_) _ _ s;refine Qq (wpAny_askSetting (wpAny_ite ?_));split
 ·first
   |exact Qq (Qk (Qk (And.intro rfl h0)))
   |exact Qk (And.intro rfl h0)
 ·first
   |exact Qq (Uf (Qq (Jc (Qq (Qi h (fun it' s' h'=>Qk (And.intro rfl h')) fun _ _ x=>x)))))
   |(refine Qq (Uf ?_);show wpAny _ _ (standAt iter.pos>>=_) _ _ s;exact Qq (Jc (Qq (Qi h (fun it' s' h'=>Qk (And.intro rfl h')) fun _ _ x=>x))))
end
abbrev a1r:=St->Hp->(St->Hp->Prop)->Prop
def a6v(J:It)(g:TG)(tt:TT)(act:a1r)(σ₀:St)(H₀:Hp)(Q:St->Hp->Prop):Prop:=
 ∃W:Nat->Nat->St->Hp->Prop,(∃m,W 0 m σ₀ H₀)/\∀i m σ H,W i m σ H->
  (J.stop i H/\Q σ H)∨(J.go i H/\∀x H',J.yld i H x H'->g x σ H' fun σ2 H2=>tt σ2 H2 fun b H3=>
   if b=true then act σ2 H3 fun σ4 H4=>∃m',m'<m/\W (i+1) m' σ4 H4 else∃m',m'<m/\W (i+1) m' σ2 H3)
def a2J(X:Cx)(sem:Sem Unit)(act:a1r):Prop:=∀(pins:List (Addr×Obj)) (s:Shared) (σ:St) (H:Hp) (Q:St->Hp->Prop),Inv X pins σ H s->act σ H Q->
 wpAny (model X.prog X.w) X.A sem (fun _ s'=>∃σ' H',Inv X pins σ' H' s'/\Q σ' H') (fun _ _=>False) s
def b2d(te:TE)(p:Addr):a1r:=fun σ H Q=>te σ H fun y H4=>∃ys,H4 p=some (.lst ys)/\ys.length<sizeLine/\Q σ (upd H4 p (.lst (ys++[y])))
def b2e(wi:TI)(g:TG)(tt:TT)(act:a1r):a1r:=fun σ H Q=>wi σ H fun J H1=>a6v J g tt act σ H1 Q
theorem b9v{te:TE}(hx:∀e s,¬ X.xe e s)(hn:gens[d+1]? =none)(he:PE X elt te):a2J X (a1q elt gens scope pos d (.ref p) X.env) (b2d te p):=by
 intro pins s σ H Q I h;unfold a1q;rw[hn];refine Qq (Qi (he pins s σ H _ I h) (fun v s1 ⟨y,H1,I1,r1,ys,hys,hl,q⟩=>?_) fun e s' z=>(hx e s' z).elim)
 refine Qq (Qi (a7y (X:=X) _ s1 σ H1 (.ref p) [y] (.ref p) [v] (fun _ H2=>Q σ H2) I1 rfl (.cons r1 .nil) ⟨p,ys,y,rfl,rfl,hys,hl,q⟩) (fun _ s2 ⟨_,H2,I2,_,w2⟩=>Qk ⟨σ,H2,I2,w2⟩) fun e s' z=>(hx e s' z).elim)
theorem b9w{g:TG}{tt:TT}{act:a1r}(hx:∀e s,¬ X.xe e s)(hc:X.calm=true)(hd:gens[d+1]? =some ⟨tg,iter,ifs,0⟩)(hi:PI X tg iter wi)(hg:PG X tg g)(ht:a0m X ifs tt)
  (ha:a2J X (a1q elt gens scope pos (d+1) acc X.env) act)(hs:∀x,foldedSetIterable iter X.env x=pure x):a2J X (a1q elt gens scope pos d acc X.env) (b2e wi g tt act):=by
 intro pins s σ H Q I h;unfold a1q;rw[hd];have nof:∀(e:Value) (s:Shared),X.xe e s->False:=fun e s z=>hx e s z
 refine Qq (Qi (hi pins s σ H _ I h) (fun v s1 h1=>?_) fun e s' z=>(hx e s' z).elim)
 refine Qq (Jc ?_);show wpAny _ _ (foldedSetIterable iter X.env v>>=_) _ _ s1;refine Qq (wpAny_of_eq (hs v) ?_);show wpAny _ _ (holding [v] (pyIter v)>>=_) _ _ s1;refine Qq (Yu (Qi h1 (fun itv s2 h2=>?_) fun e s' z=>(hx e s' z).elim))
 obtain⟨it,fp,tn,J,H2,e,I2,T,st2,f2,W,⟨m0,w0⟩,turn⟩:=h2;subst e;have stat:∀{H':Hp},(∀b∈fp,H' b=none)->∀b∈fp,w8_ X pins H' b:=fun hn b hb=>⟨hn b hb,(f2 b hb).2⟩
 have loop:codeAny (model X.prog X.w) X.A (.compLoop (.ListComp elt gens scope pos) (d+1) (.ref it) acc X.env) (fun r s'=>match r with|.ok f=>wpAny (model X.prog X.w) X.A (pure ()) (fun _ s'=>∃σ' H',Inv X pins σ' H' s'/\Q σ' H') (fun _ _=>False) s'|.error e=>cameBackBy (model X.prog X.w) X.A X.env (fun _ _=>False) e s') s2:=by
  refine b2c hd (fun n s'=>∃i σ' H',Inv X pins σ' H' s'/\tn i s'.heap/\(∀b∈fp,H' b=none)/\W i n σ' H') ?_ m0 ⟨0,σ,H2,I2,st2,fun b hb=>(f2 b hb).1,w0⟩
  rintro n s3 ⟨i,σ3,H3,I3,st3,fr3,w3⟩
  rcases turn i n σ3 H3 w3 with⟨stop,qn⟩|⟨go,step⟩
  ·refine Qi (T.done X rfl rfl rfl hc i pins s3 σ3 H3 (fun _ _=>False) I3 (stat fr3) st3 stop) (fun r s4 ⟨hr,I4⟩=>?_) fun _ _ z=>z
   subst hr;exact Qk ⟨σ3,H3,I4,qn⟩
  ·refine Qi (T.item X rfl rfl rfl hc i pins s3 σ3 H3 (fun _ _=>False) I3 (stat fr3) st3 go) (fun r s4 ⟨u,hr,h4⟩=>?_) fun _ _ z=>z
   subst hr;refine Qi h4 (fun _ s5 ⟨x,H5,I5,r5,y5,st5,fr5⟩=>?_) fun _ _ z=>z
   have I5':=I5.pinned (stat fr5) (T.obj _ _ st5)
   have back:∀{σ8:St}{H8:Hp}{s8:Shared}{m':Nat},Inv X (pins++a2Y fp s5.heap) σ8 H8 s8->m'<n->W (i+1) m' σ8 H8->∃m,m<n/\∃i σ' H',Inv X pins σ' H' s8/\tn i s8.heap/\(∀b∈fp,H' b=none)/\W i m σ' H':=fun{σ8 H8 s8 m'} I8 hm w8=>by
    refine⟨m',hm,i+1,σ8,H8,I8.unpinned,T.keep _ _ _ st5 fun b hb o e=>(I8.pin (b,o) (Qt _ (Qt _ (a2t hb e)))).1,fun b hb=>?_,w8⟩
    obtain⟨o,e,d⟩:=T.obj _ _ st5 b hb;exact(I8.pin (b,o) (Qt _ (Qt _ (a2t hb e)))).2.1
   refine Qi (hg _ s5 σ3 H5 x u _ I5' r5 (step x H5 y5)) (fun _ s6 ⟨σ6,H6,I6,q6⟩=>?_) nof
   refine Qi (ht _ s6 σ6 H6 _ I6 q6) (fun b s7 ⟨H7,I7,q7⟩=>?_) nof
   cases b with
   |false=>
    simp only[Qo,Zo]at q7 ⊢;obtain⟨m',hm,w7⟩:=q7;exact back I7 hm w7
   |true=>
    simp only[Zu]at q7 ⊢;exact Qi (ha _ s7 σ6 H7 _ I7 q7) (fun _ s8 ⟨σ8,H8,I8,m',hm,w8⟩=>back I8 hm w8) fun _ _ z=>z
 refine Qq (wpAny_runOwn (h:=none) (b9u hd loop (Qi (T.self X.A 0 s2 _ (fun _ _=>False) st2 loop) (fun _ _ q=>q) fun _ _ q=>q.elim)))
section
variable{N':List Str}{keep:List Bool}{gs:List Comprehension}{g:TG}{tt:TT}{act:Addr->a1r}
theorem b9x{it:Addr}{fp:List Addr}{tn:Nat->Heap->Prop}{J:It}{Qf:Addr->Hp->Prop}{RR:Value->Addr->Result->Shared->Prop}
  (ok:CompOk X N' scope keep more)(hc:X.calm=true)(hg:∀s H fp,PG (y7_ X N' scope s H fp) tg g)(ht:∀s H fp,a0m (y7_ X N' scope s H fp) ifs tt)(he:∀s H fp p,a2J (y7_ X N' scope s H fp) (a1q elt (⟨tg,iter,ifs,0⟩::gs) scope pos 0 (.ref p) (y7_ X N' scope s H fp).env) (act p))
  (I:Inv X pins σ H s)(T:Turn X.prog X.w X.K tg J fp it tn)(st:tn 0 s.heap)(hf:∀b∈fp,w8_ X pins H b)
  (run:∀p,H p=none->a6v J g tt (act p) (w0_ keep more σ) (upd H p (.lst [])) (fun _ H'=>Qf p H'))
  (hRR:∀p C s' H' m,Inv X pins σ H' s'->Qf p H'->s'.heap.Ns C m->C≠X.env.locals->(∀x c,X.env.cells.lookup x=some c->c≠C)->H' C=none->(∀σ'' H'' s'' h',Inv X pins σ'' H'' s''->H'' C=none->Heap.SameBut C s''.heap h'->Inv X pins σ'' H'' {s'' with heap:=h'})->RR (.ref p) C (.ok .next) s'):
  wpAny (model X.prog X.w) X.A (newList []) (fun acc s₃=>wpAny (model X.prog X.w) X.A (newFunctionEnv scope X.env.globals (u3_ X.env.cells scope.names []) [] X.env.qual none .none (some X.env)) (fun cenv s₄=>
   codeAny (model X.prog X.w) X.A (.compStart (.ListComp elt (⟨tg,iter,ifs,0⟩::gs) scope pos) 0 (.ref it) acc {cenv with scope:=relabel scope X.env}) (RR acc cenv.locals) s₄) E s₃) E s:=by
 have hp0:H s.heap.objs.size=none:=I.hok.fresh (Qp _)
 refine Zl ?_
 have I3:Inv X pins σ (upd H s.heap.objs.size (.lst [])) {s with heap:=s.heap.push {cls:=.type "list",dict:=none,data:=.seq ([]:List Value).toArray}}:=
  I.laid (t':=s.toks) (fun b u e=>Qx _ e) (Qp _) ⟨Jt _,[],0,.nil,Qg _ rfl⟩
 have fpOld:∀b∈fp,b<s.heap.objs.size:=fun b hb=>by
  obtain⟨o,e,_⟩:=T.obj 0 _ st b hb;exact Qw e
 have hf3:∀b∈fp,w8_ X pins (upd H s.heap.objs.size (.lst [])) b/\b<(s.heap.push {cls:=.type "list",dict:=none,data:=.seq ([]:List Value).toArray}).objs.size:=fun b hb=>by
  refine⟨⟨by rw[q5_ (Qd (fpOld b hb))];exact(hf b hb).1,(hf b hb).2⟩,?_⟩
  rw[Zc];exact Vu (fpOld b hb)
 have st3:tn 0 (s.heap.push {cls:=.type "list",dict:=none,data:=.seq ([]:List Value).toArray}):=T.keep 0 _ _ st fun b hb o e=>Qx _ e
 generalize hs3:({s with heap:=s.heap.push {cls:=.type "list",dict:=none,data:=.seq ([]:List Value).toArray}}:Shared)=s3 at I3 ⊢
 have hs3h:s3.heap=s.heap.push {cls:=.type "list",dict:=none,data:=.seq ([]:List Value).toArray}:=by rw[←hs3]
 rw[←hs3h]at hf3 st3;generalize hp:s.heap.objs.size=p at hp0 I3 hf3 ⊢;generalize hH3:upd H p (.lst [])=H3 at I3 hf3;refine b1j _ ?_
 have I4:=b1i ok I3 hf3
 generalize hs4:({s3 with heap:=pushCells (s3.heap.push {cls:=.type "dict",data:=.dict #[]}) scope.names}:Shared)=s4 at I4 ⊢
 have st4:tn 0 s4.heap:=T.keep 0 _ _ st3 fun b hb o e=>by rw[←hs4];exact Ut _ _ _ _ (Qx _ e)
 obtain⟨W,⟨m0,w0⟩,turn⟩:=run p hp0;have stat:∀{H':Hp},(∀b∈fp,H' b=none)->∀b∈fp,w8_ (y7_ X N' scope s3 H3 fp) [] H' b:=fun hn b hb=>by
  have z:=I4.ok.exf b hb
  exact⟨hn b hb,z.1,I4.ok.exfs b hb,.inl hb,z.2,fun p hp=>absurd (show p∈([]:List (Addr×Obj))from hp) (by simp)⟩
 have loop:codeAny (model X.prog X.w) X.A (.compLoop (.ListComp elt (⟨tg,iter,ifs,0⟩::gs) scope pos) 0 (.ref it) (.ref p) (a3j scope X.env s3.heap.objs.size)) (RR (.ref p) s3.heap.objs.size) s4:=by
  refine b2c (d:=0) rfl (fun n s'=>∃i σ' H',Inv (y7_ X N' scope s3 H3 fp) [] σ' H' s'/\tn i s'.heap/\(∀b∈fp,H' b=none)/\W i n σ' H') ?_ m0 ⟨0,_,H3,I4,st4,fun b hb=>(hf3 b hb).1.1,by rw[←hH3];exact w0⟩
  rintro n s5 ⟨i,σ5,H5,I5,st5,fr5,w5⟩
  rcases turn i n σ5 H5 w5 with⟨stop,qf⟩|⟨go,step⟩
  ·refine thn (T.done (y7_ X N' scope s3 H3 fp) rfl rfl rfl hc i [] s5 σ5 H5 (fun _ _=>False) I5 (stat fr5) st5 stop) fun r s6 ⟨hr,I6⟩=>?_
   subst hr;obtain⟨m6,hn6,_⟩:=I6.loc;have hch:∀b∈fp,(b∈X.ex∨X.s₀.heap.objs.size≤b)/\b≠X.env.locals/\(∀x c,X.env.cells.lookup x=some c->c≠b)/\∀p∈X.pn++pins,p.1≠b:=fun b hb=>by
    obtain⟨_,f1,_,f3,f4,f5⟩:=hf b hb;exact⟨f3,f1,f4,f5⟩
   have IX:Inv X pins σ H5 s6:=I3.call' (s':=s6) (I6.os) (I6.base) I6.hok I6.bare hch
   have szC:X.s₀.heap.objs.size≤s3.heap.objs.size:=I3.sz
   have hCL:s3.heap.objs.size≠X.env.locals:=Ua I3.lt
   have hCc:∀x c,X.env.cells.lookup x=some c->c≠s3.heap.objs.size:=fun x c e=>by
    obtain⟨v,q⟩:=I3.cell x c e;exact Qd q.lt
   have hCp:∀q∈X.pn++pins,q.1≠s3.heap.objs.size:=fun q hq=>Qd (Qw (I3.pin q hq).1)
   refine hRR p s3.heap.objs.size s6 H5 m6 IX qf hn6 hCL hCc I6.free fun σ'' H'' s'' h' I'' hn hs=>?_
   exact I''.turned (t':=s''.toks) (it:=s3.heap.objs.size) (fun b o hb e=>(hs.2 b hb).trans e) hn hCL (.inr szC) hCc hCp
  ·refine thn (T.item (y7_ X N' scope s3 H3 fp) rfl rfl rfl hc i [] s5 σ5 H5 (fun _ _=>False) I5 (stat fr5) st5 go) fun r s6 ⟨u,hr,h6⟩=>?_
   subst hr;refine thn h6 fun _ s7 ⟨x,H7,I7,r7,y7,st7,fr7⟩=>?_
   have I7':=I7.pinned (stat fr7) (T.obj _ _ st7)
   have back:∀{σ8:St}{H8:Hp}{s8:Shared}{m':Nat},Inv (y7_ X N' scope s3 H3 fp) ([]++a2Y fp s7.heap) σ8 H8 s8->m'<n->W (i+1) m' σ8 H8->∃m,m<n/\∃i σ' H',Inv (y7_ X N' scope s3 H3 fp) [] σ' H' s8/\tn i s8.heap/\(∀b∈fp,H' b=none)/\W i m σ' H':=fun{σ8 H8 s8 m'} I8 hm w8=>by
    refine⟨m',hm,i+1,σ8,H8,I8.unpinned,T.keep _ _ _ st7 fun b hb o e=>(I8.pin (b,o) (Qt _ (Qt _ (a2t hb e)))).1,fun b hb=>?_,w8⟩
    obtain⟨o,e,d⟩:=T.obj _ _ st7 b hb;exact(I8.pin (b,o) (Qt _ (Qt _ (a2t hb e)))).2.1
   refine thn (hg s3 H3 fp _ s7 σ5 H7 x u _ I7' r7 (step x H7 y7)) fun _ s8 ⟨σ8,H8,I8,q8⟩=>?_
   refine thn (ht s3 H3 fp _ s8 σ8 H8 _ I8 q8) fun b s9 ⟨H9,I9,q9⟩=>?_
   cases b with
   |false=>
    simp only[Qo,Zo]at q9 ⊢;obtain⟨m',hm,w9⟩:=q9;exact back I9 hm w9
   |true=>
    simp only[Zu]at q9 ⊢;exact thn (he s3 H3 fp p _ s9 σ8 H9 _ I9 q9) fun _ s10 ⟨σ10,H10,I10,m',hm,w10⟩=>back I10 hm w10
 refine codeAny_compStart_list loop ?_
 exact Qi (T.self X.A 0 s4 _ (fun _ _=>False) st4 loop) (fun _ _ q=>q) fun _ _ q=>q.elim
def b2f(wi:TI)(keep:List Bool)(more:Nat)(g:TG)(tt:TT)(act:Addr->a1r):TE:=fun σ H Q=>wi σ H fun J H1=>∀p,H1 p=none->a6v J g tt (act p) (w0_ keep more σ) (upd H1 p (.lst [])) (fun _ H'=>Q (.ref p) H')
theorem b9y(ok:CompOk X N' scope keep more)(hc:X.calm=true)(hi:PI X tg iter wi)(hg:∀s H fp,PG (y7_ X N' scope s H fp) tg g)(ht:∀s H fp,a0m (y7_ X N' scope s H fp) ifs tt)
  (he:∀s H fp p,a2J (y7_ X N' scope s H fp) (a1q elt (⟨tg,iter,ifs,0⟩::gs) scope pos 0 (.ref p) (y7_ X N' scope s H fp).env) (act p))
  (hs:∀x,foldedSetIterable iter X.env x=pure x:=by intro _;rfl):PE X (.ListComp elt (⟨tg,iter,ifs,0⟩::gs) scope pos) (b2f wi keep more g tt act):=by
 intro pins s σ H Q I h;rw[eval_ListComp];refine Vq (use:=none) rfl hs ok.clos ok.kind (fun x hx hl=>by have:=ok.uniq x hx;rwa [hl]at this) (thn (hi pins s σ H _ I h) fun v s1 h1=>thn h1 fun itv s2 h2=>?_)
 obtain⟨it,fp,tn,J,H2,e,I2,T,st2,f2,run⟩:=h2;subst e;refine b9x (Qf:=fun p H'=>Q (.ref p) H') (RR:=fun acc C=>compPost (model X.prog X.w) X.A X.xe none (EP X pins σ Q) acc C) ok hc hg ht he I2 T st2 f2 run ?_
 intro p C s' H' m IX qf hn hCL hCc hCn turn;exact⟨m,hn,fun h' hs'=>⟨.ref p,H',turn σ H' s' h' IX hCn hs',rfl,qf⟩⟩
end
def a2K(m:Mo D):Mo (List D):=fun env=>(m env).map fun q=>([q.1],q.2)
def a1g(g:D->Env'->Option Env')(t:Mo Bool)(a:Mo (List D)):List D->Mo (List D)
 |[],env=>some ([],env)
 |d::ds,env=>(g d env).bind fun e1=>(t e1).bind fun p=>if p.1 then(a p.2).bind fun q=>(a1g g t a ds q.2).map fun r=>(q.1++r.1,r.2)else a1g g t a ds p.2
def aIn(mi:Mo (List D))(g:D->Env'->Option Env')(t:Mo Bool)(a:Mo (List D)):Mo (List D):=fun env=>(mi env).bind fun p=>a1g g t a p.1 p.2
def a4b(mi:Mo (List D))(keep:List Bool)(more:Nat)(g:D->Env'->Option Env')(t:Mo Bool)(a:Mo (List D)):Mo (List D):=fun env=>(mi env).bind fun p=>
 (a1g g t a p.1 (k5_ keep more p.2)).bind fun q=>if q.1.length≤100000 then(w3_ keep p.2 q.2).map fun e=>(q.1,e)else none
theorem b9z{o:HO}(h:H p=some o):upd H p o=H:=by
 funext b
 by_cases hb:b=p
 ·subst hb;rw[y5_,h]
 ·rw[q5_ hb]
section
variable{K:Qz}{n:Nat}
def TAc(K:Qz)(B:Addr->Prop)(n:Nat)(a:Mo (List D))(p:Addr):a1r:=fun σ H Q=>∃G env zs env' ys,Rel K B G σ env H/\ ¬ Owned σ env p/\G p=none/\H p=some (.lst ys)/\a env=some (zs,env')/\ys.length+zs.length≤100000/\
 ∀σ' G' H' vs,Ev K B G σ env (upd H p (.lst (ys++vs))) G' σ' env' H'->(∀j,j<n->σ'[j]? =σ[j]?)->H' p=some (.lst (ys++vs))->z9_ K G' vs zs->Q σ' H'
theorem b9A{m:Mo D}:∀σ H Q,TAc K B n (a2K m) p σ H Q->b2d (TD K B m) p σ H Q:=by
 rintro σ H Q ⟨G,env,zs,env',ys,rl,no,gp,hp,e,hl,k⟩;obtain⟨⟨d,env1⟩,e1,e2⟩:=x4_ e;cases e2;refine⟨G,env,d,env1,rl,e1,fun v G' H' ev r=>?_⟩
 have hp':H' p=some (.lst ys):=ev.keep p _ no nt_lst hp
 refine⟨ys,hp',Qc (by simp at hl;omega) (show 100000≤sizeLine by decide),?_⟩
 exact k σ G' _ [v] (ev.swapAt no (by rw[hp];simp) gp nt_lst (fun φ z=>by rw[hp']at z;cases z)) (fun _ _=>rfl) y5_ (repL_cons r repL_nil)
theorem b2g{g:D->Env'->Option Env'}{t:Mo Bool}{a:Mo (List D)}{J:It}{G1:Hp}{env1 envF:Env'}{H1:Hp}{items zs:List D}{ys:List V}{Q:St->Hp->Prop}(rl:Rel K B G1 σ env1 H1)(itd:ItD K J G1 items)(no:¬ Owned σ env1 p)(gp:G1 p=none)
  (hp:H1 p=some (.lst ys))(e3:a1g g t a items env1=some (zs,envF))(hl:ys.length+zs.length≤100000)
  (k:∀σ' G' H' vs,Ev K B G1 σ env1 (upd H1 p (.lst (ys++vs))) G' σ' envF H'->(∀j,j<n->σ'[j]? =σ[j]?)->H' p=some (.lst (ys++vs))->z9_ K G' vs zs->Q σ' H'):
  a6v J (TGm K B n g) (TTm K B t) (TAc K B n a p) σ H1 Q:=by
 have hpS:∀us,(upd H1 p (.lst us)) p=some (.lst us):=fun us=>y5_
 refine⟨fun i m' σ2 H2=>m'=items.length-i/\i≤items.length/\∃G2 env2 vs acc rest,Ev K B G1 σ env1 (upd H1 p (.lst (ys++vs))) G2 σ2 env2 H2/\(∀j,j<n->σ2[j]? =σ[j]?)/\
   z9_ K G2 vs acc/\a1g g t a (items.drop i) env2=some (rest,envF)/\acc++rest=zs,⟨_,rfl,Jt _,G1,env1,[],[],zs,?_,fun _ _=>rfl,repL_nil,by simpa using e3,by simp⟩,?_⟩
 ·rw[Yn,b9z hp];exact .refl rl
 rintro i m' σ2 H2 ⟨rfl,hi,G2,env2,vs,acc,rest,ev2,y2,r2,c2,t2⟩;have hp2:H2 p=some (.lst (ys++vs)):=ev2.keep p _ no nt_lst (hpS _);have lH:Le G1 H2:=ev2.same.trans ev2.rel.sub
 by_cases hlt:i<items.length
 ·refine .inr ⟨itd.go i H2 lH hlt,fun x H3 y=>?_⟩
  have ed:items.drop i=items[i]::items.drop (i+1):=Jy hlt
  rw[ed]at c2;obtain⟨env4,e7,e8⟩:=q2_ c2;obtain⟨⟨b,env5⟩,e9,e10⟩:=q2_ e8;have hget:items[i]? =some items[i]:=by simp[hlt]
  have st:∃G3,Ev K B G1 σ env1 (upd H1 p (.lst (ys++vs))) G3 σ2 env2 H3/\Le G2 G3/\Rep K G3 x items[i]:=by
   rcases itd.yld i H2 x H3 items[i] lH y hget with⟨rfl,r⟩|⟨q,o,hno,hq,rfl,r⟩
   ·exact⟨G2,ev2,Le.refl,Rep.mono ev2.same _ r⟩
   ·have gq:=ev2.rel.gnone hq
    refine⟨upd G2 q o,ev2.trans (ev2.rel.alloc hq hno),Le.upd gq,Rep.mono (fun b u z=>?_) _ r⟩
    by_cases hb2:b=q
    ·subst hb2;rw[y5_]at z ⊢;exact z
    ·rw[q5_ hb2]at z ⊢;exact ev2.same b u z
  obtain⟨G3,ev3,l3,r3⟩:=st;refine⟨G3,env2,items[i],env4,ev3.rel,r3,e7,fun σ4 G4 H4 ev4 y4=>?_⟩
  refine⟨G4,env4,b,env5,ev4.rel,e9,fun G5 H5 ev5=>?_⟩
  have ev6:=(ev3.trans ev4).trans ev5
  have r5:z9_ K G5 vs acc:=z9_.mono ((l3.trans ev4.same).trans ev5.same) acc r2
  have y5:∀j,j<n->σ4[j]? =σ[j]?:=fun j hj=>(y4 j hj).trans (y2 j hj)
  have hp5:H5 p=some (.lst (ys++vs)):=ev6.keep p _ no nt_lst (hpS _)
  cases b with
  |true=>
   simp only[Zu]at e10 ⊢;obtain⟨⟨z7,env7⟩,e11,e12⟩:=q2_ e10;obtain⟨⟨rest8,env8⟩,e13,e14⟩:=x4_ e12;cases e14;have lz:zs.length=acc.length+(z7.length+rest8.length):=by rw[←t2];simp
   have no5:¬ Owned σ4 env5 p:=fun z=>(ev6.sub p z).elim no fun q=>by rw[hpS]at q;cases q
   refine⟨G5,env5,z7,env7,ys++vs,ev5.rel,no5,ev6.stay p (by rw[hpS];simp) no gp,hp5,e11,by rw[Qa,r2.length];omega,fun σ6 G6 H6 us ev7 y7 h7 r7=>?_⟩
   have nx:∀φ,H5 p≠some (.ext φ):=fun φ z=>by rw[hp5]at z;cases z
   have sw:=ev6.swapAt (o:=.lst (ys++vs++us)) no (by rw[hpS];simp) gp nt_lst nx
   rw[a5B]at sw;refine⟨items.length-(i+1),by omega,rfl,hlt,G6,env7,vs++us,acc++z7,rest8,?_,fun j hj=>(y7 j hj).trans (y5 j hj),(z9_.mono ev7.same acc r5).append r7,e13,by rw[Ug];exact t2⟩
   rw[←Ug];exact sw.trans ev7
  |false=>
   simp only[Qo,Zo]at e10 ⊢;exact⟨items.length-(i+1),by omega,rfl,hlt,G5,env5,vs,acc,rest,ev6,y5,r5,e10,t2⟩
 ·have ei:i=items.length:=by omega
  subst ei;rw[Uh]at c2;cases c2;rw[Yn]at t2;subst t2;exact .inl ⟨itd.stop _ H2 lH (Qp _),k σ2 G2 H2 vs ev2 y2 hp2 r2⟩
theorem b9B{g:D->Env'->Option Env'}{t:Mo Bool}{a:Mo (List D)}:∀σ H Q,TAc K B n (aIn mi g t a) p σ H Q->b2e (TIm K B mi) (TGm K B n g) (TTm K B t) (TAc K B n a p) σ H Q:=by
 rintro σ H Q ⟨G,env,zs,env',ys,rl,no,gp,hp,e,hl,k⟩;obtain⟨⟨items,env1⟩,e1,e2⟩:=q2_ e;refine⟨G,env,items,env1,rl,e1,fun J G1 H1 ev1 itd=>?_⟩
 have hp1:H1 p=some (.lst ys):=ev1.keep p _ no nt_lst hp
 refine b2g ev1.rel itd (fun z=>(ev1.sub p z).elim no fun q=>by rw[hp]at q;cases q) (ev1.stay p (by rw[hp];simp) no gp) hp1 e2 hl fun σ' G' H' vs ev y h r=>?_
 have nx:∀φ,H1 p≠some (.ext φ):=fun φ z=>by rw[hp1]at z;cases z
 exact k σ' G' H' vs ((ev1.swapAt (o:=.lst (ys++vs)) no (by rw[hp];simp) gp nt_lst nx).trans ev) y h r
theorem b9C{keep:List Bool}{g:D->Env'->Option Env'}{t:Mo Bool}{a:Mo (List D)}(hkl:keep.length=n):
  ∀(σ:St) H Q,σ.length=n->TL K B (a4b mi keep more g t a) σ H Q->b2f (TIm K B mi) keep more (TGm K B n g) (TTm K B t) (TAc K B n a) σ H Q:=by
 rintro σ H Q hσn ⟨G,env,total,env',rl,e,k⟩;obtain⟨⟨items,env1⟩,e1,e2⟩:=q2_ e;obtain⟨⟨total',envF⟩,e3,e4⟩:=q2_ e2;dsimp only at e4;split at e4
 ·rename_i hlen
  obtain⟨env'',e5,e6⟩:=x4_ e4;cases e6;refine⟨G,env,items,env1,rl,e1,fun J G1 H1 ev1 itd p hp=>?_⟩
  have hk:keep.length=σ.length:=by rw[hkl,hσn]
  have gp:G1 p=none:=ev1.rel.gnone hp
  have no1:¬ Owned σ env1 p:=ev1.rel.unowned hp
  have no:¬ Owned (w0_ keep more σ) (k5_ keep more env1) p:=fun z=>no1 (a4S z)
  have relS:∀ys,Rel K B G1 σ env1 (upd H1 p (.lst ys)):=fun ys=>(ev1.rel.allocM hp).rel
  refine b2g (ys:=[]) ((relS []).ext hk) itd no gp y5_ e3 (by simpa using hlen) fun σ2 G2 H2 ys ev2 y2 hp2 r2=>?_
  rw[Xq,a5B]at ev2;rw[Xq]at hp2;have evO:=Ev.out (relS ys) hk ev2 (fun j hj=>y2 j (by omega)) e5
  have evA:=ev1.trans ((ev1.rel.allocM (o:=.lst ys) hp).trans evO)
  have hpn:H p=none:=by
   cases q:H p with
   |none=>rfl
   |some o=>exact absurd hp (ev1.live p (by rw[q];simp))
  have hpS:(upd H1 p (.lst ys)) p=some (.lst ys):=y5_
  refine k p ys G2 H2 evA hpn (fun z=>?_) hp2 (ev2.stay p (by rw[hpS];simp) no gp) r2
  rcases evO.sub p z with q|q
  ·exact no1 q
  ·rw[hpS]at q;cases q
 ·cases e4
end
def EAc(X:Cx)(B:Addr->Prop)(n:Nat)(elt:Expr)(gens:List Comprehension)(scope:Scope)(pos:Pos)(d:Nat)(p:Addr)(a:Mo (List D)):Prop:=a2J X (a1q elt gens scope pos d (.ref p) X.env) (TAc X.K B n a p)
theorem b2h{sem:Sem Unit}{t t':a1r}(h:a2J X sem t)(i:∀σ H Q,t' σ H Q->t σ H Q):a2J X sem t':=fun pins s σ H Q I q=>h pins s σ H Q I (i σ H Q q)
section
variable{N':List Str}{scope0:Scope}{keep:List Bool}{n:Nat}{gs:List Comprehension}{g:D->Env'->Option Env'}{t:Mo Bool}{m:Mo D}{a:Mo (List D)}{fp:List Addr}
theorem b2i(hn:gens[d+1]? =none)(he:ED (y7_ X N' scope0 s H fp) B elt m):EAc (y7_ X N' scope0 s H fp) B n elt gens scope pos d p (a2K m):=b2h (b9v (fun _ _ z=>z) hn he) b9A
theorem b2j(hd:gens[d+1]? =some ⟨tg,iter,ifs,0⟩)(hc:X.calm=true)(hi:EI (y7_ X N' scope0 s H fp) B tg iter mi)(hg:EG (y7_ X N' scope0 s H fp) B n tg g)(ht:a0m (y7_ X N' scope0 s H fp) ifs (TTm X.K B t))
  (ha:EAc (y7_ X N' scope0 s H fp) B n elt gens scope pos (d+1) p a)(hs:∀x,foldedSetIterable iter (y7_ X N' scope0 s H fp).env x=pure x:=by intro _;rfl):
  EAc (y7_ X N' scope0 s H fp) B n elt gens scope pos d p (aIn mi g t a):=b2h (b9w (fun _ _ z=>z) hc hd hi hg ht ha hs) b9B
theorem b2k(ok:CompOk X N' scope keep more)(hc:X.calm=true)(hi:EI X B tg iter mi)(hg:∀s H fp,EG (y7_ X N' scope s H fp) B X.N.length tg g)(ht:∀s H fp,a0m (y7_ X N' scope s H fp) ifs (TTm X.K B t))
  (he:∀s H fp p,EAc (y7_ X N' scope s H fp) B X.N.length elt (⟨tg,iter,ifs,0⟩::gs) scope pos 0 p a)
  (hs:∀x,foldedSetIterable iter X.env x=pure x:=by intro _;rfl):EL X B (.ListComp elt (⟨tg,iter,ifs,0⟩::gs) scope pos) (a4b mi keep more g t a):=by
 intro pins s σ H Q I h;exact b9y (act:=TAc X.K B X.N.length a) ok hc hi hg ht (fun s H fp p=>he s H fp p) hs pins s σ H Q I (b9C ok.klen σ H Q I.len h)
end
section
variable{o:Expr}{mb:Mo D}
end
theorem b9D:PE X (.Dict [some (.Constant (.int i) x1 p1)] [.Constant (.int j) x2 p2] pos) (fun _ H Q=>∀p,H p=none->Q (.ref p) (upd H p (.dK [(.inl i,.int j)]))):=fun pins s σ H Q I h=>by
 refine wpAny_Dict_walk (knd:=a5A X.prog X.w) rfl rfl (by simp) (show 1≤15 by decide) (pairTrees_cons_walk (Xy (Xy (pairTrees_nil_walk ?_))))
 refine⟨[(.inl i,.int j (s.toks+1))],⟨by simp[a5A,a7b,Value.isInt],rfl,trivial⟩,Heap.DictOf.new s.heap,fun h' d sb=>?_⟩
 have hne:∀b u,s.heap.get? b=some u->b≠s.heap.objs.size:=fun b u e=>Qd (Qw e)
 refine⟨.ref s.heap.objs.size,_,I.laid (a:=s.heap.objs.size) (o:=.dK [(.inl i,.int j)]) (fun b u e=>(sb.2 b (hne b u e)).trans (Qx _ e)) (Qp _)
  ⟨show 1≤sizeLine by decide,Jg.mpr (Zy (Qd (b8g I))),_,.cons ⟨rfl,⟨_,rfl⟩⟩ .nil,d⟩,rfl,h _ (I.hok.fresh (Qp _))⟩
theorem b2l:ED X B (.Dict [some (.Constant (.int i) x1 p1)] [.Constant (.int j) x2 p2] pos) (mC .emp):=by
 refine pe_imp b9D ?_
 rintro σ H Q ⟨G,env,d,env',rl,e,k⟩;cases e;exact fun p hp=>k _ _ _ (rl.alloc hp) (by simp only[Rep];exact⟨p,_,rfl,y5_⟩)
abbrev a1h(h:Heap)(z TI TO:Addr)(p:Nat)(b:Bool):Prop:=h.get? z=some {cls:=.type "zip",dict:=none,data:=.fields #[rawInt p,.bool b,.bool false,.ref TI,.ref TO],slots:=#[]}
section
variable{prog:Program}{w:World}{A:Around}{c1 c2:Bool}
theorem b9E{M:Model}{a:Addr}{Q:Option Obj->Shared->Prop}(h:Q (s.heap.get? a) s):wpAny M A (loadIfAlive a) Q E s:=fun Γ p _=>by
 show Sem.wp M Γ (.loadIfAlive a .pure) _ _ p s;rw[Sem.wp_loadIfAlive];exact h
theorem b2m{TI TO:Addr}{p:Nat}{Q:Bool->Shared->Prop}(hz:a1h s.heap z TI TO p b)(ho:s.heap.get? p=some o)
  (hQ:∀h',a1h h' z TI TO p true->Heap.SameBut z s.heap h'->Q false {s with heap:=h'}):wpAny (model prog w) A (Builtin.SmallTypes.ownedTupleIsFree (.ref z)) Q E s:=by
 unfold Builtin.SmallTypes.ownedTupleIsFree;refine Qq (Zv hz rfl (x:=rawInt p) rfl ?_);show wpAny _ _ (loadIfAlive ((p:Int).toNat)>>=_) _ _ _;refine Qq (b9E ?_);rw[Yg,ho];show wpAny _ _ (field (.ref z) 1>>=_) _ _ _;refine Qq (Zv hz rfl (x:=.bool b) rfl ?_);cases b
 ·show wpAny _ _ (setField (.ref z) 1 (.bool true)>>=_) _ _ _
  exact Qq (Jk hz (by simp) fun g1 (z1:a1h g1 z TI TO p true) s1=>Qk (hQ g1 z1 s1))
 ·exact Qk (hQ s.heap hz ⟨rfl,fun _ _=>rfl⟩)
theorem b9F{TI TO l1 l2:Addr}{p:Nat}{Q:Value->Shared->Prop}(D:ZipApart z TI TO i1 i2 l1 l2)
  (hz:a1h s.heap z TI TO p b)(ho:s.heap.get? p=some o)(hTI:IsPair s.heap TI (.ref i1) (.ref i2))
  (h1:It1 c1 s.heap i1 l1 k1)(h2:It1 c2 s.heap i2 l2 k2)(hl1:Sq1 c1 s.heap l1 xs)(hl2:Sq1 c2 s.heap l2 ys)(hx:xs[k1]? =some x)(hy:ys[k2]? =some y)
  (hQ:∀h',a1h h' z TI TO p true->It1 c1 h' i1 l1 (k1+1)->It1 c2 h' i2 l2 (k2+1)->IsPair h' s.heap.objs.size x y->h'.objs.size=s.heap.objs.size+1->
   (∀c o,c≠z->c≠i1->c≠i2->s.heap.get? c=some o->h'.get? c=some o)->Q (.ref s.heap.objs.size) {s with heap:=h'}):
  wpAny (model prog w) A (Builtin.«zip.__next__» ⟨[.ref z],[]⟩) (fun fin s'=>∃v,fin=.done (.ret v)/\Q v s') E s:=by
 show wpAny _ _ (field (.ref z) 2>>=_) _ _ _;refine Qq (Zv hz rfl (x:=.bool false) rfl (Qq (Zv hz rfl (x:=.ref TI) rfl ?_)));refine Qq (Yb hTI rfl (Qq (b2m hz ho fun g1 z1 s1=>?_)))
 simp only[Qo,Zo];rw[←Array.forIn_toList];simp only[Xz,Vw];refine Qq (Qq (Qq (Yu (Qq (m:=Builtin.SmallTypes.nextOf (.ref i1)) ?_))));refine a3T (h1.but s1.extBut D.i1z) (hl1.but s1.extBut D.l1z) hx fun g2 a2 s2=>Qk (Qk ?_)
 refine Qq (Qq (Yu (Qq (m:=Builtin.SmallTypes.nextOf (.ref i2)) ?_)));refine a3T ((h2.but s1.extBut D.i2z).but s2.extBut D.i12.symm) ((hl2.but s1.extBut D.l2z).but s2.extBut D.l2i1) hy fun g4 a4 s4=>Qk (Qk ?_)
 refine Qk (Qq (wpAny_newTuple ?_ (by show 2≤sizeLine;decide)))
 have hsz:g4.objs.size=s.heap.objs.size:=by rw[s4.1,s2.1,s1.1]
 have z4:a1h g4 z TI TO p true:=s4.extBut _ _ D.i2z.symm (s2.extBut _ _ D.i1z.symm z1)
 have k4:∀c o,c≠z->c≠i1->c≠i2->s.heap.get? c=some o->g4.get? c=some o:=fun c o n1 n3 n4 e=>s4.extBut _ _ n4 (s2.extBut _ _ n3 (s1.extBut _ _ n1 e))
 have b1:It1 c1 g4 i1 l1 (k1+1):=a2.but s4.extBut D.i12
 refine Qk ⟨_,rfl,?_⟩;show Q (.ref g4.objs.size) _;rw[hsz];have t4:IsPair (g4.push {cls:=.type "tuple",data:=.seq #[x,y]}) g4.objs.size x y:=Qg _ rfl;rw[hsz]at t4;exact hQ _ (Qx _ z4) (b1.at' fun o e=>Qx _ e) (a4.at' fun o e=>Qx _ e) t4 (by rw[Zc,hsz]) fun c o n1 n2 n3 e=>Qx _ (k4 c o n1 n2 n3 e)
theorem b9G{TI TO l1 l2:Addr}{p:Nat}{Q:PySem.Fin->Shared->Prop}(hh:A.handled=none)(D:ZipApart z TI TO i1 i2 l1 l2)
  (hz:a1h s.heap z TI TO p b)(ho:s.heap.get? p=some o)(hTI:IsPair s.heap TI (.ref i1) (.ref i2))
  (h1:It1 c1 s.heap i1 l1 k1)(h2:It1 c2 s.heap i2 l2 k2)(hl1:Sq1 c1 s.heap l1 xs)(hl2:Sq1 c2 s.heap l2 ys)(hend:xs[k1]? =none∨ys[k2]? =none)
  (hE:∀h' e,(∀c o,c≠z->c≠i1->c≠i2->s.heap.get? c=some o->h'.get? c=some o)->(∃o,h'.get? e=some o/\o.cls=.type "StopIteration")->E (.ref e) {s with heap:=h'}):
  wpAny (model prog w) A (Builtin.«zip.__next__» ⟨[.ref z],[]⟩) Q E s:=by
 show wpAny _ _ (field (.ref z) 2>>=_) _ _ _;refine Qq (Zv hz rfl (x:=.bool false) rfl (Qq (Zv hz rfl (x:=.ref TI) rfl ?_)));refine Qq (Yb hTI rfl (Qq (b2m hz ho fun g1 z1 s1=>?_)))
 simp only[Qo,Zo];rw[←Array.forIn_toList];simp only[Xz,Vw];refine Qq (Qq (Qq (Yu (Qq (m:=Builtin.SmallTypes.nextOf (.ref i1)) ?_))));cases hx:xs[k1]? with
 |none=>
  refine a6l hh (h1.but s1.extBut D.i1z) (hl1.but s1.extBut D.l1z) hx fun g2 e s2 he=>?_
  exact hE g2 e (fun c o n1 n3 _ x=>s2 _ _ n3 (s1.extBut _ _ n1 x)) he
 |some x=>
  have hy:ys[k2]? =none:=by
   rcases hend with h|h
   ·rw[hx]at h;cases h
   ·exact h
  refine a3T (h1.but s1.extBut D.i1z) (hl1.but s1.extBut D.l1z) hx fun g2 a2 s2=>Qk (Qk ?_)
  refine Qq (Qq (Yu (Qq (m:=Builtin.SmallTypes.nextOf (.ref i2)) ?_)));refine a6l hh ((h2.but s1.extBut D.i2z).but s2.extBut D.i12.symm) ((hl2.but s1.extBut D.l2z).but s2.extBut D.l2i1) hy fun g4 e s4 he=>?_
  exact hE g4 e (fun c o n1 n3 n4 x=>s4 _ _ n4 (s2.extBut _ _ n3 (s1.extBut _ _ n1 x))) he
theorem b9H{TI TO l1 l2:Addr}{p:Nat}(D:ZipApart z TI TO i1 i2 l1 l2)
  (hz:a1h s.heap z TI TO p b)(ho:s.heap.get? p=some o)(hTI:IsPair s.heap TI (.ref i1) (.ref i2))
  (h1:It1 c1 s.heap i1 l1 k1)(h2:It1 c2 s.heap i2 l2 k2)(hl1:Sq1 c1 s.heap l1 xs)(hl2:Sq1 c2 s.heap l2 ys)(hx:xs[k1]? =some x)(hy:ys[k2]? =some y)
  (hQ:∀h',a1h h' z TI TO p true->It1 c1 h' i1 l1 (k1+1)->It1 c2 h' i2 l2 (k2+1)->IsPair h' s.heap.objs.size x y->h'.objs.size=s.heap.objs.size+1->
   (∀c o,c≠z->c≠i1->c≠i2->s.heap.get? c=some o->h'.get? c=some o)->Q (some (.ref s.heap.objs.size)) {s with heap:=h'}):
  wpAny (model prog w) A (pyNext (.ref z)) Q E s:=by
 have hT:s.TypeIs (.ref z) "zip":=⟨_,hz,rfl⟩
 unfold pyNext;exact Qq (Xf (Zr (name:=Str.ofString "__next__") hT Yv (Yl Yv hT Up
  (b9F D hz ho hTI h1 h2 hl1 hl2 hx hy fun h' a1 a3 a4 a5 a6 a7=>Qk (hQ h' a1 a3 a4 a5 a6 a7)) (Uz _))))
theorem b9I{TI TO l1 l2:Addr}{p:Nat}(hh:A.handled=none)(D:ZipApart z TI TO i1 i2 l1 l2)
  (hz:a1h s.heap z TI TO p b)(ho:s.heap.get? p=some o)(hTI:IsPair s.heap TI (.ref i1) (.ref i2))
  (h1:It1 c1 s.heap i1 l1 k1)(h2:It1 c2 s.heap i2 l2 k2)(hl1:Sq1 c1 s.heap l1 xs)(hl2:Sq1 c2 s.heap l2 ys)(hend:xs[k1]? =none∨ys[k2]? =none)
  (hQ:∀h',(∀c o,c≠z->c≠i1->c≠i2->s.heap.get? c=some o->h'.get? c=some o)->Q none {s with heap:=h'}):wpAny (model prog w) A (pyNext (.ref z)) Q E s:=by
 have hT:s.TypeIs (.ref z) "zip":=⟨_,hz,rfl⟩
 unfold pyNext;refine Qq (Xf (Zr (name:=Str.ofString "__next__") hT Yv (Yl Yv hT Up
  (b9G hh D hz ho hTI h1 h2 hl1 hl2 hend fun h' e hk he=>?_) (Uz _))))
 obtain⟨o,ho,hc⟩:=he;exact Qq (wpAny_isInstance (T:="StopIteration") (b:=true) ⟨o,ho,hc⟩ isSubtype_stop (Qk (hQ _ hk)))
end
theorem b9J:typeLookup (.type "zip") "__len__"=pure none:=by rw[typeLookup_type,builtinLookup_eq_fast];kernel_rfl
theorem b9K:typeLookup (.type "zip") "__length_hint__"=pure none:=by rw[typeLookup_type,builtinLookup_eq_fast];kernel_rfl
theorem b9L{o:HO}(I:Inv X pins σ H s)(f:w8_ X pins H p)(new:j5_ X.prog X.w (upd H p o) s.heap p o):Inv X pins σ (upd H p o) s:=by
 have hn:H p=none:=f.1
 refine I.step (h':=s.heap) (g':=s.gens) (d':=s.drawn) (t':=s.toks) (ch:=[p]) (fun b hb=>?_) (fun b o _ _ hc e _=>e) (fun b o _ _ hc e _=>⟨o.slots,e⟩) (fun b o hc e n=>by rw[q5_ (fun z=>hc (by simp[z]))];exact n)
  (fun b o hc e=>⟨o,e⟩) (fun b xs q=>by rw[q5_ (g4_ q hn)];exact q) (fun b u xs q=>by rw[q5_ (g4_ q hn)];exact q) (fun b ps e=>⟨#[],by rw[q5_ (g4_ e hn),e];simp⟩) (fun m hm=>hm) (fun b u e=>?_) I.bare
 ·obtain rfl:=Vj.mp hb
  exact⟨f.2.2.2.1,f.2.1,f.2.2.2.2.1,f.2.2.2.2.2⟩
 ·by_cases hb:b=p
  ·subst hb;rw[y5_]at e;cases e;exact new
  ·rw[q5_ hb]at e
   exact(I.hok b u e).stay (fun c v hc q=>q) (fun c q=>by rw[q5_ (g4_ q hn)];exact q) fun c xs q=>by rw[q5_ (g4_ q hn)];exact q
def b9M(c1 c2:Bool)(n l1 l2:Addr)(i:Nat)(H:Hp)(h:Heap):Prop:=
 (IsZip h (n+4) (n+2) (n+3) .none∨(∃p b xs,a1h h (n+4) (n+2) (n+3) p b/\H p=some (.tup xs)))/\(∃a b,IsPair h (n+3) a b)/\IsPair h (n+2) (.ref n) (.ref (n+1))/\It1 c1 h n l1 i/\It1 c2 h (n+1) l2 i
section
variable{A:Around}{R:Result->Shared->Prop}{c1 c2:Bool}{n l1 l2 S:Addr}{xs ys:List V}
theorem b9N(hh:A.handled=none)(res:Value)(hne:∀j,j<5->S≠n+j)
  (hJ:∀i H vs,J i H vs->SqA c1 X.K H l1 xs/\SqA c2 X.K H l2 ys)
  (hJs:∀i H vs p a b,J i H vs->H p=none->xs[i]? =some a->ys[i]? =some b->J (i+1) (upd H p (.tup [a,b])) (vs++[.ref p]))
  (hR:∀s' H' vs acc c,Inv X pins σ H' s'->w8_ X pins H' S->J (min xs.length ys.length) H' vs->q8_ vs acc->acc.length≤sizeLine->s'.heap.get? S=some {cls:=.type "list",data:=.seq acc.toArray c}->R (.ok (.ret res)) s'):
  ∀(k i:Nat) (s:Shared) (H:Hp) (vs:List V) (acc:List Value) (c:Nat),min xs.length ys.length-i=k->i≤min xs.length ys.length->Inv X pins σ H s->(∀b∈S::fp5 n,w8_ X pins H b)->b9M c1 c2 n l1 l2 i H s.heap->
   s.heap.get? S=some {cls:=.type "list",data:=.seq acc.toArray c}->acc.length=i->q8_ vs acc->J i H vs->
   codeAny (model X.prog X.w) A (.builtin "list.extend.loop" ⟨[.ref S,.ref (n+4),res],[]⟩) R s:=by
 intro k
 induction k with
 |zero=>
  intro i s H vs acc c hk hi I hf st hS hl hv hj;obtain⟨q1,q2⟩:=hJ i H vs hj;obtain⟨its,r1,p1,z1⟩:=a1b I q1;obtain⟨jts,r2,p2,z2⟩:=a1b I q2;have D:ZipApart (n+4) (n+2) (n+3) n (n+1) l1 l2:=apart
   (fun j hj=>a2z I (hf _ (Qs _ (a2d n hj))) q1)
   (fun j hj=>a2z I (hf _ (Qs _ (a2d n hj))) q2)
  have e1:=r1.length
  have e2:=r2.length
  have hend:its.toArray[i]? =none∨jts.toArray[i]? =none:=by
   by_cases h:its.length≤i
   ·exact .inl (by simp;omega)
   ·exact .inr (by simp;omega)
  obtain⟨hz,⟨a,b,hO⟩,hI,h1,h2⟩:=st;refine Xx PySem.F.entry_extend_loop ?_
  rw[Around.under_plainId Ji _];show wpAny _ A.in1 (pyNext (.ref (n+4))>>=_) _ _ s;have fin:∀h':Heap,(∀b o,b∉fp4 n->s.heap.get? b=some o->h'.get? b=some o)->R (.ok (.ret res)) {s with heap:=h'}:=fun h' kp=>by
   have I':Inv X pins σ H {s with heap:=h'}:=a6k (ch:=fp4 n) (t':=s.toks) I kp (fun c hc=>hf c (Qs _ (a6m hc)))
   refine hR _ H vs acc c I' (hf S (by simp)) ?_ hv (by omega) (kp _ _ (fun z=>?_) hS)
   ·rw[show min xs.length ys.length=i by omega];exact hj
   ·simp only[fp4,Ql,Zw,Yo]at z
    rcases z with z|z|z|z
    ·exact hne 4 (by decide) z
    ·exact hne 3 (by decide) z
    ·exact hne 0 (by decide) z
    ·exact hne 1 (by decide) z
  rcases hz with hz|⟨p,b,us,hz,hp⟩
  ·refine Qq (b1y (show A.in1.handled=none from hh) D hz hI hO h1 h2 p1 p2 hend fun h' hk=>Qk (fin h' fun c o hc e=>hk c o (fun z=>hc (by simp[z])) (fun z=>hc (by simp[z])) (fun z=>hc (by simp[z])) (fun z=>hc (by simp[z])) e))
  ·obtain⟨ob,hob⟩:=b1D (I.hok p _ hp)
   refine Qq (b9I (show A.in1.handled=none from hh) D hz hob hI h1 h2 p1 p2 hend fun h' hk=>Qk (fin h' fun c o hc e=>hk c o (fun z=>hc (by simp[z])) (fun z=>hc (by simp[z])) (fun z=>hc (by simp[z])) e))
 |succ k ih=>
  intro i s H vs acc c hk hi I hf st hS hl hv hj;obtain⟨q1,q2⟩:=hJ i H vs hj;obtain⟨its,r1,p1,z1⟩:=a1b I q1;obtain⟨jts,r2,p2,z2⟩:=a1b I q2;have D:ZipApart (n+4) (n+2) (n+3) n (n+1) l1 l2:=apart
   (fun j hj=>a2z I (hf _ (Qs _ (a2d n hj))) q1)
   (fun j hj=>a2z I (hf _ (Qs _ (a2d n hj))) q2)
  have ex:xs[i]? =some (xs[i]'(by omega)):=by simp
  have ey:ys[i]? =some (ys[i]'(by omega)):=by simp
  obtain⟨u,hu,ru⟩:=r1.get ex;obtain⟨v,hv',rv⟩:=r2.get ey;obtain⟨hz,⟨a,b,hO⟩,hI,h1,h2⟩:=st;have hsz:xs.length≤sizeLine:=z1;refine Xx PySem.F.entry_extend_loop ?_
  rw[Around.under_plainId Ji _];show wpAny _ A.in1 (pyNext (.ref (n+4))>>=_) _ _ s;have lt5:∀c∈S::fp5 n,c≠s.heap.objs.size:=fun c hc=>by
   have:∃o,s.heap.get? c=some o:=by
    rcases Ql.mp hc with rfl|hc
    ·exact⟨_,hS⟩
    ·simp only[fp5,Ql,Zw,Yo]at hc
     rcases hc with rfl|rfl|rfl|rfl|rfl
     ·rcases hz with hz|⟨_,_,_,hz,_⟩
      ·exact⟨_,hz⟩
      ·exact⟨_,hz⟩
     ·exact⟨_,hI⟩
     ·exact⟨_,hO⟩
     ·obtain⟨o,e,_⟩:=h1.get;exact⟨o,e⟩
     ·obtain⟨o,e,_⟩:=h2.get;exact⟨o,e⟩
   obtain⟨o,e⟩:=this;exact Qd (Qw e)
  have next:∀h':Heap,((∃p b us,a1h h' (n+4) (n+2) (n+3) p b/\(upd H s.heap.objs.size (.tup [xs[i]'(by omega),ys[i]'(by omega)])) p=some (.tup us)))->(∃a b,IsPair h' (n+3) a b)->It1 c1 h' n l1 (i+1)->It1 c2 h' (n+1) l2 (i+1)->IsPair h' s.heap.objs.size u v->h'.objs.size=s.heap.objs.size+1->
    (∀b o,b∉fp4 n->s.heap.get? b=some o->h'.get? b=some o)->
    wpAny (model X.prog X.w) A.in1 (Builtin.List.listUpdate (.ref S) (·.push (.ref s.heap.objs.size))>>=fun _=>again (.builtin "list.extend.loop" ⟨[.ref S,.ref (n+4),res],[]⟩))
     (fun fin s'=>match fin with|.done f=>R (.ok f) s'|.again c'=>c'.quiet=true/\codeAny (model X.prog X.w) A c' R s') (fun e s'=>R (.error e) s') {s with heap:=h'}:=fun h' zz oo a3 a4 a5 a6 kp=>by
   have hS':h'.get? S=some {cls:=.type "list",data:=.seq acc.toArray c}:=kp _ _ (fun z=>by
    simp only[fp4,Ql,Zw,Yo]at z
    rcases z with z|z|z|z
    ·exact hne 4 (by decide) z
    ·exact hne 3 (by decide) z
    ·exact hne 0 (by decide) z
    ·exact hne 1 (by decide) z) hS
   have I1:Inv X pins σ (upd H s.heap.objs.size (.tup [xs[i]'(by omega),ys[i]'(by omega)])) {s with heap:=h'}:=b1w (ch:=fp4 n) (t':=s.toks) I kp
    (fun c hc=>hf c (Qs _ (a6m hc))) (Qp _)
    ⟨by show 2≤sizeLine;decide,[u,v],.cons ru (.cons rv .nil),_,a5,rfl,rfl,0,rfl⟩
   have hf2:∀c∈S::fp5 n,w8_ X pins (upd H s.heap.objs.size (.tup [xs[i]'(by omega),ys[i]'(by omega)])) c:=fun c hc=>⟨by rw[q5_ (lt5 c hc)];exact(hf c hc).1,(hf c hc).2⟩
   show wpAny _ A.in1 (updateSeq S (·.push (.ref s.heap.objs.size))>>=_) _ _ _
   refine Qq ?_
   refine Xk hS' rfl (Qk ⟨plainId_quiet Ji _,?_⟩) (by rw[Qh];omega) (by show(acc.toArray.push _).size≤sizeLine+1;rw[Array.size_push,Qh];omega)
   have oth:∀b o,b∉[S]->h'.get? b=some o->(h'.update S (Obj.mapSeq (·.push (.ref s.heap.objs.size)))).get? b=some o:=fun b o hb e=>(Ys _ _ (fun h:S=b=>hb (by simp[h]))).trans e
   have I2:Inv X pins σ (upd H s.heap.objs.size (.tup [xs[i]'(by omega),ys[i]'(by omega)])) {s with heap:=h'.update S (Obj.mapSeq (·.push (.ref s.heap.objs.size)))}:=
    a6k (s:={s with heap:=h'}) (ch:=[S]) (t':=s.toks) I1 oth (fun b hb=>by obtain rfl:=Vj.mp hb;exact hf2 _ (by simp))
   have hS2:=Jj (Obj.mapSeq (·.push (Value.ref s.heap.objs.size))) hS' rfl
   have nS:∀j,j<5->(n+j:Nat)∉[S]:=fun j hj z=>hne j hj (Vj.mp z).symm
   refine ih (i+1) _ (upd H s.heap.objs.size (.tup [xs[i]'(by omega),ys[i]'(by omega)])) (vs++[.ref s.heap.objs.size]) (acc++[.ref s.heap.objs.size]) (c+1) (by omega) (by omega) I2 hf2 ⟨.inr ?_,?_,?_,?_,?_⟩ ?_ (by simp[hl]) (hv.append (.cons (show y2_ (.ref s.heap.objs.size) (.ref s.heap.objs.size)from rfl) .nil)) (hJs i H vs _ _ _ hj (I.hok.fresh (Qp _)) ex ey)
   ·obtain⟨p,b,us,h1,h2⟩:=zz
    exact⟨p,b,us,oth _ _ (nS 4 (by decide)) h1,h2⟩
   ·obtain⟨a,b,e⟩:=oo
    exact⟨a,b,oth _ _ (nS 3 (by decide)) e⟩
   ·exact oth _ _ (nS 2 (by decide)) (kp _ _ (fun z=>by
     simp only[fp4,Ql,Zw,Yo]at z
     rcases z with z|z|z|z<;>(revert z;show ¬ ((_:Nat)=_);omega)) hI)
   ·exact a3.at' fun o e=>oth _ _ (nS 0 (by decide)) e
   ·exact a4.at' fun o e=>oth _ _ (nS 1 (by decide)) e
   ·rw[hS2];simp[Obj.mapSeq]
  rcases hz with hz|⟨p,b,us,hz,hp⟩
  ·refine Qq (b1x D hz hI hO h1 h2 p1 p2 (x:=u) (y:=v) (by simpa using hu) (by simpa using hv') fun h' a1 a2 a3 a4 a5 a6 a7=>?_)
   exact next h' ⟨_,_,_,a1,y5_⟩ ⟨_,_,a2⟩ a3 a4 a5 a6 fun c o hc e=>a7 c o (fun z=>hc (by simp[z])) (fun z=>hc (by simp[z])) (fun z=>hc (by simp[z])) (fun z=>hc (by simp[z])) e
  ·obtain⟨ob,hob⟩:=b1D (I.hok p _ hp)
   refine Qq (b9H D hz hob hI h1 h2 p1 p2 (x:=u) (y:=v) (by simpa using hu) (by simpa using hv') fun h' a1 a3 a4 a5 a6 a7=>?_)
   exact next h' ⟨_,_,_,a1,by rw[q5_ (Qd (Qw hob))];exact hp⟩ ⟨_,_,a7 _ _ D.TOz D.TOi1 D.TOi2 hO⟩ a3 a4 a5 a6 fun c o hc e=>a7 c o (fun z=>hc (by simp[z])) (fun z=>hc (by simp[z])) (fun z=>hc (by simp[z])) e
theorem b9O{Q:Value->Shared->Prop}(hh:A.handled=none)(I:Inv X pins σ H s)(hn:∀b∈fp5 n,w8_ X pins H b)
  (hz:IsZip s.heap (n+4) (n+2) (n+3) .none)(hO:∃a b,IsPair s.heap (n+3) a b)(hI:IsPair s.heap (n+2) (.ref n) (.ref (n+1)))(h1:It1 c1 s.heap n l1 0)(h2:It1 c2 s.heap (n+1) l2 0)(hJ:∀i H vs,J i H vs->SqA c1 X.K H l1 xs/\SqA c2 X.K H l2 ys)
  (hJs:∀i H vs p a b,J i H vs->H p=none->xs[i]? =some a->ys[i]? =some b->J (i+1) (upd H p (.tup [a,b])) (vs++[.ref p]))(hj:J 0 H [])
  (hQ:∀s' H' S vs,Inv X pins σ (upd H' S (.lst vs)) s'->H' S=none->H S=none->J (min xs.length ys.length) H' vs->Q (.ref S) s'):
  wpAny (model X.prog X.w) A (call (.type "list") [.ref (n+4)]) Q E s:=by
 have lt5:∀c∈fp5 n,c<s.heap.objs.size:=fun c hc=>by
  have:∃o,s.heap.get? c=some o:=by
   simp only[fp5,Ql,Zw,Yo]at hc
   rcases hc with rfl|rfl|rfl|rfl|rfl
   ·exact⟨_,hz⟩
   ·exact⟨_,hI⟩
   ·obtain⟨a,b,e⟩:=hO;exact⟨_,e⟩
   ·obtain⟨o,e,_⟩:=h1.get;exact⟨o,e⟩
   ·obtain⟨o,e,_⟩:=h2.get;exact⟨o,e⟩
  obtain⟨o,e⟩:=this;exact Qw e
 have hSn:∀j,j<5->s.heap.objs.size≠n+j:=fun j hj=>Ua (lt5 _ (a2d n hj))
 refine callType_codes (Q₁:=fun obj s₁=>obj=.ref s.heap.objs.size/\s₁={s with heap:=s.heap.push {cls:=.type "list",data:=.seq #[]}}) PySem.F.called_list (PySem.F.typeCall_list_1 _) PySem.F.entry_list_init
  (code_list_new _ ⟨rfl,rfl⟩) fun obj s₁ h₁=>?_
 obtain⟨rfl,rfl⟩:=h₁;have hS:(s.heap.push {cls:=.type "list",data:=.seq #[]}).get? s.heap.objs.size=some {cls:=.type "list",data:=.seq #[]}:=Qg _ rfl;refine⟨⟨_,hS,rfl⟩,PySem.F.args_list_init_2 _ _,?_⟩;show wpAny _ A.in1.in1 (do let old←Builtin.List.listItems (.ref s.heap.objs.size);Builtin.List.listUpdate (.ref s.heap.objs.size) (fun _=>#[]);letGo old.toList.reverse;Builtin.List.listExtendWith (.ref s.heap.objs.size) (.ref (n+4)) .none) _ _ _
 refine Qq ?_
 unfold Builtin.List.listItems;refine Qq (Yb hS rfl (Qk ?_));show wpAny _ A.in1.in1 (updateSeq s.heap.objs.size (fun _=>#[])>>=fun _=>letGo (#[]:Array Value).toList.reverse>>=fun _=>Builtin.List.listExtendWith (.ref s.heap.objs.size) (.ref (n+4)) .none) _ _ _
 refine Qq (Xk hS rfl ?_);have hS₂:=Jj (Obj.mapSeq (fun _=>(#[]:Array Value))) hS rfl
 have oth₂:∀b o,b≠s.heap.objs.size->s.heap.get? b=some o->((s.heap.push {cls:=.type "list",data:=.seq #[]}).update s.heap.objs.size (Obj.mapSeq (fun _=>(#[]:Array Value)))).get? b=some o:=
  fun b o hb e=>(Ys _ _ (Zy hb)).trans (Qx _ e)
 generalize (s.heap.push {cls:=.type "list",data:=.seq #[]}).update s.heap.objs.size (Obj.mapSeq (fun _=>(#[]:Array Value)))=g2 at hS₂ oth₂ ⊢
 refine Qq (wpAny_letGo ?_);have k2:∀b o,s.heap.get? b=some o->g2.get? b=some o:=fun b o e=>oth₂ b o (Qd (Qw e)) e
 have hT2:Shared.TypeIs {s with heap:=g2} (.ref (n+4)) "zip":=⟨_,k2 _ _ hz,rfl⟩
 unfold Builtin.List.listExtendWith;refine Qq (Va hT2 ?_);have e1:Builtin.List.listSameRef (.ref s.heap.objs.size) (.ref (n+4))=false:=by simp[Builtin.List.listSameRef];exact hSn 4 (by decide)
 have e2:(Value.type "zip"==Value.type "list")=false:=by decide
 have e3:(Value.type "zip"==Value.type "tuple")=false:=by decide
 simp only[e1,e2,e3,Bool.or_false,Qo,Zo];refine Qq (wpAny_pyIter_zip (s:={s with heap:=g2}) (k2 _ _ hz) ?_)
 refine Qq (Yu ?_);unfold Builtin.List.listLengthHint;refine Qq (wpAny_specialOf hT2 b9J ?_);show wpAny _ A.in1.in1 (specialOf (Value.ref (n+4)) (Str.ofString "__length_hint__")>>=_) _ _ _;refine Qq (wpAny_specialOf hT2 b9K ?_);refine Qk ?_
 show wpAny _ A.in1.in1 (rule "list.extend.makes-room">>=fun _=>Builtin.List.listTouch (.ref s.heap.objs.size)>>=fun _=>
  again (.builtin "list.extend.loop" ⟨[.ref s.heap.objs.size,.ref (n+4),.none],[]⟩)) _ _ _
 refine Qq (Uf ?_);refine Qq ?_
 show wpAny _ A.in1.in1 (updateSeq s.heap.objs.size (·.push .none)>>=fun _=>updateSeq s.heap.objs.size (·.pop)) _ _ _
 refine Qq (Xk hS₂ rfl ?_);have hS₃:=Jj (Obj.mapSeq (·.push Value.none)) hS₂ rfl
 refine Xk (hz:=by seq_fits) hS₃ rfl ?_
 have hS₄:=Jj (Obj.mapSeq (·.pop)) hS₃ rfl
 have oth:∀b o,b≠s.heap.objs.size->g2.get? b=some o->((g2.update s.heap.objs.size (Obj.mapSeq (·.push Value.none))).update s.heap.objs.size (Obj.mapSeq (·.pop))).get? b=some o:=
  fun b o hb e=>(Ys _ _ (Zy hb)).trans ((Ys _ _ (Zy hb)).trans e)
 generalize ((g2.update s.heap.objs.size (Obj.mapSeq (·.push Value.none))).update s.heap.objs.size (Obj.mapSeq (·.pop)))=g4 at hS₄ oth ⊢
 have k4:∀b o,s.heap.get? b=some o->g4.get? b=some o:=fun b o e=>oth b o (Qd (Qw e)) (k2 b o e)
 have I4:Inv X pins σ H {s with heap:=g4}:=I.kept (t':=s.toks) k4
 have hf4:∀b∈s.heap.objs.size::fp5 n,w8_ X pins H b:=fun b hb=>by
  rcases Ql.mp hb with rfl|hb
  ·exact I.fpOk (Qp _) (I.hok.fresh (Qp _))
  ·exact hn b hb
 refine Qk ⟨plainId_quiet Ji _,b9N (J:=J) (A:=A.in1) (c1:=c1) (c2:=c2) (xs:=xs) (ys:=ys) (show A.in1.handled=none from hh) .none hSn hJ hJs ?_ (min xs.length ys.length-0) 0 {s with heap:=g4} H [] [] _ rfl (Jt _) I4 hf4 ⟨.inl (k4 _ _ hz),?_,k4 _ _ hI,h1.at' fun o e=>k4 _ o e,h2.at' fun o e=>k4 _ o e⟩ hS₄ rfl .nil hj⟩
 ·intro s' H' vs acc c I' f' hj' hv hz' hl
  refine⟨rfl,hQ s' H' s.heap.objs.size vs (b9L I' f' ⟨?_,acc,c,hv,hl⟩) f'.1 (I.hok.fresh (Qp _)) hj'⟩;rw[hv.length];exact hz'
 ·obtain⟨a,b,e⟩:=hO
  exact⟨a,b,k4 _ _ e⟩
end
section
variable{a b:Expr}
theorem b9P(xs ys:List D)(i:Nat){a b:D}(h1:xs[i]? =some a)(h2:ys[i]? =some b):(g3_ xs ys).take (i+1)=(g3_ xs ys).take i++[.tup [a,b]]:=by
 have:(g3_ xs ys)[i]? =some (.tup [a,b]):=by
  unfold g3_;rw[Zj,List.getElem?_zip_eq_some.mpr (⟨h1,h2⟩:xs[i]? =some (a,b).1/\ys[i]? =some (a,b).2)];rfl
 rw[List.take_add_one,this];rfl
theorem b2n{pos2:Pos}(hc:X.calm=true)(hgl:Gl X "list")(hml:X.mg "list"=none)(hg:Gl X "zip")(hm:X.mg "zip"=none)(ha:EDs X B [a,b] ms)
  (hs:starEach [a,b] X.env=[(false,eval a X.env),(false,eval b X.env)]:=by rfl)(hs2:starEach [b] X.env=[(false,eval b X.env)]:=by rfl):EL X B (.Call (.Name "list" p1) [.Call (.Name "zip" p2) [a,b] [] pos2] [] pos) (a0c ms):=by
 intro pins s σ H Q I h;obtain⟨G,env,ds,env',rl,e,k⟩:=h;obtain⟨⟨ds',env1⟩,e1,e2⟩:=q2_ e;dsimp only at e2;split at e2
 case h_2=>cases e2
 rename_i d1 d2;obtain⟨xs,e3,e4⟩:=q2_ e2;obtain⟨ys,e5,e6⟩:=x4_ e4;cases e6;have hh:X.A.handled=none:=I.ok.hd hc;refine Yc (a2s I hgl hml b1G (Yw (e:=.Call (.Name "zip" p2) [a,b] [] pos2) (rest:=[]) ?_ rfl rfl));show wpAny _ _ (spliced ((false,eval (.Call (.Name "zip" p2) [a,b] [] pos2) X.env)::backTo pos (starEach [] X.env))) _ _ s;refine Xp ?_
 refine Yc (a2s I hg hm b1C (Yw (thn (ha pos2 pins s σ H (fun vs H1=>∃G1,Ev X.K B G σ env H G1 σ env' H1/\z9_ X.K G1 vs [d1,d2]) I ⟨G,env,_,_,rl,e1,fun vs G1 H1 ev r=>⟨G1,ev,r⟩⟩) fun us s1 ⟨vs,H1,I1,r1,q1⟩=>?_) (by rw[hs,hs2]) (by rw[hs2];rfl)))
 obtain⟨G1,ev,r⟩:=q1;obtain⟨v,w,rfl,t1,t2⟩:=a3f r;obtain⟨c1,l1,vx,rfl,q1,t1⟩:=a6n t1 e3;obtain⟨c2,l2,vy,rfl,q2,t2⟩:=a6n t2 e5;obtain⟨u,v,rfl,ru,rv⟩:=a3a r1;cases ru;cases rv;obtain⟨its,r1,p1,_⟩:=a1b I1 (ev.rel.sub.sqA q1);obtain⟨jts,r2,p2,_⟩:=a1b I1 (ev.rel.sub.sqA q2);refine b1B p1 p2 fun h' a1 a2 a3 a4 a5 a6 a7=>Calls.spliced_nil ?_
 have lz:(g3_ xs ys).length=min vx.length vy.length:=by rw[t1.length,t2.length];simp[g3_]
 refine b9O (J:=fun i H2 vs=>∃G2,Ev X.K B G σ env H G2 σ env' H2/\Le G1 G2/\z9_ X.K G2 vs ((g3_ xs ys).take i)) (xs:=vx) (ys:=vy) (c1:=c1) (c2:=c2) (l1:=l1) (l2:=l2) (n:=s1.heap.objs.size) hh (I1.kept (t':=s1.toks) a7) (fun c hc=>?_) a1 ⟨_,_,a3⟩ a2 a4 a5 ?_ ?_ ⟨G1,ev,Le.refl,by simp[repL_nil]⟩ ?_
 ·have hle:s1.heap.objs.size≤c:=le5 hc
  exact I1.fpOk hle (I1.hok.fresh hle)
 ·rintro i H2 vs ⟨G2,ev2,le,_⟩
  exact⟨ev2.rel.sub.sqA (le.sqA q1),ev2.rel.sub.sqA (le.sqA q2)⟩
 ·rintro i H2 vs p a b ⟨G2,ev2,le,rr⟩ hp ea eb
  obtain⟨da,f1,ra⟩:=t1.get' ea;obtain⟨db,f2,rb⟩:=t2.get' eb;have ev3:=ev2.trans (ev2.rel.alloc (o:=.tup [a,b]) hp);have gp:G2 p=none:=by
   cases q:G2 p with
   |none=>rfl
   |some o=>rw[ev2.rel.sub p o q]at hp;cases hp
  have le3:Le G2 (upd G2 p (.tup [a,b])):=Le.upd gp
  refine⟨_,ev3,le.trans le3,?_⟩;rw[b9P xs ys i f1 f2];exact(rr.mono le3).append (repL_cons (a1V y5_ (repL_cons (Rep.mono (le.trans le3) _ ra) (repL_cons (Rep.mono (le.trans le3) _ rb) repL_nil))) repL_nil)
 ·rintro s' H' S vs I' hS hS0 ⟨G2,ev2,le,rr⟩
  refine⟨.ref S,_,I',rfl,?_⟩;have rr':z9_ X.K G2 vs (g3_ xs ys):=by
   have:(g3_ xs ys).take (min vx.length vy.length)=g3_ xs ys:=by rw[←lz,List.take_length]
   rw[this]at rr;exact rr
  exact a5T ev2 hS rr' k
end
section
variable{prog:Program}{w:World}{A:Around}
end
section
variable{es:List Expr}{gs:List D->Env'->Option Env'}
end
section
variable{K:Qz}{G:Hp}
def a8l(K:Qz)(H:Hp)(b:Addr)(k:List Int):Prop:=H b=some (.tup ((a4B k).map kV))∨a5M K b (a4B k)
theorem a8l.mono{H':Hp}{b:Addr}{k:List Int}(l:Le H H')(h:a8l K H b k):a8l K H' b k:=h.imp (fun e=>l _ _ e) id
end
section
variable{a b:Addr}{A:Around}{kvs:List (List Key×V)}
end
section
variable{K:Qz}{G:Hp}
end
section
variable{a b:Expr}{mb:Mo D}
end
section
variable{p:Pos}{es:List Expr}
end
section
variable{K:Qz}{G G1 G2:Hp}{env env1:Env'}{H1 H2:Hp}{vs:List V}{ds:List D}{a:Addr}
end
section
variable{p:Pos}{es:List Expr}{fn:Fn}{k n:Nat}{x:Str}
end
end L2.Mir
namespace L2.Mir
open PySem PySem.Spec PyProof.Rows
variable{B:Addr->Prop}{X:Cx}{pos:Pos}
def b9Q:D->Option Str
 |.str x=>if x.length≤1000 then some x else none
 |.int i=>if-1000000000000000000<i/\i<1000000000000000000 then some (Str.ofString (toString i))else none
 |_=>none
def b2o:List D->Option Str
 |[]=>some Str.empty
 |d::ds=>(b9Q d).bind fun x=>(b2o ds).map fun y=>x++y
section
variable{p:Pos}{e:Expr}{vs:List Expr}{ma:Mo D}{ms:Mo (List D)}
def PJ(X:Cx)(B:Addr->Prop)(vs:List Expr)(ms:Mo (List D)):Prop:=∀(pins:List (Addr×Obj)) (s:Shared) (σ:St) (H:Hp) (acc:Str) (Q:Str->Hp->Prop),Inv X pins σ H s->
 (∃G env ds env' y,Rel X.K B G σ env H/\ms env=some (ds,env')/\b2o ds=some y/\acc.length+1000 * ds.length≤sizeLine/\∀G' H',Ev X.K B G σ env H G' σ env' H'->Q (acc++y) H')->
 Joins (model X.prog X.w) X.A X.xe (evalEach vs X.env) acc (fun out s1=>∃H',Inv X pins σ H' s1/\Q out H') s
end
section
variable{N':List Str}{scope:Scope}{keep:List Bool}{more:Nat}{tg iter elt:Expr}{ifs:List Expr}{gs:List Comprehension}{g:TG}{tt:TT}{act:Addr->a1r}
end
section
variable{N':List Str}{scope scope0:Scope}{keep:List Bool}{more n d:Nat}{tg iter elt:Expr}{ifs:List Expr}{gens gs:List Comprehension}{g:D->Env'->Option Env'}{t:Mo Bool}{m:Mo D}{mi:Mo (List D)}{a:Mo (List D)}{s:Shared}{H:Hp}{fp:List Addr}{p:Addr}
end
inductive NamesAt (X:Cx):List Expr->List Nat->Prop
 |nil:NamesAt X [] []
 |cons {x:Str}{p:Pos}{i:Nat}{es:List Expr}{is:List Nat}:PE X (.Name x p) (a0r i)->NamesAt X es is->NamesAt X (.Name x p::es) (i::is)
def TVs(is:List Nat):TA:=fun σ H Q=>∃vs,Paired (fun i v=>σ[i]? =some (some v)) is vs/\Q vs H
theorem b2p{X:Cx}:∀{es:List Expr}{is:List Nat},NamesAt X es is->PA X es (TVs is)
 |_,_,.nil=>pa_imp a3b fun σ H Q ⟨vs,h,q⟩=>by cases h;exact q
 |_,_,.cons h t=>pa_imp (a1l h (b2p t) rfl) fun σ H Q ⟨vs,h,q⟩=>by
  cases h with
  |cons h1 h2=>exact⟨_,h1,_,h2,q⟩
section
variable{K:Qz}{G:Hp}{σ:St}{env:Env'}{H:Hp}
open Classical in
theorem b9R{vs:List V}{ds:List D}{a:Addr}:¬ Owned (vs.map some) (ds.map W.dat) a:=by
 rintro⟨i,w,m,e1,e2,_⟩;rw[Zj]at e1;cases q:ds[i]? with
 |none=>rw[q]at e1;cases e1
 |some d=>rw[q]at e1;cases e1;cases e2
end
section
variable{p:Pos}{e:Expr}{es:List Expr}{is:List Nat}{fn:Fn}{k n:Nat}{x:Str}
end
end L2.Mir
namespace L2.Mir
open PySem PyProof PyProof.Rows L2
variable{B:Addr->Prop}{E:XK}{G G0 H H0:Hp}{X:Cx}{b:Addr}{e ei ej:Expr}{env':Env'}{h:Heap}{i j n r:Nat}{ks rows:List (List Int)}{p p1 p2 pos py:Pos}{s:Shared}{v:V}{vs:List Value}{x y:Str}{xs:List V}{α β:Type}{σ σ0:St}
variable{X:Cx}{B:Addr->Prop}
inductive RowsAre (h:Heap):List Value->List (List Int)->Prop
 |nil:RowsAre h [] []
 |cons {a:Addr}{its:Array Value}{k:List Int}{vs:List Value}{ks:List (List Int)}(t:IsTup h a its) (i:IntsAre its.toList k) (r:RowsAre h vs ks):RowsAre h (.ref a::vs) (k::ks)
theorem RowsAre.length(r:RowsAre h vs ks):vs.length=ks.length:=by
 induction r with
 |nil=>rfl
 |cons _ _ _ ih=>simp[ih]
theorem a6w:∀ns:List Int,PyData.canLayAll0 (ns.map PyData.int)=true
 |[]=>rfl
 |n::ns=>by simp[PyData.canLayAll0,PyData.canLay0,a6w ns]
section
open PySem.SeqAt
open PySem.AutoSeq1 (wpAny_loadPart')
open PySem.MeetsSeq PySem.MeetsSeq2 PySem.MeetsSeq3
end
section
variable{prog:Program}{w:World}{A:Around}{E:Value->Shared->Prop}
end
section
variable{pins:List (Addr×Obj)}
end
section
variable{st:Expr}{ma:Mo D}
end
theorem RowsAre.mono{h':Heap}(f:∀a its,IsTup h a its->IsTup h' a its)(r:RowsAre h vs ks):RowsAre h' vs ks:=by
 induction r with
 |nil=>exact .nil
 |cons t i _ ih=>exact .cons (f _ _ t) i ih
section
variable{prog:Program}{w:World}{A:Around}{E:Value->Shared->Prop}
variable{h₀:Heap}{L kS D:Addr}{m:Str->Option Value}{news0:List (Addr×Obj)}{e1:Nat}{Fin:List Value->Nat->Shared->Prop}
end
section
variable{pins:List (Addr×Obj)}
end
section
variable{ma:Mo D}{kp1 kp2:Pos}
end
section
open PySem.SeqAt
open PySem.AutoSeq1 (wpAny_loadPart')
open PySem.MeetsSeq PySem.MeetsSeq2 PySem.MeetsSeq3
end
section
variable{o:Expr}{ma mb:Mo D}
end
abbrev Ro:=Option (List (List Int))
abbrev MoN(α:Type):=Env'->Ro->Option (α×Env'×Ro)
theorem a8m{R R':α->β->Prop}{as:List α}{bs:List β}(h:Paired R as bs):(∀a∈as,∀b,R a b->R' a b)->Paired R' as bs:=by
 induction h with
 |nil=>intro _;exact .nil
 |cons r _ ih=>intro f;exact .cons (f _ (Zd ..) _ r) (ih fun a ha=>f a (Qs _ ha))
theorem a8n{R:α->β->Prop}{as:List α}{bs:List β}(h:Paired R as bs):∀{a},a∈as->∃b,R a b:=by
 induction h with
 |nil=>intro a ha;cases ha
 |cons r _ ih=>
  intro a ha
  rcases Ql.mp ha with rfl|ha
  ·exact⟨_,r⟩
  ·exact ih ha
theorem b9S{R:α->β->Prop}{as:List α}{bs:List β}(h:Paired R as bs):∀{i:Nat}{b:β},bs[i]? =some b->∃a,as[i]? =some a/\R a b:=by
 induction h with
 |nil=>intro i b e;simp at e
 |cons r _ ih=>
  intro i b e;cases i with
  |zero=>simp at e;subst e;exact⟨_,rfl,r⟩
  |succ i=>simpa using ih (i:=i) (by simpa using e)
theorem a8o{R:α->β->Prop}{as:List α}{bs:List β}(h:Paired R as bs):as.length=bs.length:=by
 induction h with
 |nil=>rfl
 |cons _ _ ih=>simp[ih]
def a4c(H0 G:Hp)(σ:St)(env:Env')(H:Hp)(bs:List Addr)(rows:List (List Int)):Prop:=
 Paired (fun b row=>H b=some (.lst (row.map V.int))) bs rows/\∀b∈bs,H0 b=none/\G b=none/\ ¬ Owned σ env b
def Nst(H0 G:Hp)(σ:St)(env:Env')(H:Hp)(r:Nat)(rows:List (List Int)):Prop:=
 ∃a bs,σ[r]? =some (some (V.ref a))/\H a=some (.lst (bs.map V.ref))/\(a::bs).Nodup/\a4c H0 G σ env H bs rows/\H0 a=none/\G a=none/\ ¬ Owned σ env a
def NO(H0 G:Hp)(σ:St)(env:Env')(H:Hp)(r:Nat):Ro->Prop
 |none=>True
 |some rows=>Nst H0 G σ env H r rows
section
variable{K:Qz}{G':Hp}{σ':St}{env:Env'}{H':Hp}
theorem a2L(ev:Ev K B G σ env H G' σ' env' H')(h:H b=some (.lst xs))(g:G b=none)(no:¬ Owned σ env b):H' b=some (.lst xs)/\G' b=none/\ ¬ Owned σ' env' b:=
 ⟨ev.keep b _ no nt_lst h,ev.stay b (by rw[h];simp) no g,fun z=>(ev.sub b z).elim no fun e=>by rw[h]at e;cases e⟩
theorem a4c.step{bs:List Addr}(l:a4c H0 G σ env H bs rows)(ev:Ev K B G σ env H G' σ' env' H'):a4c H0 G' σ' env' H' bs rows:=by
 obtain⟨h1,h2⟩:=l;refine⟨a8m h1 fun b hb row e=>(a2L ev e (h2 b hb).2.1 (h2 b hb).2.2).1,fun b hb=>?_⟩
 obtain⟨row,e⟩:=a8n h1 hb;have:=a2L ev e (h2 b hb).2.1 (h2 b hb).2.2;exact⟨(h2 b hb).1,this.2⟩
theorem NO.step{q:Ro}(n:NO H0 G σ env H r q)(ev:Ev K B G σ env H G' σ' env' H')(hr:σ'[r]? =σ[r]?):NO H0 G' σ' env' H' r q:=by
 cases q with
 |none=>trivial
 |some rows=>
  obtain⟨a,bs,h1,h2,h3,h4,h5,h6,h7⟩:=n;have:=a2L ev h2 h6 h7;exact⟨a,bs,hr.trans h1,this.1,h3,h4.step ev,h5,this.2⟩
theorem Ev.poke{env0:Env'}{ys:List V}(ev:Ev K B G0 σ0 env0 H0 G σ env H)(h0:H0 b=none)(g:G b=none)(no:¬ Owned σ env b)(h:H b=some (.lst xs)):Ev K B G0 σ0 env0 H0 G σ env (upd H b (.lst ys)):=by
 have live':∀c,H c≠none->(upd H b (.lst ys)) c≠none:=fun c hc=>by
  by_cases hb:c=b
  ·subst hb;rw[y5_];simp
  ·rw[q5_ hb];exact hc
 refine⟨⟨fun c u e=>?_,ev.rel.len,ev.rel.dat,fun i w m e1 e2=>?_,ev.rel.inj,ev.rel.fresh,fun c hc=>live' c (ev.rel.old c hc),ev.rel.tabs.upd nt_lst (fun φ z=>by rw[h]at z;cases z),ev.rel.gnt⟩,ev.same,fun c u n t e=>?_,fun c e=>live' c (ev.live c e),fun c e n gg=>ev.stay c e n gg,ev.sub,ev.par,ev.slen⟩
 ·rw[q5_ (fun z=>by rw[z,g]at e;cases e)];exact ev.rel.sub c u e
 ·obtain⟨a,o,q1,q2,q3,q4⟩:=ev.rel.own i w m e1 e2
  exact⟨a,o,q1,by rw[q5_ (fun z=>no (by rw[←z];exact⟨i,w,m,e1,e2,q1⟩))];exact q2,q3,q4⟩
 ·rw[q5_ (fun z=>by rw[z,h0]at e;cases e)];exact ev.keep c u n t e
end
def a0x(r:Nat)(env:Env'):Bool:=match env[r]? with
 |some .nil=>true
 |_=>false
theorem a1J{env:Env'}(h:a0x r env=true):env[r]? =some .nil:=by
 unfold a0x at h;split at h
 ·assumption
 ·cases h
section
variable(K:Qz)(B:Addr->Prop)(r:Nat)
def a6x(G0:Hp)(σ0:St)(env0:Env')(H0 G:Hp)(env':Env')(q':Ro)(D:Ends):Fl->Prop
 |.nx=>∀σ' G' H',Ev K B G0 σ0 env0 H0 G' σ' env' H'->Le G G'->env'[r]? =some .nil->NO H0 G' σ' env' H' r q'->D.nx σ' H'
 |fl=>Post K B G0 σ0 env0 H0 env' D fl
theorem a6x.after{env0:Env'}{G1:Hp}{q':Ro}{D:Ends}{fl:Fl}(k:a6x K B r G0 σ0 env0 H0 G env' q' D fl)(l:Le G G1):a6x K B r G0 σ0 env0 H0 G1 env' q' D fl:=by
 cases fl with
 |nx=>exact fun σ' G' H' ev l' hn n=>k σ' G' H' ev (l.trans l') hn n
 |bk=>exact k
 |ct=>exact k
 |ret d=>exact k
 |retL d=>exact k
def TN(m:MoN Fl):TS:=fun D σ H=>∃G0 σ0 env0 H0 G env q fl env' q',Ev K B G0 σ0 env0 H0 G σ env H/\env[r]? =some .nil/\NO H0 G σ env H r q/\m env q=some (fl,env',q')/\a6x K B r G0 σ0 env0 H0 G env' q' D fl
def TDn(m:Env'->Ro->Option (D×Env')):TE:=fun σ H Q=>∃H0 G env q d env',Rel K B G σ env H/\env[r]? =some .nil/\NO H0 G σ env H r q/\m env q=some (d,env')/\∀v G' H',Ev K B G σ env H G' σ env' H'->Rep K G' v d->Q v H'
end
abbrev EN(X:Cx)(B:Addr->Prop)(r:Nat)(e:Expr)(m:Env'->Ro->Option (D×Env')):Prop:=PE X e (TDn X.K B r m)
abbrev NS(X:Cx)(B:Addr->Prop)(r:Nat)(s:Stmt)(m:MoN Fl):Prop:=PS X s (TN X.K B r m)
abbrev NSs(X:Cx)(B:Addr->Prop)(r:Nat)(s:List Stmt)(m:MoN Fl):Prop:=PSs X s (TN X.K B r m)
section
variable{a b:Expr}{st:Stmt}{rest:List Stmt}
def a6y(r:Nat)(m:MoN Fl):Mo Fl:=fun env=>if a0x r env then(m env none).map fun p=>(p.1,p.2.1)else none
theorem b2q(h:NSs X B r rest m):ESs X B rest (a6y r m):=by
 refine pss_imp h ?_
 rintro D σ H ⟨G,env,fl,env',rl,e,k⟩;unfold a6y at e;split at e
 case isFalse=>cases e
 rename_i hn;obtain⟨⟨fl',env1,q'⟩,e1,e2⟩:=x4_ e;injection e2 with h1 h2
 subst h1 h2;refine⟨G,σ,env,H,G,env,none,fl',env1,q',.refl rl,a1J hn,trivial,e1,?_⟩;cases fl' with
 |nx=>exact fun σ' G' H' ev _ _ _=>k σ' G' H' ev
 |bk=>exact k
 |ct=>exact k
 |ret d=>exact k
 |retL d=>exact k
def a4d(m:Mo D):Env'->Ro->Option (D×Env'):=fun env _=>m env
theorem b2r{m:Mo D}(h:ED X B e m):EN X B r e (a4d m):=pe_imp h fun σ H Q ⟨H0,G,env,q,d,env',rl,hn,n,em,k⟩=>⟨G,env,d,env',rl,em,k⟩
def a0y(m n:MoN Fl):MoN Fl:=fun env q=>(m env q).bind fun p=>match p.1 with
 |.nx=>n p.2.1 p.2.2
 |_=>some p
theorem a3s{s1 s2:MoN Fl}(h1:NS X B r st s1)(h2:NSs X B r rest s2):NSs X B r (st::rest) (a0y s1 s2):=by
 refine pss_imp (a2X h1 h2) ?_
 rintro D σ H ⟨G0,σ0,env0,H0,G,env,q,fl,env',q',ev,hn,n,e,k⟩;obtain⟨⟨fl1,env1,q1⟩,e1,e2⟩:=q2_ e;dsimp only at e2;cases fl1 with
 |nx=>exact⟨G0,σ0,env0,H0,G,env,q,.nx,env1,q1,ev,hn,n,e1,fun σ' G' H' ev' l' hn' n'=>⟨G0,σ0,env0,H0,G',env1,q1,fl,env',q',ev',hn',n',e2,k.after _ _ _ l'⟩⟩
 |bk=>cases e2;exact⟨G0,σ0,env0,H0,G,env,q,.bk,_,_,ev,hn,n,e1,k⟩
 |ct=>cases e2;exact⟨G0,σ0,env0,H0,G,env,q,.ct,_,_,ev,hn,n,e1,k⟩
 |ret d=>cases e2;exact⟨G0,σ0,env0,H0,G,env,q,.ret d,_,_,ev,hn,n,e1,k⟩
 |retL d=>cases e2;exact⟨G0,σ0,env0,H0,G,env,q,.retL d,_,_,ev,hn,n,e1,k⟩
theorem a6z{s1:MoN Fl}(h1:NS X B r st s1):NSs X B r [st] s1:=a7f h1
def nxN:MoN Fl:=fun env q=>some (.nx,env,q)
theorem b2s:NSs X B r [] nxN:=by
 refine pss_imp b0g ?_
 rintro D σ H ⟨G0,σ0,env0,H0,G,env,q,fl,env',q',ev,hn,n,e,k⟩;cases e;exact k σ G H ev Le.refl hn n
def ifN(t:Mo Bool)(m n:MoN Fl):MoN Fl:=fun env q=>(t env).bind fun p=>if a0x r p.2 then(if p.1 then m p.2 q else n p.2 q)else none
theorem b2t{c:Expr}{s t:List Stmt}{tc:Mo Bool}{s1 s2:MoN Fl}(hc:ET X B c tc)(h1:NSs X B r s s1)(h2:NSs X B r t s2):NS X B r (.If c s t pos) (ifN (r:=r) tc s1 s2):=by
 refine ps_imp (a7i hc h1 h2) ?_
 rintro D σ H ⟨G0,σ0,env0,H0,G,env,q,fl,env',q',ev,hn,n,e,k⟩;obtain⟨⟨b1,env1⟩,e1,e2⟩:=q2_ e;dsimp only at e2;split at e2
 case isFalse=>cases e2
 rename_i hn1;refine⟨G,env,b1,env1,ev.rel,e1,fun G1 H1 ev1=>?_⟩
 cases b1 with
 |true=>simp only[Zu]at e2 ⊢;exact⟨G0,σ0,env0,H0,G1,env1,q,fl,env',q',ev.trans ev1,a1J hn1,n.step ev1 rfl,e2,k.after _ _ _ ev1.same⟩
 |false=>simp only[Qo,Zo]at e2 ⊢;exact⟨G0,σ0,env0,H0,G1,env1,q,fl,env',q',ev.trans ev1,a1J hn1,n.step ev1 rfl,e2,k.after _ _ _ ev1.same⟩
def a8p(m:Mo D):MoN Fl:=fun env q=>(m env).map fun p=>(.ret p.1,p.2,q)
theorem b2u{ma:Mo D}(h:ED X B e ma):NS X B r (.Return (some e) pos) (a8p ma):=by
 refine ps_imp (a7h h) ?_
 rintro D σ H ⟨G0,σ0,env0,H0,G,env,q,fl,env',q',ev,hn,n,e,k⟩;obtain⟨⟨d,env1⟩,e1,e2⟩:=x4_ e;cases e2;exact⟨G,env,d,_,ev.rel,e1,fun v G' H' ev1 rp=>k v σ G' H' (ev.trans ev1) rp⟩
theorem a5c{l:List α}{x:α}(h:i≠j):(l.set i x)[j]? =l[j]?:=Qm h
def a2j(i:Nat)(m:Env'->Ro->Option (D×Env')):MoN Fl:=fun env q=>(m env q).bind fun p=>if a0x r (p.2.set i (.dat p.1))&&decide (i≠r)then some (.nx,p.2.set i (.dat p.1),q)else none
theorem a8q{pos':Pos}{ma:Env'->Ro->Option (D×Env')}(hN:X.N.Nodup)(hi:X.N[i]? =some x)(hx:Loc X.env.scope x)(he:EN X B r e ma)(hs:swapsWith e (some (.Name x pos')) pos.line X.env=pure false:=by rfl)(hf:X.fn x=true∨X.env.scope.names.lookup x=some .local:=by first|exact .inl rfl|exact .inr rfl|assumption):
  NS X B r (.Assign [.Name x pos'] e pos) (a2j (r:=r) i ma):=by
 refine ps_imp (a4w hN hi hx he hs hf) ?_
 rintro D σ H ⟨G0,σ0,env0,H0,G,env,q,fl,env',q',ev,hn,n,e,k⟩;obtain⟨⟨d,env1⟩,e1,e2⟩:=q2_ e;dsimp only at e2;split at e2
 case isFalse=>cases e2
 rename_i hg;rw[Qy,Zs]at hg;cases e2;exact⟨H0,G,env,q,d,env1,ev.rel,hn,n,e1,fun v G' H' ev1 rp=>k _ G' H' ((ev.trans ev1).setDat rp) ev1.same (a1J hg.1) (n.step (ev1.setDat rp) (a5c hg.2))⟩
def a6A(i j:Nat)(ms:Mo (List D)):MoN Fl:=fun env q=>(ms env).bind fun p=>match p.1 with
 |[d1,d2]=>if a0x r ((p.2.set i (.dat d1)).set j (.dat d2))&&decide (i≠r/\j≠r)then some (.nx,(p.2.set i (.dat d1)).set j (.dat d2),q)else none
 |_=>none
theorem b2v{px pt pt2:Pos}{kt k2}{ms:Mo (List D)}(hc:X.calm=true)(hN:X.N.Nodup)(hi:X.N[i]? =some x)(hj:X.N[j]? =some y)(hij:i≠j)
  (hx:X.env.scope.names.lookup x=some .local)(hy:X.env.scope.names.lookup y=some .local)(ha:EDs X B [a,b] ms)
  (hw:swappedStores [.Tuple [.Name x px,.Name y py] kt pt] (.Tuple [a,b] k2 pt2) X.env=pure (some [x,y]))
  (hs:swapsWithSole [.Tuple [.Name x px,.Name y py] kt pt] (.Tuple [a,b] k2 pt2) pos.line X.env=pure false:=by rfl):
  NS X B r (.Assign [.Tuple [.Name x px,.Name y py] kt pt] (.Tuple [a,b] k2 pt2) pos) (a6A (r:=r) i j ms):=by
 refine ps_imp (b0l hc hN hi hj hij hx hy ha hw hs) ?_
 rintro D σ H ⟨G0,σ0,env0,H0,G,env,q,fl,env',q',ev,hn,n,e,k⟩;obtain⟨⟨ds,env1⟩,e1,e2⟩:=q2_ e;dsimp only at e2;split at e2
 case h_2=>cases e2
 rename_i d1 d2 hds;split at e2
 case isFalse=>cases e2
 rename_i hg;rw[Qy,Zs]at hg;cases e2;refine⟨G,env,_,env1,ev.rel,e1,fun vs G' H' ev1 rp=>?_⟩
 obtain⟨v,w,rfl,r1,r2⟩:=a3f rp;exact⟨v,w,rfl,k _ G' H' (((ev.trans ev1).setDat r1).setDat r2) ev1.same (a1J hg.1) (n.step ((ev1.setDat r1).setDat r2) ((a5c hg.2.2).trans (a5c hg.2.1)))⟩
def a5d(f:D->D->Option D)(ma mb:Env'->Ro->Option (D×Env')):Env'->Ro->Option (D×Env'):=fun env q=>(ma env q).bind fun p=>if a0x r p.2 then(mb p.2 q).bind fun p2=>(f p.1 p2.1).map fun d=>(d,p2.2)else none
theorem b2w{op:Operator}{rr:R2}{f:D->D->Option D}{ma mb:Env'->Ro->Option (D×Env')}(ho:OpR X (binaryOp op) rr)(o:OpD X B rr f)(ha:EN X B r a ma)(hb:EN X B r b mb):EN X B r (.BinOp a op b pos) (a5d (r:=r) f ma mb):=by
 refine pe_imp (a7p ho ha hb) ?_
 rintro σ H Q ⟨H0,G,env,q,d,env',rl,hn,n,em,k⟩;obtain⟨⟨d1,env1⟩,e1,e2⟩:=q2_ em;dsimp only at e2;split at e2
 case isFalse=>cases e2
 rename_i hn1;obtain⟨⟨d2,env2⟩,e3,e4⟩:=q2_ e2;obtain⟨c,e5,e6⟩:=x4_ e4;cases e6;exact⟨H0,G,env,q,d1,env1,rl,hn,n,e1,fun x G1 H1 ev1 r1=>⟨H0,G1,env1,q,d2,_,ev1.rel,a1J hn1,n.step ev1 rfl,e3,fun y G2 H2 ev2 r2=>o G2 σ _ H2 x y d1 d2 _ Q ev2.rel (Rep.mono ev2.same d1 r1) r2 e5 fun v G3 H3 ev3 r3=>k v G3 H3 ((ev1.trans ev2).trans ev3) r3⟩⟩
theorem b2x(f:α->β)(l:List α)(i:Int):atI (l.map f) i=(atI l i).map f:=by
 unfold atI;rw[Qv];cases ixN l.length i with
 |none=>rfl
 |some j=>simp
def a5e(mi mj:Mo D):Env'->Ro->Option (D×Env'):=fun env q=>(mi env).bind fun p=>(mj p.2).bind fun p2=>match q,p.1,p2.1 with
 |some rows,.int i,.int j=>(atI rows i).bind fun row=>(atI row j).map fun v=>(.int v,p2.2)
 |_,_,_=>none
theorem b2y{env:Env'}{bs:List Addr}{i:Int}{row:List Int}(l:a4c H0 G σ env H bs rows)(e:atI rows i=some row):∃b,b∈bs/\atI (bs.map V.ref) i=some (V.ref b)/\H b=some (.lst (row.map V.int)):=by
 obtain⟨j,e1,e2⟩:=q2_ e;obtain⟨b,q1,q2⟩:=b9S l.1 e2;refine⟨b,Yr q1,?_,q2⟩;rw[b2x];unfold atI;rw[a8o l.1,e1];show(bs[j]?).map V.ref=_;rw[q1];rfl
theorem b2z{mi mj:Mo D}(hv:PE X (.Name x p) (a0r r))(hi:ED X B ei mi)(hj:ED X B ej mj)(hs1:a3K ei)(hs2:a3K ej):EN X B r (.Subscript (.Subscript (.Name x p) ei p1) ej p2) (a5e mi mj):=by
 refine pe_imp (a4z a4A (a4z a4A hv hi hs1) hj hs2) ?_
 rintro σ H Q ⟨H0,G,env,q,d,env',rl,hn,n,em,k⟩;obtain⟨⟨d1,env1⟩,e1,e2⟩:=q2_ em;obtain⟨⟨d2,env2⟩,e3,e4⟩:=q2_ e2;dsimp only at e4;split at e4
 case h_2=>cases e4
 rename_i rows i j;obtain⟨row,e5,e6⟩:=q2_ e4;obtain⟨v,e7,e8⟩:=x4_ e6;cases e8;obtain⟨a,bs,h1,h2,h3,h4,h5,h6,h7⟩:=n;refine⟨_,h1,G,env,_,env1,rl,e1,fun v1 G1 H1 ev1 r1=>?_⟩
 simp only[Rep]at r1;subst r1;have l1:=h4.step ev1;obtain⟨b,hb,q1,q2⟩:=b2y l1 e5;refine⟨a,_,i,.ref b,rfl,rfl,.inl (.inl (a2L ev1 h2 h6 h7).1),q1,G1,env1,_,_,ev1.rel,e3,fun v2 G2 H2 ev2 r2=>?_⟩
 simp only[Rep]at r2;subst r2;have q3:=(a2L ev2 q2 (l1.2 b hb).2.1 (l1.2 b hb).2.2).1;exact⟨b,_,j,.int v,rfl,rfl,.inl (.inl q3),by rw[b2x,e7];rfl,k _ G2 H2 (ev1.trans ev2) (by simp only[Rep])⟩
theorem b2A{H H':Hp}{b:Addr}{new:List Int}:∀{bs:List Addr}{rows:List (List Int)}{k:Nat},Paired (fun b row=>H b=some (.lst (row.map V.int))) bs rows->bs.Nodup->bs[k]? =some b->(∀c∈bs,c≠b->H' c=H c)->H' b=some (.lst (new.map V.int))->Paired (fun b row=>H' b=some (.lst (row.map V.int))) bs (rows.set k new)
 |_,_,k,.nil,_,e,_,_=>by simp at e
 |_,_,0,.cons h t,nd,e,keep,hb=>by
  simp at e
  subst e;rw[Ju]at nd;exact .cons hb (a8m t fun c hc row q=>by rw[keep c (Qs _ hc) (fun z=>nd.1 (by rw[←z];exact hc))];exact q)
 |_,_,k+1,.cons (a:=a) h t,nd,e,keep,hb=>by
  rw[Ju]at nd;have e':=(by simpa using e:_[k]? =some b)
  refine .cons ?_ (b2A t nd.2 e' (fun c hc=>keep c (Qs _ hc)) hb)
  rw[keep _ (Zd ..) (fun z=>nd.1 (by rw[z];exact Yr e'))]
  exact h
def a6B(mi mj:Mo D)(mv:Env'->Ro->Option (D×Env')):MoN Fl:=fun env q=>(mv env q).bind fun p=>(mi p.2).bind fun p1=>(mj p1.2).bind fun p2=>match q,p.1,p1.1,p2.1 with
 |some rows,.int v,.int i,.int j=>(ixN rows.length i).bind fun a=>(rows[a]?).bind fun row=>(ixN row.length j).bind fun c=>if a0x r p2.2 then some (.nx,p2.2,some (rows.set a (row.set c v)))else none
 |_,_,_,_=>none
theorem b2B{mi mj:Mo D}{mv:Env'->Ro->Option (D×Env')}(hv:PE X (.Name x p) (a0r r))(hi:ED X B ei mi)(hj:ED X B ej mj)(he:EN X B r e mv)(hs1:a3K ei)
  (hs:swapsWithSole [.Subscript (.Subscript (.Name x p) ei p1) ej p2] e pos.line X.env=pure false:=by rfl)(hw:swappedStores [.Subscript (.Subscript (.Name x p) ei p1) ej p2] e X.env=pure none:=by rfl)
  (h1:(assignEach [.Subscript (.Subscript (.Name x p) ei p1) ej p2] X.env).map (·.2)=[assign (.Subscript (.Subscript (.Name x p) ei p1) ej p2) X.env]:=by rfl)
  (ha:∀v,assign (.Subscript (.Subscript (.Name x p) ei p1) ej p2) X.env v=(do
   let ov←holding [v] (eval (.Subscript (.Name x p) ei p1) X.env)
   let iv←holding [v,ov] (eval ej X.env)
   standAt p2
   holding [v,ov,iv] (setItem ov iv v)
   release [v,ov,iv] []):=by intro _;rfl):
  NS X B r (.Assign [.Subscript (.Subscript (.Name x p) ei p1) ej p2] e pos) (a6B (r:=r) mi mj mv):=by
 refine ps_imp (a7m he (b0k (a4z a4A hv hi hs1) hj b0I ha) hs hw h1) ?_
 rintro D σ H ⟨G0,σ0,env0,H0,G,env,q,fl,env',q',ev,hn,n,e,k⟩;obtain⟨⟨d,env1⟩,e1,e2⟩:=q2_ e;obtain⟨⟨d1,env2⟩,e3,e4⟩:=q2_ e2;obtain⟨⟨d2,env3⟩,e5,e6⟩:=q2_ e4;dsimp only at e6;split at e6
 case h_2=>cases e6
 rename_i rows v i j;obtain⟨k1,e7,e8⟩:=q2_ e6;obtain⟨row,e9,e10⟩:=q2_ e8;obtain⟨k2,e11,e12⟩:=q2_ e10;split at e12
 case isFalse=>cases e12
 rename_i hg;cases e12;refine⟨H0,G,env,some rows,_,env1,ev.rel,hn,n,e1,fun xv G1 H1 ev1 r1=>?_⟩
 simp only[Rep]at r1;subst r1;obtain⟨a,bs,h1,h2,h3,h4,h5,h6,h7⟩:=n.step ev1 rfl;refine⟨_,h1,G1,env1,_,env2,ev1.rel,e3,fun v1 G2 H2 ev2 r2=>?_⟩
 simp only[Rep]at r2;subst r2;have l2:=h4.step ev2;have a2:=a2L ev2 h2 h6 h7;have at1:atI rows i=some row:=by unfold atI;rw[e7];exact e9
 obtain⟨b,hb,q1,q2⟩:=b2y l2 at1;refine⟨a,_,i,.ref b,rfl,rfl,.inl (.inl a2.1),q1,G2,env2,_,_,ev2.rel,e5,fun v2 G3 H3 ev3 r3=>?_⟩
 simp only[Rep]at r3;subst r3;have l3:=l2.step ev3;have a3:=a2L ev3 a2.1 a2.2.1 a2.2.2;have b3:=a2L ev3 q2 (l2.2 b hb).2.1 (l2.2 b hb).2.2;refine⟨b,row.map V.int,j,k2,rfl,rfl,b3.1,by rw[Qv];exact e11,?_⟩
 have evA:=((ev.trans ev1).trans ev2).trans ev3
 have hab:a≠b:=fun z=>by rw[z,Ju]at h3;exact h3.1 hb
 have hbi:bs[k1]? =some b:=by
  obtain⟨c,y1,y2⟩:=q2_ q1;rw[Qv,a8o l3.1,e7]at y1;cases y1;rw[Zj]at y2;cases y:bs[k1]? with
  |none=>rw[y]at y2;cases y2
  |some c=>rw[y]at y2;cases y2;rfl
 refine k σ G3 _ (evA.poke (l3.2 b hb).1 b3.2.1 b3.2.2 b3.1) ((ev1.same.trans ev2.same).trans ev3.same) (a1J hg) ⟨a,bs,h1,by rw[q5_ hab];exact a3.1,h3,⟨?_,l3.2⟩,h5,a3.2⟩
 refine b2A l3.1 (Ju.mp h3).2 hbi (fun c _ hc=>q5_ hc) ?_
 rw[y5_,List.map_set]
end
section
variable{a b tg:Expr}{st:Stmt}{rest:List Stmt}
def a4e(r:Nat)(g:D->Env'->Option Env')(body:MoN Fl):List D->MoN Fl
 |[],env,q=>some (.nx,env,q)
 |d::ds,env,q=>(g d env).bind fun e1=>if a0x r e1 then(body e1 q).bind fun p=>match p.1 with
  |.nx=>a4e r g body ds p.2.1 p.2.2
  |.ct=>none
  |.bk=>none
  |.ret d=>some (.ret d,p.2)
  |.retL d=>some (.retL d,p.2)else none
def a6C(r:Nat)(mi:Mo (List D))(g:D->Env'->Option Env')(body:MoN Fl):MoN Fl:=fun env q=>(mi env).bind fun p=>if a0x r p.2 then a4e r g body p.1 p.2 q else none
theorem b2C{iter:Expr}{body:List Stmt}{mi:Mo (List D)}{g:D->Env'->Option Env'}{mbd:MoN Fl}(hp:PassesOwn (model X.prog X.w) X.A X.env X.xe)(hc:X.calm=true)(hi:EI X B tg iter mi)(hg:EG X B (r+1) tg g)(hb:NSs X B r body mbd)
  (hs:∀x,foldedSetIterable iter X.env x=pure x:=by intro _;rfl):NS X B r (.For tg iter body [] pos) (a6C r mi g mbd):=by
 refine ps_imp (b0n hp hc hi hg hb hs) ?_
 rintro D σ H ⟨G0,σ0,env0,H0,G,env,q,fl,env',q',ev,hn,n,e,k⟩;obtain⟨⟨ds,env1⟩,e1,e2⟩:=q2_ e;dsimp only at e2;split at e2
 case isFalse=>cases e2
 rename_i hn1;refine⟨G,env,ds,env1,ev.rel,e1,fun J G1 H1 ev1 it=>?_⟩
 refine⟨fun i m σ2 H2=>m=ds.length-i/\i≤ds.length/\∃G2 env2 q2,Ev X.K B G0 σ0 env0 H0 G2 σ2 env2 H2/\Le G1 G2/\env2[r]? =some .nil/\NO H0 G2 σ2 env2 H2 r q2/\a4e r g mbd (ds.drop i) env2 q2=some (fl,env',q'),⟨_,rfl,Jt _,G1,env1,q,ev.trans ev1,Le.refl,a1J hn1,n.step ev1 rfl,by simpa using e2⟩,?_⟩
 rintro i m σ2 H2 ⟨rfl,hi2,G2,env2,q2,ev2,l2,hn2,n2,e3⟩;have lH:Le G1 H2:=l2.trans ev2.rel.sub
 by_cases hlt:i<ds.length
 ·refine .inr ⟨it.go i H2 lH hlt,fun σ' H'=>∃G3 env3 q3,Ev X.K B G0 σ0 env0 H0 G3 σ' env3 H'/\Le G1 G3/\env3[r]? =some .nil/\NO H0 G3 σ' env3 H' r q3/\a4e r g mbd (ds.drop (i+1)) env3 q3=some (fl,env',q'),?_,fun x H3 y=>?_⟩
  ·rintro σ' H' ⟨G3,env3,q3,ev3,l3,hn3,n3,e4⟩
   exact⟨ds.length-(i+1),by omega,rfl,hlt,G3,env3,q3,ev3,l3,hn3,n3,e4⟩
  ·have ed:ds.drop i=ds[i]::ds.drop (i+1):=Jy hlt
   rw[ed]at e3;obtain⟨env4,e4,e5⟩:=q2_ e3;split at e5
   case isFalse=>cases e5
   rename_i hn4;obtain⟨⟨fl5,env5,q5⟩,e6,e7⟩:=q2_ e5;have hget:ds[i]? =some ds[i]:=by simp[hlt]
   have st:∃G3,Ev X.K B G2 σ2 env2 H2 G3 σ2 env2 H3/\Rep X.K G3 x ds[i]:=by
    rcases it.yld i H2 x H3 ds[i] lH y hget with⟨rfl,r⟩|⟨p,o,hno,hp2,rfl,r⟩
    ·exact⟨G2,.refl ev2.rel,Rep.mono l2 _ r⟩
    ·have gp:=ev2.rel.gnone hp2
     refine⟨upd G2 p o,ev2.rel.alloc hp2 hno,Rep.mono (fun b u q=>?_) _ r⟩
     by_cases hb2:b=p
     ·subst hb2;rw[y5_]at q ⊢;exact q
     ·rw[q5_ hb2]at q ⊢;exact l2 b u q
   obtain⟨G3,ev3,r3⟩:=st;refine⟨G3,env2,ds[i],env4,ev3.rel,r3,e4,fun σ4 G4 H4 ev4 y4=>?_⟩
   have ev5:=ev3.trans ev4
   have l5:Le G1 G4:=(l2.trans ev3.same).trans ev4.same
   refine⟨G0,σ0,env0,H0,G4,env4,q2,fl5,env5,q5,ev2.trans ev5,a1J hn4,n2.step ev5 (y4 r (Vc r)),e6,?_⟩;cases fl5 with
   |nx=>exact fun σ6 G6 H6 ev6 l6 hn6 n6=>⟨G6,env5,q5,ev6,l5.trans l6,hn6,n6,e7⟩
   |ct=>cases e7
   |bk=>cases e7
   |ret d=>cases e7;exact k
   |retL d=>cases e7;exact k
 ·have ei:i=ds.length:=by omega
  subst ei;rw[Uh]at e3;cases e3;exact .inl ⟨it.stop _ H2 lH (Qp _),k σ2 G2 H2 ev2 (ev1.same.trans l2) hn2 n2⟩
end
def a2M(rows:List (List Int)):D:=.lst (rows.map fun row=>.lst (row.map D.int))
mutual
def D.lf:D->Bool
 |.non=>true
 |.bl _=>true
 |.int _=>true
 |.str _=>true
 |.tup ds=>lfL ds
 |_=>false
def lfL:List D->Bool
 |[]=>true
 |d::ds=>d.lf&&lfL ds
end
section
variable{K:Qz}{G':Hp}
mutual
theorem rep_lf(h:∀b xs,G b=some (.tup xs)->G' b=some (.tup xs)):∀(d:D) {v:V},d.lf=true->Rep K G v d->Rep K G' v d
 |.non,v,_,r=>by simpa only[Rep]using r
 |.bl b,v,_,r=>by simpa only[Rep]using r
 |.int i,v,_,r=>by simpa only[Rep]using r
 |.str x,v,_,r=>by simpa only[Rep]using r
 |.tup ds,v,l,r=>by
  simp only[Rep]at r ⊢;obtain⟨a,xs,e,q,t⟩:=r;exact⟨a,xs,e,q.imp (fun e=>h _ _ e) id,repL_lf h ds (by simpa only[D.lf]using l) t⟩
 |.lst ds,v,l,r=>by simp[D.lf]at l
 |.emp,v,l,r=>by simp[D.lf]at l
 |.obj o,v,l,r=>by simp[D.lf]at l
 |.dct _ _,v,l,r=>by simp[D.lf]at l
theorem repL_lf(h:∀b xs,G b=some (.tup xs)->G' b=some (.tup xs)):∀(ds:List D) {xs:List V},lfL ds=true->z9_ K G xs ds->z9_ K G' xs ds
 |[],_,_,r=>by simpa only[z9_]using r
 |d::ds,_,l,r=>by
  simp only[z9_]at r ⊢;obtain⟨x,t,e,q,u⟩:=r;have l':d.lf=true/\lfL ds=true:=by simpa only[lfL,Qy]using l
  exact⟨x,t,e,rep_lf h d l'.1 q,repL_lf h ds l'.2 u⟩
end
end
theorem rep_ints(K:Qz)(G:Hp):∀ns:List Int,z9_ K G (ns.map V.int) (ns.map D.int)
 |[]=>repL_nil
 |n::ns=>repL_cons (by simp only[Rep]) (rep_ints K G ns)
section
variable{K:Qz}{env:Env'}
def withG(G H:Hp)(as:List Addr):Hp:=fun b=>if b∈as then H b else G b
def lessG(G:Hp)(as:List Addr):Hp:=fun b=>if b∈as then none else G b
theorem rows_rep{bs:List Addr}{as:List Addr}(l:Paired (fun b row=>H b=some (.lst (row.map V.int))) bs rows):(∀b∈bs,b∈as)->z9_ K (withG G H as) (bs.map V.ref) (rows.map fun row=>.lst (row.map D.int)):=by
 induction l with
 |nil=>intro _;exact repL_nil
 |cons h t ih=>
  intro s;refine repL_cons ?_ (ih fun b hb=>s b (Qs _ hb))
  refine a4C ?_ (rep_ints _ _ _);unfold withG;rw[Qn (s _ (Zd ..))];exact h
end
section
variable{px:Pos}{fn:Fn}{k:Nat}
def mCallN(fn:Fn):Env'->Ro->Option (D×Env'):=fun env q=>q.bind fun rows=>(fn [.dat (a2M rows)]).bind fun z=>match z.1 with
 |.d d=>if d.lf then some (d,env)else none
 |_=>none
theorem en_call(Df:Def X.prog X.w X.K X.mg X.base x k 1 fn)(hr:Room k X.A)(hg:Gl X x)(hv:PE X (.Name y px) (a0r r))(hdb:(x==("__debug__":Str))=false:=by decide)
  (he:starEach [.Name y px] X.env=(false,eval (.Name y px) X.env)::starEach [] X.env:=by rfl)(hpl:(backTo pos (starEach [] X.env)).any (·.1)=false:=by rfl):
  EN X B r (.Call (.Name x p) [.Name y px] [] pos) (mCallN fn):=by
 obtain⟨f,fd,ps,F,hps,hm,hk,hb⟩:=Df.ex;refine pe_imp (a5E F hr hg hm hk hb .nil a5J (b2p (.cons hv .nil)) hdb he hpl) ?_
 rintro σ H Q ⟨H0,G,env,q,d,env',rl,hn,n,em,kk⟩;obtain⟨rows,e0,e1⟩:=q2_ em;subst e0;obtain⟨⟨rr,ws'⟩,e2,e3⟩:=q2_ e1;cases rr with
 |l _=>cases e3
 |d d'=>
  dsimp only at e3;split at e3
  case isFalse=>cases e3
  rename_i hlf;cases e3;obtain⟨a,bs,h1,h2,h3,h4,h5,h6,h7⟩:=n;have hin:∀c∈a::bs,(∃xs,H c=some (.lst xs))/\G c=none/\ ¬ Owned σ env c:=fun c hc=>by
   rcases Ql.mp hc with rfl|hc
   ·exact⟨⟨_,h2⟩,h6,h7⟩
   ·obtain⟨row,z⟩:=a8n h4.1 hc
    exact⟨⟨_,z⟩,(h4.2 c hc).2⟩
  have leG:Le G (withG G H (a::bs)):=fun b o z=>by
   unfold withG;split
   ·rename_i hc;rw[(hin b hc).2.1]at z;cases z
   ·exact z
  have leH:Le (withG G H (a::bs)) H:=fun b o z=>by
   unfold withG at z;split at z
   ·exact z
   ·exact rl.sub b o z
  have rep:Rep X.K (withG G H (a::bs)) (.ref a) (a2M rows):=by
   refine a4C (xs:=bs.map V.ref) ?_ (rows_rep h4.1 fun b hb=>Qs _ hb)
   unfold withG;rw[Qn (Zd ..)];exact h2
  have rel1:Rel X.K u8_ (withG G H (a::bs)) ([V.ref a].map some) ([a2M rows].map W.dat) H:=by
   have no:∀(i:Nat) (w:W) (m:Mu),([a2M rows].map W.dat)[i]? =some w->w.mut=some m->False:=fun i w m e1 e2=>by
    cases i with
    |zero=>simp at e1;subst e1;cases e2
    |succ i=>simp at e1
   refine⟨leH,rfl,fun i d e=>?_,fun i w m e1 e2=>(no i w m e1 e2).elim,fun i j w w' m m' a e1 e2=>(no i w m e1 e2).elim,fun i w a e1 eo _ h=>h,fun b h=>h.elim,rl.tabs,fun b o z=>?_⟩
   ·cases i with
    |zero=>simp at e;subst e;exact⟨_,rfl,rep⟩
    |succ i=>simp at e
   ·unfold withG at z
    split at z
    ·rename_i hc
     obtain⟨⟨xs,hx⟩,_⟩:=hin b hc;rw[hx]at z;cases z;exact nt_lst
    ·exact rl.gnt b o z
  refine⟨[V.ref a],.cons h1 .nil,?_⟩;show SpF X.K 1 fn ([V.ref a]++[]) H Q _;rw[Yn];refine⟨withG G H (a::bs),[a2M rows].map W.dat,.d d,ws',rfl,fun w hw=>.inl ⟨a2M rows,by simpa using hw⟩,rel1,e2,fun v G2 H2 ev r2=>kk v (lessG G2 (a::bs)) H2 ?_ ?_⟩
  ·have dn:∀c,¬ Owned ([V.ref a].map some) ([a2M rows].map W.dat) c:=fun c=>b9R
   have leL:Le G (lessG G2 (a::bs)):=fun b o z=>by
    unfold lessG;split
    ·rename_i hc;rw[(hin b hc).2.1]at z;cases z
    ·exact ev.same b o (leG b o z)
   have stay:∀c,H c≠none->G c=none->lessG G2 (a::bs) c=none:=fun c hl g=>by
    unfold lessG;split
    ·rfl
    ·rename_i hc
     exact ev.stay c hl (dn c) (by unfold withG;rw[Qe hc];exact g)
   refine⟨⟨fun b o z=>?_,rl.len,fun i d e=>?_,fun i w m e1 e2=>?_,rl.inj,rl.fresh,fun b h=>ev.live b (rl.old b h),ev.rel.tabs,fun b o z=>?_⟩,leL,fun b o _ t e=>ev.keep b o (dn b) t e,ev.live,fun b hl _ g=>stay b hl g,fun a z=>.inl z,fun i w e hp=>⟨rfl,w,e,hp⟩,rfl⟩
   ·unfold lessG at z
    split at z
    ·cases z
    ·exact ev.rel.sub b o z
   ·obtain⟨v,q1,q2⟩:=rl.dat i d e
    exact⟨v,q1,Rep.mono leL d q2⟩
   ·obtain⟨c,o,q1,q2,q3,q4⟩:=rl.own i w m e1 e2
    exact⟨c,o,q1,ev.keep c o (dn c) q3.nt q2,q3.mono leL,stay c (by rw[q2];simp) q4⟩
   ·unfold lessG at z
    split at z
    ·cases z
    ·exact ev.rel.gnt b o z
  ·refine rep_lf (fun b xs z=>?_) d hlf r2
   unfold lessG;split
   ·rename_i hc
    obtain⟨⟨ys,hy⟩,_⟩:=hin b hc;have:withG G H (a::bs) b=some (.lst ys):=by unfold withG;rw[Qn hc];exact hy
    rw[ev.same b _ this]at z;cases z
   ·exact z
end
section
variable{K:Qz}{G1:Hp}{σ1:St}{env env1:Env'}{H1:Hp}
theorem Ev.hideSet(ev:Ev K B G σ env H G1 σ1 env1 H1)(hn:env1[r]? =some .nil):Ev K B G σ env H G1 (σ1.set r (some v)) env1 H1:=by
 have rl:=ev.rel
 have ne:∀(j:Nat) (w:W),env1[j]? =some w->w≠.nil->(σ1.set r (some v))[j]? =σ1[j]?:=fun j w e h=>a5c fun z=>h (by rw[←z,hn]at e;cases e;rfl)
 have nm:∀{w:W}{m:Mu},w.mut=some m->w≠.nil:=fun h z=>by rw[z]at h;cases h
 have ow:∀a,Owned (σ1.set r (some v)) env1 a->Owned σ1 env1 a:=fun a ⟨i,w,m,e1,e2,e3⟩=>⟨i,w,m,e1,e2,by rw[←ne i w e1 (nm e2)];exact e3⟩
 refine⟨⟨rl.sub,by rw[Zf];exact rl.len,fun i d e=>?_,fun i w m e1 e2=>?_,fun i j w w' m m' a e1 e2 e3 e4 e5 e6=>?_,fun i w a e1 eo e2=>?_,rl.old,rl.tabs,rl.gnt⟩,ev.same,ev.keep,ev.live,ev.stay,fun a z=>ev.sub a (ow a z),fun i w e hp=>?_,by rw[Zf];exact ev.slen⟩
 ·rw[ne i _ e (by simp)];exact rl.dat i d e
 ·rw[ne i w e1 (nm e2)];exact rl.own i w m e1 e2
 ·rw[ne i w e1 (nm e2)]at e5
  rw[ne j w' e3 (nm e4)]at e6;exact rl.inj i j w w' m m' a e1 e2 e3 e4 e5 e6
 ·rw[ne i w e1 (fun z=>by rw[z]at eo;cases eo)]at e2
  exact rl.fresh i w a e1 eo e2
 ·rw[ne i w e (fun z=>by rw[z]at hp;cases hp)];exact ev.par i w e hp
end
def compR(g:D->Env'->Option Env')(ml:Mo (List D)):List D->Env'->Option (List (List Int)×Env')
 |[],env=>some ([],env)
 |d::ds,env=>(g d env).bind fun e1=>(ml e1).bind fun p=>(ints? p.1).bind fun ns=>(compR g ml ds p.2).map fun z=>(ns::z.1,z.2)
def mkN(r:Nat)(mi:Mo (List D))(keep:List Bool)(more:Nat)(g:D->Env'->Option Env')(ml:Mo (List D)):MoN Fl:=fun env q=>(mi env).bind fun p=>if p.1.length≤100000 then
 (compR g ml p.1 (k5_ keep more p.2)).bind fun z=>(w3_ keep p.2 z.2).bind fun e=>if a0x r e then some (.nx,e,some z.1)else none else none
theorem compR_imp{K:Qz}{keep:List Bool}{more:Nat}{g:D->Env'->Option Env'}{ml:Mo (List D)}{mi:Mo (List D)}(hkl:keep.length=n){env env1 envF:Env'}{items:List D}{Q:VK}(hσn:σ.length=n)(rl:Rel K B G σ env H)
  (e1:mi env=some (items,env1))(hlen:items.length≤100000)(e3:compR g ml items (k5_ keep more env1)=some (rows,envF))(e5:w3_ keep env1 envF=some env')
  (k:∀p bs G' H',Ev K B G σ env H G' σ env' H'->(p::bs).Nodup->H' p=some (.lst (bs.map V.ref))->Paired (fun b row=>H' b=some (.lst (row.map V.int))) bs rows->(∀b∈p::bs,H b=none/\G' b=none/\ ¬ Owned σ env' b)->Q (.ref p) H'):
  a6f (TIm K B mi) keep more (TGm K B n g) (TTm K B v6_) (TL K B ml) σ H Q:=by
 refine⟨G,env,items,env1,rl,e1,fun J G1 H1 ev1 itd p hp=>?_⟩
 have hk:keep.length=σ.length:=by rw[hkl,hσn]
 have gp:G1 p=none:=ev1.rel.gnone hp
 have no1:¬ Owned σ env1 p:=ev1.rel.unowned hp
 have no:¬ Owned (w0_ keep more σ) (k5_ keep more env1) p:=fun z=>no1 (a4S z)
 have relS:∀ys,Rel K B G1 σ env1 (upd H1 p (.lst ys)):=fun ys=>(ev1.rel.allocM hp).rel
 refine⟨fun i m' σ2 H2=>m'=items.length-i/\i≤items.length/\∃G2 env2 bs acc rest,Ev K B G1 (w0_ keep more σ) (k5_ keep more env1) (upd H1 p (.lst (bs.map V.ref))) G2 σ2 env2 H2/\(∀j,j<n->σ2[j]? =(w0_ keep more σ)[j]?)/\
  bs.Nodup/\p∉bs/\a4c H1 G2 σ2 env2 H2 bs acc/\compR g ml (items.drop i) env2=some (rest,envF)/\acc++rest=rows/\acc.length≤i,⟨_,rfl,Jt _,G1,_,[],[],rows,.refl ((relS []).ext hk),fun _ _=>rfl,List.nodup_nil,by simp,⟨.nil,fun b hb=>by cases hb⟩,by simpa using e3,by simp,Qp _⟩,?_⟩
 rintro i m' σ2 H2 ⟨rfl,hi,G2,env2,bs,acc,rest,ev2,y2,nd,pn,l2,c2,t2,al⟩;have hpS:(upd H1 p (.lst (bs.map V.ref))) p=some (.lst (bs.map V.ref)):=y5_;have hp2:H2 p=some (.lst (bs.map V.ref)):=ev2.keep p _ no nt_lst hpS;have lH:Le G1 H2:=ev2.same.trans ev2.rel.sub
 by_cases hlt:i<items.length
 ·refine .inr ⟨itd.go i H2 lH hlt,fun x H3 y=>?_⟩
  have ed:items.drop i=items[i]::items.drop (i+1):=Jy hlt
  rw[ed]at c2;obtain⟨env4,e7,e8⟩:=q2_ c2;obtain⟨⟨ds,env7⟩,e9,e10⟩:=q2_ e8;obtain⟨ns,e11,e12⟩:=q2_ e10;obtain⟨⟨rest8,env8⟩,e13,e14⟩:=x4_ e12;cases e14;have hget:items[i]? =some items[i]:=by simp[hlt]
  have st:∃G3,Ev K B G2 σ2 env2 H2 G3 σ2 env2 H3/\Rep K G3 x items[i]:=by
   rcases itd.yld i H2 x H3 items[i] lH y hget with⟨rfl,r⟩|⟨q,o,hno,hq,rfl,r⟩
   ·exact⟨G2,.refl ev2.rel,Rep.mono ev2.same _ r⟩
   ·have gq:=ev2.rel.gnone hq
    refine⟨upd G2 q o,ev2.rel.alloc hq hno,Rep.mono (fun b u z=>?_) _ r⟩
    by_cases hb2:b=q
    ·subst hb2;rw[y5_]at z ⊢;exact z
    ·rw[q5_ hb2]at z ⊢;exact ev2.same b u z
  obtain⟨G3,ev3,r3⟩:=st;refine⟨G3,env2,items[i],env4,ev3.rel,r3,e7,fun σ4 G4 H4 ev4 y4=>?_⟩
  refine⟨G4,env4,true,env4,ev4.rel,rfl,fun G5 H5 ev5=>?_⟩
  simp only[Zu];refine⟨G5,env4,ds,env7,ev5.rel,e9,fun a xs G7 H7 ev7 ha ano h7 g7 r7=>?_⟩
  have hx:=a3o r7 e11
  subst hx;have evS:=((ev3.trans ev4).trans ev5).trans ev7;have ev8:=ev2.trans evS;have hp7:H7 p=some (.lst (bs.map V.ref)):=ev8.keep p _ no nt_lst hpS;have ev35:=(ev3.trans ev4).trans ev5;have a2:H2 a=none:=by
   cases q:H2 a with
   |none=>rfl
   |some o=>exact absurd ha (ev35.live a (by rw[q];simp))
  have aS:(upd H1 p (.lst (bs.map V.ref))) a=none:=by
   cases q:(upd H1 p (.lst (bs.map V.ref))) a with
   |none=>rfl
   |some o=>exact absurd a2 (ev2.live a (by rw[q];simp))
  have ap:a≠p:=fun z=>by rw[z,hpS]at aS;cases aS
  have a1:H1 a=none:=by rw[q5_ ap]at aS;exact aS
  have l7:=l2.step evS
  have abs:a∉bs:=fun hb=>by
   obtain⟨row,z⟩:=a8n l2.1 hb;rw[a2]at z;cases z
  refine⟨bs.map V.ref,hp7,by rw[Qv,a8o l2.1];exact Ue al (Qc hlt (Zm hlen (by decide))),items.length-(i+1),by omega,rfl,hlt,G7,env7,bs++[a],acc++[ns],rest8,?_,fun j hj=>(y4 j hj).trans (y2 j hj),?_,?_,⟨?_,fun b hb=>?_⟩,e13,by rw[Ug];exact t2,by rw[Qa];simp;omega⟩
  ·have:=ev8.swapAt (o:=.lst (bs.map V.ref++[.ref a])) no (by rw[hpS];simp) gp nt_lst (fun φ z=>by rw[hp7]at z;cases z)
   rw[a5B]at this;rw[Yq];exact this
  ·rw[List.nodup_append]
   exact⟨nd,by simp,fun b hb c hc=>by
    have:c=a:=by simpa using hc
    subst this;exact fun z=>abs (by rw[←z];exact hb)⟩
  ·intro hb
   rcases Ur.mp hb with hb|hb
   ·exact pn hb
   ·have:p=a:=by simpa using hb
    exact ap this.symm
  ·have keep7:∀b,b≠p->(upd H7 p (.lst (bs.map V.ref++[.ref a]))) b=H7 b:=fun b hb=>q5_ hb
   have snoc:∀{bs':List Addr}{acc':List (List Int)}{Hx:Hp},Paired (fun b row=>Hx b=some (.lst (row.map V.int))) bs' acc'->Hx a=some (.lst (ns.map V.int))->Paired (fun b row=>Hx b=some (.lst (row.map V.int))) (bs'++[a]) (acc'++[ns]):=by
    intro bs' acc' Hx h ha
    induction h with
    |nil=>exact .cons ha .nil
    |cons z _ ih=>exact .cons z ih
   refine snoc (a8m l7.1 fun b hb row z=>?_) ?_
   ·rw[keep7 b (fun z=>pn (by rw[←z];exact hb))];exact z
   ·rw[keep7 a ap];exact h7
  ·rcases Ur.mp hb with hb|hb
   ·exact l7.2 b hb
   ·have:b=a:=by simpa using hb
    subst this;exact⟨a1,g7,ano⟩
 ·have ei:i=items.length:=by omega
  subst ei;rw[Uh]at c2;cases c2;rw[Yn]at t2;subst t2;refine .inl ⟨itd.stop _ H2 lH (Qp _),?_⟩;have evO:=Ev.out (relS (bs.map V.ref)) hk ev2 (fun j hj=>y2 j (by omega)) e5
  have evA:=ev1.trans ((ev1.rel.allocM (o:=.lst (bs.map V.ref)) hp).trans evO)
  have dead:∀b,H1 b=none->H b=none:=fun b hb=>by
   cases q:H b with
   |none=>rfl
   |some o=>exact absurd hb (ev1.live b (by rw[q];simp))
  refine k p bs G2 H2 evA (List.nodup_cons.mpr ⟨pn,nd⟩) hp2 l2.1 fun b hb=>?_
  rcases Ql.mp hb with rfl|hb
  ·refine⟨dead b hp,ev2.stay b (by rw[hpS];simp) no gp,fun z=>?_⟩
   rcases evO.sub b z with q|q
   ·exact no1 q
   ·rw[hpS]at q;cases q
  ·obtain⟨b1,b2,b3⟩:=l2.2 b hb
   refine⟨dead b b1,b2,fun z=>?_⟩
   refine ev1.rel.unowned b1 ?_
   obtain⟨i,w,m,z1,z2,z3⟩:=z;obtain⟨kk,w0,w2,f1,f2,f3,f4⟩:=a6g e5 z1;cases kk with
   |false=>
    have:w0=w:=by simpa [a0N]using f4
    exact⟨i,w0,m,f2,by rw[this];exact z2,z3⟩
   |true=>
    obtain⟨_,d0,hd,_⟩:=b1n f4 z2;exact⟨i,w0,d0,f2,hd,z3⟩
section
variable{N':List Str}{scope:Scope}{keep:List Bool}{more:Nat}{tg iter elt:Expr}{g:D->Env'->Option Env'}{ml mi:Mo (List D)}
theorem a8r{spos:Pos}(ok:CompOk X N' scope keep more)(hc:X.calm=true)(hN:X.N.Nodup)(hy:X.N[r]? =some y)(hyl:X.env.scope.names.lookup y=some .local)
  (hsw:swapsWith (.ListComp elt [⟨tg,iter,[],0⟩] scope pos) (some (.Name y py)) spos.line X.env=pure true)
  (hi:EI X B tg iter mi)(hg:∀s H fp,EG (y7_ X N' scope s H fp) B X.N.length tg g)(ht:∀s H fp,a0m (y7_ X N' scope s H fp) [] (TTm X.K B v6_))(he:∀s H fp,EL (y7_ X N' scope s H fp) B elt ml)
  (hs:∀x,foldedSetIterable iter X.env x=pure x:=by intro _;rfl):NS X B r (.Assign [.Name y py] (.ListComp elt [⟨tg,iter,[],0⟩] scope pos) spos) (mkN r mi keep more g ml):=by
 intro pins s σ H D I h;obtain⟨G0,σ0,env0,H0,G,env,q,fl,env',q',ev,hn,n,e,k⟩:=h;obtain⟨⟨items,env1⟩,e1,e2⟩:=q2_ e;dsimp only at e2;split at e2
 case isFalse=>cases e2
 rename_i hlen;obtain⟨⟨rows,envF⟩,e3,e4⟩:=q2_ e2;obtain⟨envO,e5,e6⟩:=q2_ e4;split at e6
 case isFalse=>cases e6
 rename_i hn1;cases e6;have hn':=a1J hn1;refine b1m ok hc hN hy hyl hsw hi hg ht he hs pins s σ H D I (compR_imp ok.klen I.len ev.rel e1 hlen e3 e5 fun p bs G' H' evA nd hp hb hx=>?_)
 have ow:∀b,Owned (σ.set r (some (V.ref p))) env' b->Owned σ env' b:=fun b ⟨i,w,m,z1,z2,z3⟩=>⟨i,w,m,z1,z2,by
  rwa [a5c (fun z=>by rw[←z,hn']at z1;cases z1;cases z2)]at z3⟩
 have dead:∀b,H b=none->H0 b=none:=fun b hb=>by
  cases q:H0 b with
  |none=>rfl
  |some o=>exact absurd hb (ev.live b (by rw[q];simp))
 have hr:r<σ.length:=by
  rw[←ev.rel.len];exact(Qb.mp hn).1
 have hp1:=hx p (Zd ..)
 refine k _ G' H' ((ev.trans evA).hideSet hn') evA.same hn' ⟨p,bs,by simp[hr],hp,nd,⟨hb,fun b hb=>?_⟩,dead p hp1.1,hp1.2.1,fun z=>hp1.2.2 (ow p z)⟩
 obtain⟨x1,x2,x3⟩:=hx b (Qs _ hb);exact⟨dead b x1,x2,fun z=>x3 (ow b z)⟩
end
section
variable{ma:Mo D}
def a4f(m:Mo D)(ml mh:Mo (Option Int)):Mo D:=fun env=>(m env).bind fun p=>(ml p.2).bind fun q=>(mh q.2).bind fun r=>match p.1 with
 |.tup ds=>some (.tup (u9_ ds q.1 r.1),r.2)
 |.lst ds=>some (.lst (u9_ ds q.1 r.1),r.2)
 |_=>none
theorem a8s{lo hi:Option Expr}{ml mh:Mo (Option Int)}(he:ED X B e ma)(hl:EO X B lo ml)(hh:EO X B hi mh):ED X B (.Subscript e (.Slice lo hi none p2) pos) (a4f ma ml mh):=by
 refine pe_imp (b0B (SlR.or b1s b6J) he hl hh) ?_
 rintro σ H Q ⟨G,env,d,env',rl,e,k⟩;obtain⟨⟨d1,env1⟩,e1,e2⟩:=q2_ e;obtain⟨⟨l,env2⟩,e3,e4⟩:=q2_ e2;obtain⟨⟨u,env3⟩,e5,e6⟩:=q2_ e4;dsimp only at e3 e5 e6;split at e6
 ·rename_i ds
  cases e6;refine .bind rl e1 fun v G1 H1 ev1 r1=>⟨G1,env1,l,env2,ev1.rel,e3,fun G2 H2 ev2=>⟨G2,env2,u,_,ev2.rel,e5,fun G3 H3 ev3=>?_⟩⟩
  have r3:=Rep.mono (ev2.same.trans ev3.same) _ r1
  have r30:=r3
  simp only[Rep]at r3;obtain⟨p,xs,rfl,q,t⟩:=r3;refine .inl ⟨p,xs,rfl,ev3.rel.sub.sqT q,fun hw=>?_,fun l' hp=>?_⟩
  ·rw[t.length]at hw
   exact k _ G3 H3 ((ev1.trans ev2).trans ev3) (by rw[b1u hw];exact r30)
  ·exact k _ _ _ (((ev1.trans ev2).trans ev3).trans (ev3.rel.alloc hp)) (a1V y5_ (z9_.mono (Le.upd (ev3.rel.gnone hp)) _ (t.cut l u)))
 ·rename_i ds
  cases e6;refine .bind rl e1 fun v G1 H1 ev1 r1=>⟨G1,env1,l,env2,ev1.rel,e3,fun G2 H2 ev2=>⟨G2,env2,u,_,ev2.rel,e5,fun G3 H3 ev3=>?_⟩⟩
  have r3:=Rep.mono (ev2.same.trans ev3.same) _ r1
  simp only[Rep]at r3;obtain⟨p,xs,rfl,q,t⟩:=r3;refine .inr ⟨p,xs,rfl,ev3.rel.sub.sqL q,fun l' hp=>?_⟩
  exact k _ _ _ (((ev1.trans ev2).trans ev3).trans (ev3.rel.alloc hp)) (a4C y5_ (z9_.mono (Le.upd (ev3.rel.gnone hp)) _ (t.cut l u)))
 ·cases e6
end
open PySem.W Builtin Builtin.ObjectAttr Builtin.Getset_descriptor PySem.Calls
theorem fl1:typeLookup (.type "function") "__getattribute__"=pure (some (.builtin "object.__getattribute__")):=by rfl
theorem fl2(self:Value):bindSpecial (Value.builtin "object.__getattribute__") self=pure (Value.builtin "object.__getattribute__",[self]):=by rfl
theorem fl3:typeLookup (.type "function") "__class__"=pure (some (.builtin "object.__class__")):=by rfl
theorem fl4:isSubtype (.type "function") (.type "object")=pure true:=by rfl
theorem fl5:getOf (some (.builtin "object.__class__"))=pure (some (.builtin "getset_descriptor.__get__")):=by rfl
theorem fl6:dataDescriptor? (some (.builtin "object.__class__")) (some (.builtin "getset_descriptor.__get__"))=pure (some (.builtin "getset_descriptor.__get__",.builtin "object.__class__")):=by rfl
section
variable{prog:Program}{w:World}{A:Around}{E:Value->Shared->Prop}{x:Addr}{g:Array GenState}{d:Drawn}{t:Nat}{os:OsState}
theorem b9T{R:Result->Shared->Prop}{tp:Value}(I:KitAt x "function" h)
  (hq:R (.ok (.ret (.type "function"))) ⟨h,g,d,t,os⟩):codeAny (model prog w) A (.call (.builtin "getset_descriptor.__get__") ⟨[.builtin "object.__class__",.ref x,tp],[]⟩) R ⟨h,g,d,t,os⟩:=by
 have L0:=kitAt_ty (M:=model prog w) (T:="function") _ I
 refine Um KF.slot_gs.plain KF.entry_gs (KF.slot_gs.check _ _ _ _ _ _ _ _ KF.type_class (KF.args_gs _ _ _) ?_);unfold Builtin.«getset_descriptor.__get__» descrGet;rw[dga_obj];refine Qq (Qk ?_);unfold descrGetter descrCheckInstance descrNameAndClass isInstance;simp only[KF.owner_class]
 repeat (first|with_reducible refine L0.at ?_|wp_step)
 dsimp only;rw[fl4]
 repeat (first|with_reducible refine L0.at ?_|wp_step)
 refine⟨Code.quiet_builtin _ (by decide+kernel),Xx KF.entry_class ?_⟩
 unfold Builtin.«object.__class__» shownTypeOf
 repeat (first|with_reducible refine L0.at ?_|wp_step)
 exact hq
theorem b9U{tk:Tok}{Q:Fin->Shared->Prop}(I:KitAt x "function" h)(hq:Q (.done (.ret (.type "function"))) ⟨h,g,d,t,os⟩):
  wpAny (model prog w) A (Builtin.«object.__getattribute__» ⟨[.ref x,.str "__class__" tk],[]⟩) Q E ⟨h,g,d,t,os⟩:=by
 have L0:=kitAt_ty (M:=model prog w) (T:="function") _ I
 unfold Builtin.«object.__getattribute__»
 repeat (any_goals (first|assumption|with_reducible refine L0.at ?_|wp_step))
 rw[fl3];refine Qk ?_
 rw[fl5];refine Qq (Qk ?_);rw[fl6]
 repeat (any_goals (first|assumption|with_reducible refine L0.at ?_|wp_step))
 refine b9T I ?_
 repeat (any_goals (first|assumption|wp_step))
theorem b9V{M:Model}{nameV:Value}{Q:Unit->Shared->Prop}(I:KitAt x "function" h)(hq:Q () ⟨h,g,d,t,os⟩):
  wpAny M A (checkBuiltinCall "object.__getattribute__" ⟨[.ref x,nameV],[]⟩) Q E ⟨h,g,d,t,os⟩:=by
 have hk:builtinKind "object.__getattribute__"=some .slot:=by decide+kernel
 have hsplit:splitId "object.__getattribute__"=some ("object","__getattribute__"):=by decide+kernel
 have L0:=kitAt_ty (M:=M) (T:="function") _ I
 simp only[checkBuiltinCall,hk,hsplit];refine Qq ?_
 unfold isInstance
 repeat (first|with_reducible refine L0.at ?_|wp_step)
 rw[fl4]
 repeat (first|with_reducible refine L0.at ?_|wp_step)
 exact hq
theorem b9W{Q:Option Value->Shared->Prop}(I:KitAt x "function" s.heap)(k:Q (some (.type "function")) ⟨s.heap,s.gens,s.drawn,s.toks+1,s.os⟩):
  wpAny (model prog w) A (getAttr? (.ref x) "__class__") Q E s:=by
 obtain⟨h,g,d,t,os⟩:=s;have L0:=kitAt_ty (M:=model prog w) (T:="function") _ I;unfold getAttr? getAttrBy?
 repeat (any_goals (first|assumption|with_reducible refine L0.at ?_|wp_step))
 rw[fl1]
 repeat (any_goals (first|assumption|with_reducible refine L0.at ?_|wp_step))
 rw[fl2]
 repeat (any_goals (first|assumption|with_reducible refine L0.at ?_|wp_step))
 refine Um (by decide+kernel) F.entry_object_getattribute (b9V I (b9U I ?_))
 repeat (any_goals (first|assumption|wp_step))
end
theorem b9X{K:Frag}{x:Addr}{o:Obj}(hl:List.lookup x K=some o)(hc:o.cls=.type "function"):KitX K (.ref x) (.type "function") (fun _=>True):=by
 have q:KitX K (.ref x) (.type "function") (KitAt x "function"):=kitx_of (fun M h p=>kitAt_ty M h p) (fun{prog w A E Q s} p k=>b9W p k)
 exact⟨fun M h X _=>q.ty M h X (kitAt_K X hl hc),fun M h X _=>q.it M h X (kitAt_K X hl hc),q.ne,fun{prog w A E Q s} X _ k=>q.ca X (kitAt_K X hl hc) k⟩
def b2D(K:Qz)(f:Addr):Bool:=match List.lookup f K with
 |some o=>o.cls==.type "function"
 |none=>false
theorem a8t{K:Qz}{f:Addr}(h:b2D K f=true):PySem.W.KitX K (.ref f) (.type "function") (fun _=>True):=by
 unfold b2D at h;split at h
 ·rename_i o e
  exact b9X e (eq_of_beq h)
 ·cases h
def Nsd(K:Qz)(mg:Str->Option Value)(x:Str):Prop:=∃f,PySem.W.nsIn K mainGlobals x=some (some (.ref f))/\mg x=some (.ref f)/\PySem.W.KitX K (.ref f) (.type "function") (fun _=>True)
section
variable{es:List Expr}{k:Nat}{as:Mo (List Ar)}
theorem a6D(hg:Gl X x)(hm:Nsd X.K X.mg x)(hd:(x==("__debug__":Str))=false:=by decide):ED X B (.Name x pos) (mC (.obj (.fn x))):=by
 obtain⟨f,h1,h2,h3⟩:=hm;refine pe_imp (a7e (v:=.ref f) hg h2 rfl hd) ?_
 rintro σ H Q ⟨G,env,d,env',rl,em,kk⟩;cases em;exact kk (.ref f) G H (.refl rl) (by simp only[Rep];exact⟨f,rfl,h1,h3⟩)
theorem b2E{CX}{f:Addr}{fd:FuncData}{ps:List Str}{sp:Sp}{ds:List Value}{dvs:List V}{t:TA}(F:FnOk X.prog X.w X.K X.mg X.base CX k f fd ps sp)(hr:Room k X.A)(hv:PE X (.Name y p) (a0r i))(hk:PySem.W.keepIn X.K (.ref f)=true)(hb:a0S X.K fd ps ds)(hd:q8_ dvs ds)(hx:a4y CX X E)
  (ha:PA X (e::es) t)(he:starEach (e::es) X.env=(false,eval e X.env)::starEach es X.env:=by rfl)(hpl:(backTo pos (starEach es X.env)).any (·.1)=false:=by rfl):
  PE X (.Call (.Name y p) (e::es) [] pos) (fun σ H Q=>σ[i]? =some (some (.ref f))/\a7u sp dvs E t σ H Q):=by
 intro pins s σ H Q I ⟨h0,h⟩;refine Yc (thn (hv pins s σ H (fun v H'=>v=.ref f/\H'=H) I ⟨_,h0,rfl,rfl⟩) fun u s0 ⟨v,H',I',r',q'⟩=>?_)
 obtain⟨rfl,rfl⟩:=q';cases r';refine PySem.W.callWith_K (h₀:=X.base) I'.ok.mod.kin hk (thn (ha pos pins s0 σ _ _ I' h) fun us s1 ⟨vs,H1,I1,r,q⟩=>⟨I1.kIn,?_⟩) he hpl
 exact b0t F hr hb hd hx I1 r q
def a5f(X:Cx)(n:Nat)(l:List (Str×Fn)):Prop:=∀nm fn,l.lookup nm=some fn->∃k,Room k X.A/\Def X.prog X.w X.K X.mg X.base nm k n fn/\Nsd X.K X.mg nm
def a5g(X:Cx)(n:Nat)(l:List (Str×(List W->Option Str))):Prop:=∀nm g,l.lookup nm=some g->∃k,Room k X.A/\DefX X.prog X.w X.K X.mg X.base nm k n g/\Nsd X.K X.mg nm
theorem b2F:a5f X n []:=fun nm fn h=>by cases h
theorem a6E{fn:Fn}{l:List (Str×Fn)}(hr:Room k X.A)(d:Def X.prog X.w X.K X.mg X.base x k n fn)(hn:Nsd X.K X.mg x)(h:a5f X n l):a5f X n ((x,fn)::l):=fun nm fn' e=>by
 rw[Xs]at e;split at e
 ·rename_i hb
  cases e;have:nm=x:=eq_of_beq hb;subst this;exact⟨k,hr,d,hn⟩
 ·exact h nm fn' e
theorem b2G:a5g X n []:=fun nm fn h=>by cases h
theorem a6F{g:List W->Option Str}{l:List (Str×(List W->Option Str))}(hr:Room k X.A)(d:DefX X.prog X.w X.K X.mg X.base x k n g)(hn:Nsd X.K X.mg x)(h:a5g X n l):a5g X n ((x,g)::l):=fun nm fn' e=>by
 rw[Xs]at e;split at e
 ·rename_i hb
  cases e;have:nm=x:=eq_of_beq hb;subst this;exact⟨k,hr,d,hn⟩
 ·exact h nm fn' e
def mCV(n i:Nat)(l:List (Str×Fn))(as:Mo (List Ar)):Mo D:=fun env=>match env[i]? with
 |some (.dat (.obj (.fn nm)))=>(l.lookup nm).bind fun fn=>mCD n fn as env
 |_=>none
theorem b2H{nm:Str}{f':Addr}(hn:Nsd X.K X.mg nm)(hm:X.mg nm=some (.ref f'))(q:Rep X.K G v (.obj (.fn nm))):v=.ref f':=by
 obtain⟨f0,h1,h2,_⟩:=hn;simp only[Rep]at q;obtain⟨f,rfl,h3,_⟩:=q;rw[h1]at h3;rw[h2]at hm;cases h3;cases hm
 rfl
theorem b2I{l:List (Str×Fn)}(ht:a5f X n l)(hv:PE X (.Name y p) (a0r i))(ha:EAr X B (e::es) as)(he:starEach (e::es) X.env=(false,eval e X.env)::starEach es X.env:=by rfl)(hpl:(backTo pos (starEach es X.env)).any (·.1)=false:=by rfl):
  ED X B (.Call (.Name y p) (e::es) [] pos) (mCV n i l as):=by
 intro pins s σ H Q I ⟨G,env,d,env',rl,em,kk⟩;unfold mCV at em;split at em
 case h_2=>cases em
 rename_i nm hen;obtain⟨fn,e1,e2⟩:=q2_ em;obtain⟨k,hr,D,hn⟩:=ht nm fn e1;obtain⟨v,q1,q2⟩:=rl.dat i _ hen;obtain⟨f',fd,ps,F,rfl,hm,hk,hb⟩:=D.ex;have:=b2H hn hm q2;subst this;obtain⟨⟨r,env1⟩,e3,e4⟩:=q2_ e2;refine b2E F hr hv hk hb .nil a5J ha he hpl pins s σ H Q I ⟨q1,?_⟩;cases r with
 |d d'=>cases e4;exact a7N rl e3 kk
 |l ds=>cases e4
def xCV(n i:Nat)(l:List (Str×(List W->Option Str)))(as:Mo (List Ar)):Mx:=fun env=>match env[i]? with
 |some (.dat (.obj (.fn nm)))=>(l.lookup nm).bind fun g=>a2g n g as env
 |_=>none
theorem b2J{l:List (Str×(List W->Option Str))}(hx:XOk X E)(ht:a5g X n l)(hv:PE X (.Name y p) (a0r i))(ha:EAr X B (e::es) as)(he:starEach (e::es) X.env=(false,eval e X.env)::starEach es X.env:=by rfl)(hpl:(backTo pos (starEach es X.env)).any (·.1)=false:=by rfl):
  EDx X B E (.Call (.Name y p) (e::es) [] pos) (xCV n i l as):=by
 intro pins s σ H Q I ⟨G,env,c,rl,em,C,hC,w⟩;unfold xCV at em;split at em
 case h_2=>cases em
 rename_i nm hen;obtain⟨g,e0,em⟩:=q2_ em;obtain⟨k,hr,D,hn0⟩:=ht nm g e0;obtain⟨v,q1,q2⟩:=rl.dat i _ hen;obtain⟨f',fd,ps,F,rfl,hm,hk,hb⟩:=D.ex;have:=b2H hn0 hm q2;subst this;refine b2E F hr hv hk hb .nil hx.pass ha he hpl pins s σ H Q I ⟨q1,?_⟩;obtain⟨⟨av,env1⟩,e1,e2⟩:=q2_ em;dsimp only at e2;split at e2
 ·rename_i hn
  split at e2
  ·rename_i hs
   refine⟨G,env,av,env1,rl,e1,fun vs G1 H1 ev ra=>?_⟩
   show SpX X.K ps.length g (vs++[]) H1 Q E;rw[Yn];exact⟨G1,av.map (u6_ (.l [])),c,C,by rw[Qv];exact hn,a5Z,a6a (i:=0) (w:=.nil) ev.rel ra (fun k j e=>absurd e (a1F hs k j)) (fun k k' j j' e=>absurd e (a1F hs k j)),e2,hC,
    fun G2 ws' H2 ev2=>w σ G2 env1 H2 (ev.trans (a6b ev.rel ra hs ev2))⟩
  ·cases e2
 ·cases e2
theorem a8u{E:XK}{tg:Expr}{x1:Mx}{m:Nat}{gg:D->Env'->Option Env'}(h:EDx X B E e x1)(hg:EG X B m tg gg)(hs:swapsWithSole [tg] e pos.line X.env=pure false:=by rfl)(hw:swappedStores [tg] e X.env=pure none:=by rfl)
  (h1:(assignEach [tg] X.env).map (·.2)=[assign tg X.env]:=by rfl):ESx X B E (.Assign [tg] e pos) x1:=fun pins s σ H D I q=>a7m h hg hs hw h1 pins s σ H D I q
end
end L2.Mir
namespace L2.Mir
open PySem L2
variable{as:Mo (List Ar)}{av:List Ar}{b d:D}{ds xs:List D}{e e1 e2:Env'}{i j n:Nat}{m mb:Mo D}{mi ms:Mo (List D)}{names:List Str}{r:Option (Fl×Env')}{u:Mo Bool}{v w2 w3:W}{ws':List W}{xb:Mx}{α β:Type}
abbrev rgD(n:Nat):List D:=(List.range n).map fun(i:Nat)=>D.int (i:Int)
theorem b9Y(n:Nat):a0l 0 n=rgD n:=by
 unfold a0l rgD;exact Zb fun i _=>by simp
theorem a3t{M:Mo D}{j:Int}(hM:M e=some (.int j,e1))(hj:j=(n:Int))(hn:n≤10000):g0_ (z1_ M z3_) e=some (rgD n,e1):=by
 subst hj;have:=a6p (ms:=z1_ M z3_) (env:=e) (e1:=e1) (j:=(n:Int)) (by unfold z1_ z3_;rw[hM];rfl) (by omega) (by omega)
 rw[this,Yg,b9Y]
theorem b9Z{base:Env'}{w:W}{k:Nat}(h:base.length=k):(base++[w]).set k v=base++[v]:=by
 subst h;simp
theorem c0a{base:Env'}{w v2:W}{k:Nat}(h:base.length=k):((base++[w,w2]).set k v).set (k+1) v2=base++[v,v2]:=by
 subst h;rw[Jv _ _ (Qp _),Xa,Jv _ _ (by omega)]
 simp
theorem b2K{α:Type}{t:Mo Bool}{m:Mo D}{base:Env'}{q f:α->D}{p:α->Bool}{k:Nat}(hk:base.length=k):∀{l:List α},(∀a∈l,t (base++[.dat (q a)])=some (p a,base++[.dat (q a)])/\(p a=true->m (base++[.dat (q a)])=some (f a,base++[.dat (q a)])))->∀w,∃w',g2_ (gN k) t m (l.map q) (base++[w])=some ((l.filter p).map f,base++[w'])
 |[],_,w=>⟨w,rfl⟩
 |a::l,h,w=>by
  obtain⟨h1,h2⟩:=h a (by simp)
  obtain⟨w',e⟩:=b2K hk (l:=l) (fun x hx=>h x (by simp[hx])) (.dat (q a))
  refine⟨w',?_⟩;rw[Qr];unfold g2_ gN;rw[Qj,b9Z hk,h1,Qj];cases hp:p a with
  |false=>simp only[Qo,Zo];rw[Uj (by simp[hp])];exact e
  |true=>
   simp only[Zu];rw[h2 hp,Qj,Ux hp,Qr];show(g2_ (gN k) t m (l.map q) (base++[.dat (q a)])).map _=_;rw[e];rfl
theorem b2L{keep:List Bool}{t:Mo Bool}{env base:Env'}{l:List α}{q f:α->D}{p:α->Bool}{k:Nat}(hi:mi env=some (l.map q,env))(hl:l.length≤100000)(hb:k5_ keep 0 env=base)(hk:base.length=k)
  (h:∀a∈l,t (base++[.dat (q a)])=some (p a,base++[.dat (q a)])/\(p a=true->m (base++[.dat (q a)])=some (f a,base++[.dat (q a)])))(ho:∀w,w3_ keep env (base++[w])=some env):v9_ mi keep 1 (gN k) t m env=some ((l.filter p).map f,env):=by
 obtain⟨w',e⟩:=b2K hk h .nil;refine a2D hi (by simpa using hl) (e2:=base++[w']) ?_ (ho w')
 have:k5_ keep 1 env=base++[.nil]:=by rw[←hb];unfold k5_;simp
 rw[this];exact e
theorem a2k{keep:List Bool}{env base:Env'}{l:List α}{q f:α->D}{k:Nat}(hi:mi env=some (l.map q,env))(hl:l.length≤100000)(hb:k5_ keep 0 env=base)(hk:base.length=k)
  (h:∀a∈l,m (base++[.dat (q a)])=some (f a,base++[.dat (q a)]))(ho:∀w,w3_ keep env (base++[w])=some env):v9_ mi keep 1 (gN k) v6_ m env=some (l.map f,env):=by
 have:=b2L (p:=fun _=>true) (t:=v6_) hi hl hb hk (fun a ha=>⟨rfl,fun _=>h a ha⟩) ho
 rw[this,List.filter_eq_self.mpr (fun _ _=>rfl)]
theorem b2M{α:Type}{t:Mo Bool}{m:Mo D}{base:Env'}{q q2 f:α->D}{p:α->Bool}{k:Nat}(hk:base.length=k):∀{l:List α},(∀a∈l,t (base++[.dat (q a),.dat (q2 a)])=some (p a,base++[.dat (q a),.dat (q2 a)])/\(p a=true->m (base++[.dat (q a),.dat (q2 a)])=some (f a,base++[.dat (q a),.dat (q2 a)])))->∀w w2,∃w' w2',g2_ (gT 2 (gCn (gN k) (gCn (gN (k+1)) gNl))) t m (l.map fun a=>.tup [q a,q2 a]) (base++[w,w2])=some ((l.filter p).map f,base++[w',w2'])
 |[],_,w,w2=>⟨w,w2,rfl⟩
 |a::l,h,w,w2=>by
  obtain⟨h1,h2⟩:=h a (by simp)
  obtain⟨w',w2',e⟩:=b2M hk (l:=l) (fun x hx=>h x (by simp[hx])) (.dat (q a)) (.dat (q2 a))
  refine⟨w',w2',?_⟩;rw[Qr];unfold g2_;have hg:gT 2 (gCn (gN k) (gCn (gN (k+1)) gNl)) (.tup [q a,q2 a]) (base++[w,w2])=some (base++[.dat (q a),.dat (q2 a)]):=by
   show some (((base++[w,w2]).set k _).set (k+1) _)=_;rw[c0a hk]
  rw[hg,Qj,h1,Qj];cases hp:p a with
  |false=>simp only[Qo,Zo];rw[Uj (by simp[hp])];exact e
  |true=>
   simp only[Zu];rw[h2 hp,Qj,Ux hp,Qr];show(g2_ _ t m (l.map _) (base++[.dat (q a),.dat (q2 a)])).map _=_;rw[e];rfl
theorem c0b{keep:List Bool}{t:Mo Bool}{env base:Env'}{l:List α}{q q2 f:α->D}{p:α->Bool}{k:Nat}(hi:mi env=some (l.map (fun a=>.tup [q a,q2 a]),env))(hl:l.length≤100000)(hb:k5_ keep 0 env=base)(hk:base.length=k)
  (h:∀a∈l,t (base++[.dat (q a),.dat (q2 a)])=some (p a,base++[.dat (q a),.dat (q2 a)])/\(p a=true->m (base++[.dat (q a),.dat (q2 a)])=some (f a,base++[.dat (q a),.dat (q2 a)])))(ho:∀w w2,w3_ keep env (base++[w,w2])=some env):
  v9_ mi keep 2 (gT 2 (gCn (gN k) (gCn (gN (k+1)) gNl))) t m env=some ((l.filter p).map f,env):=by
 obtain⟨w',w2',e⟩:=b2M hk h .nil .nil;refine a2D hi (by simpa using hl) (e2:=base++[w',w2']) ?_ (ho w' w2')
 have:k5_ keep 2 env=base++[.nil,.nil]:=by rw[←hb];unfold k5_;simp
 rw[this];exact e
theorem a5h{keep:List Bool}{env base:Env'}{l:List α}{q q2 f:α->D}{k:Nat}(hi:mi env=some (l.map (fun a=>.tup [q a,q2 a]),env))(hl:l.length≤100000)(hb:k5_ keep 0 env=base)(hk:base.length=k)
  (h:∀a∈l,m (base++[.dat (q a),.dat (q2 a)])=some (f a,base++[.dat (q a),.dat (q2 a)]))(ho:∀w w2,w3_ keep env (base++[w,w2])=some env):v9_ mi keep 2 (gT 2 (gCn (gN k) (gCn (gN (k+1)) gNl))) v6_ m env=some (l.map f,env):=by
 have:=c0b (p:=fun _=>true) (t:=v6_) hi hl hb hk (fun a ha=>⟨rfl,fun _=>h a ha⟩) ho
 rw[this,List.filter_eq_self.mpr (fun _ _=>rfl)]
theorem b2N{g:D->Env'->Option Env'}{b:Mo Fl}:∀{ds:List D}{P:Nat->Env'->Prop}{env:Env'},(∀i d e,ds[i]? =some d->P i e->∃e1 e2,g d e=some e1/\b e1=some (.nx,e2)/\P (i+1) e2)->P 0 env->∃env',loop g b ds env=some (.nx,env')/\P ds.length env'
 |[],P,env,_,p=>⟨env,rfl,p⟩
 |d::ds,P,env,h,p=>by
  obtain⟨e1,e2,h1,h2,h3⟩:=h 0 d env rfl p;obtain⟨e3,h4,h5⟩:=b2N (ds:=ds) (P:=fun i e=>P (i+1) e) (fun i x e hi q=>h (i+1) x e (by simpa using hi) q) h3
  refine⟨e3,?_,h5⟩;unfold loop;rw[h1];simp only[Qj];rw[h2];exact h4
theorem a8v{g:D->Env'->Option Env'}{b:Mo Fl}(P:Nat->Env'->Prop){env:Env'}(h:∀i<n,∀e,P i e->∃e1 e2,g (.int (i:Int)) e=some e1/\b e1=some (.nx,e2)/\P (i+1) e2)(p:P 0 env):∃env',loop g b (rgD n) env=some (.nx,env')/\P n env':=by
 obtain⟨e',h1,h2⟩:=b2N (ds:=rgD n) (g:=g) (b:=b) (P:=P) (env:=env) (fun i d e hi q=>by
  unfold rgD at hi;rw[Zj]at hi
  by_cases hl:i<n
  ·rw[Ul hl]at hi
   cases hi;exact h i hl e q
  ·rw[List.getElem?_eq_none (by simpa using hl)]at hi;cases hi) p
 refine⟨e',h1,?_⟩;have:(rgD n).length=n:=by simp[rgD]
 rw[this]at h2;exact h2
theorem b2O:u9_ xs none (some (i:Int))=xs.take i:=by
 unfold u9_;rw[HT.sIx_nat,HT.sIx_none];simp only[List.drop_zero,Nat.sub_zero]
 by_cases h:i≤xs.length
 ·rw[Tq h]
 ·rw[Nat.min_eq_right (by omega),Jh (Qp _),Jh (by omega)]
theorem c0c:u9_ xs (some (i:Int)) none=xs.drop i:=by
 unfold u9_;rw[HT.sIx_nat,HT.sIx_none]
 by_cases h:i≤xs.length
 ·rw[Tq h,Jh (by simp)]
 ·rw[Nat.min_eq_right (by omega),List.drop_eq_nil_of_le (Qp _),List.drop_eq_nil_of_le (by omega:xs.length≤i)];simp
theorem a5H{ml mh:Mo (Option Int)}{lo hi:Option Int}(h:m e=some (.tup xs,e))(h1:ml e=some (lo,e))(h2:mh e=some (hi,e)):mSl m ml mh e=some (.tup (u9_ xs lo hi),e):=by
 unfold mSl;rw[h,Qj,h1,Qj,h2];rfl
theorem a5i(l:List Int):ints? (l.map D.int)=some l:=by
 induction l with
 |nil=>rfl
 |cons a l ih=>show(ints? (l.map D.int)).map _=_;rw[ih];rfl
theorem x8_{m n:Mo Fl}(h:m e=some (.nx,e1))(h2:n e1=r):q1_ m n e=r:=by unfold q1_;rw[h];exact h2
theorem a5j{t:Mo Bool}{m n:Mo Fl}(h:t e=some (true,e1))(h2:m e1=r):y9_ t m n e=r:=by unfold y9_;rw[h];exact h2
theorem a2N{t:Mo Bool}{m n:Mo Fl}(h:t e=some (false,e1))(h2:n e1=r):y9_ t m n e=r:=by unfold y9_;rw[h];exact h2
theorem b2P{env env':Env'}{w w':W}{ds':List D}(h0:env[i]? =some w')(h00:w'.mutL=some ds')(h:m env=some (d,env'))(h1:env'[i]? =some w)(h2:w.mutL=some ds)(hl:ds.length<100000):a0C i m env=some (.nx,env'.set i (w.put (ds++[d]))):=by
 unfold a0C;rw[h0];simp only[Qj,h00,h,h1,h2];rw[Qn hl]
theorem b2Q{t:Mo Bool}(h:t e=some (true,e1)):k6_ t u e=some (true,e1):=by unfold k6_;rw[h];rfl
theorem a3u{t:Mo Bool}{r:Option (Bool×Env')}(h:t e=some (false,e1))(h2:u e1=r):k6_ t u e=r:=by unfold k6_;rw[h];exact h2
theorem a6G{f:Fn}{env:Env'}{r:D}(h:as env=some (av,e1))(hn:av.length=n)(hs:slots av=[])(hf:f (av.map (u6_ (.l [])))=some (.d r,ws')):mCD n f as env=some (r,e1):=a0Q (a1e h hn hs hf)
theorem c0d{keep:List Bool}{fr:Option Str->Option D}{env lw:Env'}{n:Str}(hw:a2i keep env=lw)(hx:xb lw=some n)(hn:names.contains n=true)(hf:fr (some n)=some d):a1I names keep mb xb fr env=some (d,env):=by
 unfold a1I outcome;rw[hw,hx];simp only[hn,Zu,Qj];rw[hf];rfl
theorem c0e{keep:List Bool}{fr:Option Str->Option D}{env lw:Env'}{p:D×Env'}(hw:a2i keep env=lw)(hx:xb lw=none)(hm:mb lw=some p)(hf:fr none=some d):a1I names keep mb xb fr env=some (d,env):=by
 unfold a1I outcome;rw[hw,hx,hm];show(fr none).map _=_;rw[hf];rfl
theorem c0f{C N:Nat}(hC:1≤C)(hC2:C≤900){body last:Mo Fl}{ns:List Int}(hb:∀k:Nat,k<1000->∀ws:List W,ws.length=N->∃ws':List W,ws'.length=N+1/\body (.dat (.lst (ns.map D.int))::.dat (.int (k:Int))::ws)=some (.nx,.dat (.lst (ns.map D.int))::ws'))
  (hl:∀ws:List W,ws.length=N+1->∃e,last (.dat (.lst (ns.map D.int))::ws)=some (.ret (.bl true),e)):
  ∃ws',fnM (N+2) (q1_ (g1_ (g0_ (z1_ (mCB a3Q (z1_ (mC (.int 1)) (z1_ (mCB a3R (z1_ (mCB q6_ (z1_ (z0_ 0) z3_)) (z1_ (mC (.int (C:Int))) z3_))) z3_))) z3_)) (gN 1) body) last) [.dat (.lst (ns.map D.int))]=some (.d (.bl true),ws'):=by
 obtain⟨K,hK,hr⟩:∃K:Nat,K≤C/\(g0_ (z1_ (mCB a3Q (z1_ (mC (.int 1)) (z1_ (mCB a3R (z1_ (mCB q6_ (z1_ (z0_ 0) z3_)) (z1_ (mC (.int (C:Int))) z3_))) z3_))) z3_)) (.dat (.lst (ns.map D.int))::List.replicate (N+1) .nil)=some (rgD K,.dat (.lst (ns.map D.int))::List.replicate (N+1) .nil):=by
  let q:Int:=if(C:Int)<(ns.length:Int)then C else(ns.length:Int)
  let p:Int:=if q>1 then q else 1
  have hq:q≤C:=by simp only[q];split<;>omega
  have hp:1≤p/\p≤C:=by simp only[p];split<;>omega
  refine⟨p.toNat,by omega,a3t (j:=p) (x5_ (q4_ rfl (q4_ (x5_ (q4_ (x5_ (q4_ rfl rfl) (show q6_ [.lst (ns.map .int)]=some (.int (ns.length:Int))from ?_)) (q4_ rfl rfl)) (show a3R [.int (ns.length:Int),.int C]=some (.int q)from rfl)) rfl)) (show a3Q [.int 1,.int q]=some (.int p)from rfl)) (by omega) (by omega)⟩
  show some (D.int ((ns.map D.int).length:Nat))=_;rw[Qv]
 obtain⟨e',h1,ws,hws,rfl⟩:=a8v (g:=gN 1) (b:=body) (n:=K) (fun _ e=>∃ws:List W,ws.length=N+1/\e=.dat (.lst (ns.map D.int))::ws) (env:=.dat (.lst (ns.map D.int))::List.replicate (N+1) .nil)
  (fun i hi e ⟨ws,hw,he⟩=>by
   subst he
   match ws,hw with
   |w::ws,hw=>
    obtain⟨ws',h1,h2⟩:=hb i (by omega) ws (by simpa using hw)
    exact⟨_,_,rfl,h2,ws',h1,rfl⟩) ⟨_,by simp,rfl⟩
 obtain⟨e2,h2⟩:=hl ws hws;refine⟨_,w2_ (d:=.bl true) (env:=e2) ?_⟩;show q1_ _ _ (.dat (.lst (ns.map D.int))::List.replicate (N+1) .nil)=_;exact x8_ ((a1G hr).trans h1) h2
theorem a2l{g:List W->Option Str}{env:Env'}{r:Option Str}(h:as env=some (av,e1))(hn:av.length=n)(hs:slots av=[])(hg:g (av.map (u6_ (.l [])))=r):a2g n g as env=r:=by
 unfold a2g;rw[h,Qj];simp only[hn,Zu,hs];exact hg
theorem a8w{α:Type}{g:D->Env'->Option Env'}{a:Mo (List D)}{q:α->D}{z:α->List D}{P:Env'->Prop}:∀{l:List α},(∀x∈l,∀e,P e->∃e1 e2,g (q x) e=some e1/\a e1=some (z x,e2)/\P e2)->
  ∀e,P e->∃e',a1g g v6_ a (l.map q) e=some (l.flatMap z,e')/\P e'
 |[],_,e,p=>⟨e,rfl,p⟩
 |x::l,h,e,p=>by
  obtain⟨e1,e2,h1,h2,p2⟩:=h x (Zd ..) e p;obtain⟨e',h3,p3⟩:=a8w (l:=l) (fun y hy=>h y (Qs _ hy)) e2 p2
  refine⟨e',?_,p3⟩;show((g (q x) e).bind fun e1=>(v6_ e1).bind fun p=>if p.1 then(a p.2).bind fun q'=>(a1g g v6_ a (l.map q) q'.2).map fun r=>(q'.1++r.1,r.2)else a1g g v6_ a (l.map q) p.2)=_
  rw[h1];show((a e1).bind fun q'=>(a1g g v6_ a (l.map q) q'.2).map fun r=>(q'.1++r.1,r.2))=_
  rw[h2];show(a1g g v6_ a (l.map q) e2).map (fun r=>(z x++r.1,r.2))=_
  rw[h3,Vb];rfl
theorem c0g{α:Type}(z:α->List Int):∀l:List α,(l.flatMap z).sum=(l.map fun x=>(z x).sum).sum
 |[]=>rfl
 |x::l=>by rw[Vb,List.sum_append,c0g z l,Qr,Vn]
theorem c0h(l:List Int):a2f [.lst (l.map D.int)]=some (.int l.sum):=by
 show(ints? _).map _=_;rw[a5i];rfl
theorem c0i(l:List Int):a2f [.tup (l.map D.int)]=some (.int l.sum):=by
 show(ints? _).map _=_;rw[a5i];rfl
theorem c0j{keep:List Bool}{more:Nat}{g:D->Env'->Option Env'}{t:Mo Bool}{a:Mo (List D)}{env e3:Env'}{r:List D}(h:mi env=some (ds,e1))(hc:a1g g t a ds (k5_ keep more e1)=some (r,e2))(hl:r.length≤100000)(ho:w3_ keep e1 e2=some e3):
  a4b mi keep more g t a env=some (r,e3):=by
 unfold a4b;rw[h,Qj,hc,Qj];simp only[hl,Zu];rw[ho];rfl
theorem b2R{α β:Type}(f:α->β):∀l:List α,(l.flatMap fun x=>[f x])=l.map f
 |[]=>rfl
 |x::l=>by rw[Vb,b2R f l];rfl
theorem c3Y{base:Env'}{w:W}{k:Nat}(h:base.length=k):(base++[w,w2]).set (k+1) v=base++[w,v]:=by
 subst h;rw[Jv _ _ (by omega)]
 have:base.length+1-base.length=1:=by omega
 rw[this];rfl
theorem c0k(h:m e=some (d,e1)):a2K m e=some ([d],e1):=by unfold a2K;rw[h];rfl
theorem c0l{base:Env'}{w:W}{k:Nat}(h:base.length=k):(base++[w,w2,w3]).set k v=base++[v,w2,w3]:=by
 subst h;rw[Jv _ _ (Qp _),Xa];rfl
theorem c0m{base:Env'}{w v':W}{k:Nat}(h:base.length=k):((base++[w,w2,w3]).set (k+1) v).set (k+2) v'=base++[w,v,v']:=by
 subst h;rw[Jv _ _ (by omega),Jv _ _ (by omega)]
 have a:base.length+1-base.length=1:=by omega
 have b:base.length+2-base.length=2:=by omega
 rw[a,b];rfl
theorem c0n{mi2:Mo (List D)}{keep:List Bool}{env base:Env'}{l:List α}{l2:α->List β}{q:α->D}{q2 q3:α->β->D}{f:α->β->D}{k:Nat}(hi:mi env=some (l.map q,env))(hb:k5_ keep 0 env=base)(hk:base.length=k)
  (h2:∀a∈l,∀w w',mi2 (base++[.dat (q a),w,w'])=some ((l2 a).map (fun b=>.tup [q2 a b,q3 a b]),base++[.dat (q a),w,w']))
  (h:∀a∈l,∀b∈l2 a,m (base++[.dat (q a),.dat (q2 a b),.dat (q3 a b)])=some (f a b,base++[.dat (q a),.dat (q2 a b),.dat (q3 a b)]))
  (hl:(l.flatMap fun a=>(l2 a).map (f a)).length≤100000)(ho:∀w w2 w3,w3_ keep env (base++[w,w2,w3])=some env):
  a4b mi keep 3 (gN k) v6_ (aIn mi2 (gT 2 (gCn (gN (k+1)) (gCn (gN (k+2)) gNl))) v6_ (a2K m)) env=some (l.flatMap fun a=>(l2 a).map (f a),env):=by
 have hx:k5_ keep 3 env=base++[.nil,.nil,.nil]:=by rw[←hb];unfold k5_;simp
 obtain⟨e',h1,w,w2,w3,rfl⟩:=a8w (g:=gN k) (a:=aIn mi2 (gT 2 (gCn (gN (k+1)) (gCn (gN (k+2)) gNl))) v6_ (a2K m)) (q:=q) (z:=fun a=>(l2 a).map (f a)) (l:=l) (P:=fun e=>∃w w2 w3,e=base++[w,w2,w3])
  (fun a ha e ⟨w,w2,w3,he⟩=>by
   subst he;obtain⟨e2,h4,w4,w5,rfl⟩:=a8w (g:=gT 2 (gCn (gN (k+1)) (gCn (gN (k+2)) gNl))) (a:=a2K m) (q:=fun b=>.tup [q2 a b,q3 a b]) (z:=fun b=>[f a b]) (l:=l2 a) (P:=fun e=>∃w w',e=base++[.dat (q a),w,w'])
    (fun b hb e ⟨w,w',he⟩=>by
     subst he;refine⟨base++[.dat (q a),.dat (q2 a b),.dat (q3 a b)],_,?_,c0k (h a ha b hb),_,_,rfl⟩;show some (((base++[.dat (q a),w,w']).set (k+1) _).set (k+2) _)=_;rw[c0m hk]) (base++[.dat (q a),w2,w3]) ⟨_,_,rfl⟩
   refine⟨base++[.dat (q a),w2,w3],base++[.dat (q a),w4,w5],by unfold gN;rw[c0l hk],?_,_,_,_,rfl⟩
   ·unfold aIn
    rw[h2 a ha,Qj];dsimp only;rw[h4,b2R]) (base++[.nil,.nil,.nil]) ⟨_,_,_,rfl⟩
 exact c0j hi (by rw[hx];exact h1) hl (ho _ _ _)
theorem c0o{env:Env'}{a:D}(h:m env=some (.tup [a,b],e1)):a0k m (gT 2 (gCn (gN i) (gCn (gN j) gNl))) env=some (.nx,(e1.set i (.dat a)).set j (.dat b)):=by
 unfold a0k;rw[h];rfl
theorem c0p{env:Env'}(h:ms env=some (ds,e1))(hl:ds.length≤1000):v5_ ms env=some (.tup ds,e1):=by unfold v5_;rw[h,Qj];simp only[hl,Zu]
theorem c0q(l:List α)(p q:α->D):g3_ (l.map p) (l.map q)=l.map fun a=>.tup [p a,q a]:=by
 unfold g3_
 induction l with
 |nil=>rfl
 |cons a l ih=>rw[Qr,Qr,List.zip_cons_cons,Qr,ih,Qr]
theorem a5k{a:D}{l:List α}{p q:α->D}(h:ms e=some ([a,b],e1))(ha:a.items=some (l.map p))(hb:b.items=some (l.map q)):a0c ms e=some (l.map fun a=>.tup [p a,q a],e1):=by
 unfold a0c;rw[h];show a.items.bind _=_;rw[ha];show b.items.map _=_;rw[hb,Xe,c0q]
theorem c0r(l:List α)(l2:α->List β)(r:α->β->Bool):a1a [.lst (l.flatMap fun i=>(l2 i).map fun j=>D.bl (r i j))]=some (.bl (l.all fun i=>(l2 i).all (r i))):=by
 have e:(l.flatMap fun i=>(l2 i).map fun j=>D.bl (r i j))=(l.flatMap fun i=>(l2 i).map (r i)).map fun b=>D.bl (id b):=by
  rw[List.map_flatMap];simp only[Zq]
  rfl
 show(a0t _).map _=_;rw[e,a3p,List.all_flatMap];simp only[List.all_map]
 rfl
theorem a8x{env:Env'}{a:D}(h:m env=some (.tup [a,b],e1))(he:(e1.set i (.dat a)).set j (.dat b)=e2):a0k m (gT 2 (gCn (gN i) (gCn (gN j) gNl))) env=some (.nx,e2):=by
 rw[c0o h,he]
theorem a0n{env:Env'}(h:m env=some (d,e1))(he:e1.set i (.dat d)=e2):v1_ i m env=some (.nx,e2):=by rw[a1d h,he]
theorem a8y{m:Mo (List D)}{env:Env'}{d:List D}(h:m env=some (d,e1))(he:e1.set i (.own d)=e2):j3_ i m env=some (.nx,e2):=by rw[b1K h,he]
theorem a6H{env:Env'}{a:D}(h:ms env=some ([a,b],e1))(he:(e1.set i (.dat a)).set j (.dat b)=e2):a1C i j ms env=some (.nx,e2):=by
 unfold a1C;rw[h,←he];rfl
theorem a2O{N:Nat}{mb:Mo Fl}{ws env:List W}(h:mb (ws++List.replicate (N-ws.length) .nil)=some (.ret d,env))(he:a0M ws env=ws'):fnM N mb ws=some (.d d,ws'):=by rw[w2_ h,he]
abbrev up(a n:Nat):List Nat:=(List.range (n-a)).map (a+ ·)
theorem a1i{ys:List D}(h:xs.length+ys.length≤10000):v3_ (.tup xs) (.tup ys)=some (.tup (xs++ys)):=by
 show(if xs.length+ys.length≤10000 then _ else none)=_
 rw[Qn h]
end L2.Mir
namespace L2.Mir
open PySem PySem.W
variable{cd:Addr}{pm:Value}{x:Str}
structure DfAt(K:Frag)(x:Str)(st:Stmt)(f:Addr)(pm:Value)(cd:Addr):Prop where
 a:nsIn K mainGlobals x=some (some (.ref f))
 l:K.lookup f=some ⟨.type "function",none,.func (fnOf x x (a3c st) (a0U st) (y3_ st) .none .none .none pm none (.ref cd) .none),⟨[]⟩⟩
 c:codeIn K (.ref cd) x=true
 k:keepIn K (.ref f)=true
theorem DfAt.f{K:Frag}{st:Stmt}{f:Addr}(A:DfAt K x st f pm cd):Fun K x x st f (fnOf x x (a3c st) (a0U st) (y3_ st) .none .none .none pm none (.ref cd) .none):=b6O A.l A.c A.k
theorem DfAt.g{K:Frag}{st:Stmt}{f:Addr}{h:Heap}{mg:Str->Option Value}(A:DfAt K x st f pm cd)(X:K.In h)(G:h.Ns mainGlobals mg):mg x=some (.ref f):=mg_of X G A.a
end L2.Mir
namespace K61
open PySem L2 L2.Mir
variable{R rows:List (List Int)}{a' few v z δ:Int}{b:Bool}{d d1 d2:D}{ds es xs:List D}{e e1 e2:Env'}{fd:FuncData}{h:Nat->Nat->Int}{i j m n r:Nat}{ma mb mm:Mo D}{mh ml:Mo (Option Int)}{o:Option D}{q:Ro}{s:Mo Fl}{w0 w1 w2 w3 w4 w5 w6 w7 w8:W}{ws ws':List W}{x:Option (Fl×Env'×Ro)}{y:Mx}{α:Type}
def top(i:Nat):Stmt:=PySem.Challenge.pw_turnsigns_k61_below_and_above.main.body.getD i (.Pass ⟨0,0,0,0⟩)
abbrev a8z:Stmt:=top 16
abbrev a8A:Stmt:=top 17
abbrev a8B:Stmt:=top 18
abbrev a8C:Stmt:=top 19
abbrev a8D:Stmt:=top 20
abbrev a8E:Stmt:=top 21
abbrev a8F:Stmt:=top 22
abbrev a8G:Stmt:=top 23
abbrev a8H:Stmt:=top 24
abbrev a8I:Stmt:=top 25
abbrev a8J:Stmt:=top 26
abbrev a8K:Stmt:=top 29
abbrev a8L:Stmt:=top 30
abbrev a6I:Stmt:=top 31
abbrev a8M:Stmt:=top 32
abbrev a8N:Stmt:=top 33
abbrev a6J:Stmt:=top 35
abbrev a8O:Stmt:=top 36
abbrev a6K:Stmt:=top 37
abbrev a6L:Stmt:=top 38
abbrev a6M:Stmt:=top 39
abbrev a8P:Stmt:=top 41
abbrev a8Q:Stmt:=top 42
abbrev a8R:Stmt:=top 43
abbrev a8S:Stmt:=top 44
abbrev a8T:Stmt:=top 45
abbrev a8U:Stmt:=top 46
abbrev a8V:Stmt:=top 47
abbrev a8W:Stmt:=top 48
abbrev a8X:Stmt:=top 49
abbrev a8Y:Stmt:=top 50
abbrev a8Z:Stmt:=top 51
abbrev a9a:Stmt:=top 52
abbrev a9b:Stmt:=top 53
abbrev a9c:Stmt:=top 54
abbrev a9d:Stmt:=top 55
abbrev a9e:Stmt:=top 56
abbrev a4g:Stmt:=top 57
structure Txt(K:Qz)(mg:Str->Option Value):Prop where
 ex:a1H K "SignError" ["NoTable","NoHeights","NoNet","NoPlace","NoTriangle","NoRow","NoNumber","NoTurn","NotAlike","NoStep","NoRows","TooMany","BadNote"]=true
 g_isinstance:mg "isinstance"=none
 g_int:mg "int"=none
 g_bool:mg "bool"=none
 g_all:mg "all"=none
 g_tuple:mg "tuple"=none
 g_len:mg "len"=none
 g_range:mg "range"=none
 g_zip:mg "zip"=none
 g_list:mg "list"=none
 g_max:mg "max"=none
 g_min:mg "min"=none
 g_sum:mg "sum"=none
 g_ValueError:mg "ValueError"=none
 g_any:mg "any"=none
 n_both_above:Nsd K mg "both_above"
 n_both_below:Nsd K mg "both_below"
 n_is_below:Nsd K mg "is_below"
 c_GREATEST_SIDE:∃t,mg "GREATEST_SIDE"=some (.int 6 t)
section
variable{P:Program}{w:World}{K:Qz}{mg:Str->Option Value}{base:Heap}
set_option hygiene false
local macro_rules
 | `(tactic| k_units)=>`(tactic| first | fail_if_success (show (_:Prop)) | ((with_reducible show PE _ _ (a0r _));exact pv _) | ((with_reducible show PE _ _ (tC _));exact b1v) | with_reducible (first | show PE _ _ _ | show PA _ _ _ | show PS _ _ _ | show PSs _ _ _ | show PT _ _ _ | show PG _ _ _ | show PI _ _ _ _ | show a0m _ _ _ | show PW _ _ _ | show PO _ _ _ | show PGs _ _ _ | show w9_ _ _ _ | show OpR _ _ _ | show EAc _ _ _ _ _ _ _ _ _ _ | show PJ _ _ _ _ | show a5f _ _ _ | show a5g _ _ _ | show EDx _ _ _ _ _ | show ETx _ _ _ _ _ | show EAx _ _ _ _ _ | show ESx _ _ _ _ _ | show a2G _ _ _ _ _ | assumption | exact PassesOwn.never | exact PySem.boot_len | exact T.n_both_above | exact T.n_both_below | exact T.n_is_below | exact b8m | exact b8v | exact b8k | exact b8j | exact b1G | exact b8n | exact b8o | exact b8w | exact b8l | exact a5D | exact k4_ | exact a3L | exact a0h | exact b7z | exact b8t | exact b8x | exact b7C | exact b7d | exact b7A | exact b7B | exact b8u | exact b7e | exact b7f | exact b7y | exact b7x | exact b7w | exact a7U | exact b7Q | exact b0T | exact b6S | exact opd_eq | exact b6Y | exact b6X | exact b7F | exact b8K | exact b6W | exact b6V | exact b6T | exact b7S | exact b6U | exact b6Q | exact b1v | exact a6t | exact b8X) | exact g9_ rfl | exact a2C rfl | assumption | exact se1 rfl | exact se2 rfl rfl | exact Or.inl rfl | exact Or.inr rfl | exact hr.mono (by decide) | exact hr.mono (Nat.le_refl _) | rfl | exact (a3m rfl) | exact (b1M rfl) | exact (b1P rfl) | exact (b0r rfl) | exact (a4Y rfl) | exact (b0s rfl) | exact (a6r rfl) | exact (b8h rfl rfl) | exact (b9o (by assumption) (by decide+kernel)) | exact (b8i a7U) | exact (nomark _) | exact a7U | exact Room.mono (by assumption) (by decide) | exact fun _ _=>rfl | exact fun _=>rfl | exact fun _ _ _ _=>rfl | (intro _;rfl) | decide | with_unfolding_all rfl | decide+kernel)
local macro_rules
 | `(tactic| k_types)=>`(tactic| ((with_reducible show OpR _ _ _);first | exact (op_eqD hr.units) | exact (op_eqD (Room.units (by assumption))) | exact (op_neD hr.units) | exact (op_neD (Room.units (by assumption))) | exact b6d | exact b7P | exact b6a | exact b6i | exact b6h | exact b6j | exact b6g | exact b6f | exact b6b | exact b7R | exact b6L | exact b6c | exact b5Y))
local macro_rules
 | `(tactic| exists $t)=>`(tactic| (((intros;refine' $t) <;> try k_units) <;> try k_types))
local macro_rules
 | `(tactic| injections $xs*)=>do
  let mut r ← `(tactic| skip)
  for x in xs do
   let n:=x.raw.getId
   let t:Lean.TSyntax `term:=⟨x.raw⟩
   let h ← `(?_)
   let hs:Array (Lean.TSyntax `term):=Array.replicate (if [`a5D,`k4_,`a3L,`a0h,`q9_,`j6_,`b2l,`q0_,`a1W,`z7_,`g7_,`k9_,`a0a,`a5V,`j2_,`a7Y,`a4Z,`b2F,`b2G,`b2s].contains n then 0 else if [`PA.nox,`PS.nox,`PT.nox,`z2_,`a1Y,`a7D,`y4_,`a4H,`g5_,`x1_,`k8_,`a6h,`k7_,`b2r,`a0b,`v4_,`x0_,`a4K,`b2q,`a2H,`a0e,`a0W,`a7B,`a1y,`a6z,`b2u].contains n then 1 else if [`b2i,`a4I,`a7T,`a2c,`q7_,`a4W,`a8a,`a0d,`a7C,`a1z,`a3s].contains n then 2 else if [`q3_,`j9_,`a6D,`b1F,`j0_,`a0i,`a8s,`z4_,`a7J,`x7_,`w7_,`a3r,`a7Z,`b2t].contains n then 3 else if [`v8_,`a1Z,`g8_,`a1D,`b2w,`a6E,`a6F].contains n then 4 else if [`b2I,`a3e,`v2_,`b1a,`a2A,`b2z,`a2a,`j7_].contains n then 5 else if [`b2J,`a0D,`x9_,`a1B,`b2C,`a8q].contains n then 6 else if [`b2j,`v7_,`b2b,`b1T,`a3U,`w5_,`b2k,`en_call,`b0X].contains n then 7 else if [`b0V,`a0H,`a3Y,`b2n,`a2v,`a8c,`a7E].contains n then 8 else if [`b2B].contains n then 9 else if [`y8_,`a0f,`a1n,`a4J,`a4L,`b2v].contains n then 10 else if [`a4T,`a8r].contains n then 11 else 19) h
   r ← if hs.isEmpty then `(tactic| ($r:tactic;(intros;exact $t))) else `(tactic| ($r:tactic;((intros;refine' $t $hs*) <;> try k_units) <;> try k_types))
  return r
set_option hygiene true
theorem c0s:FnScope ["thing"] ["thing"] (y3_ a8z):=⟨rfl,rfl,rfl,by decide+kernel,rfl,by decide+kernel,by decide+kernel⟩
def c0t:Mo Fl:=(y0_ (a1A (mIs "int" (z0_ 0)) (a5S (mIs "bool" (z0_ 0)))))
def a2m:Fn:=fnM 1 c0t
theorem c0u{f:Addr}(F:Fun K "is_whole" "is_whole" a8z f fd)(T:Txt K mg):FnOk P w K mg base CX0 1 f fd ["thing"] (SpF K 1 a2m):=
 k0_ F c0s fun cdv A outer s H E hr=>(by cases T;injections v4_ x0_ a4I a1n z2_ a4H a7D a1n z2_)
theorem c0v:FnScope ["thing","width"] ["thing","width"] (y3_ a8A):=⟨rfl,rfl,rfl,by decide+kernel,rfl,by decide+kernel,by decide+kernel⟩
theorem nd1:(["-0","-1","number"]:List Str).Nodup:=by decide+kernel
def a9f:Mo Fl:=(q1_ (y9_ (k6_ (x3_ (mT (mIs "tuple" (z0_ 0)))) (mT (z5_ (dEq true) (mCB q6_ (z1_ (z0_ 0) z3_)) (z0_ 1)))) (y0_ (mC (.bl false))) mNx) (y0_ (mCB a1a (z1_ (mF (v9_ (y1_ (z0_ 0)) [false,false] 1 (gN 2) v6_ (mCD 1 a2m (z6_ (z0_ 2) z8_)))) z3_))))
def a1K:Fn:=fnM 2 a9f
theorem c0w{f:Addr}(F:Fun K "is_row" "is_row" a8A f fd)(T:Txt K mg)(d_is_whole:Def P w K mg base "is_whole" 1 1 a2m):FnOk P w K mg base CX0 2 f fd ["thing","width"] (SpF K 2 a1K):=
 k0_ F c0v fun cdv A outer s H E hr=>(by have n0:=nd1;cases T;injections q7_ w7_ a0W a1z a0e a0d a1n z2_ a1y j7_ y8_ k4_ z4_ z2_ z7_ z2_ v4_ x0_ j6_ j2_ v4_ x0_ y8_;exists (a3m rfl);injections z4_ y4_;exists (w5_ (N':=["-0","-1","number"]) (keep:=[false,false]) (more:=1) ?_ ?_ ?_ ?_ ?_ ?_ ?_);injections k8_ z2_ v2_ k9_ v7_ q3_ z2_ q9_ z7_)
theorem c0x:FnScope ["thing","many","width"] ["thing","many","width"] (y3_ a8B):=⟨rfl,rfl,rfl,by decide+kernel,rfl,by decide+kernel,by decide+kernel⟩
theorem nd2:(["-0","-1","width","row"]:List Str).Nodup:=by decide+kernel
def a5l:Mo Fl:=(q1_ (y9_ (k6_ (x3_ (mT (mIs "tuple" (z0_ 0)))) (mT (z5_ (dEq true) (mCB q6_ (z1_ (z0_ 0) z3_)) (z0_ 1)))) (y0_ (mC (.bl false))) mNx) (y0_ (mCB a1a (z1_ (mF (v9_ (y1_ (z0_ 0)) [false,false,true] 1 (gN 3) v6_ (mCD 2 a1K (z6_ (z0_ 3) (z6_ (z0_ 2) z8_))))) z3_))))
def a4h:Fn:=fnM 3 a5l
theorem c0y{f:Addr}(F:Fun K "is_grid" "is_grid" a8B f fd)(T:Txt K mg)(d_is_row:Def P w K mg base "is_row" 2 2 a1K):FnOk P w K mg base CX0 3 f fd ["thing","many","width"] (SpF K 3 a4h):=
 k0_ F c0x fun cdv A outer s H E hr=>(by have n0:=nd2;cases T;injections q7_ w7_ a0W a1z a0e a0d a1n z2_ a1y j7_ y8_ k4_ z4_ z2_ z7_ z2_ v4_ x0_ j6_ j2_ v4_ x0_ y8_;exists (a3m rfl);injections z4_ y4_;exists (w5_ (N':=["-0","-1","width","row"]) (keep:=[false,false,true]) (more:=1) ?_ ?_ ?_ ?_ ?_ ?_ ?_);injections k8_ z2_ v2_ k9_ v7_ q3_ z2_ q3_ z2_ q9_ z7_)
theorem c0z:FnScope ["thing","least","greatest"] ["thing","least","greatest"] (y3_ a8C):=⟨rfl,rfl,rfl,by decide+kernel,rfl,by decide+kernel,by decide+kernel⟩
def a5m:Mo Fl:=(q1_ (y9_ (k6_ (x3_ (mT (mIs "tuple" (z0_ 0)))) (x3_ (mT (a0L dLe dLe (z0_ 1) (mCB q6_ (z1_ (z0_ 0) z3_)) (z0_ 2))))) (y0_ (mC (.bl false))) mNx) (y0_ (mCD 3 a4h (z6_ (z0_ 0) (z6_ (mCB q6_ (z1_ (z0_ 0) z3_)) (z6_ (mCB q6_ (z1_ (z0_ 0) z3_)) z8_))))))
def a3v:Fn:=fnM 3 a5m
theorem c0A{f:Addr}(F:Fun K "is_square" "is_square" a8C f fd)(T:Txt K mg)(d_is_grid:Def P w K mg base "is_grid" 3 3 a4h):FnOk P w K mg base CX0 4 f fd ["thing","least","greatest"] (SpF K 3 a3v):=
 k0_ F c0z fun cdv A outer s H E hr=>(by cases T;injections q7_ w7_ a0W a1z a0e a0d a1n z2_ a1y a0e a7E z2_ y8_ k4_ z4_ z2_ z7_ z2_ v4_ x0_ j6_ j2_ v4_ x0_ v7_ q3_ z2_ q3_ y8_ k4_ z4_ z2_ z7_ q3_ y8_ k4_ z4_ z2_ z7_ q9_)
theorem c0B:FnScope ["grid"] ["grid"] (y3_ a8D):=⟨rfl,rfl,rfl,by decide+kernel,rfl,by decide+kernel,by decide+kernel⟩
theorem nd3:(["grid","at"]:List Str).Nodup:=by decide+kernel
theorem nd4:(["-0","at","row"]:List Str).Nodup:=by decide+kernel
def a9g:Mo Fl:=(y0_ (mCB j1_ (z1_ (mF (v9_ (g0_ (z1_ (mCB q6_ (z1_ (z5_ dIx (z0_ 0) (mC (.int 0))) z3_)) z3_)) [true] 1 (gN 1) v6_ (mCB j1_ (z1_ (mF (v9_ (y1_ (z0_ 0)) [false,true] 1 (gN 2) v6_ (z5_ dIx (z0_ 2) (z0_ 1)))) z3_)))) z3_)))
def a0o:Fn:=fnM 1 a9g
theorem c0C{f:Addr}(F:Fun K "flipped" "flipped" a8D f fd)(T:Txt K mg):FnOk P w K mg base CX0 1 f fd ["grid"] (SpF K 1 a0o):=
 k0_ F c0B fun cdv A outer s H E hr=>(by have n0:=nd3;have n1:=nd4;cases T;injections v4_ x0_ a0f a0h z4_ y4_;exists (w5_ (N':=["grid","at"]) (keep:=[true]) (more:=1) ?_ ?_ ?_ ?_ ?_ ?_ ?_);injections a1D z4_ y8_ k4_ z4_ j0_ z2_ q0_ z7_ z7_ v2_ k9_ a0f a0h z4_ y4_;exists (w5_ (N':=["-0","at","row"]) (keep:=[false,true]) (more:=1) ?_ ?_ ?_ ?_ ?_ ?_ ?_);injections k8_ z2_ v2_ k9_ j0_ z2_ z2_ z7_ z7_)
theorem b2S:FnScope ["row","sums","number"] ["row"] (y3_ a8E):=⟨rfl,rfl,rfl,by decide+kernel,rfl,by decide+kernel,by decide+kernel⟩
def a9h:Mo Fl:=(q1_ (j3_ 1 (x2_ (z1_ (mC (.int 0)) z3_))) (q1_ (g1_ (y1_ (z0_ 0)) (gN 2) (a0C 1 (z5_ v3_ (u5_ 1 (j8_ (mC (.int 1)))) (z0_ 2)))) (y0_ (mCB j1_ (z1_ (z0_ 1) z3_)))))
def a4i:Fn:=fnM 3 a9h
theorem c0D{f:Addr}(F:Fun K "running_sums" "running_sums" a8E f fd)(T:Txt K mg):FnOk P w K mg base CX0 1 f fd ["row"] (SpF K 1 a4i):=
 k0_ F b2S fun cdv A outer s H E hr=>(by have n0:=b2S.nd;cases T;injections q7_ a1B k7_ z4_ q0_ z7_ q7_ a0D k8_ z2_ v2_ v4_ a2v z4_ v8_ a1Z a1Y q0_ z2_ z7_ v4_ x0_ a0f a0h z4_ z2_ z7_)
theorem c0E:FnScope ["row"] ["row"] (y3_ a8F):=⟨rfl,rfl,rfl,by decide+kernel,rfl,by decide+kernel,by decide+kernel⟩
theorem nd5:(["row","at"]:List Str).Nodup:=by decide+kernel
def a9i:Mo Fl:=(y0_ (mCB j1_ (z1_ (mF (v9_ (a4M (z1_ (mC (.int 1)) (z1_ (mCB q6_ (z1_ (z0_ 0) z3_)) z3_))) [true] 1 (gN 1) v6_ (z5_ u2_ (z5_ dIx (z0_ 0) (z0_ 1)) (z5_ dIx (z0_ 0) (z5_ u2_ (z0_ 1) (mC (.int 1))))))) z3_)))
def a4j:Fn:=fnM 1 a9i
theorem c0F{f:Addr}(F:Fun K "rises" "rises" a8F f fd)(T:Txt K mg):FnOk P w K mg base CX0 1 f fd ["row"] (SpF K 1 a4j):=
 k0_ F c0E fun cdv A outer s H E hr=>(by have n0:=nd5;cases T;injections v4_ x0_ a0f a0h z4_ y4_;exists (w5_ (N':=["row","at"]) (keep:=[true]) (more:=1) ?_ ?_ ?_ ?_ ?_ ?_ ?_);injections b1a z4_ q0_ z4_ y8_ k4_ z4_ z2_ z7_ z7_ v2_ k9_ v8_ j0_ z2_ z2_ j0_ z2_ v8_ z2_ q0_ z7_)
theorem c0G:FnScope ["grid"] ["grid"] (y3_ a8G):=⟨rfl,rfl,rfl,by decide+kernel,rfl,by decide+kernel,by decide+kernel⟩
theorem nd6:(["-0","row"]:List Str).Nodup:=by decide+kernel
def b2T:Mo Fl:=(y0_ (mCB j1_ (z1_ (mF (v9_ (y1_ (z0_ 0)) [false] 1 (gN 1) v6_ (mCD 1 a4i (z6_ (z0_ 1) z8_)))) z3_)))
def a2P:Fn:=fnM 1 b2T
theorem c0H{f:Addr}(F:Fun K "sums_across" "sums_across" a8G f fd)(T:Txt K mg)(d_running_sums:Def P w K mg base "running_sums" 1 1 a4i):FnOk P w K mg base CX0 2 f fd ["grid"] (SpF K 1 a2P):=
 k0_ F c0G fun cdv A outer s H E hr=>(by have n0:=nd6;cases T;injections v4_ x0_ a0f a0h z4_ y4_;exists (w5_ (N':=["-0","row"]) (keep:=[false]) (more:=1) ?_ ?_ ?_ ?_ ?_ ?_ ?_);injections k8_ z2_ v2_ k9_ v7_ q3_ z2_ q9_ z7_)
theorem c0I:FnScope ["grid"] ["grid"] (y3_ a8H):=⟨rfl,rfl,rfl,by decide+kernel,rfl,by decide+kernel,by decide+kernel⟩
def a9j:Mo Fl:=(y0_ (mCD 1 a0o (z6_ (mCD 1 a2P (z6_ (mCD 1 a0o (z6_ (z0_ 0) z8_)) z8_)) z8_)))
def a5n:Fn:=fnM 1 a9j
theorem c0J{f:Addr}(F:Fun K "sums_down" "sums_down" a8H f fd)(T:Txt K mg)(d_flipped:Def P w K mg base "flipped" 1 1 a0o)(d_sums_across:Def P w K mg base "sums_across" 2 1 a2P):FnOk P w K mg base CX0 3 f fd ["grid"] (SpF K 1 a5n):=
 k0_ F c0I fun cdv A outer s H E hr=>(by cases T;injections v4_ x0_ v7_ q3_ v7_ q3_ v7_ q3_ z2_ q9_ q9_ q9_)
theorem c0K:FnScope ["grid"] ["grid"] (y3_ a8I):=⟨rfl,rfl,rfl,by decide+kernel,rfl,by decide+kernel,by decide+kernel⟩
theorem nd7:(["-0","row"]:List Str).Nodup:=by decide+kernel
def b2U:Mo Fl:=(y0_ (mCB j1_ (z1_ (mF (v9_ (y1_ (z0_ 0)) [false] 1 (gN 1) v6_ (mCD 1 a4j (z6_ (z0_ 1) z8_)))) z3_)))
def a2Q:Fn:=fnM 1 b2U
theorem c0L{f:Addr}(F:Fun K "rises_across" "rises_across" a8I f fd)(T:Txt K mg)(d_rises:Def P w K mg base "rises" 1 1 a4j):FnOk P w K mg base CX0 2 f fd ["grid"] (SpF K 1 a2Q):=
 k0_ F c0K fun cdv A outer s H E hr=>(by have n0:=nd7;cases T;injections v4_ x0_ a0f a0h z4_ y4_;exists (w5_ (N':=["-0","row"]) (keep:=[false]) (more:=1) ?_ ?_ ?_ ?_ ?_ ?_ ?_);injections k8_ z2_ v2_ k9_ v7_ q3_ z2_ q9_ z7_)
theorem c0M:FnScope ["grid"] ["grid"] (y3_ a8J):=⟨rfl,rfl,rfl,by decide+kernel,rfl,by decide+kernel,by decide+kernel⟩
def a9k:Mo Fl:=(y0_ (mCD 1 a0o (z6_ (mCD 1 a2Q (z6_ (mCD 1 a0o (z6_ (z0_ 0) z8_)) z8_)) z8_)))
def a5o:Fn:=fnM 1 a9k
theorem c0N{f:Addr}(F:Fun K "rises_down" "rises_down" a8J f fd)(T:Txt K mg)(d_flipped:Def P w K mg base "flipped" 1 1 a0o)(d_rises_across:Def P w K mg base "rises_across" 2 1 a2Q):FnOk P w K mg base CX0 3 f fd ["grid"] (SpF K 1 a5o):=
 k0_ F c0M fun cdv A outer s H E hr=>(by cases T;injections v4_ x0_ v7_ q3_ v7_ q3_ v7_ q3_ z2_ q9_ q9_ q9_)
theorem b2V:FnScope ["line","total","number"] ["line"] (y3_ a8K):=⟨rfl,rfl,rfl,by decide+kernel,rfl,by decide+kernel,by decide+kernel⟩
def a5p:Mo Fl:=(q1_ (v1_ 1 (mC (.int 0))) (q1_ (g1_ (y1_ (z0_ 0)) (gN 2) (q1_ (a5W 1 a5R (z0_ 2)) (y9_ (mT (z5_ (dIn true) (z0_ 1) (v5_ (z1_ (mC (.int 0)) (z1_ (mC (.int 1)) z3_))))) (y0_ (mC (.bl false))) mNx))) (y0_ (z5_ (dEq false) (z0_ 1) (mC (.int 1))))))
def a2R:Fn:=fnM 3 a5p
theorem c0O{f:Addr}(F:Fun K "takes_turns" "takes_turns" a8K f fd)(T:Txt K mg):FnOk P w K mg base CX0 1 f fd ["line"] (SpF K 1 a2R):=
 k0_ F b2V fun cdv A outer s H E hr=>(by have n0:=b2V.nd;cases T;injections q7_ x9_ q0_ q7_ a0D k8_ z2_ v2_ q7_ b0X z2_ v4_ w7_ j7_ z2_ x1_ z4_ q0_ z4_ q0_ z7_ v4_ x0_ j6_ j2_ v4_ x0_ a3e z2_ q0_)
theorem c0P:FnScope ["thing"] ["thing"] (y3_ a8L):=⟨rfl,rfl,rfl,by decide+kernel,rfl,by decide+kernel,by decide+kernel⟩
theorem nd8:(["-0","line"]:List Str).Nodup:=by decide+kernel
def a9l:Mo Fl:=(q1_ (y9_ (x3_ (mT (mCD 3 a3v (z6_ (z0_ 0) (z6_ (mC (.int 1)) (z6_ (mC (.int 6)) z8_)))))) (y0_ (mC (.bl false))) mNx) (y0_ (mCB a1a (z1_ (mF (v9_ (y1_ (z5_ v3_ (z0_ 0) (mCD 1 a0o (z6_ (z0_ 0) z8_)))) [false] 1 (gN 1) v6_ (mCD 1 a2R (z6_ (z0_ 1) z8_)))) z3_))))
def a3w:Fn:=fnM 1 a9l
theorem c0Q{f:Addr}(F:Fun K "is_table" "is_table" a8L f fd)(T:Txt K mg)(d_is_square:Def P w K mg base "is_square" 4 3 a3v)(d_takes_turns:Def P w K mg base "takes_turns" 1 1 a2R)(d_flipped:Def P w K mg base "flipped" 1 1 a0o):FnOk P w K mg base CX0 5 f fd ["thing"] (SpF K 1 a3w):=
 k0_ F c0P fun cdv A outer s H E hr=>(by have n0:=nd8;cases T;injections q7_ w7_ a0e a0d v7_ q3_ z2_ q3_ q0_ q3_ b1F q9_ v4_ x0_ j6_ j2_ v4_ x0_ y8_;exists (a3m rfl);injections z4_ y4_;exists (w5_ (N':=["-0","line"]) (keep:=[false]) (more:=1) ?_ ?_ ?_ ?_ ?_ ?_ ?_);injections k8_ v8_ z2_ v7_ q3_ z2_ q9_ v2_ k9_ v7_ q3_ z2_ q9_ z7_)
theorem b2W:FnScope ["thing"] ["thing"] (y3_ a6I):=⟨rfl,rfl,rfl,by decide+kernel,rfl,by decide+kernel,by decide+kernel⟩
def a9m:Mo Fl:=(y9_ (x3_ (mT (mCD 1 a3w (z6_ (z0_ 0) z8_)))) a5U mNx)
def a2n:Fn:=fnM 1 a9m
theorem c0R{f:Addr}(F:Fun K "must_be_table" "must_be_table" a6I f fd)(T:Txt K mg)(d_is_table:Def P w K mg base "is_table" 5 1 a3w):FnOk P w K mg base CX0 6 f fd ["thing"] (SpF K 1 a2n):=
 k0_ F b2W fun cdv A outer s H E hr=>(by cases T;injections v4_ w7_ a0e a0d v7_ q3_ z2_ q9_ v4_ a5V j2_)
def a9n:Mx:=(xIf (x3_ (mT (mCD 1 a3w (z6_ (z0_ 0) z8_)))) (a8b "NoTable" (z1_ (mC (.str "this is no table")) z3_)) xNo)
def a4k:List W->Option Str:=fnX 1 a9n
theorem c0S{f:Addr}(F:Fun K "must_be_table" "must_be_table" a6I f fd)(T:Txt K mg)(d_is_table:Def P w K mg base "is_table" 5 1 a3w):FnOk P w K mg base (CXE P w) 6 f fd ["thing"] (SpX K 1 a4k):=
 a5a F b2W fun cdv A outer s H E hr=>(by cases T;injections a2H a7Z PT.nox a0e a0d v7_ q3_ z2_ q9_ a2H a8c PA.nox z4_ g5_ z7_ a7Y)
theorem c0T:FnScope ["table"] ["table"] (y3_ a8M):=⟨rfl,rfl,rfl,by decide+kernel,rfl,by decide+kernel,by decide+kernel⟩
def a9o:Mo Fl:=(y0_ (mCD 1 a2P (z6_ (mCD 1 a5n (z6_ (z0_ 0) z8_)) z8_)))
def a3x:Fn:=fnM 1 a9o
theorem c0U{f:Addr}(F:Fun K "summed" "summed" a8M f fd)(T:Txt K mg)(d_sums_across:Def P w K mg base "sums_across" 2 1 a2P)(d_sums_down:Def P w K mg base "sums_down" 3 1 a5n):FnOk P w K mg base CX0 4 f fd ["table"] (SpF K 1 a3x):=
 k0_ F c0T fun cdv A outer s H E hr=>(by cases T;injections v4_ x0_ v7_ q3_ v7_ q3_ z2_ q9_ q9_)
theorem c0V:FnScope ["heights"] ["heights"] (y3_ a8N):=⟨rfl,rfl,rfl,by decide+kernel,rfl,by decide+kernel,by decide+kernel⟩
def a9p:Mo Fl:=(y0_ (mCD 1 a2Q (z6_ (mCD 1 a5o (z6_ (z0_ 0) z8_)) z8_)))
def a2o:Fn:=fnM 1 a9p
theorem c0W{f:Addr}(F:Fun K "unsummed" "unsummed" a8N f fd)(T:Txt K mg)(d_rises_across:Def P w K mg base "rises_across" 2 1 a2Q)(d_rises_down:Def P w K mg base "rises_down" 3 1 a5o):FnOk P w K mg base CX0 4 f fd ["heights"] (SpF K 1 a2o):=
 k0_ F c0V fun cdv A outer s H E hr=>(by cases T;injections v4_ x0_ v7_ q3_ v7_ q3_ z2_ q9_ q9_)
theorem b2X:FnScope ["one","other"] ["one","other"] (y3_ a6J):=⟨rfl,rfl,rfl,by decide+kernel,rfl,by decide+kernel,by decide+kernel⟩
def a9q:Mo Fl:=(q1_ (a3q (mCD 1 a2n (z6_ (z0_ 0) z8_))) (q1_ (a3q (mCD 1 a2n (z6_ (z0_ 1) z8_))) (q1_ (y9_ (mT (z5_ (dEq true) (mCB q6_ (z1_ (z0_ 0) z3_)) (mCB q6_ (z1_ (z0_ 1) z3_)))) a5U mNx) (y0_ (v5_ (z1_ (mCD 1 a3x (z6_ (z0_ 0) z8_)) (z1_ (mCD 1 a3x (z6_ (z0_ 1) z8_)) z3_)))))))
def a0z:Fn:=fnM 2 a9q
theorem c0X{f:Addr}(F:Fun K "heights_of_both" "heights_of_both" a6J f fd)(T:Txt K mg)(d_must_be_table:Def P w K mg base "must_be_table" 6 1 a2n)(d_summed:Def P w K mg base "summed" 4 1 a3x):FnOk P w K mg base CX0 7 f fd ["one","other"] (SpF K 2 a0z):=
 k0_ F b2X fun cdv A outer s H E hr=>(by cases T;injections q7_ a4W v7_ q3_ z2_ q9_ q7_ a4W v7_ q3_ z2_ q9_ q7_ w7_ j7_ y8_ k4_ z4_ z2_ z7_ y8_ k4_ z4_ z2_ z7_ v4_ a5V j2_ v4_ x0_ x1_ z4_ v7_ q3_ z2_ q9_ z4_ v7_ q3_ z2_ q9_ z7_)
def a5q:Mx:=(a0F (a2g 1 a4k (z6_ (z0_ 0) z8_)) (a3q (mCD 1 a2n (z6_ (z0_ 0) z8_))) (a0F (a2g 1 a4k (z6_ (z0_ 1) z8_)) (a3q (mCD 1 a2n (z6_ (z0_ 1) z8_))) (a0F (xIf (mT (z5_ (dEq true) (mCB q6_ (z1_ (z0_ 0) z3_)) (mCB q6_ (z1_ (z0_ 1) z3_)))) (a8b "NotAlike" (z1_ (mC (.str "the tables have unlike sides")) z3_)) xNo) (y9_ (mT (z5_ (dEq true) (mCB q6_ (z1_ (z0_ 0) z3_)) (mCB q6_ (z1_ (z0_ 1) z3_)))) a5U mNx) xNo)))
def a0p:List W->Option Str:=fnX 2 a5q
theorem c0Y{f:Addr}(F:Fun K "heights_of_both" "heights_of_both" a6J f fd)(T:Txt K mg)(d_must_be_table:Def P w K mg base "must_be_table" 6 1 a2n)(d_summed:Def P w K mg base "summed" 4 1 a3x)(dx_must_be_table:DefX P w K mg base "must_be_table" 6 1 a4k):FnOk P w K mg base (CXE P w) 7 f fd ["one","other"] (SpX K 2 a0p):=
 a5a F b2X fun cdv A outer s H E hr=>(by cases T;injections a3r a8a a3Y PA.nox q3_ z2_ q9_ PS.nox a4W v7_ q3_ z2_ q9_ a3r a8a a3Y PA.nox q3_ z2_ q9_ PS.nox a4W v7_ q3_ z2_ q9_ a3r a7Z PT.nox j7_ y8_ k4_ z4_ z2_ z7_ y8_ k4_ z4_ z2_ z7_ a2H a8c PA.nox z4_ g5_ z7_ a7Y PS.nox w7_ j7_ y8_ k4_ z4_ z2_ z7_ y8_ k4_ z4_ z2_ z7_ v4_ a5V j2_ a2H a4Z)
theorem c0Z:FnScope ["one","other"] ["one","other"] (y3_ a8O):=⟨rfl,rfl,rfl,by decide+kernel,rfl,by decide+kernel,by decide+kernel⟩
theorem nd9:(["-0","-1","row","line"]:List Str).Nodup:=by decide+kernel
def a9r:Mo Fl:=(a2u (v9_ (a0c (z1_ (z0_ 0) (z1_ (z0_ 1) z3_))) [false,false] 2 (gT 2 (gCn (gN 2) (gCn (gN 3) gNl))) v6_ (mF (a0c (z1_ (z0_ 2) (z1_ (z0_ 3) z3_))))))
def a1j:Fn:=fnM 2 a9r
theorem c1a{f:Addr}(F:Fun K "pairs_of" "pairs_of" a8O f fd)(T:Txt K mg):FnOk P w K mg base CX0 1 f fd ["one","other"] (SpF K 2 a1j):=
 k0_ F c0Z fun cdv A outer s H E hr=>(by have n0:=nd9;cases T;injections v4_ a4K;exists (w5_ (N':=["-0","-1","row","line"]) (keep:=[false,false]) (more:=2) ?_ ?_ ?_ ?_ ?_ ?_ ?_);injections a2A z4_ z2_ z4_ z2_ z7_ g8_ x7_ v2_ x7_ v2_ g7_ k9_ y4_ b2n z4_ z2_ z4_ z2_ z7_)
theorem a3y:FnScope ["one","other","heights","others"] ["one","other"] (y3_ a6K):=⟨rfl,rfl,rfl,by decide+kernel,rfl,by decide+kernel,by decide+kernel⟩
theorem c1b:(["-0","-1","-2","-3","row","height","beside"]:List Str).Nodup:=by decide+kernel
def a9s:Mo Fl:=(q1_ (a0k (mCD 2 a0z (z6_ (z0_ 0) (z6_ (z0_ 1) z8_))) (gT 2 (gCn (gN 2) (gCn (gN 3) gNl)))) (y0_ (mCB a1a (z1_ (mF (a4b (y1_ (mF (a0Y 2 a1j (z6_ (z0_ 2) (z6_ (z0_ 3) z8_))))) [false,false,false,false] 3 (gN 4) v6_ (aIn (y1_ (z0_ 4)) (gT 2 (gCn (gN 5) (gCn (gN 6) gNl))) v6_ (a2K (z5_ dGe (z0_ 5) (z0_ 6)))))) z3_))))
def a0R:Fn:=fnM 4 a9s
theorem c1c{f:Addr}(F:Fun K "is_below" "is_below" a6K f fd)(T:Txt K mg)(d_heights_of_both:Def P w K mg base "heights_of_both" 7 2 a0z)(d_pairs_of:Def P w K mg base "pairs_of" 1 2 a1j):FnOk P w K mg base CX0 8 f fd ["one","other"] (SpF K 2 a0R):=
 k0_ F a3y fun cdv A outer s H E hr=>(by have n0:=c1b;have n1:=a3y.nd;cases T;injections q7_ a2a v7_ q3_ z2_ q3_ z2_ q9_ g8_ x7_ v2_ x7_ v2_ g7_ v4_ x0_ y8_;exists (a3m rfl);injections z4_ y4_;exists (b2k (N':=["-0","-1","-2","-3","row","height","beside"]) (keep:=[false,false,false,false]) (more:=3) ?_ ?_ ?_ ?_ ?_ ?_ ?_);injections k8_ y4_ a3U q3_ z2_ q3_ z2_ q9_ v2_ k9_ b2j k8_ z2_ g8_ x7_ v2_ x7_ v2_ g7_ k9_ b2i a3e z2_ z2_ z7_)
def c1d:Mx:=(a0F (a2g 2 a0p (z6_ (z0_ 0) (z6_ (z0_ 1) z8_))) (a0k (mCD 2 a0z (z6_ (z0_ 0) (z6_ (z0_ 1) z8_))) (gT 2 (gCn (gN 2) (gCn (gN 3) gNl)))) xNo)
def a1L:List W->Option Str:=fnX 4 c1d
theorem c1e{f:Addr}(F:Fun K "is_below" "is_below" a6K f fd)(T:Txt K mg)(d_heights_of_both:Def P w K mg base "heights_of_both" 7 2 a0z)(d_pairs_of:Def P w K mg base "pairs_of" 1 2 a1j)(dx_heights_of_both:DefX P w K mg base "heights_of_both" 7 2 a0p):FnOk P w K mg base (CXE P w) 8 f fd ["one","other"] (SpX K 2 a1L):=
 a5a F a3y fun cdv A outer s H E hr=>(@a3r _ _ _ _ _ _ _ _ (@a8u _ _ _ _ _ _ _ _ _ (@a3Y _ _ _ _ _ _ _ _ _ _ _ _ (by exact a6t) (by exact dx_heights_of_both) (by exact(hr.mono (show 7≤7 by decide))) (by exact rfl) (by exact(PA.nox (@q3_ _ _ _ _ _ _ (@z2_ _ _ _ _ _ (pv 0)) (@q3_ _ _ _ _ _ _ (@z2_ _ _ _ _ _ (pv 1)) (@q9_ _ _) (by exact g9_ rfl)) (by exact g9_ rfl)))) (by decide) (by exact g9_ rfl) (by exact a2C rfl)) (@g8_ _ _ _ _ _ _ _ _ (by exact rfl) (@x7_ _ _ _ _ _ _ _ (@v2_ _ _ _ _ 2 _ (by exact(show 0≤2 by decide)) (by exact a3y.nd) (by exact rfl) (by first|exact Or.inl rfl|exact Or.inr rfl) (by first|exact .inl rfl|exact .inr rfl|assumption)) (@x7_ _ _ _ _ _ _ _ (@v2_ _ _ _ _ 3 _ (by exact(show 0≤3 by decide)) (by exact a3y.nd) (by exact rfl) (by first|exact Or.inl rfl|exact Or.inr rfl) (by first|exact .inl rfl|exact .inr rfl|assumption)) (@g7_ _ _ _) (by rfl)) (by rfl)) (by rfl) (by rfl)) (by rfl) (by rfl) (by rfl)) (by exact(PS.nox (@a2a _ _ _ _ _ _ _ (@v7_ _ _ _ _ _ _ _ _ _ _ _ (by exact d_heights_of_both) (by exact(hr.mono (show 7≤7 by decide))) (by exact rfl) (@q3_ _ _ _ _ _ _ (@z2_ _ _ _ _ _ (pv 0)) (@q3_ _ _ _ _ _ _ (@z2_ _ _ _ _ _ (pv 1)) (@q9_ _ _) (by exact g9_ rfl)) (by exact g9_ rfl)) (by decide) (by exact g9_ rfl) (by exact a2C rfl)) (@g8_ _ _ _ _ _ _ _ _ (by exact rfl) (@x7_ _ _ _ _ _ _ _ (@v2_ _ _ _ _ 2 _ (by exact(show 0≤2 by decide)) (by exact a3y.nd) (by exact rfl) (by first|exact Or.inl rfl|exact Or.inr rfl) (by first|exact .inl rfl|exact .inr rfl|assumption)) (@x7_ _ _ _ _ _ _ _ (@v2_ _ _ _ _ 3 _ (by exact(show 0≤3 by decide)) (by exact a3y.nd) (by exact rfl) (by first|exact Or.inl rfl|exact Or.inr rfl) (by first|exact .inl rfl|exact .inr rfl|assumption)) (@g7_ _ _ _) (by rfl)) (by rfl)) (by rfl) (by rfl)) (by rfl) (by rfl) (by rfl)))) (@a2H _ _ _ _ _ (@a4Z _ _ _ _)))
theorem a3z:FnScope ["one","other","heights","others"] ["one","other"] (y3_ a6L):=⟨rfl,rfl,rfl,by decide+kernel,rfl,by decide+kernel,by decide+kernel⟩
theorem c1f:(["-0","-1","-2","-3","row"]:List Str).Nodup:=by decide+kernel
theorem c1g:(["-0","-1","-2","-3","-4","pair"]:List Str).Nodup:=by decide+kernel
def a9t:Mo Fl:=(q1_ (a0k (mCD 2 a0z (z6_ (z0_ 0) (z6_ (z0_ 1) z8_))) (gT 2 (gCn (gN 2) (gCn (gN 3) gNl)))) (y0_ (mCD 1 a2o (z6_ (mCB j1_ (z1_ (mF (v9_ (y1_ (mF (a0Y 2 a1j (z6_ (z0_ 2) (z6_ (z0_ 3) z8_))))) [false,false,false,false] 1 (gN 4) v6_ (mCB j1_ (z1_ (mF (v9_ (y1_ (z0_ 4)) [false,false,false,false,false] 1 (gN 5) v6_ (mCB (u4_ true) (z1_ (z0_ 5) z3_)))) z3_)))) z3_)) z8_))))
def a1M:Fn:=fnM 4 a9t
theorem c1h{f:Addr}(F:Fun K "both_below" "both_below" a6L f fd)(T:Txt K mg)(d_heights_of_both:Def P w K mg base "heights_of_both" 7 2 a0z)(d_unsummed:Def P w K mg base "unsummed" 4 1 a2o)(d_pairs_of:Def P w K mg base "pairs_of" 1 2 a1j):FnOk P w K mg base CX0 8 f fd ["one","other"] (SpF K 2 a1M):=
 k0_ F a3z fun cdv A outer s H E hr=>(by have n0:=c1f;have n1:=c1g;have n2:=a3z.nd;cases T;injections q7_ a2a v7_ q3_ z2_ q3_ z2_ q9_ g8_ x7_ v2_ x7_ v2_ g7_ v4_ x0_ v7_ q3_ a0f a0h z4_ y4_;exists (w5_ (N':=["-0","-1","-2","-3","row"]) (keep:=[false,false,false,false]) (more:=1) ?_ ?_ ?_ ?_ ?_ ?_ ?_);injections k8_ y4_ a3U q3_ z2_ q3_ z2_ q9_ v2_ k9_ a0f a0h z4_ y4_;exists (w5_ (N':=["-0","-1","-2","-3","-4","pair"]) (keep:=[false,false,false,false,false]) (more:=1) ?_ ?_ ?_ ?_ ?_ ?_ ?_);injections k8_ z2_ v2_ k9_ y8_;exists (b1P rfl);injections z4_ z2_ z7_ z7_ z7_ q9_)
def c1i:Mx:=(a0F (a2g 2 a0p (z6_ (z0_ 0) (z6_ (z0_ 1) z8_))) (a0k (mCD 2 a0z (z6_ (z0_ 0) (z6_ (z0_ 1) z8_))) (gT 2 (gCn (gN 2) (gCn (gN 3) gNl)))) xNo)
def a1N:List W->Option Str:=fnX 4 c1i
theorem c1j{f:Addr}(F:Fun K "both_below" "both_below" a6L f fd)(T:Txt K mg)(d_heights_of_both:Def P w K mg base "heights_of_both" 7 2 a0z)(d_unsummed:Def P w K mg base "unsummed" 4 1 a2o)(d_pairs_of:Def P w K mg base "pairs_of" 1 2 a1j)(dx_heights_of_both:DefX P w K mg base "heights_of_both" 7 2 a0p):FnOk P w K mg base (CXE P w) 8 f fd ["one","other"] (SpX K 2 a1N):=
 a5a F a3z fun cdv A outer s H E hr=>(@a3r _ _ _ _ _ _ _ _ (@a8u _ _ _ _ _ _ _ _ _ (@a3Y _ _ _ _ _ _ _ _ _ _ _ _ (by exact a6t) (by exact dx_heights_of_both) (by exact(hr.mono (show 7≤7 by decide))) (by exact rfl) (by exact(PA.nox (@q3_ _ _ _ _ _ _ (@z2_ _ _ _ _ _ (pv 0)) (@q3_ _ _ _ _ _ _ (@z2_ _ _ _ _ _ (pv 1)) (@q9_ _ _) (by exact g9_ rfl)) (by exact g9_ rfl)))) (by decide) (by exact g9_ rfl) (by exact a2C rfl)) (@g8_ _ _ _ _ _ _ _ _ (by exact rfl) (@x7_ _ _ _ _ _ _ _ (@v2_ _ _ _ _ 2 _ (by exact(show 0≤2 by decide)) (by exact a3z.nd) (by exact rfl) (by first|exact Or.inl rfl|exact Or.inr rfl) (by first|exact .inl rfl|exact .inr rfl|assumption)) (@x7_ _ _ _ _ _ _ _ (@v2_ _ _ _ _ 3 _ (by exact(show 0≤3 by decide)) (by exact a3z.nd) (by exact rfl) (by first|exact Or.inl rfl|exact Or.inr rfl) (by first|exact .inl rfl|exact .inr rfl|assumption)) (@g7_ _ _ _) (by rfl)) (by rfl)) (by rfl) (by rfl)) (by rfl) (by rfl) (by rfl)) (by exact(PS.nox (@a2a _ _ _ _ _ _ _ (@v7_ _ _ _ _ _ _ _ _ _ _ _ (by exact d_heights_of_both) (by exact(hr.mono (show 7≤7 by decide))) (by exact rfl) (@q3_ _ _ _ _ _ _ (@z2_ _ _ _ _ _ (pv 0)) (@q3_ _ _ _ _ _ _ (@z2_ _ _ _ _ _ (pv 1)) (@q9_ _ _) (by exact g9_ rfl)) (by exact g9_ rfl)) (by decide) (by exact g9_ rfl) (by exact a2C rfl)) (@g8_ _ _ _ _ _ _ _ _ (by exact rfl) (@x7_ _ _ _ _ _ _ _ (@v2_ _ _ _ _ 2 _ (by exact(show 0≤2 by decide)) (by exact a3z.nd) (by exact rfl) (by first|exact Or.inl rfl|exact Or.inr rfl) (by first|exact .inl rfl|exact .inr rfl|assumption)) (@x7_ _ _ _ _ _ _ _ (@v2_ _ _ _ _ 3 _ (by exact(show 0≤3 by decide)) (by exact a3z.nd) (by exact rfl) (by first|exact Or.inl rfl|exact Or.inr rfl) (by first|exact .inl rfl|exact .inr rfl|assumption)) (@g7_ _ _ _) (by rfl)) (by rfl)) (by rfl) (by rfl)) (by rfl) (by rfl) (by rfl)))) (@a2H _ _ _ _ _ (@a4Z _ _ _ _)))
theorem a3A:FnScope ["one","other","heights","others"] ["one","other"] (y3_ a6M):=⟨rfl,rfl,rfl,by decide+kernel,rfl,by decide+kernel,by decide+kernel⟩
theorem c1k:(["-0","-1","-2","-3","row"]:List Str).Nodup:=by decide+kernel
theorem c1l:(["-0","-1","-2","-3","-4","pair"]:List Str).Nodup:=by decide+kernel
def a9u:Mo Fl:=(q1_ (a0k (mCD 2 a0z (z6_ (z0_ 0) (z6_ (z0_ 1) z8_))) (gT 2 (gCn (gN 2) (gCn (gN 3) gNl)))) (y0_ (mCD 1 a2o (z6_ (mCB j1_ (z1_ (mF (v9_ (y1_ (mF (a0Y 2 a1j (z6_ (z0_ 2) (z6_ (z0_ 3) z8_))))) [false,false,false,false] 1 (gN 4) v6_ (mCB j1_ (z1_ (mF (v9_ (y1_ (z0_ 4)) [false,false,false,false,false] 1 (gN 5) v6_ (mCB (u4_ false) (z1_ (z0_ 5) z3_)))) z3_)))) z3_)) z8_))))
def a1O:Fn:=fnM 4 a9u
theorem c1m{f:Addr}(F:Fun K "both_above" "both_above" a6M f fd)(T:Txt K mg)(d_heights_of_both:Def P w K mg base "heights_of_both" 7 2 a0z)(d_unsummed:Def P w K mg base "unsummed" 4 1 a2o)(d_pairs_of:Def P w K mg base "pairs_of" 1 2 a1j):FnOk P w K mg base CX0 8 f fd ["one","other"] (SpF K 2 a1O):=
 k0_ F a3A fun cdv A outer s H E hr=>(by have n0:=c1k;have n1:=c1l;have n2:=a3A.nd;cases T;injections q7_ a2a v7_ q3_ z2_ q3_ z2_ q9_ g8_ x7_ v2_ x7_ v2_ g7_ v4_ x0_ v7_ q3_ a0f a0h z4_ y4_;exists (w5_ (N':=["-0","-1","-2","-3","row"]) (keep:=[false,false,false,false]) (more:=1) ?_ ?_ ?_ ?_ ?_ ?_ ?_);injections k8_ y4_ a3U q3_ z2_ q3_ z2_ q9_ v2_ k9_ a0f a0h z4_ y4_;exists (w5_ (N':=["-0","-1","-2","-3","-4","pair"]) (keep:=[false,false,false,false,false]) (more:=1) ?_ ?_ ?_ ?_ ?_ ?_ ?_);injections k8_ z2_ v2_ k9_ y8_;exists (a4Y rfl);injections z4_ z2_ z7_ z7_ z7_ q9_)
def c1n:Mx:=(a0F (a2g 2 a0p (z6_ (z0_ 0) (z6_ (z0_ 1) z8_))) (a0k (mCD 2 a0z (z6_ (z0_ 0) (z6_ (z0_ 1) z8_))) (gT 2 (gCn (gN 2) (gCn (gN 3) gNl)))) xNo)
def a1P:List W->Option Str:=fnX 4 c1n
theorem c1o{f:Addr}(F:Fun K "both_above" "both_above" a6M f fd)(T:Txt K mg)(d_heights_of_both:Def P w K mg base "heights_of_both" 7 2 a0z)(d_unsummed:Def P w K mg base "unsummed" 4 1 a2o)(d_pairs_of:Def P w K mg base "pairs_of" 1 2 a1j)(dx_heights_of_both:DefX P w K mg base "heights_of_both" 7 2 a0p):FnOk P w K mg base (CXE P w) 8 f fd ["one","other"] (SpX K 2 a1P):=
 a5a F a3A fun cdv A outer s H E hr=>(@a3r _ _ _ _ _ _ _ _ (@a8u _ _ _ _ _ _ _ _ _ (@a3Y _ _ _ _ _ _ _ _ _ _ _ _ (by exact a6t) (by exact dx_heights_of_both) (by exact(hr.mono (show 7≤7 by decide))) (by exact rfl) (by exact(PA.nox (@q3_ _ _ _ _ _ _ (@z2_ _ _ _ _ _ (pv 0)) (@q3_ _ _ _ _ _ _ (@z2_ _ _ _ _ _ (pv 1)) (@q9_ _ _) (by exact g9_ rfl)) (by exact g9_ rfl)))) (by decide) (by exact g9_ rfl) (by exact a2C rfl)) (@g8_ _ _ _ _ _ _ _ _ (by exact rfl) (@x7_ _ _ _ _ _ _ _ (@v2_ _ _ _ _ 2 _ (by exact(show 0≤2 by decide)) (by exact a3A.nd) (by exact rfl) (by first|exact Or.inl rfl|exact Or.inr rfl) (by first|exact .inl rfl|exact .inr rfl|assumption)) (@x7_ _ _ _ _ _ _ _ (@v2_ _ _ _ _ 3 _ (by exact(show 0≤3 by decide)) (by exact a3A.nd) (by exact rfl) (by first|exact Or.inl rfl|exact Or.inr rfl) (by first|exact .inl rfl|exact .inr rfl|assumption)) (@g7_ _ _ _) (by rfl)) (by rfl)) (by rfl) (by rfl)) (by rfl) (by rfl) (by rfl)) (by exact(PS.nox (@a2a _ _ _ _ _ _ _ (@v7_ _ _ _ _ _ _ _ _ _ _ _ (by exact d_heights_of_both) (by exact(hr.mono (show 7≤7 by decide))) (by exact rfl) (@q3_ _ _ _ _ _ _ (@z2_ _ _ _ _ _ (pv 0)) (@q3_ _ _ _ _ _ _ (@z2_ _ _ _ _ _ (pv 1)) (@q9_ _ _) (by exact g9_ rfl)) (by exact g9_ rfl)) (by decide) (by exact g9_ rfl) (by exact a2C rfl)) (@g8_ _ _ _ _ _ _ _ _ (by exact rfl) (@x7_ _ _ _ _ _ _ _ (@v2_ _ _ _ _ 2 _ (by exact(show 0≤2 by decide)) (by exact a3A.nd) (by exact rfl) (by first|exact Or.inl rfl|exact Or.inr rfl) (by first|exact .inl rfl|exact .inr rfl|assumption)) (@x7_ _ _ _ _ _ _ _ (@v2_ _ _ _ _ 3 _ (by exact(show 0≤3 by decide)) (by exact a3A.nd) (by exact rfl) (by first|exact Or.inl rfl|exact Or.inr rfl) (by first|exact .inl rfl|exact .inr rfl|assumption)) (@g7_ _ _ _) (by rfl)) (by rfl)) (by rfl) (by rfl)) (by rfl) (by rfl) (by rfl)))) (@a2H _ _ _ _ _ (@a4Z _ _ _ _)))
theorem c1p:FnScope ["_law_script","_law_k"] ["_law_script","_law_k"] (y3_ a8P):=⟨rfl,rfl,rfl,by decide+kernel,rfl,by decide+kernel,by decide+kernel⟩
def a5r:Mo Fl:=(q1_ (y9_ (mT (z5_ dLt (z0_ 1) (mCB q6_ (z1_ (z0_ 0) z3_)))) (y0_ (z5_ dIx (z0_ 0) (z0_ 1))) mNx) (y0_ (mC (.int 0))))
def a4l:Fn:=fnM 2 a5r
theorem c1q{f:Addr}(F:Fun K "_law_cell_at" "_law_cell_at" a8P f fd)(T:Txt K mg):FnOk P w K mg base CX0 1 f fd ["_law_script","_law_k"] (SpF K 2 a4l):=
 k0_ F c1p fun cdv A outer s H E hr=>(by cases T;injections q7_ w7_ j7_ z2_ y8_ k4_ z4_ z2_ z7_ v4_ x0_ j0_ z2_ z2_ j2_ v4_ x0_ q0_)
theorem b2Y:FnScope ["_law_script","_law_k","_law_cell"] ["_law_script","_law_k"] (y3_ a8Q):=⟨rfl,rfl,rfl,by decide+kernel,rfl,by decide+kernel,by decide+kernel⟩
def a5s:Mo Fl:=(q1_ (v1_ 2 (mCD 2 a4l (z6_ (z0_ 0) (z6_ (z0_ 1) z8_)))) (q1_ (y9_ (mT (z5_ dGe (z0_ 2) (z5_ a0V (mC (.int 10)) (mC (.int 18))))) (a2u (x2_ (z1_ (z5_ u2_ (z0_ 2) (z5_ a0V (mC (.int 10)) (mC (.int 18)))) (z1_ (mC (.bl true)) z3_)))) mNx) (a2u (x2_ (z1_ (z5_ g6_ (z0_ 2) (mC (.int 2147483647))) (z1_ (mC (.bl false)) z3_))))))
def a4m:Fn:=fnM 3 a5s
theorem c1r{f:Addr}(F:Fun K "_law_state" "_law_state" a8Q f fd)(T:Txt K mg)(d__law_cell_at:Def P w K mg base "_law_cell_at" 1 2 a4l):FnOk P w K mg base CX0 2 f fd ["_law_script","_law_k"] (SpF K 2 a4m):=
 k0_ F b2Y fun cdv A outer s H E hr=>(by have n0:=b2Y.nd;cases T;injections q7_ x9_ v7_ q3_ z2_ q3_ z2_ q9_ q7_ w7_ j7_ z2_ v8_ q0_ q0_ v4_ a4K k7_ z4_ v8_ z2_ v8_ q0_ q0_ z4_ j6_ z7_ j2_ v4_ a4K k7_ z4_ v8_ z2_ q0_ z4_ j6_ z7_)
theorem b2Z:FnScope ["_law_state_here","_law_many","_law_mixed","_law_found"] ["_law_state_here","_law_many"] (y3_ a8R):=⟨rfl,rfl,rfl,by decide+kernel,rfl,by decide+kernel,by decide+kernel⟩
def a5t:Mo Fl:=(q1_ (y9_ (mT (u5_ 0 (mC (.int 1)))) (q1_ (v1_ 3 (z5_ g6_ (u5_ 0 (mC (.int 0))) (z0_ 1))) (q1_ (a0k (z5_ a4F (u5_ 0 (mC (.int 0))) (z0_ 1)) (gS 0 (mC (.int 0)))) (y0_ (z0_ 3)))) mNx) (q1_ (a0k (z5_ g6_ (z5_ v3_ (z5_ j4_ (u5_ 0 (mC (.int 0))) (mC (.int 48271))) (mC (.int 29))) (mC (.int 2147483647))) (gS 0 (mC (.int 0)))) (q1_ (v1_ 2 (z5_ g6_ (z5_ v3_ (z5_ v3_ (z5_ j4_ (u5_ 0 (mC (.int 0))) (u5_ 0 (mC (.int 0)))) (z5_ j4_ (mC (.int 39373)) (u5_ 0 (mC (.int 0))))) (mC (.int 7))) (mC (.int 2147483629)))) (q1_ (v1_ 2 (z5_ g6_ (z5_ v3_ (z5_ j4_ (z0_ 2) (z0_ 2)) (z5_ j4_ (mC (.int 16807)) (z0_ 2))) (mC (.int 2147483587)))) (y0_ (z5_ g6_ (z5_ a4F (z0_ 2) (mC (.int 8))) (z0_ 1)))))))
def x6_:Fn:=fnM 4 a5t
theorem c1s{f:Addr}(F:Fun K "_law_take" "_law_take" a8R f fd)(T:Txt K mg):FnOk P w K mg base CX0 1 f fd ["_law_state_here","_law_many"] (SpF K 2 x6_):=
 k0_ F b2Z fun cdv A outer s H E hr=>(by have n0:=b2Z.nd;cases T;injections q7_ w7_ a0d a1Z q0_ q7_ x9_ v8_ a1Z q0_ z2_ q7_ a2a v8_ a1Z q0_ z2_ a7J q0_ v4_ x0_ z2_ j2_ q7_ a2a v8_ v8_ v8_ a1Z q0_ q0_ q0_ q0_ a7J q0_ q7_ x9_ v8_ v8_ v8_ v8_ a1Z q0_ a1Z q0_ v8_ q0_ a1Z q0_ q0_ q0_ q7_ x9_ v8_ v8_ v8_ z2_ z2_ v8_ q0_ z2_ q0_ v4_ x0_ v8_ v8_ z2_ q0_ z2_)
theorem b3a:FnScope ["_law_held_here","_law_found","_law_bit","_law_longer","_law_row","_law_here"] ["_law_held_here"] (y3_ a8S):=⟨rfl,rfl,rfl,by decide+kernel,rfl,by decide+kernel,by decide+kernel⟩
theorem c1t:(["-0","-1","-2","-3","-4","-5","_law_row","_law_here"]:List Str).Nodup:=by decide+kernel
def c1u:Mo Fl:=(q1_ (v1_ 1 (mF (x2_ (z1_ (v5_ (z1_ (v5_ z3_) (z1_ (mC (.int 0)) z3_))) z3_)))) (q1_ (g1_ (y1_ (z0_ 0)) (gN 2) (q1_ (j3_ 3 (x2_ z3_)) (q1_ (g1_ (y1_ (z0_ 1)) (gT 2 (gCn (gN 4) (gCn (gN 5) gNl))) (q1_ (y9_ (a4G (mT (z5_ (dEq false) (z0_ 5) (mC (.int 1)))) (mT (z5_ (dEq false) (z0_ 2) (mC (.int 1))))) (a0C 3 (v5_ (z1_ (z5_ v3_ (z0_ 4) (v5_ (z1_ (j8_ (mC (.int 1))) z3_))) (z1_ (mC (.int 0)) z3_)))) mNx) (q1_ (a0C 3 (v5_ (z1_ (z5_ v3_ (z0_ 4) (v5_ (z1_ (mC (.int 0)) z3_))) (z1_ (z0_ 5) z3_)))) (y9_ (a4G (mT (z5_ (dEq false) (z0_ 5) (mC (.int 0)))) (mT (z5_ (dEq false) (z0_ 2) (mC (.int 0))))) (a0C 3 (v5_ (z1_ (z5_ v3_ (z0_ 4) (v5_ (z1_ (mC (.int 1)) z3_))) (z1_ (mC (.int 1)) z3_)))) mNx)))) (v1_ 1 (z0_ 3))))) (a2u (v9_ (y1_ (z0_ 1)) [false,false,false,false,false,false] 2 (gT 2 (gCn (gN 6) (gCn (gN 7) gNl))) (mT (z5_ (dEq false) (z0_ 7) (mC (.int 1)))) (z0_ 6)))))
def a2S:Fn:=fnM 6 c1u
theorem c1v{f:Addr}(F:Fun K "_law_rows" "_law_rows" a8S f fd)(T:Txt K mg):FnOk P w K mg base CX0 1 f fd ["_law_held_here"] (SpF K 1 a2S):=
 k0_ F b3a fun cdv A outer s H E hr=>(by have n0:=c1t;have n1:=b3a.nd;cases T;injections q7_ x9_ y4_ k7_ z4_ x1_ z4_ x1_ z7_ z4_ q0_ z7_ z7_ q7_ a0D k8_ z2_ v2_ q7_ a1B k7_ z7_ q7_ a0D k8_ z2_ g8_ x7_ v2_ x7_ v2_ g7_ q7_ w7_ a0W a7C j7_ z2_ q0_ a7B j7_ z2_ q0_ v4_ a2v z4_ x1_ z4_ v8_ z2_ x1_ z4_ a1Y q0_ z7_ z4_ q0_ z7_ z7_ j2_ q7_ a2v z4_ x1_ z4_ v8_ z2_ x1_ z4_ q0_ z7_ z4_ z2_ z7_ z7_ v4_ w7_ a0W a7C j7_ z2_ q0_ a7B j7_ z2_ q0_ v4_ a2v z4_ x1_ z4_ v8_ z2_ x1_ z4_ q0_ z7_ z4_ q0_ z7_ z7_ j2_ v4_ x9_ z2_ v4_ a4K;exists (w5_ (N':=["-0","-1","-2","-3","-4","-5","_law_row","_law_here"]) (keep:=[false,false,false,false,false,false]) (more:=2) ?_ ?_ ?_ ?_ ?_ ?_ ?_);injections k8_ z2_ g8_ x7_ v2_ x7_ v2_ g7_ a6h j7_ z2_ q0_ z2_)
theorem c1w:FnScope ["_law_held_here","_law_row"] ["_law_held_here","_law_row"] (y3_ a8T):=⟨rfl,rfl,rfl,by decide+kernel,rfl,by decide+kernel,by decide+kernel⟩
theorem c1x:(["-0","-1","_law_first","_law_second"]:List Str).Nodup:=by decide+kernel
def a9v:Mo Fl:=(y0_ (mCB j1_ (z1_ (mF (v9_ (a0c (z1_ (z0_ 0) (z1_ (z0_ 1) z3_))) [false,false] 2 (gT 2 (gCn (gN 2) (gCn (gN 3) gNl))) v6_ (z5_ v3_ (z0_ 2) (z0_ 3)))) z3_)))
def a3B:Fn:=fnM 2 a9v
theorem c1y{f:Addr}(F:Fun K "_law_held" "_law_held" a8T f fd)(T:Txt K mg):FnOk P w K mg base CX0 1 f fd ["_law_held_here","_law_row"] (SpF K 2 a3B):=
 k0_ F c1w fun cdv A outer s H E hr=>(by have n0:=c1x;cases T;injections v4_ x0_ a0f a0h z4_ y4_;exists (w5_ (N':=["-0","-1","_law_first","_law_second"]) (keep:=[false,false]) (more:=2) ?_ ?_ ?_ ?_ ?_ ?_ ?_);injections a2A z4_ z2_ z4_ z2_ z7_ g8_ x7_ v2_ x7_ v2_ g7_ k9_ v8_ z2_ z2_ z7_)
theorem b3b:FnScope ["_law_state_here","_law_side","_law_held_here","_law_found","_law_few","_law_turn","_law_rows_here","_law_row","_law_most"] ["_law_state_here","_law_side"] (y3_ a8U):=⟨rfl,rfl,rfl,by decide+kernel,rfl,by decide+kernel,by decide+kernel⟩
theorem c1z:(["-0","-1","-2","-3","-4","-5","-6","-7","_law_most","_law_row"]:List Str).Nodup:=by decide+kernel
theorem c1A:(["-0","-1","-2","-3","-4","-5","-6","-7","-8","_law_row"]:List Str).Nodup:=by decide+kernel
def a9w:Mo Fl:=(q1_ (v1_ 2 (z5_ j4_ (v5_ (z1_ (mC (.int 0)) z3_)) (z0_ 1))) (q1_ (v1_ 3 (v5_ z3_)) (q1_ (v1_ 4 (mCD 2 x6_ (y6_ 0 (z6_ (mC (.int 3)) z8_)))) (q1_ (g1_ (g0_ (z1_ (z0_ 1) z3_)) (gN 5) (q1_ (v1_ 6 (mF (a0Y 1 a2S (z6_ (z0_ 2) z8_)))) (q1_ (y9_ (mT (z5_ (dEq false) (z0_ 4) (mC (.int 0)))) (q1_ (v1_ 8 (mCB (u4_ false) (z1_ (mF (v9_ (y1_ (z0_ 6)) [false,false,false,false,false,false,false,false,false] 1 (gN 9) v6_ (mCB (u4_ false) (z1_ (z0_ 9) z3_)))) z3_))) (j3_ 6 (v9_ (y1_ (z0_ 6)) [false,false,false,false,false,false,false,false,true] 1 (gN 9) (mT (z5_ (dEq false) (mCB (u4_ false) (z1_ (z0_ 9) z3_)) (z0_ 8))) (z0_ 9)))) mNx) (q1_ (v1_ 7 (z5_ dIx (z0_ 6) (mCD 2 x6_ (y6_ 0 (z6_ (mCB q6_ (z1_ (z0_ 6) z3_)) z8_))))) (q1_ (v1_ 3 (z5_ v3_ (z0_ 3) (v5_ (z1_ (z0_ 7) z3_)))) (v1_ 2 (mCD 2 a3B (z6_ (z0_ 2) (z6_ (z0_ 7) z8_))))))))) (y0_ (z0_ 3))))))
def a1Q:Fn:=fnM 9 a9w
theorem c1B{f:Addr}(F:Fun K "_law_table" "_law_table" a8U f fd)(T:Txt K mg)(d__law_take:Def P w K mg base "_law_take" 1 2 x6_)(d__law_rows:Def P w K mg base "_law_rows" 1 1 a2S)(d__law_held:Def P w K mg base "_law_held" 1 2 a3B):FnOk P w K mg base CX0 2 f fd ["_law_state_here","_law_side"] (SpF K 2 a1Q):=
 k0_ F b3b fun cdv A outer s H E hr=>(by have n0:=c1z;have n1:=c1A;have n2:=b3b.nd;cases T;injections q7_ x9_ v8_ x1_ z4_ q0_ z7_ z2_ q7_ x9_ x1_ z7_ q7_ x9_ v7_ j9_ q3_ q0_ q9_ q7_ a0D a1D z4_ z2_ z7_ v2_ q7_ x9_ y4_ a3U q3_ z2_ q9_ q7_ w7_ j7_ z2_ q0_ q7_ x9_ y8_;exists (a4Y rfl);injections z4_ y4_;exists (w5_ (N':=["-0","-1","-2","-3","-4","-5","-6","-7","-8","_law_row"]) (keep:=[false,false,false,false,false,false,false,false,false]) (more:=1) ?_ ?_ ?_ ?_ ?_ ?_ ?_);injections k8_ z2_ v2_ k9_ y8_;exists (a4Y rfl);injections z4_ z2_ z7_ z7_ v4_;exists (a4T (N':=["-0","-1","-2","-3","-4","-5","-6","-7","_law_most","_law_row"]) (keep:=[false,false,false,false,false,false,false,false,true]) (more:=1) ?_ ?_ ?_ ?_ ?_ ?_ ?_ ?_ ?_ ?_ ?_);injections k8_ z2_ v2_ a6h j7_ y8_;exists (a4Y rfl);injections z4_ z2_ z7_ z2_ z2_ j2_ q7_ x9_ j0_ z2_ v7_ j9_ q3_ y8_ k4_ z4_ z2_ z7_ q9_ q7_ x9_ v8_ z2_ x1_ z4_ z2_ z7_ v4_ x9_ v7_ q3_ z2_ q3_ z2_ q9_ v4_ x0_ z2_)
theorem c1C:FnScope ["_law_thing"] ["_law_thing"] (y3_ a8V):=⟨rfl,rfl,rfl,by decide+kernel,rfl,by decide+kernel,by decide+kernel⟩
def c1D:Mo Fl:=(y0_ (a1A (mIs "int" (z0_ 0)) (a5S (mIs "bool" (z0_ 0)))))
def a4n:Fn:=fnM 1 c1D
theorem c1E{f:Addr}(F:Fun K "_law_whole" "_law_whole" a8V f fd)(T:Txt K mg):FnOk P w K mg base CX0 1 f fd ["_law_thing"] (SpF K 1 a4n):=
 k0_ F c1C fun cdv A outer s H E hr=>(by cases T;injections v4_ x0_ a4I a1n z2_ a4H a7D a1n z2_)
theorem b3c:FnScope ["_law_row","_law_some"] ["_law_row"] (y3_ a8W):=⟨rfl,rfl,rfl,by decide+kernel,rfl,by decide+kernel,by decide+kernel⟩
theorem c1F:(["-0","-1","_law_at"]:List Str).Nodup:=by decide+kernel
theorem c1G:(["-0","-1","_law_one"]:List Str).Nodup:=by decide+kernel
def a9x:Mo Fl:=(q1_ (j3_ 1 (v9_ (y1_ (z0_ 0)) [false,false] 1 (gN 2) (mT (z5_ (dEq true) (z0_ 2) (mC (.int 0)))) (z0_ 2))) (y0_ (a1A (z5_ (dEq false) (z5_ g6_ (mCB q6_ (z1_ (z0_ 1) z3_)) (mC (.int 2))) (mC (.int 1))) (z5_ (dEq false) (z0_ 1) (mF (v9_ (g0_ (z1_ (mCB q6_ (z1_ (z0_ 1) z3_)) z3_)) [false,false] 1 (gN 2) v6_ (z5_ u2_ (mC (.int 1)) (z5_ j4_ (mC (.int 2)) (z5_ g6_ (z0_ 2) (mC (.int 2)))))))))))
def a2p:Fn:=fnM 2 a9x
theorem c1H{f:Addr}(F:Fun K "_law_turns" "_law_turns" a8W f fd)(T:Txt K mg):FnOk P w K mg base CX0 1 f fd ["_law_row"] (SpF K 1 a2p):=
 k0_ F b3c fun cdv A outer s H E hr=>(by have n0:=c1F;have n1:=c1G;have n2:=b3c.nd;cases T;injections q7_;exists (a4T (N':=["-0","-1","_law_one"]) (keep:=[false,false]) (more:=1) ?_ ?_ ?_ ?_ ?_ ?_ ?_ ?_ ?_ ?_ ?_);injections k8_ z2_ v2_ a6h j7_ z2_ q0_ z2_ v4_ x0_ a4I a3e v8_ y8_ k4_ z4_ z2_ z7_ q0_ q0_ a4H a3e z2_ y4_;exists (w5_ (N':=["-0","-1","_law_at"]) (keep:=[false,false]) (more:=1) ?_ ?_ ?_ ?_ ?_ ?_ ?_);injections a1D z4_ y8_ k4_ z4_ z2_ z7_ z7_ v2_ k9_ v8_ q0_ v8_ q0_ v8_ z2_ q0_)
theorem b3d:FnScope ["_law_thing","_law_row"] ["_law_thing"] (y3_ a8X):=⟨rfl,rfl,rfl,by decide+kernel,rfl,by decide+kernel,by decide+kernel⟩
theorem c1I:(["_law_thing","_law_row","_law_at"]:List Str).Nodup:=by decide+kernel
theorem c1J:(["-0","-1","_law_at","_law_row"]:List Str).Nodup:=by decide+kernel
theorem c1K:(["-0","-1","_law_one"]:List Str).Nodup:=by decide+kernel
def a3C:Mo Fl:=(q1_ (y9_ (k6_ (x3_ (mT (mIs "tuple" (z0_ 0)))) (x3_ (mT (a0L dLe dLe (mC (.int 1)) (mCB q6_ (z1_ (z0_ 0) z3_)) (mC (.int 6)))))) (y0_ (mC (.bl false))) mNx) (q1_ (g1_ (y1_ (z0_ 0)) (gN 1) (q1_ (y9_ (k6_ (x3_ (mT (mIs "tuple" (z0_ 1)))) (mT (z5_ (dEq true) (mCB q6_ (z1_ (z0_ 1) z3_)) (mCB q6_ (z1_ (z0_ 0) z3_))))) (y0_ (mC (.bl false))) mNx) (y9_ (k6_ (x3_ (mT (mCB a1a (z1_ (mF (v9_ (y1_ (z0_ 1)) [false,false] 1 (gN 2) v6_ (a1A (mCD 1 a4n (z6_ (z0_ 2) z8_)) (a0L dLe dLe (j8_ (mC (.int 1))) (z0_ 2) (mC (.int 1)))))) z3_)))) (x3_ (mT (mCD 1 a2p (z6_ (z0_ 1) z8_))))) (y0_ (mC (.bl false))) mNx))) (y0_ (mCB a1a (z1_ (mF (v9_ (g0_ (z1_ (mCB q6_ (z1_ (z0_ 0) z3_)) z3_)) [true,true] 1 (gN 2) v6_ (mCD 1 a2p (z6_ (mF (v9_ (y1_ (z0_ 0)) [false,false,true] 1 (gN 3) v6_ (z5_ dIx (z0_ 3) (z0_ 2)))) z8_)))) z3_)))))
def a0q:Fn:=fnM 2 a3C
theorem c1L{f:Addr}(F:Fun K "_law_is_table" "_law_is_table" a8X f fd)(T:Txt K mg)(d__law_turns:Def P w K mg base "_law_turns" 1 1 a2p)(d__law_whole:Def P w K mg base "_law_whole" 1 1 a4n):FnOk P w K mg base CX0 2 f fd ["_law_thing"] (SpF K 1 a0q):=
 k0_ F b3d fun cdv A outer s H E hr=>(by have n0:=c1I;have n1:=c1J;have n2:=c1K;have n3:=b3d.nd;cases T;injections q7_ w7_ a0W a1z a0e a0d a1n z2_ a1y a0e a7E q0_ y8_ k4_ z4_ z2_ z7_ q0_ v4_ x0_ j6_ j2_ q7_ a0D k8_ z2_ v2_ q7_ w7_ a0W a1z a0e a0d a1n z2_ a1y j7_ y8_ k4_ z4_ z2_ z7_ y8_ k4_ z4_ z2_ z7_ v4_ x0_ j6_ j2_ v4_ w7_ a0W a1z a0e a0d y8_;exists (a3m rfl);injections z4_ y4_;exists (w5_ (N':=["-0","-1","_law_one"]) (keep:=[false,false]) (more:=1) ?_ ?_ ?_ ?_ ?_ ?_ ?_);injections k8_ z2_ v2_ k9_ a4I v7_ q3_ z2_ q9_ a4H b0V a1Y q0_ z2_ q0_ z7_ a1y a0e a0d v7_ q3_ z2_ q9_ v4_ x0_ j6_ j2_ v4_ x0_ y8_;exists (a3m rfl);injections z4_ y4_;exists (w5_ (N':=["_law_thing","_law_row","_law_at"]) (keep:=[true,true]) (more:=1) ?_ ?_ ?_ ?_ ?_ ?_ ?_);injections a1D z4_ y8_ k4_ z4_ z2_ z7_ z7_ v2_ k9_ v7_ q3_ y4_;exists (w5_ (N':=["-0","-1","_law_at","_law_row"]) (keep:=[false,false,true]) (more:=1) ?_ ?_ ?_ ?_ ?_ ?_ ?_);injections k8_ z2_ v2_ k9_ j0_ z2_ z2_ q9_ z7_)
theorem b3e:FnScope ["_law_state_here","_law_some"] ["_law_state_here"] (y3_ a8Y):=⟨rfl,rfl,rfl,by decide+kernel,rfl,by decide+kernel,by decide+kernel⟩
def a9y:Mo Fl:=(q1_ (v1_ 1 (mF (x2_ (z1_ (mC .non) (z1_ (mC (.bl true)) (z1_ (mC (.bl false)) (z1_ (j8_ (mC (.int 1))) (z1_ (mC (.int 0)) (z1_ (mC (.int 1)) (z1_ (mC (.str "")) (z1_ (mC (.str "+")) (z1_ (v5_ z3_) (z1_ (mF (x2_ z3_)) (z1_ (v5_ (z1_ (mC (.bl true)) z3_)) (z1_ (mF (x2_ (z1_ (v5_ (z1_ (mC (.int 1)) z3_)) z3_))) (z1_ (mC .emp) (z1_ (v5_ (z1_ (mC .non) z3_)) (z1_ (v5_ (z1_ (v5_ (z1_ (mC (.bl true)) z3_)) z3_)) z3_)))))))))))))))))) (y0_ (z5_ dIx (mF (a0E (z0_ 1) (mF (x2_ (z1_ (z5_ a0V (mC (.int 10)) (mC (.int 29))) (z1_ (v5_ (z1_ (v5_ z3_) z3_)) (z1_ (v5_ (z1_ (v5_ (z1_ (mC (.int 0)) z3_)) z3_)) (z1_ (v5_ (z1_ (v5_ (z1_ (mC (.int 1)) z3_)) (z1_ (v5_ (z1_ (mC (.int 1)) z3_)) z3_))) (z1_ (v5_ (z1_ (v5_ (z1_ (v5_ (z1_ (mC (.int 1)) z3_)) z3_)) z3_)) z3_))))))))) (mCD 2 x6_ (y6_ 0 (z6_ (mC (.int 20)) z8_))))))
def a4o:Fn:=fnM 2 a9y
theorem c1M{f:Addr}(F:Fun K "_law_odd" "_law_odd" a8Y f fd)(T:Txt K mg)(d__law_take:Def P w K mg base "_law_take" 1 2 x6_):FnOk P w K mg base CX0 2 f fd ["_law_state_here"] (SpF K 1 a4o):=
 k0_ F b3e fun cdv A outer s H E hr=>(by have n0:=b3e.nd;cases T;injections q7_ x9_ y4_ k7_ z4_ a1W z4_ j6_ z4_ j6_ z4_ a1Y q0_ z4_ q0_ z4_ q0_ z4_ g5_ z4_ g5_ z4_ x1_ z7_ z4_ y4_ k7_ z7_ z4_ x1_ z4_ j6_ z7_ z4_ y4_ k7_ z4_ x1_ z4_ q0_ z7_ z7_ z4_ b2l z4_ x1_ z4_ a1W z7_ z4_ x1_ z4_ x1_ z4_ j6_ z7_ z7_ z7_ v4_ x0_ j0_ y4_ a2c z2_ y4_ k7_ z4_ v8_ q0_ q0_ z4_ x1_ z4_ x1_ z7_ z7_ z4_ x1_ z4_ x1_ z4_ q0_ z7_ z7_ z4_ x1_ z4_ x1_ z4_ q0_ z7_ z4_ x1_ z4_ q0_ z7_ z7_ z4_ x1_ z4_ x1_ z4_ x1_ z4_ q0_ z7_ z7_ z7_ z7_ v7_ j9_ q3_ q0_ q9_)
theorem b3f:FnScope ["_law_state_here","_law_table_here","_law_row","_law_odd_here","_law_rows_here","_law_one","_law_other","_law_some","_law_at","_law_k"] ["_law_state_here","_law_table_here"] (y3_ a8Z):=⟨rfl,rfl,rfl,by decide+kernel,rfl,by decide+kernel,by decide+kernel⟩
def a9z:Mo Fl:=(q1_ (a1C 8 9 (z1_ (mCD 2 x6_ (y6_ 0 (z6_ (mCB q6_ (z1_ (z0_ 1) z3_)) z8_))) (z1_ (mCD 2 x6_ (y6_ 0 (z6_ (mCB q6_ (z1_ (z0_ 1) z3_)) z8_))) z3_))) (q1_ (v1_ 2 (z5_ dIx (z0_ 1) (z0_ 8))) (q1_ (v1_ 3 (z5_ dIx (mF (x2_ (z1_ (mC (.int 0)) (z1_ (mC (.int 1)) (z1_ (j8_ (mC (.int 1))) (z1_ (mC (.int 2)) (z1_ (j8_ (mC (.int 2))) (z1_ (mC (.bl true)) (z1_ (mC (.bl false)) (z1_ (mC .non) (z1_ (mC (.str "1")) (z1_ (v5_ (z1_ (mC (.int 1)) z3_)) (z1_ (z5_ a0V (mC (.int 10)) (mC (.int 29))) (z1_ (j8_ (z5_ dIx (z0_ 2) (z0_ 9))) z3_)))))))))))))) (mCD 2 x6_ (y6_ 0 (z6_ (mC (.int 12)) z8_))))) (q1_ (v1_ 4 (mF (x2_ (z1_ (z5_ v3_ (z5_ v3_ (mSl (z0_ 2) k1_ (k2_ (z0_ 9))) (v5_ (z1_ (z0_ 3) z3_))) (mSl (z0_ 2) (k2_ (z5_ v3_ (z0_ 9) (mC (.int 1)))) k1_)) (z1_ (z5_ v3_ (z5_ v3_ (mSl (z0_ 2) k1_ (k2_ (z0_ 9))) (v5_ (z1_ (z0_ 3) z3_))) (mSl (z0_ 2) (k2_ (z0_ 9)) k1_)) (z1_ (z5_ v3_ (mSl (z0_ 2) k1_ (k2_ (z0_ 9))) (mSl (z0_ 2) (k2_ (z5_ v3_ (z0_ 9) (mC (.int 1)))) k1_)) (z1_ (mF (mCL a1m (z1_ (z0_ 2) z3_))) z3_))))))) (q1_ (v1_ 5 (z5_ dIx (mF (a0E (z0_ 4) (mF (x2_ (z1_ (a3S (z0_ 2)) (z1_ (mC .non) z3_)))))) (z5_ dIx (mF (x2_ (z1_ (mC (.int 0)) (z1_ (mC (.int 0)) (z1_ (mC (.int 0)) (z1_ (mC (.int 0)) (z1_ (mC (.int 0)) (z1_ (mC (.int 1)) (z1_ (mC (.int 2)) (z1_ (mC (.int 3)) (z1_ (mC (.int 4)) (z1_ (mC (.int 5)) z3_)))))))))))) (mCD 2 x6_ (y6_ 0 (z6_ (mC (.int 10)) z8_)))))) (q1_ (v1_ 6 (z5_ dIx (z0_ 1) (mCD 2 x6_ (y6_ 0 (z6_ (mCB q6_ (z1_ (z0_ 1) z3_)) z8_))))) (q1_ (v1_ 7 (mF (x2_ (z1_ (z5_ v3_ (z5_ v3_ (mSl (z0_ 1) k1_ (k2_ (z0_ 8))) (v5_ (z1_ (z0_ 5) z3_))) (mSl (z0_ 1) (k2_ (z5_ v3_ (z0_ 8) (mC (.int 1)))) k1_)) (z1_ (z5_ v3_ (z5_ v3_ (mSl (z0_ 1) k1_ (k2_ (z0_ 8))) (v5_ (z1_ (z0_ 6) z3_))) (mSl (z0_ 1) (k2_ (z5_ v3_ (z0_ 8) (mC (.int 1)))) k1_)) z3_))))) (q1_ (v1_ 7 (mF (a0E (z0_ 7) (mF (x2_ (z1_ (z5_ v3_ (mSl (z0_ 1) k1_ (k2_ (z0_ 8))) (mSl (z0_ 1) (k2_ (z5_ v3_ (z0_ 8) (mC (.int 1)))) k1_)) (z1_ (z5_ v3_ (z5_ v3_ (mSl (z0_ 1) k1_ (k2_ (z0_ 8))) (v5_ (z1_ (z0_ 2) z3_))) (mSl (z0_ 1) (k2_ (z0_ 8)) k1_)) (z1_ (mF (mCL a1m (z1_ (z0_ 1) z3_))) (z1_ (a3S (z0_ 1)) z3_))))))))) (q1_ (v1_ 7 (mF (a0E (z0_ 7) (mF (x2_ (z1_ (v5_ (z1_ (z0_ 1) z3_)) (z1_ (mC .non) (z1_ (z0_ 2) z3_)))))))) (y0_ (z5_ dIx (z0_ 7) (z5_ dIx (mF (x2_ (z1_ (mC (.int 0)) (z1_ (mC (.int 0)) (z1_ (mC (.int 0)) (z1_ (mC (.int 0)) (z1_ (mC (.int 1)) (z1_ (mC (.int 1)) (z1_ (mC (.int 2)) (z1_ (mC (.int 3)) (z1_ (mC (.int 4)) (z1_ (mC (.int 5)) (z1_ (mC (.int 6)) (z1_ (mC (.int 7)) (z1_ (mC (.int 8)) z3_))))))))))))))) (mCD 2 x6_ (y6_ 0 (z6_ (mC (.int 13)) z8_)))))))))))))))
def a2T:Fn:=fnM 10 a9z
theorem c1N{f:Addr}(F:Fun K "_law_bent" "_law_bent" a8Z f fd)(T:Txt K mg)(d__law_take:Def P w K mg base "_law_take" 1 2 x6_):FnOk P w K mg base CX0 2 f fd ["_law_state_here","_law_table_here"] (SpF K 2 a2T):=
 k0_ F b3f fun cdv A outer s H E hr=>(by have n0:=b3f.nd;cases T;injections q7_;exists (a4L (i:=8) (j:=9) ?_ ?_ ?_ ?_ ?_ ?_ ?_ ?_ ?_ ?_);injections z4_ v7_ j9_ q3_ y8_ k4_ z4_ z2_ z7_ q9_ z4_ v7_ j9_ q3_ y8_ k4_ z4_ z2_ z7_ q9_ z7_ q7_ x9_ j0_ z2_ z2_ q7_ x9_ j0_ y4_ k7_ z4_ q0_ z4_ q0_ z4_ a1Y q0_ z4_ q0_ z4_ a1Y q0_ z4_ j6_ z4_ j6_ z4_ a1W z4_ g5_ z4_ x1_ z4_ q0_ z7_ z4_ v8_ q0_ q0_ z4_ a1Y j0_ z2_ z2_ z7_ v7_ j9_ q3_ q0_ q9_ q7_ x9_ y4_ k7_ z4_ v8_ v8_ a0i z2_ a0a a0b z2_ x1_ z4_ z2_ z7_ a0i z2_ a0b v8_ z2_ q0_ a0a z4_ v8_ v8_ a0i z2_ a0a a0b z2_ x1_ z4_ z2_ z7_ a0i z2_ a0b z2_ a0a z4_ v8_ a0i z2_ a0a a0b z2_ a0i z2_ a0b v8_ z2_ q0_ a0a z4_ y4_ a4J a3L z4_ z2_ z7_ z7_ q7_ x9_ j0_ y4_ a2c z2_ y4_ k7_ z4_ a7T z2_ z4_ a1W z7_ j0_ y4_ k7_ z4_ q0_ z4_ q0_ z4_ q0_ z4_ q0_ z4_ q0_ z4_ q0_ z4_ q0_ z4_ q0_ z4_ q0_ z4_ q0_ z7_ v7_ j9_ q3_ q0_ q9_ q7_ x9_ j0_ z2_ v7_ j9_ q3_ y8_ k4_ z4_ z2_ z7_ q9_ q7_ x9_ y4_ k7_ z4_ v8_ v8_ a0i z2_ a0a a0b z2_ x1_ z4_ z2_ z7_ a0i z2_ a0b v8_ z2_ q0_ a0a z4_ v8_ v8_ a0i z2_ a0a a0b z2_ x1_ z4_ z2_ z7_ a0i z2_ a0b v8_ z2_ q0_ a0a z7_ q7_ x9_ y4_ a2c z2_ y4_ k7_ z4_ v8_ a0i z2_ a0a a0b z2_ a0i z2_ a0b v8_ z2_ q0_ a0a z4_ v8_ v8_ a0i z2_ a0a a0b z2_ x1_ z4_ z2_ z7_ a0i z2_ a0b z2_ a0a z4_ y4_ a4J a3L z4_ z2_ z7_ z4_ a7T z2_ z7_ q7_ x9_ y4_ a2c z2_ y4_ k7_ z4_ x1_ z4_ z2_ z7_ z4_ a1W z4_ z2_ z7_ v4_ x0_ j0_ z2_ j0_ y4_ k7_ z4_ q0_ z4_ q0_ z4_ q0_ z4_ q0_ z4_ q0_ z4_ q0_ z4_ q0_ z4_ q0_ z4_ q0_ z4_ q0_ z4_ q0_ z4_ q0_ z4_ q0_ z7_ v7_ j9_ q3_ q0_ q9_)
theorem b3g:FnScope ["_law_table_here","_law_side","_law_found","_law_i"] ["_law_table_here"] (y3_ a9a):=⟨rfl,rfl,rfl,by decide+kernel,rfl,by decide+kernel,by decide+kernel⟩
theorem c1O:(["_law_table_here","-1","-2","_law_i","_law_j"]:List Str).Nodup:=by decide+kernel
theorem c1P:(["-0","-1","-2","-3","_law_j","_law_row"]:List Str).Nodup:=by decide+kernel
def a9A:Mo Fl:=(q1_ (v1_ 1 (mCB q6_ (z1_ (z0_ 0) z3_))) (q1_ (j3_ 2 (x2_ z3_)) (q1_ (g1_ (g0_ (z1_ (z5_ v3_ (z0_ 1) (mC (.int 1))) z3_)) (gN 3) (a0C 2 (mCB j1_ (z1_ (mF (v9_ (g0_ (z1_ (z5_ v3_ (z0_ 1) (mC (.int 1))) z3_)) [true,false,false,true] 1 (gN 4) v6_ (mCB a2f (z1_ (mF (v9_ (y1_ (mSl (z0_ 0) k1_ (k2_ (z0_ 3)))) [false,false,false,false,true] 1 (gN 5) v6_ (mCB a2f (z1_ (mSl (z0_ 5) k1_ (k2_ (z0_ 4))) z3_)))) z3_)))) z3_)))) (y0_ (mCB j1_ (z1_ (z0_ 2) z3_))))))
def a1R:Fn:=fnM 4 a9A
theorem c1Q{f:Addr}(F:Fun K "_law_heights" "_law_heights" a9a f fd)(T:Txt K mg):FnOk P w K mg base CX0 1 f fd ["_law_table_here"] (SpF K 1 a1R):=
 k0_ F b3g fun cdv A outer s H E hr=>(by have n0:=c1O;have n1:=c1P;have n2:=b3g.nd;cases T;injections q7_ x9_ y8_ k4_ z4_ z2_ z7_ q7_ a1B k7_ z7_ q7_ a0D a1D z4_ v8_ z2_ q0_ z7_ v2_ v4_ a2v z4_ a0f a0h z4_ y4_;exists (w5_ (N':=["_law_table_here","-1","-2","_law_i","_law_j"]) (keep:=[true,false,false,true]) (more:=1) ?_ ?_ ?_ ?_ ?_ ?_ ?_);injections a1D z4_ v8_ z2_ q0_ z7_ v2_ k9_ y8_;exists (a6r rfl);injections z4_ y4_;exists (w5_ (N':=["-0","-1","-2","-3","_law_j","_law_row"]) (keep:=[false,false,false,false,true]) (more:=1) ?_ ?_ ?_ ?_ ?_ ?_ ?_);injections k8_ a0i z2_ a0a a0b z2_ v2_ k9_ y8_;exists (a6r rfl);injections z4_ a0i z2_ a0a a0b z2_ z7_ z7_ z7_ z7_ v4_ x0_ a0f a0h z4_ z2_ z7_)
theorem b3h:FnScope ["_law_heights_here","_law_side","_law_found","_law_i","_law_over","_law_under"] ["_law_heights_here"] (y3_ a9b):=⟨rfl,rfl,rfl,by decide+kernel,rfl,by decide+kernel,by decide+kernel⟩
theorem c1R:(["-0","-1","-2","-3","-4","-5","_law_first","_law_second"]:List Str).Nodup:=by decide+kernel
theorem c1S:(["-0","-1","-2","-3","-4","-5","_law_here","_law_after"]:List Str).Nodup:=by decide+kernel
theorem c1T:(["-0","-1","-2","-3","-4","-5","_law_here","_law_after"]:List Str).Nodup:=by decide+kernel
def a9B:Mo Fl:=(q1_ (v1_ 1 (z5_ u2_ (mCB q6_ (z1_ (z0_ 0) z3_)) (mC (.int 1)))) (q1_ (j3_ 2 (x2_ z3_)) (q1_ (g1_ (g0_ (z1_ (z0_ 1) z3_)) (gN 3) (q1_ (j3_ 4 (v9_ (a0c (z1_ (z5_ dIx (z0_ 0) (z0_ 3)) (z1_ (a4f (z5_ dIx (z0_ 0) (z0_ 3)) (k2_ (mC (.int 1))) k1_) z3_))) [false,false,false,false,false,false] 2 (gT 2 (gCn (gN 6) (gCn (gN 7) gNl))) v6_ (z5_ u2_ (z0_ 7) (z0_ 6)))) (q1_ (j3_ 5 (v9_ (a0c (z1_ (z5_ dIx (z0_ 0) (z5_ v3_ (z0_ 3) (mC (.int 1)))) (z1_ (a4f (z5_ dIx (z0_ 0) (z5_ v3_ (z0_ 3) (mC (.int 1)))) (k2_ (mC (.int 1))) k1_) z3_))) [false,false,false,false,false,false] 2 (gT 2 (gCn (gN 6) (gCn (gN 7) gNl))) v6_ (z5_ u2_ (z0_ 7) (z0_ 6)))) (a0C 2 (mCB j1_ (z1_ (mF (v9_ (a0c (z1_ (z0_ 4) (z1_ (z0_ 5) z3_))) [false,false,false,false,false,false] 2 (gT 2 (gCn (gN 6) (gCn (gN 7) gNl))) v6_ (z5_ u2_ (z0_ 7) (z0_ 6)))) z3_)))))) (y0_ (mCB j1_ (z1_ (z0_ 2) z3_))))))
def a1s:Fn:=fnM 6 a9B
theorem c1U{f:Addr}(F:Fun K "_law_from" "_law_from" a9b f fd)(T:Txt K mg):FnOk P w K mg base CX0 1 f fd ["_law_heights_here"] (SpF K 1 a1s):=
 k0_ F b3h fun cdv A outer s H E hr=>(by have n0:=c1R;have n1:=c1S;have n2:=c1T;have n3:=b3h.nd;cases T;injections q7_ x9_ v8_ y8_ k4_ z4_ z2_ z7_ q0_ q7_ a1B k7_ z7_ q7_ a0D a1D z4_ z2_ z7_ v2_ q7_;exists (a4T (N':=["-0","-1","-2","-3","-4","-5","_law_here","_law_after"]) (keep:=[false,false,false,false,false,false]) (more:=2) ?_ ?_ ?_ ?_ ?_ ?_ ?_ ?_ ?_ ?_ ?_);injections a2A z4_ j0_ z2_ z2_ z4_ a8s j0_ z2_ z2_ a0b q0_ a0a z7_ g8_ x7_ v2_ x7_ v2_ g7_ k9_ v8_ z2_ z2_ q7_;exists (a4T (N':=["-0","-1","-2","-3","-4","-5","_law_here","_law_after"]) (keep:=[false,false,false,false,false,false]) (more:=2) ?_ ?_ ?_ ?_ ?_ ?_ ?_ ?_ ?_ ?_ ?_);injections a2A z4_ j0_ z2_ v8_ z2_ q0_ z4_ a8s j0_ z2_ v8_ z2_ q0_ a0b q0_ a0a z7_ g8_ x7_ v2_ x7_ v2_ g7_ k9_ v8_ z2_ z2_ v4_ a2v z4_ a0f a0h z4_ y4_;exists (w5_ (N':=["-0","-1","-2","-3","-4","-5","_law_first","_law_second"]) (keep:=[false,false,false,false,false,false]) (more:=2) ?_ ?_ ?_ ?_ ?_ ?_ ?_);injections a2A z4_ z2_ z4_ z2_ z7_ g8_ x7_ v2_ x7_ v2_ g7_ k9_ v8_ z2_ z2_ z7_ z7_ v4_ x0_ a0f a0h z4_ z2_ z7_)
theorem b3i:FnScope ["_law_state_here","_law_table_here","_law_rows_here","_law_turn","_law_found","_law_i","_law_j"] ["_law_state_here","_law_table_here"] (y3_ a9c):=⟨rfl,rfl,rfl,by decide+kernel,rfl,by decide+kernel,by decide+kernel⟩
theorem c1V:(["-0","-1","-2","-3","-4","-5","-6","_law_row"]:List Str).Nodup:=by decide+kernel
theorem c1W:(["-0","-1","-2","-3","-4","-5","-6","_law_row"]:List Str).Nodup:=by decide+kernel
def a9C:Mo Fl:=(a6y 2 (a0y (mkN 2 (y1_ (mCD 1 a1R (z6_ (z0_ 1) z8_))) [false,false,false,false,false,false,false] 1 (gN 7) (mCL a1m (z1_ (z0_ 7) z3_))) (a0y (a6C 2 (g0_ (z1_ (z5_ j4_ (mCD 2 x6_ (y6_ 0 (z6_ (mC (.int 5)) z8_))) (mCB a3n (z1_ (z5_ dGt (mCB q6_ (z1_ (z0_ 1) z3_)) (mC (.int 1))) z3_))) z3_)) (gN 3) (a0y (a6A (r:=2) 5 6 (z1_ (z5_ v3_ (mC (.int 1)) (mCD 2 x6_ (y6_ 0 (z6_ (z5_ u2_ (mCB q6_ (z1_ (z0_ 1) z3_)) (mC (.int 1))) z8_)))) (z1_ (z5_ v3_ (mC (.int 1)) (mCD 2 x6_ (y6_ 0 (z6_ (z5_ u2_ (mCB q6_ (z1_ (z0_ 1) z3_)) (mC (.int 1))) z8_)))) z3_))) (a0y (a6B (r:=2) (z0_ 5) (z0_ 6) (a5d (r:=2) v3_ (a5e (z0_ 5) (z0_ 6)) (a4d (z5_ dIx (mF (x2_ (z1_ (j8_ (mC (.int 1))) (z1_ (mC (.int 1)) z3_)))) (mCD 2 x6_ (y6_ 0 (z6_ (mC (.int 2)) z8_))))))) (a0y (a2j (r:=2) 4 (mCallN a1s)) (a0y (ifN (r:=2) (x3_ (mT (mCD 1 a0q (z6_ (z0_ 4) z8_)))) (mkN 2 (y1_ (mCD 1 a1R (z6_ (z0_ 1) z8_))) [false,false,false,false,false,false,false] 1 (gN 7) (mCL a1m (z1_ (z0_ 7) z3_))) nxN) (a2j (r:=2) 1 (mCallN a1s))))))) (a8p (z0_ 1)))))
def a4p:Fn:=fnM 7 a9C
theorem c1X{f:Addr}(F:Fun K "_law_near" "_law_near" a9c f fd)(T:Txt K mg)(d__law_from:Def P w K mg base "_law_from" 1 1 a1s)(d__law_heights:Def P w K mg base "_law_heights" 1 1 a1R)(d__law_take:Def P w K mg base "_law_take" 1 2 x6_)(d__law_is_table:Def P w K mg base "_law_is_table" 2 1 a0q):FnOk P w K mg base CX0 3 f fd ["_law_state_here","_law_table_here"] (SpF K 2 a4p):=
 k0_ F b3i fun cdv A outer s H E hr=>(by have n0:=c1V;have n1:=c1W;have n2:=b3i.nd;cases T;injections b2q a3s;exists (a8r (N':=["-0","-1","-2","-3","-4","-5","-6","_law_row"]) (keep:=[false,false,false,false,false,false,false]) (more:=1) ?_ ?_ ?_ ?_ ?_ ?_ ?_ ?_ ?_ ?_ ?_);injections k8_ v7_ q3_ z2_ q9_ v2_ k9_ a4J a3L z4_ z2_ z7_ a3s b2C a1D z4_ v8_ v7_ j9_ q3_ q0_ q9_ a0f a5D z4_ a3e y8_ k4_ z4_ z2_ z7_ q0_ z7_ z7_ v2_ a3s;exists (b2v (j:=6) ?_ ?_ ?_ ?_ ?_ ?_ ?_ ?_ ?_ ?_);injections z4_ v8_ q0_ v7_ j9_ q3_ v8_ y8_ k4_ z4_ z2_ z7_ q0_ q9_ z4_ v8_ q0_ v7_ j9_ q3_ v8_ y8_ k4_ z4_ z2_ z7_ q0_ q9_ z7_ a3s b2B z2_ z2_ b2w b2z z2_ z2_ b2r j0_ y4_ k7_ z4_ a1Y q0_ z4_ q0_ z7_ v7_ j9_ q3_ q0_ q9_ a3s a8q en_call a3s b2t a0e a0d v7_ q3_ z2_ q9_ a6z;exists (a8r (N':=["-0","-1","-2","-3","-4","-5","-6","_law_row"]) (keep:=[false,false,false,false,false,false,false]) (more:=1) ?_ ?_ ?_ ?_ ?_ ?_ ?_ ?_ ?_ ?_ ?_);injections k8_ v7_ q3_ z2_ q9_ v2_ k9_ a4J a3L z4_ z2_ z7_ b2s a6z a8q en_call a6z b2u z2_)
theorem a9D:FnScope ["_law_call","_law_error","e","_law_sorts","_law_words"] ["_law_call"] (y3_ a9d):=⟨rfl,rfl,rfl,by decide+kernel,rfl,by decide+kernel,by decide+kernel⟩
theorem c1Y:(["-0","-1","-2","-3","-4","_law_one"]:List Str).Nodup:=by decide+kernel
def c1Z:Mo Fl:=(q1_ (y9_ (mT (z5_ a8d (z0_ 1) (mC .non))) (y0_ (mC .non)) mNx) (q1_ (j3_ 3 (x2_ (z1_ (a0G ["NoTable","NoHeights","NoNet","NoPlace","NoTriangle","NoRow","NoNumber","NoTurn","NotAlike","NoStep","NoRows","TooMany","BadNote"] "NoTable" (z0_ 1)) (z1_ (a0G ["NoTable","NoHeights","NoNet","NoPlace","NoTriangle","NoRow","NoNumber","NoTurn","NotAlike","NoStep","NoRows","TooMany","BadNote"] "NoHeights" (z0_ 1)) (z1_ (a0G ["NoTable","NoHeights","NoNet","NoPlace","NoTriangle","NoRow","NoNumber","NoTurn","NotAlike","NoStep","NoRows","TooMany","BadNote"] "NoNet" (z0_ 1)) z3_))))) (q1_ (j3_ 3 (a0E (z0_ 3) (mF (x2_ (z1_ (a0G ["NoTable","NoHeights","NoNet","NoPlace","NoTriangle","NoRow","NoNumber","NoTurn","NotAlike","NoStep","NoRows","TooMany","BadNote"] "NoPlace" (z0_ 1)) (z1_ (a0G ["NoTable","NoHeights","NoNet","NoPlace","NoTriangle","NoRow","NoNumber","NoTurn","NotAlike","NoStep","NoRows","TooMany","BadNote"] "NoTriangle" (z0_ 1)) (z1_ (a0G ["NoTable","NoHeights","NoNet","NoPlace","NoTriangle","NoRow","NoNumber","NoTurn","NotAlike","NoStep","NoRows","TooMany","BadNote"] "NoRow" (z0_ 1)) z3_))))))) (q1_ (a0C 3 (a0G ["NoTable","NoHeights","NoNet","NoPlace","NoTriangle","NoRow","NoNumber","NoTurn","NotAlike","NoStep","NoRows","TooMany","BadNote"] "NoNumber" (z0_ 1))) (q1_ (j3_ 3 (a0E (z0_ 3) (mF (x2_ (z1_ (a0G ["NoTable","NoHeights","NoNet","NoPlace","NoTriangle","NoRow","NoNumber","NoTurn","NotAlike","NoStep","NoRows","TooMany","BadNote"] "NoTurn" (z0_ 1)) (z1_ (a0G ["NoTable","NoHeights","NoNet","NoPlace","NoTriangle","NoRow","NoNumber","NoTurn","NotAlike","NoStep","NoRows","TooMany","BadNote"] "NotAlike" (z0_ 1)) (z1_ (a0G ["NoTable","NoHeights","NoNet","NoPlace","NoTriangle","NoRow","NoNumber","NoTurn","NotAlike","NoStep","NoRows","TooMany","BadNote"] "NoStep" (z0_ 1)) z3_))))))) (q1_ (j3_ 3 (a0E (z0_ 3) (mF (x2_ (z1_ (a0G ["NoTable","NoHeights","NoNet","NoPlace","NoTriangle","NoRow","NoNumber","NoTurn","NotAlike","NoStep","NoRows","TooMany","BadNote"] "NoRows" (z0_ 1)) (z1_ (a0G ["NoTable","NoHeights","NoNet","NoPlace","NoTriangle","NoRow","NoNumber","NoTurn","NotAlike","NoStep","NoRows","TooMany","BadNote"] "TooMany" (z0_ 1)) (z1_ (a0G ["NoTable","NoHeights","NoNet","NoPlace","NoTriangle","NoRow","NoNumber","NoTurn","NotAlike","NoStep","NoRows","TooMany","BadNote"] "BadNote" (z0_ 1)) z3_))))))) (q1_ (y9_ (k6_ (x3_ (mT (b1S ["NoTable","NoHeights","NoNet","NoPlace","NoTriangle","NoRow","NoNumber","NoTurn","NotAlike","NoStep","NoRows","TooMany","BadNote"] (z0_ 1)))) (mT (z5_ (dEq true) (mCB a2f (z1_ (mF (v9_ (y1_ (z0_ 3)) [false,false,false,false,false] 1 (gN 5) v6_ (mCB a3n (z1_ (z0_ 5) z3_)))) z3_)) (mC (.int 1))))) (y0_ (mC (.str "none of these"))) mNx) (q1_ (v1_ 4 (mF (x2_ (z1_ (mC (.str "table")) (z1_ (mC (.str "heights")) (z1_ (mC (.str "net")) (z1_ (mC (.str "place")) (z1_ (mC (.str "triangle")) (z1_ (mC (.str "row")) (z1_ (mC (.str "number")) (z1_ (mC (.str "turn")) (z1_ (mC (.str "not alike")) (z1_ (mC (.str "step")) z3_))))))))))))) (y0_ (z5_ dIx (mF (a0E (z0_ 4) (mF (x2_ (z1_ (mC (.str "rows")) (z1_ (mC (.str "many")) (z1_ (mC (.str "note")) z3_))))))) (z5_ a8k (z0_ 3) (mC (.bl true)))))))))))))
def c2a(o:Option Str):Mo Fl:=q1_ (v1_ 1 (mC .non)) (q1_ (a8f ["NoTable","NoHeights","NoNet","NoPlace","NoTriangle","NoRow","NoNumber","NoTurn","NotAlike","NoStep","NoRows","TooMany","BadNote"] 2 1 o) c1Z)
def a1t:Option Str->Option D:=a8i 5 c2a
theorem c2b{f:Addr}(F:Fun K "_law_refused" "_law_refused" a9d f fd)(T:Txt K mg)(hmg:mg "_law_refused"=some (.ref f))(hbd:a0S K fd ["_law_call"] []):RefDef P w K mg base "_law_refused" 10 9 a1t:=
 b9g F a9D hmg hbd (by decide) fun cdv A outer s H E fl o G hr fn clo=>b8V (i0:=0) (i:=2) (j:=1) rfl rfl rfl T.ex a9D.nd rfl (Or.inl rfl) rfl rfl rfl rfl (by decide) rfl fn clo (by have n0:=c1Y;have n1:=a9D.nd;cases T;injections q7_ w7_ j7_ z2_ a1W v4_ x0_ a1W j2_ q7_ a1B k7_ z4_ a0H z2_ z4_ a0H z2_ z4_ a0H z2_ z7_ q7_ a1B a2c z2_ y4_ k7_ z4_ a0H z2_ z4_ a0H z2_ z4_ a0H z2_ z7_ q7_ a2v z4_ a0H z2_ z7_ q7_ a1B a2c z2_ y4_ k7_ z4_ a0H z2_ z4_ a0H z2_ z4_ a0H z2_ z7_ q7_ a1B a2c z2_ y4_ k7_ z4_ a0H z2_ z4_ a0H z2_ z4_ a0H z2_ z7_ q7_ w7_ a0W a1z a0e a0d b1T z2_ a1y j7_ y8_;exists (a6r rfl);injections z4_ y4_;exists (w5_ (N':=["-0","-1","-2","-3","-4","_law_one"]) (keep:=[false,false,false,false,false]) (more:=1) ?_ ?_ ?_ ?_ ?_ ?_ ?_);injections k8_ z2_ v2_ k9_ a0f a5D z4_ z2_ z7_ z7_ q0_ v4_ x0_ g5_ j2_ q7_ x9_ y4_ k7_ z4_ g5_ z4_ g5_ z4_ g5_ z4_ g5_ z4_ g5_ z4_ g5_ z4_ g5_ z4_ g5_ z4_ g5_ z4_ g5_ z7_ v4_ x0_ j0_ y4_ a2c z2_ y4_ k7_ z4_ g5_ z4_ g5_ z4_ g5_ z7_ b2b z2_ j6_)
theorem b3j:FnScope ["_law_one","_law_other","_law_first","_law_second","_law_row","_law_line"] ["_law_one","_law_other"] (y3_ a9e):=⟨rfl,rfl,rfl,by decide+kernel,rfl,by decide+kernel,by decide+kernel⟩
theorem c2c:(["-0","-1","-2","-3","-4","-5","_law_low","_law_high"]:List Str).Nodup:=by decide+kernel
def a9E:Mo Fl:=(q1_ (a1C 2 3 (z1_ (mCD 1 a1R (z6_ (z0_ 0) z8_)) (z1_ (mCD 1 a1R (z6_ (z0_ 1) z8_)) z3_))) (q1_ (g1_ (a0c (z1_ (z0_ 2) (z1_ (z0_ 3) z3_))) (gT 2 (gCn (gN 4) (gCn (gN 5) gNl))) (y9_ (mT (mCB a3X (z1_ (mF (v9_ (a0c (z1_ (z0_ 4) (z1_ (z0_ 5) z3_))) [false,false,false,false,false,false] 2 (gT 2 (gCn (gN 6) (gCn (gN 7) gNl))) v6_ (z5_ dLt (z0_ 6) (z0_ 7)))) z3_))) (y0_ (mC (.bl false))) mNx)) (y0_ (mC (.bl true)))))
def a3D:Fn:=fnM 6 a9E
theorem c2d{f:Addr}(F:Fun K "_law_due" "_law_due" a9e f fd)(T:Txt K mg)(d__law_heights:Def P w K mg base "_law_heights" 1 1 a1R):FnOk P w K mg base CX0 2 f fd ["_law_one","_law_other"] (SpF K 2 a3D):=
 k0_ F b3j fun cdv A outer s H E hr=>(by have n0:=c2c;have n1:=b3j.nd;cases T;injections q7_;exists (a4L (i:=2) (j:=3) ?_ ?_ ?_ ?_ ?_ ?_ ?_ ?_ ?_ ?_);injections z4_ v7_ q3_ z2_ q9_ z4_ v7_ q3_ z2_ q9_ z7_ q7_ a0D a2A z4_ z2_ z4_ z2_ z7_ g8_ x7_ v2_ x7_ v2_ g7_ v4_ w7_ a0d y8_;exists (b1M rfl);injections z4_ y4_;exists (w5_ (N':=["-0","-1","-2","-3","-4","-5","_law_low","_law_high"]) (keep:=[false,false,false,false,false,false]) (more:=2) ?_ ?_ ?_ ?_ ?_ ?_ ?_);injections a2A z4_ z2_ z4_ z2_ z7_ g8_ x7_ v2_ x7_ v2_ g7_ k9_ a3e z2_ z2_ z7_ v4_ x0_ j6_ j2_ v4_ x0_ j6_)
theorem b3k:FnScope ["_law_script","_law_k","_law_state_here","_law_side","_law_table_here","_law_unlike","_law_rows_here","_law_near_here","_law_far","_law_one","_law_other","_law_found","_law_bent_here","_law_bad","_law_word","_law_call"] ["_law_script"] (y3_ a4g):=⟨rfl,rfl,rfl,by decide+kernel,rfl,by decide+kernel,by decide+kernel⟩
def b3l:Mo Fl:=(q1_ (g1_ (g0_ (z1_ (mCB a3Q (z1_ (mC (.int 1)) (z1_ (mCB a3R (z1_ (mCB q6_ (z1_ (z0_ 0) z3_)) (z1_ (mC (.int 8)) z3_))) z3_))) z3_)) (gN 1) (q1_ (j3_ 2 (a0Y 2 a4m (z6_ (z0_ 0) (z6_ (z0_ 1) z8_)))) (q1_ (v1_ 3 (z5_ v3_ (mC (.int 1)) (mCD 2 x6_ (y6_ 2 (z6_ (mC (.int 6)) z8_))))) (q1_ (v1_ 4 (mCD 2 a1Q (y6_ 2 (z6_ (z0_ 3) z8_)))) (q1_ (a1C 7 8 (z1_ (mCD 2 a4p (y6_ 2 (z6_ (z0_ 4) z8_))) (z1_ (mCD 2 a1Q (y6_ 2 (z6_ (z0_ 3) z8_))) z3_))) (q1_ (g1_ (y1_ (mF (x2_ (z1_ (v5_ (z1_ (z0_ 4) (z1_ (z0_ 7) z3_))) (z1_ (v5_ (z1_ (z0_ 7) (z1_ (z0_ 4) z3_))) (z1_ (v5_ (z1_ (z0_ 4) (z1_ (z0_ 8) z3_))) (z1_ (v5_ (z1_ (z0_ 8) (z1_ (z0_ 7) z3_))) (z1_ (v5_ (z1_ (z0_ 8) (z1_ (z0_ 8) z3_))) z3_)))))))) (gT 2 (gCn (gN 9) (gCn (gN 10) gNl))) (q1_ (v1_ 11 (mCD 2 a0R (z6_ (z0_ 9) (z6_ (z0_ 10) z8_)))) (y9_ (k6_ (x3_ (mT (mIs "bool" (z0_ 11)))) (mT (z5_ (dEq true) (z0_ 11) (mCD 2 a3D (z6_ (z0_ 9) (z6_ (z0_ 10) z8_)))))) (y0_ (mC (.bl false))) mNx))) (q1_ (a1C 12 13 (z1_ (mCD 2 a2T (y6_ 2 (z6_ (z0_ 4) z8_))) (z1_ (z5_ dIx (mF (x2_ (z1_ (mCD 2 a2T (y6_ 2 (z6_ (z0_ 8) z8_))) (z1_ (mCD 1 a4o (y6_ 2 z8_)) z3_)))) (mCD 2 x6_ (y6_ 2 (z6_ (mC (.int 2)) z8_)))) z3_))) (q1_ (v1_ 5 (mCD 2 a1Q (y6_ 2 (z6_ (z5_ v3_ (mC (.int 1)) (z5_ g6_ (z0_ 3) (mC (.int 6)))) z8_)))) (q1_ (v1_ 6 (mF (x2_ (z1_ (v5_ (z1_ (z0_ 12) (z1_ (z0_ 8) z3_))) (z1_ (v5_ (z1_ (z0_ 4) (z1_ (z0_ 13) z3_))) (z1_ (v5_ (z1_ (z0_ 12) (z1_ (z0_ 13) z3_))) (z1_ (v5_ (z1_ (z0_ 4) (z1_ (z0_ 5) z3_))) (z1_ (v5_ (z1_ (z0_ 5) (z1_ (z0_ 4) z3_))) (z1_ (v5_ (z1_ (z0_ 13) (z1_ (z0_ 5) z3_))) z3_))))))))) (g1_ (y1_ (z0_ 6)) (gT 2 (gCn (gN 9) (gCn (gN 10) gNl))) (q1_ (v1_ 14 (mC .non)) (q1_ (y9_ (k6_ (x3_ (mT (mCD 1 a0q (z6_ (z0_ 9) z8_)))) (x3_ (mT (mCD 1 a0q (z6_ (z0_ 10) z8_))))) (v1_ 14 (mC (.str "table"))) (y9_ (mT (z5_ (dEq true) (mCB q6_ (z1_ (z0_ 9) z3_)) (mCB q6_ (z1_ (z0_ 10) z3_)))) (v1_ 14 (mC (.str "not alike"))) mNx)) (g1_ (y1_ (mF (x2_ (z1_ (mC (.obj (.fn "is_below"))) (z1_ (mC (.obj (.fn "both_below"))) (z1_ (mC (.obj (.fn "both_above"))) z3_)))))) (gN 15) (y9_ (mT (z5_ (dEq true) (a1I ["NoTable","NoHeights","NoNet","NoPlace","NoTriangle","NoRow","NoNumber","NoTurn","NotAlike","NoStep","NoRows","TooMany","BadNote"] [false,false,false,false,false,false,false,false,false,true,true,false,false,false,false,true] (mCV 2 15 [("is_below",a0R),("both_below",a1M),("both_above",a1O)] (z6_ (z0_ 9) (z6_ (z0_ 10) z8_))) (xCV 2 15 [("is_below",a1L),("both_below",a1N),("both_above",a1P)] (z6_ (z0_ 9) (z6_ (z0_ 10) z8_))) a1t) (z0_ 14))) (y0_ (mC (.bl false))) mNx)))))))))))))) (y0_ (mC (.bl true))))
def a6N:Fn:=fnM 16 b3l
theorem c2e{f Pt:Addr}{cd:Value}(F:Fun K "law" "law" a4g f fd)(hcd:fd.code=cd)(T:Txt K mg)(tb:TabF K mg base cd "law" Pt)(d__law_state:Def P w K mg base "_law_state" 2 2 a4m)(d__law_table:Def P w K mg base "_law_table" 2 2 a1Q)(d__law_take:Def P w K mg base "_law_take" 1 2 x6_)(d__law_near:Def P w K mg base "_law_near" 3 2 a4p)(d_is_below:Def P w K mg base "is_below" 8 2 a0R)(d__law_bent:Def P w K mg base "_law_bent" 2 2 a2T)(d__law_due:Def P w K mg base "_law_due" 2 2 a3D)(d__law_odd:Def P w K mg base "_law_odd" 2 1 a4o)(d__law_is_table:Def P w K mg base "_law_is_table" 2 1 a0q)(d__law_refused:RefDef P w K mg base "_law_refused" 10 9 a1t)(d_both_below:Def P w K mg base "both_below" 8 2 a1M)(d_both_above:Def P w K mg base "both_above" 8 2 a1O)(dx_is_below:DefX P w K mg base "is_below" 8 2 a1L)(dx_both_below:DefX P w K mg base "both_below" 8 2 a1N)(dx_both_above:DefX P w K mg base "both_above" 8 2 a1P):FnOk P w K mg base CX0 11 f fd ["_law_script"] (SpT K [Pt] 1 a6N):=
 b9l (N:=["_law_script","_law_k","_law_state_here","_law_side","_law_table_here","_law_unlike","_law_rows_here","_law_near_here","_law_far","_law_one","_law_other","_law_found","_law_bent_here","_law_bad","_law_word","_law_call"]) (mb:=b3l) F hcd b3k fun A outer s H E tbi hr=>by
  obtain⟨ps0,hP⟩:=tbi Pt (List.mem_singleton.mpr rfl);exact(by have n0:=b3k.nd;cases T;injections q7_ a0D a1D z4_ y8_;exists (b0r rfl);injections z4_ q0_ z4_ y8_;exists (b0s rfl);injections z4_ y8_ k4_ z4_ z2_ z7_ z4_ q0_ z7_ z7_ z7_ v2_ q7_ a1B a3U q3_ z2_ q3_ z2_ q9_ q7_ x9_ v8_ q0_ v7_ j9_ q3_ q0_ q9_ q7_ x9_ v7_ j9_ q3_ z2_ q9_ q7_;exists (a4L (i:=7) (j:=8) ?_ ?_ ?_ ?_ ?_ ?_ ?_ ?_ ?_ ?_);injections z4_ v7_ j9_ q3_ z2_ q9_ z4_ v7_ j9_ q3_ z2_ q9_ z7_ q7_ a0D k8_ y4_ k7_ z4_ x1_ z4_ z2_ z4_ z2_ z7_ z4_ x1_ z4_ z2_ z4_ z2_ z7_ z4_ x1_ z4_ z2_ z4_ z2_ z7_ z4_ x1_ z4_ z2_ z4_ z2_ z7_ z4_ x1_ z4_ z2_ z4_ z2_ z7_ z7_ g8_ x7_ v2_ x7_ v2_ g7_ q7_ x9_ v7_ q3_ z2_ q3_ z2_ q9_ v4_ w7_ a0W a1z a0e a0d a1n z2_ a1y j7_ z2_ v7_ q3_ z2_ q3_ z2_ q9_ v4_ x0_ j6_ j2_ q7_;exists (a4L (i:=12) (j:=13) ?_ ?_ ?_ ?_ ?_ ?_ ?_ ?_ ?_ ?_);injections z4_ v7_ j9_ q3_ z2_ q9_ z4_ j0_ y4_ k7_ z4_ v7_ j9_ q3_ z2_ q9_ z4_ v7_ j9_ q9_ z7_ v7_ j9_ q3_ q0_ q9_ z7_ q7_ x9_ v7_ j9_ q3_ v8_ q0_ v8_ z2_ q0_ q9_ q7_ x9_ y4_ k7_ z4_ x1_ z4_ z2_ z4_ z2_ z7_ z4_ x1_ z4_ z2_ z4_ z2_ z7_ z4_ x1_ z4_ z2_ z4_ z2_ z7_ z4_ x1_ z4_ z2_ z4_ z2_ z7_ z4_ x1_ z4_ z2_ z4_ z2_ z7_ z4_ x1_ z4_ z2_ z4_ z2_ z7_ z7_ v4_ a0D k8_ z2_ g8_ x7_ v2_ x7_ v2_ g7_ q7_ x9_ a1W q7_ w7_ a0W a1z a0e a0d v7_ q3_ z2_ q9_ a1y a0e a0d v7_ q3_ z2_ q9_ v4_ x9_ g5_ v4_ w7_ j7_ y8_ k4_ z4_ z2_ z7_ y8_ k4_ z4_ z2_ z7_ v4_ x9_ g5_ j2_ v4_ a0D k8_ y4_ k7_ z4_ a6D z4_ a6D z4_ a6D z7_ v2_ v4_ w7_ j7_;exists (b9k (kc:=8) (N':=["-0","-1","-2","-3","-4","-5","-6","-7","-8","_law_one","_law_other","-11","-12","-13","-14","_law_call"]) (keep:=[false,false,false,false,false,false,false,false,false,true,true,false,false,false,false,true]) ?_ ?_ ?_ ?_ ?_ ?_ ?_ ?_ ?_ ?_ ?_ ?_ ?_ ?_ ?_ ?_ ?_ ?_ ?_);injections b2I a6E a6E a6E b2F q3_ z2_ q3_ z2_ q9_ b2J a6F a6F a6F b2G PA.nox q3_ z2_ q3_ z2_ q9_ z2_ v4_ x0_ j6_ j2_ v4_ x0_ j6_)
end
def isW:D->Bool
 |.int _=>true
 |_=>false
theorem c2f(d:D):a2m [.dat d]=some (.d (.bl (isW d)),[.dat d]):=by cases d<;>rfl
def isR(d:D)(n:Int):Bool:=match d with
 |.tup es=>(es.length:Int)==n&&es.all isW
 |_=>false
theorem c2g(d:D)(n:Int)(hn:n≤1000):a1K [.dat d,.dat (.int n)]=some (.d (.bl (isR d n)),[.dat d,.dat (.int n)]):=by
 cases d with
 |tup es=>
  by_cases h:(es.length:Int)=n
  ·have t:(k6_ (x3_ (mT (mIs "tuple" (z0_ 0)))) (mT (z5_ (dEq true) (mCB q6_ (z1_ (z0_ 0) z3_)) (z0_ 1)))) [.dat (.tup es),.dat (.int n)]=some (false,[.dat (.tup es),.dat (.int n)]):=by
    show some (!((es.length:Int)==n),_)=_;rw[h];simp
   obtain⟨e',h1,w,rfl⟩:=a7V (g:=gN 2) (m:=mCD 1 a2m (z6_ (z0_ 2) z8_)) (P:=fun e=>∃w,e=[.nil,.nil,w]) (f:=fun d=>.bl (isW d)) (ds:=es) (env:=[.nil,.nil,.nil])
    (fun d _ e ⟨w,he⟩=>by
     subst he;refine⟨[.nil,.nil,.dat d],[.nil,.nil,.dat d],rfl,?_,_,rfl⟩;show((a2m [.dat d]).map fun q=>(q.1,_)).bind asD=_
     rw[c2f];rfl) ⟨.nil,rfl⟩
   have hl:es.length≤100000:=by omega
   have c:(v9_ (y1_ (z0_ 0)) [false,false] 1 (gN 2) v6_ (mCD 1 a2m (z6_ (z0_ 2) z8_))) [.dat (.tup es),.dat (.int n)]=some (es.map fun d=>.bl (isW d),[.dat (.tup es),.dat (.int n)]):=by
    show(if es.length≤100000 then(g2_ _ _ _ es [.nil,.nil,.nil]).bind _ else none)=_
    rw[Qn hl,h1];rfl
   unfold a1K fnM a9f;show(match q1_ _ _ [.dat (.tup es),.dat (.int n)]with|some (.ret d,env)=>_|some (.retL ds,env)=>_|some (.nx,env)=>_|_=>none)=_
   rw[w1_ (by rw[a0O t];rfl)]
   have r:(y0_ (mCB a1a (z1_ (mF (v9_ (y1_ (z0_ 0)) [false,false] 1 (gN 2) v6_ (mCD 1 a2m (z6_ (z0_ 2) z8_)))) z3_))) [.dat (.tup es),.dat (.int n)]=some (.ret (.bl (es.all isW)),[.dat (.tup es),.dat (.int n)]):=by
    unfold y0_ mCB z1_ mF;rw[c];show(((a0t (es.map fun d=>.bl (isW d))).map fun k=>D.bl k).map _).map _=_
    rw[a3p];rfl
   rw[r];show some (Rr.d (.bl (es.all isW)),_)=_
   simp[isR,h];rfl
  ·have t:(k6_ (x3_ (mT (mIs "tuple" (z0_ 0)))) (mT (z5_ (dEq true) (mCB q6_ (z1_ (z0_ 0) z3_)) (z0_ 1)))) [.dat (.tup es),.dat (.int n)]=some (true,[.dat (.tup es),.dat (.int n)]):=by
    show some (!((es.length:Int)==n),_)=_
    simp[h]
   unfold a1K fnM a9f;show(match q1_ _ _ [.dat (.tup es),.dat (.int n)]with|some (.ret d,env)=>_|some (.retL ds,env)=>_|some (.nx,env)=>_|_=>none)=_
   rw[a1p (d:=.bl false) (by rw[a1c t];rfl)]
   simp[isR,h];rfl
 |_=>rfl
def isG(d:D)(m n:Int):Bool:=match d with
 |.tup es=>(es.length:Int)==m&&es.all fun r=>isR r n
 |_=>false
theorem c2h(d:D)(k n:Int)(hk:k≤1000)(hn:n≤1000):a4h [.dat d,.dat (.int k),.dat (.int n)]=some (.d (.bl (isG d k n)),[.dat d,.dat (.int k),.dat (.int n)]):=by
 cases d with
 |tup es=>
  by_cases h:(es.length:Int)=k
  ·have t:(k6_ (x3_ (mT (mIs "tuple" (z0_ 0)))) (mT (z5_ (dEq true) (mCB q6_ (z1_ (z0_ 0) z3_)) (z0_ 1)))) [.dat (.tup es),.dat (.int k),.dat (.int n)]=some (false,[.dat (.tup es),.dat (.int k),.dat (.int n)]):=by
    show some (!((es.length:Int)==k),_)=_;rw[h];simp
   obtain⟨e',h1,w,rfl⟩:=a7V (g:=gN 3) (m:=mCD 2 a1K (z6_ (z0_ 3) (z6_ (z0_ 2) z8_))) (P:=fun e=>∃w,e=[.nil,.nil,.dat (.int n),w]) (f:=fun d=>.bl (isR d n)) (ds:=es) (env:=[.nil,.nil,.dat (.int n),.nil])
    (fun d _ e ⟨w,he⟩=>by
     subst he;refine⟨[.nil,.nil,.dat (.int n),.dat d],[.nil,.nil,.dat (.int n),.dat d],rfl,?_,_,rfl⟩;show((a1K [.dat d,.dat (.int n)]).map fun q=>(q.1,_)).bind asD=_
     rw[c2g d n hn];rfl) ⟨.nil,rfl⟩
   have hl:es.length≤100000:=by omega
   have c:(v9_ (y1_ (z0_ 0)) [false,false,true] 1 (gN 3) v6_ (mCD 2 a1K (z6_ (z0_ 3) (z6_ (z0_ 2) z8_)))) [.dat (.tup es),.dat (.int k),.dat (.int n)]=some (es.map fun d=>.bl (isR d n),[.dat (.tup es),.dat (.int k),.dat (.int n)]):=by
    show(if es.length≤100000 then(g2_ _ _ _ es [.nil,.nil,.dat (.int n),.nil]).bind _ else none)=_
    rw[Qn hl,h1];rfl
   refine(w2_ (d:=.bl (isG (.tup es) k n)) (env:=[.dat (.tup es),.dat (.int k),.dat (.int n)]) ?_).trans rfl;show a5l [.dat (.tup es),.dat (.int k),.dat (.int n)]=_;unfold a5l;rw[w1_ (by rw[a0O t];rfl)]
   unfold y0_ mCB z1_ mF;rw[c];show(((a0t (es.map fun d=>.bl (isR d n))).map fun k=>D.bl k).map _).map _=_
   rw[a3p]
   simp[isG,h]
  ·have t:(k6_ (x3_ (mT (mIs "tuple" (z0_ 0)))) (mT (z5_ (dEq true) (mCB q6_ (z1_ (z0_ 0) z3_)) (z0_ 1)))) [.dat (.tup es),.dat (.int k),.dat (.int n)]=some (true,[.dat (.tup es),.dat (.int k),.dat (.int n)]):=by
    show some (!((es.length:Int)==k),_)=_
    simp[h]
   refine(w2_ (d:=.bl (isG (.tup es) k n)) (env:=[.dat (.tup es),.dat (.int k),.dat (.int n)]) ?_).trans rfl;show a5l [.dat (.tup es),.dat (.int k),.dat (.int n)]=_;unfold a5l;rw[a1p (d:=.bl false) (by rw[a1c t];rfl)]
   simp[isG,h]
 |_=>rfl
def isS(d:D)(a b:Int):Bool:=match d with
 |.tup es=>(decide (a≤(es.length:Int))&&decide ((es.length:Int)≤b))&&es.all fun r=>isR r es.length
 |_=>false
theorem c2i(d:D)(a b:Int)(hb:b≤1000):a3v [.dat d,.dat (.int a),.dat (.int b)]=some (.d (.bl (isS d a b)),[.dat d,.dat (.int a),.dat (.int b)]):=by
 cases d with
 |tup es=>
  have t:(k6_ (x3_ (mT (mIs "tuple" (z0_ 0)))) (x3_ (mT (a0L dLe dLe (z0_ 1) (mCB q6_ (z1_ (z0_ 0) z3_)) (z0_ 2))))) [.dat (.tup es),.dat (.int a),.dat (.int b)]=some (!(decide (a≤(es.length:Int))&&decide ((es.length:Int)≤b)),[.dat (.tup es),.dat (.int a),.dat (.int b)]):=by
   by_cases h1:a≤(es.length:Int)
   ·have e1:dLe (.int a) (.int es.length)=some (.bl true):=by show some (D.bl (decide _))=_;simp[h1]
    show(((match dLe (.int a) (.int es.length)with|some (.bl true)=>_|some (.bl false)=>_|_=>none:Option (D×Env')).bind asB).map _)=_
    rw[e1,Vv h1];rfl
   ·have e1:dLe (.int a) (.int es.length)=some (.bl false):=by show some (D.bl (decide _))=_;simp[h1]
    show(((match dLe (.int a) (.int es.length)with|some (.bl true)=>_|some (.bl false)=>_|_=>none:Option (D×Env')).bind asB).map _)=_
    rw[e1,Zg h1];rfl
  by_cases h:(decide (a≤(es.length:Int))&&decide ((es.length:Int)≤b))=true
  ·rw[h]at t
   refine(w2_ (d:=.bl (isS (.tup es) a b)) (env:=[.dat (.tup es),.dat (.int a),.dat (.int b)]) ?_).trans rfl;show a5m [.dat (.tup es),.dat (.int a),.dat (.int b)]=_;unfold a5m;rw[w1_ (by rw[a0O t];rfl)]
   have hl:(es.length:Int)≤1000:=by
    rw[Qy,Zs,Zs]at h
    omega
   show(((a4h [.dat (.tup es),.dat (.int es.length),.dat (.int es.length)]).map fun q=>(q.1,_)).bind asD).map _=_
   rw[c2h _ _ _ hl hl]
   simp[isS,isG,h,asD]
  ·have h':(decide (a≤(es.length:Int))&&decide ((es.length:Int)≤b))=false:=by simpa using h
   rw[h']at t;refine(w2_ (d:=.bl (isS (.tup es) a b)) (env:=[.dat (.tup es),.dat (.int a),.dat (.int b)]) ?_).trans rfl;show a5m [.dat (.tup es),.dat (.int a),.dat (.int b)]=_;unfold a5m;rw[a1p (d:=.bl false) (by rw[a1c t];rfl)]
   simp[isS,h']
 |_=>rfl
def dR(l:List Int):D:=.tup (l.map .int)
def dT(R:List (List Int)):D:=.tup (R.map dR)
def unI:D->Int
 |.int i=>i
 |_=>0
def unR:D->List Int
 |.tup es=>es.map unI
 |.lst es=>es.map unI
 |_=>[]
def unT:D->List (List Int)
 |.tup es=>es.map unR
 |_=>[]
theorem c2j(h:isW d=true):d=.int (unI d):=by cases d<;>first|rfl|cases h
theorem b3m(h:es.all isW=true):es=(es.map unI).map .int:=by
 induction es with
 |nil=>rfl
 |cons d es ih=>
  rw[Jl,Qy]at h;rw[Qr,Qr,←c2j h.1,←ih h.2]
theorem a4q{n:Int}(h:isR d n=true):d=dR (unR d)/\((unR d).length:Int)=n:=by
 cases d<;>first|cases h|skip
 rename_i es;simp only[isR,Qy,Yt]at h;refine⟨?_,by simp[unR,h.1]⟩
 show D.tup es=.tup ((es.map unI).map .int);rw[←b3m h.2]
theorem b3n{a b:Int}(h:isS d a b=true):d=dT (unT d)/\a≤((unT d).length:Int)/\((unT d).length:Int)≤b/\∀r∈unT d,r.length=(unT d).length:=by
 cases d<;>first|cases h|skip
 rename_i es;simp only[isS,Qy,Zs,Qu]at h;refine⟨?_,by simpa [unT]using h.1.1,by simpa [unT]using h.1.2,fun r hr=>?_⟩
 ·show D.tup es=.tup ((es.map unR).map dR)
  congr 1
  rw[Zq]
  conv=>lhs;rw[←Vh es]
  exact Zb fun x hx=>(a4q (h.2 x hx)).1
 ·obtain⟨x,hx,rfl⟩:=Zn.mp hr
  have:=(a4q (h.2 x hx)).2;simp only[unT,Qv]
  omega
theorem c2k(l:List Int):(l.map D.int).map unI=l:=by rw[Zq];exact Vh l
theorem b3o(l:List Int):unR (dR l)=l:=c2k l
theorem a6O(R:List (List Int)):unT (dT R)=R:=by
 show(R.map dR).map unR=R;rw[Zq]
 conv=>rhs;rw[←Vh R]
 exact Zb fun r _=>b3o r
theorem c2l(l:List Int):isR (dR l) l.length=true:=by
 simp[isR,dR,isW]
theorem b3p{a b:Int}(h1:a≤R.length)(h2:(R.length:Int)≤b)(h:∀r∈R,r.length=R.length):isS (dT R) a b=true:=by
 simp only[isS,dT,Qv,Qy,Zs,Qu];refine⟨⟨h1,h2⟩,fun x hx=>?_⟩
 obtain⟨r,hr,rfl⟩:=Zn.mp hx;have:=c2l r;rw[h r hr]at this;exact this
theorem a0A{xs:List α}{x:α}(h:xs[j]? =some x):atI xs (j:Int)=some x:=by
 have hj:j<xs.length:=(Qb.mp h).1
 unfold atI ixN;rw[Qn (by omega),Qn (by omega)]
 simpa using h
theorem a4r(n:Nat):a0l 0 n=(List.range n).map fun(i:Nat)=>D.int i:=by
 unfold a0l;exact Zb fun i _=>by simp
theorem a3E{g:D->Env'->Option Env'}{m:Mo D}{P:Env'->Prop}{q:α->D}{f:α->D}{l:List α}{env:Env'}(h:∀a∈l,∀e,P e->∃e1 e2,g (q a) e=some e1/\m e1=some (f a,e2)/\P e2)(p:P env):
  ∃env',g2_ g v6_ m (l.map q) env=some (l.map f,env')/\P env':=by
 induction l generalizing env with
 |nil=>exact⟨env,rfl,p⟩
 |cons a l ih=>
  obtain⟨e1,e2,h1,h2,h3⟩:=h a (by simp) env p
  obtain⟨e3,h4,h5⟩:=ih (fun x hx=>h x (by simp[hx])) h3
  refine⟨e3,?_,h5⟩;rw[Qr,Qr];unfold g2_;rw[h1];simp only[Qj,v6_,Zu];rw[h2];simp only[Qj];rw[h4];rfl
def flip(n:Nat)(R:List (List Int)):List (List Int):=(List.range n).map fun j=>R.map fun r=>r.getD j 0
theorem c2m(h:∀r∈R,r.length=n)(hj:j<n){r:List Int}(hr:r∈R):dIx (dR r) (.int (j:Int))=some (.int (r.getD j 0)):=by
 show atI (r.map D.int) (j:Int)=_
 apply a0A
 have:=h r hr
 simp[Zx (show j<r.length by omega)]
theorem b3q(hR:R≠[])(h:∀r∈R,r.length=n)(hn:n≤1000)(hl:R.length≤1000):a0o [.dat (dT R)]=some (.d (dT (flip n R)),[.dat (dT R)]):=by
 obtain⟨r0,R',rfl⟩:∃r0 R',R=r0::R':=by
  cases R with
  |nil=>exact absurd rfl hR
  |cons a b=>exact⟨a,b,rfl⟩
 have h0:r0.length=n:=h r0 (by simp)
 have inner:∀j,j<n->(mCB j1_ (z1_ (mF (v9_ (y1_ (z0_ 0)) [false,true] 1 (gN 2) v6_ (z5_ dIx (z0_ 2) (z0_ 1)))) z3_)) [.dat (dT (r0::R')),.dat (.int (j:Int))]=some (dR ((r0::R').map fun r=>r.getD j 0),[.dat (dT (r0::R')),.dat (.int (j:Int))]):=fun j hj=>by
  obtain⟨e',h1,w',rfl⟩:=a3E (g:=gN 2) (m:=z5_ dIx (z0_ 2) (z0_ 1)) (P:=fun e=>∃w,e=[.nil,.dat (.int (j:Int)),w]) (q:=dR) (f:=fun r=>.int (r.getD j 0)) (l:=r0::R') (env:=[.nil,.dat (.int (j:Int)),.nil])
   (fun r hr e ⟨w,he⟩=>by
    subst he;refine⟨[.nil,.dat (.int (j:Int)),.dat (dR r)],[.nil,.dat (.int (j:Int)),.dat (dR r)],rfl,?_,_,rfl⟩;show(dIx (dR r) (.int (j:Int))).map _=_;rw[c2m h hj hr];rfl) ⟨.nil,rfl⟩
  have hl':((r0::R').map dR).length≤100000:=by rw[Qv];omega
  have c:(v9_ (y1_ (z0_ 0)) [false,true] 1 (gN 2) v6_ (z5_ dIx (z0_ 2) (z0_ 1))) [.dat (dT (r0::R')),.dat (.int (j:Int))]=some ((r0::R').map fun r=>.int (r.getD j 0),[.dat (dT (r0::R')),.dat (.int (j:Int))]):=by
   show(if((r0::R').map dR).length≤100000 then(g2_ _ _ _ ((r0::R').map dR) [.nil,.dat (.int (j:Int)),.nil]).bind _ else none)=_
   rw[Qn hl',h1];rfl
  unfold mCB z1_ mF;rw[c];show some (D.tup _,_)=_;unfold dR;rw[Zq];rfl
 obtain⟨e',h1,w,rfl⟩:=a3E (g:=gN 1) (m:=mCB j1_ (z1_ (mF (v9_ (y1_ (z0_ 0)) [false,true] 1 (gN 2) v6_ (z5_ dIx (z0_ 2) (z0_ 1)))) z3_)) (P:=fun e=>∃w,e=[.dat (dT (r0::R')),w]) (q:=fun(j:Nat)=>D.int j) (f:=fun j=>dR ((r0::R').map fun r=>r.getD j 0)) (l:=List.range n) (env:=[.dat (dT (r0::R')),.nil])
  (fun j hj e ⟨w,he⟩=>by
   subst he;exact⟨_,_,rfl,inner j (Zt.mp hj),_,rfl⟩) ⟨.nil,rfl⟩
 refine(w2_ (d:=dT (flip n (r0::R'))) (env:=[.dat (dT (r0::R'))]) ?_).trans rfl;show a9g [.dat (dT (r0::R'))]=_;unfold a9g;have hrg:(g0_ (z1_ (mCB q6_ (z1_ (z5_ dIx (z0_ 0) (mC (.int 0))) z3_)) z3_)) [.dat (dT (r0::R'))]=some (a0l 0 n,[.dat (dT (r0::R'))]):=by
  have e:(z1_ (mCB q6_ (z1_ (z5_ dIx (z0_ 0) (mC (.int 0))) z3_)) z3_) [.dat (dT (r0::R'))]=some ([.int (n:Int)],[.dat (dT (r0::R'))]):=by
   refine q4_ (x5_ (q4_ (v0_ rfl rfl (show dIx (dT (r0::R')) (.int 0)=some (dR r0)from a0A (xs:=(r0::R').map dR) (j:=0) rfl)) rfl) ?_) rfl
   show some (D.int ((r0.map D.int).length:Nat))=_;rw[Qv,h0]
  have:=a6p e (by omega) (by omega)
  rwa [Yg]at this
 have c:(v9_ (g0_ (z1_ (mCB q6_ (z1_ (z5_ dIx (z0_ 0) (mC (.int 0))) z3_)) z3_)) [true] 1 (gN 1) v6_ (mCB j1_ (z1_ (mF (v9_ (y1_ (z0_ 0)) [false,true] 1 (gN 2) v6_ (z5_ dIx (z0_ 2) (z0_ 1)))) z3_))) [.dat (dT (r0::R'))]=some ((List.range n).map fun j=>dR ((r0::R').map fun r=>r.getD j 0),[.dat (dT (r0::R'))]):=by
  refine a2D (e2:=[.dat (dT (r0::R')),w]) hrg (by rw[a4r];simp;omega) ?_ rfl
  rw[a4r];exact h1
 refine u7_ (x5_ (q4_ (k3_ c) rfl) ?_);show some (D.tup _)=_;unfold dT flip;rw[Zq];rfl
def tt:Int->List Int->Bool
 |s,[]=>s==1
 |s,x::l=>(s+x==0||s+x==1)&&tt (s+x) l
abbrev a1k:Mo Fl:=(q1_ (a5W 1 a5R (z0_ 2)) (y9_ (mT (z5_ (dIn true) (z0_ 1) (v5_ (z1_ (mC (.int 0)) (z1_ (mC (.int 1)) z3_))))) (y0_ (mC (.bl false))) mNx))
theorem c2n(L:D)(s x:Int):a1k [.dat L,.dat (.int s),.dat (.int x)]=some (stop (s+x==0||s+x==1) (.bl false),[.dat L,.dat (.int (s+x)),.dat (.int x)]):=by
 have t:(mT (z5_ (dIn true) (z0_ 1) (v5_ (z1_ (mC (.int 0)) (z1_ (mC (.int 1)) z3_))))) [.dat L,.dat (.int (s+x)),.dat (.int x)]=some (!(s+x==0||s+x==1),[.dat L,.dat (.int (s+x)),.dat (.int x)]):=by
  show some (!(List.contains [(0:Int),1] (s+x)),_)=_;rw[Xb,Xb,List.contains_nil,Bool.or_false]
 unfold a1k;rw[w1_ (e1:=[.dat L,.dat (.int (s+x)),.dat (.int x)]) rfl];cases hb:(s+x==0||s+x==1)with
 |true=>rw[hb]at t;rw[a0O t];rfl
 |false=>rw[hb]at t;rw[a1c t];rfl
theorem b3r(L:D):∀(l:List Int) (s:Int) (w:W),(∃s' w',loop (gN 2) a1k (l.map .int) [.dat L,.dat (.int s),w]=some (.nx,[.dat L,.dat (.int s'),w'])/\tt s l=(s'==1))∨(tt s l=false/\∃e,loop (gN 2) a1k (l.map .int) [.dat L,.dat (.int s),w]=some (.ret (.bl false),e)/\e.length=3/\e[0]? =some (.dat L))
 |[],s,w=>.inl ⟨s,w,rfl,rfl⟩
 |x::l,s,w=>by
  have h:=c2n L s x
  cases hb:(s+x==0||s+x==1)with
  |true=>
   rw[hb]at h;have e:∀r,loop (gN 2) a1k ((x::l).map .int) [.dat L,.dat (.int s),w]=r↔loop (gN 2) a1k (l.map .int) [.dat L,.dat (.int (s+x)),.dat (.int x)]=r:=fun r=>by
    rw[Qr];have:loop (gN 2) a1k (D.int x::l.map .int) [.dat L,.dat (.int s),w]=loop (gN 2) a1k (l.map .int) [.dat L,.dat (.int (s+x)),.dat (.int x)]:=by
     show(a1k [.dat L,.dat (.int s),.dat (.int x)]).bind _=_;rw[h];rfl
    rw[this]
   have et:tt s (x::l)=tt (s+x) l:=by simp[tt,hb]
   rw[et]
   rcases b3r L l (s+x) (.dat (.int x))with⟨s',w',h1,h2⟩|⟨h1,e',h2,h3⟩
   ·exact .inl ⟨s',w',(e _).mpr h1,h2⟩
   ·exact .inr ⟨h1,e',(e _).mpr h2,h3⟩
  |false=>
   rw[hb]at h;refine .inr ⟨by simp[tt,hb],[.dat L,.dat (.int (s+x)),.dat (.int x)],?_,rfl,rfl⟩
   rw[Qr];show(a1k [.dat L,.dat (.int s),.dat (.int x)]).bind _=_;rw[h];rfl
theorem c2o(l:List Int):a2R [.dat (dR l)]=some (.d (.bl (tt 0 l)),[.dat (dR l)]):=by
 have hi:(g1_ (y1_ (z0_ 0)) (gN 2) a1k) [.dat (dR l),.dat (.int 0),.nil]=loop (gN 2) a1k (l.map .int) [.dat (dR l),.dat (.int 0),.nil]:=rfl
 rcases b3r (dR l) l 0 .nil with⟨s',w',h1,h2⟩|⟨h1,e',h2,h3,h4⟩
 ·refine(w2_ (d:=.bl (tt 0 l)) (env:=[.dat (dR l),.dat (.int s'),w']) ?_).trans rfl
  show a5p [.dat (dR l),.nil,.nil]=_;unfold a5p;rw[w1_ (e1:=[.dat (dR l),.dat (.int 0),.nil]) rfl,w1_ (hi.trans h1)];show some (Fl.ret (.bl (s'==1)),_)=_;rw[h2]
 ·refine(w2_ (d:=.bl (tt 0 l)) (env:=e') ?_).trans ?_
  ·show a5p [.dat (dR l),.nil,.nil]=_
   unfold a5p;rw[w1_ (e1:=[.dat (dR l),.dat (.int 0),.nil]) rfl,a1p (hi.trans h2),h1]
  ·match e',h3,h4 with
   |[a,b,c],_,h4=>cases h4;rfl
def isT(d:D):Bool:=isS d 1 6&&(unT d++flip (unT d).length (unT d)).all (tt 0)
theorem b3s:(flip n R).length=n:=by simp[flip]
theorem a9F(d:D):a3w [.dat d]=some (.d (.bl (isT d)),[.dat d]):=by
 have t:(x3_ (mT (mCD 3 a3v (z6_ (z0_ 0) (z6_ (mC (.int 1)) (z6_ (mC (.int 6)) z8_)))))) [.dat d]=some (!isS d 1 6,[.dat d]):=by
  show((((a3v [.dat d,.dat (.int 1),.dat (.int 6)]).map fun q=>(q.1,_)).bind asD).bind asB).map _=_
  rw[c2i d 1 6 (by decide)];rfl
 refine(w2_ (d:=.bl (isT d)) (env:=[.dat d]) ?_).trans rfl;show a9l [.dat d]=_;unfold a9l;cases hs:isS d 1 6 with
 |false=>
  rw[hs]at t;rw[a1p (d:=.bl false) (by rw[a1c t];rfl)]
  simp[isT,hs]
 |true=>
  rw[hs]at t;rw[w1_ (by rw[a0O t];rfl)]
  obtain⟨h1,h2,h3,h4⟩:=b3n hs;generalize unT d=R at h1 h2 h3 h4;subst h1;have fl:a0o [.dat (dT R)]=some (.d (dT (flip R.length R)),[.dat (dT R)]):=b3q (by intro z;subst z;simp at h2) h4 (by omega) (by omega)
  have it:(y1_ (z5_ v3_ (z0_ 0) (mCD 1 a0o (z6_ (z0_ 0) z8_)))) [.dat (dT R)]=some ((R++flip R.length R).map dR,[.dat (dT R)]):=by
   show(((((a0o [.dat (dT R)]).map fun q=>(q.1,_)).bind asD).bind fun q=>(v3_ (dT R) q.1).map fun d=>(d,q.2)).bind _)=_
   rw[fl];show((v3_ (dT R) (dT (flip R.length R))).map fun d=>(d,([.dat (dT R)]:Env'))).bind _=_
   have:v3_ (dT R) (dT (flip R.length R))=some (.tup ((R++flip R.length R).map dR)):=by
    show(if(R.map dR).length+((flip R.length R).map dR).length≤10000 then _ else none)=_
    rw[Qn (by rw[Qv,Qv,b3s];omega),Yq]
   rw[this];rfl
  obtain⟨e',h5,w,rfl⟩:=a3E (g:=gN 1) (m:=mCD 1 a2R (z6_ (z0_ 1) z8_)) (P:=fun e=>∃w,e=[.nil,w]) (q:=dR) (f:=fun r=>.bl (tt 0 r)) (l:=R++flip R.length R) (env:=[.nil,.nil])
   (fun r _ e ⟨w,he⟩=>by
    subst he;refine⟨[.nil,.dat (dR r)],[.nil,.dat (dR r)],rfl,?_,_,rfl⟩;show((a2R [.dat (dR r)]).map fun q=>(q.1,_)).bind asD=_
    rw[c2o];rfl) ⟨.nil,rfl⟩
  have c:(v9_ (y1_ (z5_ v3_ (z0_ 0) (mCD 1 a0o (z6_ (z0_ 0) z8_)))) [false] 1 (gN 1) v6_ (mCD 1 a2R (z6_ (z0_ 1) z8_))) [.dat (dT R)]=some ((R++flip R.length R).map fun r=>.bl (tt 0 r),[.dat (dT R)]):=by
   unfold v9_;rw[it];show(if((R++flip R.length R).map dR).length≤100000 then(g2_ _ _ _ ((R++flip R.length R).map dR) [.nil,.nil]).bind _ else none)=_
   rw[Qn (by rw[Qv,Qa,b3s];omega),h5];rfl
  unfold y0_ mCB z1_ mF;rw[c];show(((a0t ((R++flip R.length R).map fun r=>.bl (tt 0 r))).map fun k=>D.bl k).map _).map _=_
  rw[a3p];simp only[isT,hs,a6O,Yp];rfl
theorem a4s{i j:Int}(h:a1X i j=true):j4_ (.int i) (.int j)=some (.int (i * j)):=by
 unfold j4_ fOr a4E fI;simp only[h,Zu]
theorem a5u{i j:Int}(h1: -18446744073709551616<i)(h2:i<18446744073709551616):a1X i j=true:=by
 unfold a1X;rw[show((2:Int)^64)=18446744073709551616 from rfl]
 simp[h1,h2]
theorem c2p{i j:Int}(h1: -18446744073709551616<j)(h2:j<18446744073709551616):a1X i j=true:=by
 unfold a1X;rw[show((2:Int)^64)=18446744073709551616 from rfl]
 simp[h1,h2]
theorem a6P:∀l:List Int,a0u (l.map D.int)=l.map PyData.int
 |[]=>rfl
 |x::l=>by show PyData.int x::a0u (l.map D.int)=_;rw[a6P l];rfl
theorem a6w:∀l:List Int,PyData.canLayAll0 (l.map PyData.int)=true
 |[]=>rfl
 |x::l=>by show(true&&PyData.canLayAll0 (l.map PyData.int))=true;rw[a6w l];rfl
theorem b3t:∀l:List Int,PyData.depthAll (l.map PyData.int)=0
 |[]=>rfl
 |x::l=>by show max 0 (PyData.depthAll (l.map PyData.int))=0;rw[b3t l];rfl
theorem b3u:∀l k:List Int,PyData.eqvAll (l.map PyData.int) (k.map PyData.int)=decide (l=k)
 |[],[]=>rfl
 |[],_::_=>rfl
 |_::_,[]=>rfl
 |x::l,y::k=>by
  show((x==y)&&PyData.eqvAll (l.map PyData.int) (k.map PyData.int))=_;rw[b3u l k]
  by_cases h:x=y
  ·subst h;simp
  ·simp[h]
theorem b3v(l:List Int):shp (.lst (l.map D.int))=true:=by
 unfold shp SeqAt.shaped;show(PyData.canLayAll0 (a0u (l.map D.int))&&decide (PyData.depthAll (a0u (l.map D.int))+1≤64))=true;rw[a6P,a6w,b3t];rfl
theorem c2q(l k:List Int):dEq false (.lst (l.map D.int)) (.lst (k.map D.int))=some (.bl (decide (l=k))):=by
 unfold dEq;rw[b3v,b3v];show some (D.bl (PyData.eqvAll (a0u (l.map D.int)) (a0u (k.map D.int))))=_;rw[a6P,a6P,b3u]
theorem a9G{α:Type}{g:D->Env'->Option Env'}{t:Mo Bool}{m:Mo D}{P:Env'->Prop}{q:α->D}{f:α->D}{p:α->Bool}:∀{l:List α}{env:Env'},(∀a∈l,∀e,P e->∃e1 e2,g (q a) e=some e1/\t e1=some (p a,e2)/\(p a=true->∃e3,m e2=some (f a,e3)/\P e3)/\(p a=false->P e2))->P env->
  ∃env',g2_ g t m (l.map q) env=some ((l.filter p).map f,env')/\P env'
 |[],env,_,h=>⟨env,rfl,h⟩
 |a::l,env,h,hp=>by
  obtain⟨e1,e2,h1,h2,h3,h4⟩:=h a (by simp) env hp
  cases hb:p a with
  |true=>
   obtain⟨e3,h5,h6⟩:=h3 hb;obtain⟨e4,h7,h8⟩:=a9G (l:=l) (fun x hx=>h x (by simp[hx])) h6
   refine⟨e4,?_,h8⟩;rw[Qr,Ux hb,Qr];unfold g2_;rw[h1];simp only[Qj];rw[h2,hb];simp only[Qj,Zu];rw[h5];simp only[Qj];rw[h7];rfl
  |false=>
   obtain⟨e4,h7,h8⟩:=a9G (l:=l) (fun x hx=>h x (by simp[hx])) (h4 hb)
   refine⟨e4,?_,h8⟩;rw[Qr,Uj (by simp[hb])]
   unfold g2_;rw[h1];simp only[Qj];rw[h2,hb];simp only[Qj,Qo,Zo];exact h7
def inB(d:D)(a b:Int):Bool:=match d with
 |.int i=>decide (a≤i)&&decide (i≤b)
 |_=>false
theorem b3w{a i b:Int}{mc:Mo D}(h1:ma e=some (.int a,e))(h2:mb e=some (.int i,e))(h3:mc e=some (.int b,e)):a0L dLe dLe ma mb mc e=some (.bl (decide (a≤i)&&decide (i≤b)),e):=by
 unfold a0L;rw[h1];show(mb e).bind _=_;rw[h2]
 by_cases h:a≤i
 ·have e1:dLe (.int a) (.int i)=some (.bl true):=by show some (D.bl (decide _))=_;simp[h]
  simp only[Qj,e1];rw[h3];show some (D.bl (decide (i≤b)),e)=_
  simp[h]
 ·have e1:dLe (.int a) (.int i)=some (.bl false):=by show some (D.bl (decide _))=_;simp[h]
  simp only[Qj,e1]
  simp[h]
def tt2(l:List Int):Bool:=decide (l.filter (fun x=>!(x==0))=(List.range (l.filter fun x=>!(x==0)).length).map fun(i:Nat)=>1-2 * ((i:Int)%2))&&(((l.filter fun x=>!(x==0)).length:Int)%2==1)
theorem b3x(d:D)(l:List Int)(hd:d.items=some (l.map .int))(hl:l.length≤1000):a2p [.dat d]=some (.d (.bl (tt2 l)),[.dat d]):=by
 obtain⟨e',h1,w,rfl⟩:=a9G (g:=gN 2) (t:=mT (z5_ (dEq true) (z0_ 2) (mC (.int 0)))) (m:=z0_ 2) (P:=fun e=>∃w,e=[.nil,.nil,w]) (q:=D.int) (f:=D.int) (p:=fun x=>!(x==0)) (l:=l) (env:=[.nil,.nil,.nil])
  (fun x _ e ⟨w,he⟩=>by
   subst he;exact⟨[.nil,.nil,.dat (.int x)],[.nil,.nil,.dat (.int x)],rfl,rfl,fun _=>⟨_,rfl,_,rfl⟩,fun _=>⟨_,rfl⟩⟩) ⟨.nil,rfl⟩
 generalize hs:l.filter (fun x=>!(x==0))=s at h1
 have hsl:s.length≤1000:=by rw[←hs];exact Zm (List.length_filter_le _ _) hl
 have c1:(v9_ (y1_ (z0_ 0)) [false,false] 1 (gN 2) (mT (z5_ (dEq true) (z0_ 2) (mC (.int 0)))) (z0_ 2)) [.dat d,.nil]=some (s.map .int,[.dat d,.nil]):=
  a2D (e2:=[.nil,.nil,w]) (a0P rfl hd) (by rw[Qv];omega) h1 rfl
 obtain⟨e',h2,w2,rfl⟩:=a3E (g:=gN 2) (m:=z5_ u2_ (mC (.int 1)) (z5_ j4_ (mC (.int 2)) (z5_ g6_ (z0_ 2) (mC (.int 2))))) (P:=fun e=>∃w,e=[.nil,.nil,w]) (q:=fun(i:Nat)=>D.int i) (f:=fun i=>.int (1-2 * ((i:Int)%2))) (l:=List.range s.length) (env:=[.nil,.nil,.nil])
  (fun i _ e ⟨w,he⟩=>by
   subst he;refine⟨[.nil,.nil,.dat (.int i)],[.nil,.nil,.dat (.int i)],rfl,?_,_,rfl⟩;refine v0_ (b:=.int (2 * ((i:Int)%2))) rfl (v0_ rfl (v0_ rfl rfl (show g6_ (.int i) (.int 2)=some (.int ((i:Int)%2))from rfl)) ?_) rfl
   exact a4s (a5u (by decide) (by decide))) ⟨.nil,rfl⟩
 have c2:(v9_ (g0_ (z1_ (mCB q6_ (z1_ (z0_ 1) z3_)) z3_)) [false,false] 1 (gN 2) v6_ (z5_ u2_ (mC (.int 1)) (z5_ j4_ (mC (.int 2)) (z5_ g6_ (z0_ 2) (mC (.int 2)))))) [.dat d,.dat (.lst (s.map .int))]=some (((List.range s.length).map fun(i:Nat)=>1-2 * ((i:Int)%2)).map D.int,[.dat d,.dat (.lst (s.map .int))]):=by
  have r1:(g0_ (z1_ (mCB q6_ (z1_ (z0_ 1) z3_)) z3_)) [.dat d,.dat (.lst (s.map .int))]=some (a0l 0 s.length,[.dat d,.dat (.lst (s.map .int))]):=by
   have e:(z1_ (mCB q6_ (z1_ (z0_ 1) z3_)) z3_) [.dat d,.dat (.lst (s.map .int))]=some ([.int (s.length:Int)],[.dat d,.dat (.lst (s.map .int))]):=by
    refine q4_ (x5_ (q4_ rfl rfl) ?_) rfl;show some (D.int ((s.map D.int).length:Nat))=_;rw[Qv]
   have:=a6p e (by omega) (by omega)
   rwa [Yg]at this
  refine a2D (e2:=[.nil,.nil,w2]) r1 (by rw[a4r];simp;omega) ?_ rfl
  rw[a4r,Zq];exact h2
 refine(w2_ (d:=.bl (tt2 l)) (env:=[.dat d,.dat (.lst (s.map .int))]) ?_).trans rfl;show a9x [.dat d,.nil]=_;unfold a9x;rw[w1_ (b1K c1)];show y0_ _ [.dat d,.own (s.map .int)]=_;refine u7_ ?_
 have a1:(z5_ (dEq false) (z0_ 1) (mF (v9_ (g0_ (z1_ (mCB q6_ (z1_ (z0_ 1) z3_)) z3_)) [false,false] 1 (gN 2) v6_ (z5_ u2_ (mC (.int 1)) (z5_ j4_ (mC (.int 2)) (z5_ g6_ (z0_ 2) (mC (.int 2)))))))) [.dat d,.dat (.lst (s.map .int))]=some (.bl (decide (s=(List.range s.length).map fun(i:Nat)=>1-2 * ((i:Int)%2))),[.dat d,.dat (.lst (s.map .int))]):=
  v0_ (e1:=[.dat d,.dat (.lst (s.map .int))]) rfl (k3_ c2) (c2q _ _)
 have a2:(z5_ (dEq false) (z5_ g6_ (mCB q6_ (z1_ (z0_ 1) z3_)) (mC (.int 2))) (mC (.int 1))) [.dat d,.own (s.map .int)]=some (.bl ((s.length:Int)%2==1),[.dat d,.dat (.lst (s.map .int))]):=by
  refine v0_ (e1:=[.dat d,.dat (.lst (s.map .int))]) (v0_ (e1:=[.dat d,.dat (.lst (s.map .int))]) (x5_ (q4_ rfl rfl) (show q6_ [.lst (s.map .int)]=some (.int (s.length:Int))from ?_)) rfl rfl) rfl rfl
  show some (D.int ((s.map D.int).length:Nat))=_;rw[Qv]
 unfold a1A;rw[a2];simp only[Qj];unfold tt2;rw[hs];cases hb:((s.length:Int)%2==1)with
 |true=>simp only[Bool.and_true];exact a1
 |false=>simp only[Bool.and_false]
def alt:Int->Nat->List Int
 |_,0=>[]
 |s,k+1=>(1-2 * s)::alt (1-s) k
theorem b3y:∀(k j:Nat),(List.range' j k).map (fun(i:Nat)=>1-2 * ((i:Int)%2))=alt ((j:Int)%2) k
 |0,_=>rfl
 |k+1,j=>by
  rw[List.range'_succ,Qr,b3y k (j+1)];show _=(1-2 * ((j:Int)%2))::alt (1-(j:Int)%2) k
  congr 2
  omega
theorem c2r(k:Nat):(List.range k).map (fun(i:Nat)=>1-2 * ((i:Int)%2))=alt 0 k:=by
 rw[List.range_eq_range'];exact b3y k 0
def small(x:Int):Bool:=decide (-1≤x)&&decide (x≤1)
theorem c2s(l:List Int):∀s:Int,(s=0∨s=1)->tt s l=tt s (l.filter fun x=>!(x==0)):=by
 induction l with
 |nil=>intro s _;rfl
 |cons x l ih=>
  intro s hs
  by_cases hx:x=0
  ·subst hx
   rw[Uj (by simp),←ih s hs]
   rcases hs with rfl|rfl<;>simp[tt]
  ·rw[Ux (by simp[hx])]
   simp only[tt]
   by_cases h:(s+x==0||s+x==1)=true
   ·rw[h,Yp,Yp]
    exact ih (s+x) (by simpa using h)
   ·have h':(s+x==0||s+x==1)=false:=by simpa using h
    rw[h',Ja,Ja]
theorem c2t(l:List Int):∀s:Int,(s=0∨s=1)->(∀x∈l,x=1∨x= -1)->tt s l=(decide (l=alt s l.length)&&((l.length:Int)+s)%2==1):=by
 induction l with
 |nil=>intro s hs _;rcases hs with rfl|rfl<;>rfl
 |cons x l ih=>
  intro s hs hx;have hx1:=hx x (by simp)
  have ih':=fun s hs=>ih s hs fun y hy=>hx y (by simp[hy])
  simp only[tt,Uq,alt]
  rcases hs with rfl|rfl
  ·rcases hx1 with rfl|rfl
   ·have:=ih' 1 (.inr rfl)
    show(true&&tt 1 l)=(decide (1::l=(1:Int)::alt 1 l.length)&&((((l.length+1:Nat):Int)+0)%2==1));have e1:decide (1::l=(1:Int)::alt 1 l.length)=decide (l=alt 1 l.length):=by simp
    have e2:((l.length:Int)+1)=(((l.length+1:Nat):Int)+0):=by omega
    rw[Yp,this,e1,e2]
   ·simp[show((0:Int)+ -1==0||(0:Int)+ -1==1)=false from rfl]
  ·rcases hx1 with rfl|rfl
   ·simp[show((1:Int)+1==0||(1:Int)+1==1)=false from rfl]
   ·have:=ih' 0 (.inl rfl)
    show(true&&tt 0 l)=(decide (-1::l=(-1:Int)::alt 0 l.length)&&((((l.length+1:Nat):Int)+1)%2==1));have e1:decide (-1::l=(-1:Int)::alt 0 l.length)=decide (l=alt 0 l.length):=by simp
    have e2:((l.length:Int)+0)%2=(((l.length+1:Nat):Int)+1)%2:=by omega
    rw[Yp,this,e1,e2]
theorem b3z(l:List Int)(h:∀x∈l,small x=true):tt 0 l=tt2 l:=by
 rw[c2s l 0 (.inl rfl),c2t _ 0 (.inl rfl) (fun x hx=>?_)]
 ·unfold tt2
  rw[c2r,Int.add_zero]
 ·obtain⟨h1,h2⟩:=Ud.mp hx
  have:=h x h1
  simp[small]at this h2
  omega
theorem b3A(l:List Int):∀s:Int,(s=0∨s=1)->tt s l=true->∀x∈l,small x=true:=by
 induction l with
 |nil=>intro s _ _ x hx;cases hx
 |cons y l ih=>
  intro s hs h x hx;simp only[tt,Qy]at h;have h1:s+y=0∨s+y=1:=by simpa using h.1
  rcases Ql.mp hx with rfl|hx
  ·simp[small];omega
  ·exact ih (s+y) h1 h.2 x hx
theorem c2u(l:List Int):tt 0 l=(l.all small&&tt2 l):=by
 by_cases h:l.all small=true
 ·rw[h,Yp];exact b3z l (Qu.mp h)
 ·have h':l.all small=false:=by simpa using h
  rw[h',Ja];cases ht:tt 0 l with
  |false=>rfl
  |true=>exact absurd (Qu.mpr (b3A l 0 (.inl rfl) ht)) h
theorem b3B{i j k:Int}(h:a5Q i j=true)(e:i^j.toNat=k):a0V (.int i) (.int j)=some (.int k):=by
 show(if a5Q i j=true then some (D.int (i^j.toNat))else none)=_
 rw[Qn h,e]
theorem b3C:a0V (.int 10) (.int 18)=some (.int 1000000000000000000):=b3B (by decide+kernel) (by decide+kernel)
theorem a2q{a m:Int}(ha:0≤a)(h1:1≤m)(h2:m<1073741824):∃v a',x6_ [.par [.int a,.bl b],.dat (.int m)]=some (.d (.int v),[.par [.int a',.bl b],.dat (.int m)])/\0≤v/\v<m/\0≤a':=by
 have dm:∀x:Int,g6_ (.int x) (.int m)=some (.int (x%m)):=fun x=>by
  show(if decide (0<m)=true then _ else none)=_
  rw[Qn (by simp;omega)]
 have dd:∀x:Int,a4F (.int x) (.int m)=some (.int (x/m)):=fun x=>by
  show(if a5P x m=true then _ else none)=_
  rw[Qn (by unfold a5P;simp;omega)]
 cases b with
 |true=>
  refine⟨a%m,a/m,?_,Uv _ (by omega),Vx _ (by omega),Int.ediv_nonneg ha (by omega)⟩
  refine(w2_ (d:=.int (a%m)) (env:=[.par [.int (a/m),.bl true],.dat (.int m),.nil,.dat (.int (a%m))]) ?_).trans rfl;show a5t [.par [.int a,.bl true],.dat (.int m),.nil,.nil]=_;unfold a5t;have t:(mT (u5_ 0 (mC (.int 1)))) [.par [.int a,.bl true],.dat (.int m),.nil,.nil]=some (true,[.par [.int a,.bl true],.dat (.int m),.nil,.nil]):=rfl;have s1:(v1_ 3 (z5_ g6_ (u5_ 0 (mC (.int 0))) (z0_ 1))) [.par [.int a,.bl true],.dat (.int m),.nil,.nil]=some (.nx,[.par [.int a,.bl true],.dat (.int m),.nil,.dat (.int (a%m))]):=a1d (e1:=[.par [.int a,.bl true],.dat (.int m),.nil,.nil]) (v0_ rfl rfl (dm a));have s2:(a0k (z5_ a4F (u5_ 0 (mC (.int 0))) (z0_ 1)) (gS 0 (mC (.int 0)))) [.par [.int a,.bl true],.dat (.int m),.nil,.dat (.int (a%m))]=some (.nx,[.par [.int (a/m),.bl true],.dat (.int m),.nil,.dat (.int (a%m))]):=by
   unfold a0k;rw[v0_ (c:=.int (a/m)) rfl rfl (dd a)];rfl
  rw[a1p (d:=.int (a%m)) (by rw[a1c t,w1_ s1,w1_ s2];rfl)]
 |false=>
  have e1:∀x:Int,j4_ (.int x) (.int 48271)=some (.int (x * 48271)):=fun x=>a4s (c2p (by decide) (by decide))
  have md:∀(x k:Int),0<k->g6_ (.int x) (.int k)=some (.int (x%k)):=fun x k hk=>by
   show(if decide (0<k)=true then _ else none)=_
   rw[Qn (by simp;omega)]
  let p:Int:=(a * 48271+29)%2147483647
  have hp:0≤p/\p<2147483647:=⟨Uv _ (by decide),Vx _ (by decide)⟩
  let q:Int:=(p * p+39373 * p+7)%2147483629
  have hq:0≤q/\q<2147483629:=⟨Uv _ (by decide),Vx _ (by decide)⟩
  let r:Int:=(q * q+16807 * q)%2147483587
  have hr:0≤r:=Uv _ (by decide)
  refine⟨r/8%m,p,?_,Uv _ (by omega),Vx _ (by omega),hp.1⟩
  refine(w2_ (d:=.int (r/8%m)) (env:=[.par [.int p,.bl false],.dat (.int m),.dat (.int r),.nil]) ?_).trans rfl;show a5t [.par [.int a,.bl false],.dat (.int m),.nil,.nil]=_;unfold a5t;have t:(mT (u5_ 0 (mC (.int 1)))) [.par [.int a,.bl false],.dat (.int m),.nil,.nil]=some (false,[.par [.int a,.bl false],.dat (.int m),.nil,.nil]):=rfl;have s1:(a0k (z5_ g6_ (z5_ v3_ (z5_ j4_ (u5_ 0 (mC (.int 0))) (mC (.int 48271))) (mC (.int 29))) (mC (.int 2147483647))) (gS 0 (mC (.int 0)))) [.par [.int a,.bl false],.dat (.int m),.nil,.nil]=some (.nx,[.par [.int p,.bl false],.dat (.int m),.nil,.nil]):=by
   unfold a0k;rw[v0_ (c:=.int p) (v0_ (c:=.int (a * 48271+29)) (v0_ rfl rfl (e1 a)) rfl rfl) rfl (md _ _ (by decide))];rfl
  have s2:(v1_ 2 (z5_ g6_ (z5_ v3_ (z5_ v3_ (z5_ j4_ (u5_ 0 (mC (.int 0))) (u5_ 0 (mC (.int 0)))) (z5_ j4_ (mC (.int 39373)) (u5_ 0 (mC (.int 0))))) (mC (.int 7))) (mC (.int 2147483629)))) [.par [.int p,.bl false],.dat (.int m),.nil,.nil]=some (.nx,[.par [.int p,.bl false],.dat (.int m),.dat (.int q),.nil]):=
   a1d (e1:=[.par [.int p,.bl false],.dat (.int m),.nil,.nil]) (v0_ (c:=.int q) (v0_ (c:=.int (p * p+39373 * p+7)) (v0_ (c:=.int (p * p+39373 * p)) (v0_ rfl rfl (a4s (i:=p) (j:=p) (a5u (by omega) (by omega)))) (v0_ rfl rfl (a4s (i:=39373) (j:=p) (a5u (by decide) (by decide)))) rfl) rfl rfl) rfl (md _ _ (by decide)))
  have s3:(v1_ 2 (z5_ g6_ (z5_ v3_ (z5_ j4_ (z0_ 2) (z0_ 2)) (z5_ j4_ (mC (.int 16807)) (z0_ 2))) (mC (.int 2147483587)))) [.par [.int p,.bl false],.dat (.int m),.dat (.int q),.nil]=some (.nx,[.par [.int p,.bl false],.dat (.int m),.dat (.int r),.nil]):=
   a1d (e1:=[.par [.int p,.bl false],.dat (.int m),.dat (.int q),.nil]) (v0_ (c:=.int r) (v0_ (c:=.int (q * q+16807 * q)) (v0_ rfl rfl (a4s (i:=q) (j:=q) (a5u (by omega) (by omega)))) (v0_ rfl rfl (a4s (i:=16807) (j:=q) (a5u (by decide) (by decide)))) rfl) rfl (md _ _ (by decide)))
  rw[w1_ (by rw[a0O t];rfl),w1_ s1,w1_ s2,w1_ s3]
  exact u7_ (v0_ (c:=.int (r/8%m)) (v0_ (c:=.int (r/8)) rfl rfl rfl) rfl (dm _))
theorem c2v(ns:List Int)(k:Nat)(hk:k<1000):∃c,a4l [.dat (.lst (ns.map .int)),.dat (.int k)]=some (.d (.int c),[.dat (.lst (ns.map .int)),.dat (.int k)]):=by
 have t:(mT (z5_ dLt (z0_ 1) (mCB q6_ (z1_ (z0_ 0) z3_)))) [.dat (.lst (ns.map .int)),.dat (.int k)]=some (decide ((k:Int)<(ns.length:Int)),[.dat (.lst (ns.map .int)),.dat (.int k)]):=by
  show some (decide ((k:Int)<((ns.map D.int).length:Nat)),_)=_;rw[Qv]
 by_cases h:k<ns.length
 ·have hd:decide ((k:Int)<(ns.length:Int))=true:=by simp;omega
  rw[hd]at t;refine⟨ns[k],(w2_ (d:=.int ns[k]) (env:=[.dat (.lst (ns.map .int)),.dat (.int k)]) ?_).trans rfl⟩;show a5r [.dat (.lst (ns.map .int)),.dat (.int k)]=_;unfold a5r;rw[a1p (d:=.int ns[k]) (by
   rw[a1c t];exact u7_ (v0_ rfl rfl (show atI (ns.map D.int) (k:Int)=_ from a0A (by simp[h]))))]
 ·have hd:decide ((k:Int)<(ns.length:Int))=false:=by simp;omega
  rw[hd]at t;refine⟨0,(w2_ (d:=.int 0) (env:=[.dat (.lst (ns.map .int)),.dat (.int k)]) ?_).trans rfl⟩;show a5r [.dat (.lst (ns.map .int)),.dat (.int k)]=_;unfold a5r;rw[w1_ (by rw[a0O t];rfl)];rfl
theorem c2w(ns:List Int)(k:Nat)(hk:k<1000):∃a b,0≤a/\a4m [.dat (.lst (ns.map .int)),.dat (.int k)]=some (.l [.int a,.bl b],[.dat (.lst (ns.map .int)),.dat (.int k)]):=by
 obtain⟨c,hc⟩:=c2v ns k hk;have s1:(v1_ 2 (mCD 2 a4l (z6_ (z0_ 0) (z6_ (z0_ 1) z8_)))) [.dat (.lst (ns.map .int)),.dat (.int k),.nil]=some (.nx,[.dat (.lst (ns.map .int)),.dat (.int k),.dat (.int c)]):=
  a1d (e1:=[.dat (.lst (ns.map .int)),.dat (.int k),.nil]) (a0Q (a1e (av:=[.d (.lst (ns.map .int)),.d (.int k)]) rfl rfl rfl hc))
 have t:(mT (z5_ dGe (z0_ 2) (z5_ a0V (mC (.int 10)) (mC (.int 18))))) [.dat (.lst (ns.map .int)),.dat (.int k),.dat (.int c)]=some (decide (1000000000000000000≤c),[.dat (.lst (ns.map .int)),.dat (.int k),.dat (.int c)]):=by
  refine w4_ (v0_ (b:=.int 1000000000000000000) rfl ?_ rfl);exact v0_ rfl rfl b3C
 by_cases h:1000000000000000000≤c
 ·rw[Vv h]at t
  refine⟨c-1000000000000000000,true,by omega,(a7W (d:=[.int (c-1000000000000000000),.bl true]) (env:=[.dat (.lst (ns.map .int)),.dat (.int k),.dat (.int c)]) ?_).trans rfl⟩
  show a5s [.dat (.lst (ns.map .int)),.dat (.int k),.nil]=_;unfold a5s;rw[w1_ s1];have r:(a2u (x2_ (z1_ (z5_ u2_ (z0_ 2) (z5_ a0V (mC (.int 10)) (mC (.int 18)))) (z1_ (mC (.bl true)) z3_)))) [.dat (.lst (ns.map .int)),.dat (.int k),.dat (.int c)]=some (.retL [.int (c-1000000000000000000),.bl true],[.dat (.lst (ns.map .int)),.dat (.int k),.dat (.int c)]):=by
   have b:=v0_ (f:=u2_) (ma:=z0_ 2) (mb:=z5_ a0V (mC (.int 10)) (mC (.int 18))) (env:=[.dat (.lst (ns.map .int)),.dat (.int k),.dat (.int c)]) (b:=.int 1000000000000000000) (c:=.int (c-1000000000000000000)) rfl (v0_ rfl rfl b3C) rfl
   refine b1J ?_
   unfold x2_;rw[q4_ b (q4_ rfl rfl)];rfl
  unfold q1_;rw[a1c t,r];rfl
 ·rw[Zg h]at t
  refine⟨c%2147483647,false,Uv _ (by decide),(a7W (d:=[.int (c%2147483647),.bl false]) (env:=[.dat (.lst (ns.map .int)),.dat (.int k),.dat (.int c)]) ?_).trans rfl⟩
  show a5s [.dat (.lst (ns.map .int)),.dat (.int k),.nil]=_;unfold a5s;rw[w1_ s1,w1_ (by rw[a0O t];rfl)];rfl
def bits:Nat->List (List Int)
 |0=>[[]]
 |n+1=>(bits n).map (fun l=>0::l)++(bits n).map (fun l=>1::l)
def a0g(h r:List Int):List Int:=List.zipWith (· + ·) h r
def b3D(h:List Int)(d:D):Bool:=isR d h.length&&(tt 0 (unR d)&&(a0g h (unR d)).all fun x=>x==0||x==1)
def chk(h:List Int):Bool:=match a2S [.dat (dR h)]with
 |some (.l ds,_)=>ds.all (b3D h)&&((h.all fun x=>x==1)||(decide (1≤ds.length)&&decide (ds.length≤1000)))
 |_=>false
theorem c2x:(bits 1).all chk=true:=by decide+kernel
theorem c2y:(bits 2).all chk=true:=by decide+kernel
theorem c2z:(bits 3).all chk=true:=by decide+kernel
theorem c2A:(bits 4).all chk=true:=by decide+kernel
theorem c2B:(bits 5).all chk=true:=by decide+kernel
theorem c2C:(bits 6).all chk=true:=by decide+kernel
structure HB(h:List Int)(n:Nat):Prop where
 len:h.length=n
 bit:∀x∈h,x=0∨x=1
theorem HB.mem:∀{n:Nat}{h:List Int},HB h n->h∈bits n
 |0,h,H=>by
  have:=H.len;cases h with
  |nil=>simp[bits]
  |cons _ _=>simp at this
 |n+1,h,H=>by
  cases h with
  |nil=>have:=H.len;simp at this
  |cons x l=>
   have hl:HB l n:=⟨by have:=H.len;simpa using this,fun y hy=>H.bit y (by simp[hy])⟩
   have:=hl.mem;unfold bits;rw[List.mem_append,Zn,Zn]
   rcases H.bit x (by simp)with rfl|rfl
   ·exact .inl ⟨l,this,rfl⟩
   ·exact .inr ⟨l,this,rfl⟩
theorem c2D{h:List Int}(h1:1≤n)(h6:n≤6)(H:HB h n):chk h=true:=by
 have hm:=H.mem
 match n,h1,h6 with
 |1,_,_=>exact Qu.mp c2x h hm
 |2,_,_=>exact Qu.mp c2y h hm
 |3,_,_=>exact Qu.mp c2z h hm
 |4,_,_=>exact Qu.mp c2A h hm
 |5,_,_=>exact Qu.mp c2B h hm
 |6,_,_=>exact Qu.mp c2C h hm
structure LineOk(h r:List Int):Prop where
 len:r.length=h.length
 tt:tt 0 r=true
 bit:∀x∈a0g h r,x=0∨x=1
theorem c2E{h:List Int}(h1:1≤n)(h6:n≤6)(H:HB h n)(hs:∃x∈h,x≠1):∃(rows:List (List Int)) (ws':List W),a2S [.dat (dR h)]=some (.l (rows.map dR),ws')/\1≤rows.length/\rows.length≤1000/\∀r∈rows,LineOk h r:=by
 have hc:=c2D h1 h6 H
 unfold chk at hc;split at hc
 ·rename_i ds ws' e
  rw[Qy]at hc;have hl:1≤ds.length/\ds.length≤1000:=by
   have h2:=hc.2
   rw[Xo]at h2
   rcases h2 with h2|h2
   ·obtain⟨x,hx,hne⟩:=hs
    have:=Qu.mp h2 x hx
    simp at this
    exact absurd this hne
   ·rw[Qy,Zs,Zs]at h2
    exact h2
  have ok:∀d∈ds,d=dR (unR d)/\LineOk h (unR d):=fun d hd=>by
   have:=Qu.mp hc.1 d hd;unfold b3D at this;rw[Qy,Qy]at this;obtain⟨a1,a2⟩:=a4q this.1;exact⟨a1,by omega,this.2.1,fun x hx=>by simpa using Qu.mp this.2.2 x hx⟩
  refine⟨ds.map unR,ws',?_,by rw[Qv];exact hl.1,by rw[Qv];exact hl.2,fun r hr=>?_⟩
  ·rw[e,Zq]
   have:ds.map (dR∘unR)=ds:=by
    conv=>rhs;rw[←Vh ds]
    exact Zb fun d hd=>(ok d hd).1.symm
   rw[this]
  ·obtain⟨d,hd,rfl⟩:=Zn.mp hr
   exact(ok d hd).2
 ·cases hc
theorem c2F(l:List Int):∀s,tt s l=true->s+l.sum=1:=by
 induction l with
 |nil=>intro s h;simpa [tt]using h
 |cons x l ih=>
  intro s h;simp only[tt,Qy]at h;have:=ih (s+x) h.2;simp only[Vn]
  omega
theorem b3E{h r:List Int}(e:r.length=h.length):(a0g h r).length=h.length:=by simp[a0g,e]
theorem b3F:∀{h r:List Int},r.length=h.length->(a0g h r).sum=h.sum+r.sum
 |[],[],_=>rfl
 |x::h,y::r,e=>by
  have:=b3F (h:=h) (r:=r) (by simpa using e)
  simp only[a0g,List.zipWith_cons_cons,Vn]at this ⊢
  omega
 |[],_::_,e=>by simp at e
 |_::_,[],e=>by simp at e
def run:Int->List Int->Option Int
 |s,[]=>some s
 |s,x::l=>if s+x=0∨s+x=1 then run (s+x) l else none
theorem c2G(l:List Int):∀s,tt s l=(run s l==some 1):=by
 induction l with
 |nil=>intro s;rfl
 |cons x l ih=>
  intro s;simp only[tt,run]
  by_cases h:s+x=0∨s+x=1
  ·rw[Qn h,←ih]
   have:(s+x==0||s+x==1)=true:=by simpa using h
   rw[this,Yp]
  ·rw[Qe h]
   have:(s+x==0||s+x==1)=false:=by simpa using h
   rw[this];rfl
theorem c2H(l:List Int)(x:Int):∀s t,run s l=some t->(t+x=0∨t+x=1)->run s (l++[x])=some (t+x):=by
 induction l with
 |nil=>intro s t h hx;cases h;simp[run,hx]
 |cons y l ih=>
  intro s t h hx;simp only[run,Xi]at h ⊢;split at h
  ·rename_i hy
   rw[Qn hy];exact ih (s+y) t h hx
  ·cases h
theorem b3G:∀{h:List Int},(∀x∈h,x=0∨x=1)->h.sum≤h.length/\(h.sum=h.length->∀x∈h,x=1)
 |[],_=>⟨by simp,fun _ x hx=>by cases hx⟩
 |y::h,H=>by
  obtain⟨h1,h2⟩:=b3G (h:=h) fun x hx=>H x (by simp[hx])
  have hy:=H y (by simp)
  simp only[Vn,Uq];refine⟨by omega,fun e x hx=>?_⟩
  rcases Ql.mp hx with rfl|hx
  ·omega
  ·exact h2 (by omega) x hx
theorem a9H{g:D->Env'->Option Env'}{b:Mo Fl}:∀{ds:List D}{P:Nat->Env'->Prop}{env:Env'},(∀i d e,ds[i]? =some d->P i e->∃e1 e2,g d e=some e1/\b e1=some (.nx,e2)/\P (i+1) e2)->P 0 env->∃env',loop g b ds env=some (.nx,env')/\P ds.length env'
 |[],P,env,_,p=>⟨env,rfl,p⟩
 |d::ds,P,env,h,p=>by
  obtain⟨e1,e2,h1,h2,h3⟩:=h 0 d env rfl p;obtain⟨e3,h4,h5⟩:=a9H (ds:=ds) (P:=fun i e=>P (i+1) e) (fun i x e hi q=>h (i+1) x e (by simpa using hi) q) h3
  refine⟨e3,?_,h5⟩;unfold loop;rw[h1];simp only[Qj];rw[h2];exact h4
theorem b3H{h r:List Int}(e:r.length=h.length)(hj:j<h.length):(a0g h r).getD j 0=h.getD j 0+r.getD j 0:=by
 have hj2:j<r.length:=by omega
 simp[a0g,Jx,Zx hj,Zx hj2]
theorem c2I{h r:List Int}:g3_ (h.map D.int) (r.map D.int)=(h.zip r).map fun p=>.tup [.int p.1,.int p.2]:=by
 unfold g3_;rw[List.zip_map,Zq];rfl
theorem b3I(f:Nat->Nat->Bool):∀k,argBest f k≤k
 |0=>Qp _
 |k+1=>by
  have:=b3I f k;unfold argBest;split<;>omega
theorem c2J{l:List Int}(h:1≤l.length):a0j false l∈l:=by
 unfold a0j;have hl:=b3I (fun i j=>if false then decide (l.getD i 0>l.getD j 0)else decide (l.getD i 0<l.getD j 0)) (l.length-1)
 rw[List.getD_eq_getElem?_getD,Zx (by omega)]
 exact Jz _
theorem b3J{l:List Int}(h:1≤l.length):u4_ false [dR l]=some (.int (a0j false l)):=by
 unfold dR;show(ints? (l.map D.int)).bind _=_;rw[a5i,Qj,Qe];cases l with
 |nil=>simp at h
 |cons _ _=>simp
theorem c2K{l:List Int}(h:1≤l.length):u4_ false [.lst (l.map D.int)]=some (.int (a0j false l)):=by
 show(ints? (l.map D.int)).bind _=_;rw[a5i,Qj,Qe];cases l with
 |nil=>simp at h
 |cons _ _=>simp
abbrev a9I:Mo Fl:=(q1_ (v1_ 6 (mF (a0Y 1 a2S (z6_ (z0_ 2) z8_)))) (q1_ (y9_ (mT (z5_ (dEq false) (z0_ 4) (mC (.int 0)))) (q1_ (v1_ 8 (mCB (u4_ false) (z1_ (mF (v9_ (y1_ (z0_ 6)) [false,false,false,false,false,false,false,false,false] 1 (gN 9) v6_ (mCB (u4_ false) (z1_ (z0_ 9) z3_)))) z3_))) (j3_ 6 (v9_ (y1_ (z0_ 6)) [false,false,false,false,false,false,false,false,true] 1 (gN 9) (mT (z5_ (dEq false) (mCB (u4_ false) (z1_ (z0_ 9) z3_)) (z0_ 8))) (z0_ 9)))) mNx) (q1_ (v1_ 7 (z5_ dIx (z0_ 6) (mCD 2 x6_ (y6_ 0 (z6_ (mCB q6_ (z1_ (z0_ 6) z3_)) z8_))))) (q1_ (v1_ 3 (z5_ v3_ (z0_ 3) (v5_ (z1_ (z0_ 7) z3_)))) (v1_ 2 (mCD 2 a3B (z6_ (z0_ 2) (z6_ (z0_ 7) z8_))))))))
abbrev c2L:Mo Fl:=(y9_ (mT (z5_ (dEq false) (z0_ 4) (mC (.int 0)))) (q1_ (v1_ 8 (mCB (u4_ false) (z1_ (mF (v9_ (y1_ (z0_ 6)) [false,false,false,false,false,false,false,false,false] 1 (gN 9) v6_ (mCB (u4_ false) (z1_ (z0_ 9) z3_)))) z3_))) (j3_ 6 (v9_ (y1_ (z0_ 6)) [false,false,false,false,false,false,false,false,true] 1 (gN 9) (mT (z5_ (dEq false) (mCB (u4_ false) (z1_ (z0_ 9) z3_)) (z0_ 8))) (z0_ 9)))) mNx)
def LW(w:W)(ds:List D):Prop:=w=.dat (.lst ds)∨w=.own ds
theorem c2M{a:Int}(h1:1≤rows.length)(h2:rows.length≤1000)(hr:∀r∈rows,1≤r.length):
  ∃(rows':List (List Int)) (w6 x8:W),c2L [.par [.int a,.bl b],w1,w2,w3,.dat (.int few),w5,.dat (.lst (rows.map dR)),w7,w8]=some (.nx,[.par [.int a,.bl b],w1,w2,w3,.dat (.int few),w5,w6,w7,x8])/\LW w6 (rows'.map dR)/\1≤rows'.length/\rows'.length≤1000/\∀r∈rows',r∈rows:=by
 by_cases hf:few=0
 ·subst hf
  let most:Int:=a0j false (rows.map (a0j false))
  have hm:most∈rows.map (a0j false):=c2J (by simpa using h1)
  obtain⟨r0,hr0,e0⟩:=Zn.mp hm;refine⟨rows.filter fun r=>(a0j false r==most),.own ((rows.filter fun r=>(a0j false r==most)).map dR),.dat (.int most),?_,.inr rfl,?_,?_,fun r hq=>(Ud.mp hq).1⟩
  ·refine a5j (e1:=[.par [.int a,.bl b],w1,w2,w3,.dat (.int 0),w5,.dat (.lst (rows.map dR)),w7,w8]) rfl ?_
   have c1:=a2k (mi:=y1_ (z0_ 6)) (keep:=[false,false,false,false,false,false,false,false,false]) (m:=mCB (u4_ false) (z1_ (z0_ 9) z3_)) (env:=[.par [.int a,.bl b],w1,w2,w3,.dat (.int 0),w5,.dat (.lst (rows.map dR)),w7,w8]) (base:=[.nil,.nil,.nil,.nil,.nil,.nil,.nil,.nil,.nil]) (l:=rows) (q:=dR) (f:=fun r=>.int (a0j false r)) (k:=9) rfl (by omega) rfl rfl
    (fun r hq=>x5_ (q4_ (e1:=[.nil,.nil,.nil,.nil,.nil,.nil,.nil,.nil,.nil,.dat (dR r)]) rfl rfl) (b3J (hr r hq))) (fun w=>rfl)
   have s1:(v1_ 8 (mCB (u4_ false) (z1_ (mF (v9_ (y1_ (z0_ 6)) [false,false,false,false,false,false,false,false,false] 1 (gN 9) v6_ (mCB (u4_ false) (z1_ (z0_ 9) z3_)))) z3_))) [.par [.int a,.bl b],w1,w2,w3,.dat (.int 0),w5,.dat (.lst (rows.map dR)),w7,w8]=some (.nx,[.par [.int a,.bl b],w1,w2,w3,.dat (.int 0),w5,.dat (.lst (rows.map dR)),w7,.dat (.int most)]):=by
    refine a1d (e1:=[.par [.int a,.bl b],w1,w2,w3,.dat (.int 0),w5,.dat (.lst (rows.map dR)),w7,w8]) (x5_ (q4_ (k3_ c1) rfl) ?_);have:=c2K (l:=rows.map (a0j false)) (by simpa using h1)
    rw[Zq]at this;exact this
   have c2:=b2L (mi:=y1_ (z0_ 6)) (keep:=[false,false,false,false,false,false,false,false,true]) (t:=mT (z5_ (dEq false) (mCB (u4_ false) (z1_ (z0_ 9) z3_)) (z0_ 8))) (m:=z0_ 9) (env:=[.par [.int a,.bl b],w1,w2,w3,.dat (.int 0),w5,.dat (.lst (rows.map dR)),w7,.dat (.int most)]) (base:=[.nil,.nil,.nil,.nil,.nil,.nil,.nil,.nil,.dat (.int most)]) (l:=rows) (q:=dR) (f:=dR) (p:=fun r=>(a0j false r==most)) (k:=9) rfl (by omega) rfl rfl
    (fun r hq=>⟨w4_ (v0_ (a:=.int (a0j false r)) (b:=.int most) (e1:=[.nil,.nil,.nil,.nil,.nil,.nil,.nil,.nil,.dat (.int most),.dat (dR r)]) (x5_ (q4_ (e1:=[.nil,.nil,.nil,.nil,.nil,.nil,.nil,.nil,.dat (.int most),.dat (dR r)]) rfl rfl) (b3J (hr r hq))) rfl rfl),fun _=>rfl⟩) (fun w=>rfl)
   refine x8_ s1 ?_
   unfold j3_;rw[c2];rfl
  ·have:r0∈rows.filter fun r=>(a0j false r==most):=Ud.mpr ⟨hr0,by simp[e0]⟩
   exact List.length_pos_of_mem this
  ·exact Zm (List.length_filter_le _ _) h2
 ·refine⟨rows,.dat (.lst (rows.map dR)),w8,?_,.inl rfl,h1,h2,fun r hq=>hq⟩
  refine a2N (e1:=[.par [.int a,.bl b],w1,w2,w3,.dat (.int few),w5,.dat (.lst (rows.map dR)),w7,w8]) ?_ rfl;refine w4_ (v0_ rfl rfl ?_);rw[a3V]
  simp[hf]
theorem c2N(h:LW w6 ds):z0_ 6 [w0,w1,w2,w3,w4,w5,w6,w7,w8]=some (.lst ds,[w0,w1,w2,w3,w4,w5,.dat (.lst ds),w7,w8]):=by
 rcases h with rfl|rfl<;>rfl
theorem c2O{h r:List Int}(hl:r.length=h.length)(h6:h.length≤6):∃ws',a3B [.dat (dR h),.dat (dR r)]=some (.d (dR (a0g h r)),ws'):=by
 have ez:(h.zip r).map (fun p=>D.int (p.1+p.2))=(a0g h r).map D.int:=by
  unfold a0g;rw[List.map_zipWith,List.zip_eq_zipWith,List.map_zipWith]
 have c:=a5h (mi:=a0c (z1_ (z0_ 0) (z1_ (z0_ 1) z3_))) (keep:=[false,false]) (m:=z5_ v3_ (z0_ 2) (z0_ 3)) (env:=[.dat (dR h),.dat (dR r)]) (base:=[.nil,.nil]) (l:=h.zip r) (q:=fun p=>D.int p.1) (q2:=fun p=>D.int p.2) (f:=fun p=>.int (p.1+p.2)) (k:=2) (by
   show some (g3_ (h.map D.int) (r.map D.int),_)=_;rw[c2I]) (by rw[List.length_zip];omega) rfl rfl (fun p _=>rfl) (fun w w2=>rfl)
 rw[ez]at c;refine⟨_,(w2_ (d:=dR (a0g h r)) (env:=[.dat (dR h),.dat (dR r)]) ?_).trans rfl⟩;show a9v [.dat (dR h),.dat (dR r)]=_;unfold a9v;exact u7_ (x5_ (q4_ (k3_ c) rfl) rfl)
structure TbI(b:Bool)(n i:Nat)(few:Int)(e:Env')(a:Int)(h:List Int)(rows:List (List Int))(w5 w6 w7 w8:W):Prop where
 eq:e=[.par [.int a,.bl b],.dat (.int n),.dat (dR h),.dat (dT rows),.dat (.int few),w5,w6,w7,w8]
 a0:0≤a
 hb:HB h n
 len:rows.length=i
 row:∀r∈rows,r.length=n/\tt 0 r=true
 sum:h.sum=i
 col:∀j,j<n->run 0 (rows.map fun r=>r.getD j 0)=some (h.getD j 0)
theorem c2P{a:Int}{h:List Int}(h1:1≤n)(h6:n≤6)(hi:i<n)(I:TbI b n i few e a h rows w5 w6 w7 w8):
  ∃e2 a' h' rows' x5 x6 x7 x8,a9I e=some (.nx,e2)/\TbI b n (i+1) few e2 a' h' rows' x5 x6 x7 x8:=by
 obtain⟨rfl,a0,hb,hlen,hrow,hsum,hcol⟩:=I;have hs:∃x∈h,x≠1:=by
  refine Js fun hn=>?_
  have hall:∀x∈h,x=1:=fun x hx=>Js fun z=>hn ⟨x,hx,z⟩
  have:h.sum=h.length:=by
   clear hcol hsum hn hb
   induction h with
   |nil=>rfl
   |cons y h ih=>
    have h1:=hall y (by simp)
    have:=ih fun x hx=>hall x (by simp[hx])
    simp only[Vn,Uq]
    omega
  have:=hb.len
  omega
 obtain⟨lines0,ws',el,l10,l20,lok0⟩:=c2E h1 h6 hb hs;have hnl:h.length=n:=hb.len;obtain⟨lines,w6',x8,ef,lw,l1,l2,lsub⟩:=c2M (b:=b) (a:=a) (few:=few) (w1:=.dat (.int n)) (w2:=.dat (dR h)) (w3:=.dat (dT rows)) (w5:=w5) (w7:=w7) (w8:=w8) l10 l20 (fun r hq=>by rw[(lok0 r hq).len,hnl];exact h1)
 have lok:∀r∈lines,LineOk h r:=fun r hq=>lok0 r (lsub r hq)
 obtain⟨v,a',et,v0,v1,a0'⟩:=a2q (a:=a) (m:=(lines.length:Int)) (b:=b) a0 (by omega) (by omega)
 have hv:v.toNat<lines.length:=by omega
 have hvv:((v.toNat:Nat):Int)=v:=by omega
 generalize hr:lines[v.toNat]=r;have rok:LineOk h r:=lok r (by rw[←hr];exact Jz hv)
 have rl:r.length=n:=by rw[rok.len,hb.len]
 obtain⟨wh,eh⟩:=c2O (h:=h) (r:=r) rok.len (by omega)
 refine⟨[.par [.int a',.bl b],.dat (.int n),.dat (dR (a0g h r)),.dat (dT (rows++[r])),.dat (.int few),w5,.dat (.lst (lines.map dR)),.dat (dR r),x8],a',a0g h r,rows++[r],w5,.dat (.lst (lines.map dR)),.dat (dR r),x8,?_,rfl,a0',⟨by rw[b3E rok.len];exact hnl,rok.bit⟩,by simp[hlen],?_,?_,?_⟩
 ·have s1:(v1_ 6 (mF (a0Y 1 a2S (z6_ (z0_ 2) z8_)))) [.par [.int a,.bl b],.dat (.int n),.dat (dR h),.dat (dT rows),.dat (.int few),w5,w6,w7,w8]=some (.nx,[.par [.int a,.bl b],.dat (.int n),.dat (dR h),.dat (dT rows),.dat (.int few),w5,.dat (.lst (lines0.map dR)),w7,w8]):=
   a1d (e1:=[.par [.int a,.bl b],.dat (.int n),.dat (dR h),.dat (dT rows),.dat (.int few),w5,w6,w7,w8]) (k3_ (a4V (a1e (av:=[.d (dR h)]) rfl rfl rfl el)))
  have tk:(mCD 2 x6_ (y6_ 0 (z6_ (mCB q6_ (z1_ (z0_ 6) z3_)) z8_))) [.par [.int a,.bl b],.dat (.int n),.dat (dR h),.dat (dT rows),.dat (.int few),w5,.dat (.lst (lines.map dR)),w7,x8]=some (.int v,[.par [.int a',.bl b],.dat (.int n),.dat (dR h),.dat (dT rows),.dat (.int few),w5,.dat (.lst (lines.map dR)),w7,x8]):=by
   refine a0Q ((a3W (e1:=[.par [.int a,.bl b],.dat (.int n),.dat (dR h),.dat (dT rows),.dat (.int few),w5,.dat (.lst (lines.map dR)),w7,x8]) (w:=.par [.int a,.bl b]) (av:=[.sl 0,.d (.int (lines.length:Int))]) (i:=0) (c:=[.int a,.bl b]) (c':=[.int a',.bl b]) ?_ rfl rfl rfl rfl et rfl).trans rfl);show some ([Ar.sl 0,Ar.d (.int ((lines.map dR).length:Nat))],_)=_;rw[Qv]
  have s2:(v1_ 7 (z5_ dIx (z0_ 6) (mCD 2 x6_ (y6_ 0 (z6_ (mCB q6_ (z1_ (z0_ 6) z3_)) z8_))))) [.par [.int a,.bl b],.dat (.int n),.dat (dR h),.dat (dT rows),.dat (.int few),w5,w6',w7,x8]=some (.nx,[.par [.int a',.bl b],.dat (.int n),.dat (dR h),.dat (dT rows),.dat (.int few),w5,.dat (.lst (lines.map dR)),.dat (dR r),x8]):=by
   refine a1d (e1:=[.par [.int a',.bl b],.dat (.int n),.dat (dR h),.dat (dT rows),.dat (.int few),w5,.dat (.lst (lines.map dR)),w7,x8]) (v0_ (c2N lw) tk ?_);rw[←hvv];exact a0A (xs:=lines.map dR) (by rw[Zj,Zx hv,hr];rfl)
  have s4:(v1_ 3 (z5_ v3_ (z0_ 3) (v5_ (z1_ (z0_ 7) z3_)))) [.par [.int a',.bl b],.dat (.int n),.dat (dR h),.dat (dT rows),.dat (.int few),w5,.dat (.lst (lines.map dR)),.dat (dR r),x8]=some (.nx,[.par [.int a',.bl b],.dat (.int n),.dat (dR h),.dat (dT (rows++[r])),.dat (.int few),w5,.dat (.lst (lines.map dR)),.dat (dR r),x8]):=by
   refine a1d (e1:=[.par [.int a',.bl b],.dat (.int n),.dat (dR h),.dat (dT rows),.dat (.int few),w5,.dat (.lst (lines.map dR)),.dat (dR r),x8]) (v0_ rfl rfl ?_);show(if(rows.map dR).length+[dR r].length≤10000 then _ else none)=_
   rw[Qn (by rw[Qv];simp;omega)]
   unfold dT;rw[Yq];rfl
  have s3:(v1_ 2 (mCD 2 a3B (z6_ (z0_ 2) (z6_ (z0_ 7) z8_)))) [.par [.int a',.bl b],.dat (.int n),.dat (dR h),.dat (dT (rows++[r])),.dat (.int few),w5,.dat (.lst (lines.map dR)),.dat (dR r),x8]=some (.nx,[.par [.int a',.bl b],.dat (.int n),.dat (dR (a0g h r)),.dat (dT (rows++[r])),.dat (.int few),w5,.dat (.lst (lines.map dR)),.dat (dR r),x8]):=
   a1d (e1:=[.par [.int a',.bl b],.dat (.int n),.dat (dR h),.dat (dT (rows++[r])),.dat (.int few),w5,.dat (.lst (lines.map dR)),.dat (dR r),x8]) (a0Q (a1e (av:=[.d (dR h),.d (dR r)]) rfl rfl rfl eh))
  unfold a9I;exact x8_ s1 (x8_ ef (x8_ s2 (x8_ s4 s3)))
 ·intro r' hr'
  rcases Ur.mp hr' with z|z
  ·exact hrow r' z
  ·have:r'=r:=by simpa using z
   subst this;exact⟨rl,rok.tt⟩
 ·have:=c2F r 0 rok.tt
  rw[b3F rok.len]
  omega
 ·intro j hj
  rw[Yq,Qr,List.map_nil,b3H rok.len (by omega)]
  refine c2H _ _ 0 _ (hcol j hj) ?_
  rw[←b3H rok.len (by omega)]
  have hjl:j<(a0g h r).length:=by rw[b3E rok.len];omega
  have:(a0g h r).getD j 0=(a0g h r)[j]:=by simp[hjl]
  rw[this];exact rok.bit _ (Jz hjl)
structure Tab(T:List (List Int)):Prop where
 lo:1≤T.length
 hi:T.length≤6
 len:∀r∈T,r.length=T.length
 ok:isT (dT T)=true
theorem a9J{a:Int}(ha:0≤a)(n1:1≤n)(n6:n≤6):∃T a',a1Q [.par [.int a,.bl b],.dat (.int n)]=some (.d (dT T),[.par [.int a',.bl b],.dat (.int n)])/\0≤a'/\Tab T/\T.length=n:=by
 obtain⟨v,a1,et,v0,v1,a10⟩:=a2q (a:=a) (m:=3) (b:=b) ha (by omega) (by omega)
 have s1:(v1_ 2 (z5_ j4_ (v5_ (z1_ (mC (.int 0)) z3_)) (z0_ 1))) [.par [.int a,.bl b],.dat (.int n),.nil,.nil,.nil,.nil,.nil,.nil,.nil]=some (.nx,[.par [.int a,.bl b],.dat (.int n),.dat (dR (List.replicate n 0)),.nil,.nil,.nil,.nil,.nil,.nil]):=by
  refine a1d (e1:=[.par [.int a,.bl b],.dat (.int n),.nil,.nil,.nil,.nil,.nil,.nil,.nil]) (v0_ rfl rfl ?_);show(if 1≤(n:Int)/\(n:Int)≤1000 then some (D.tup (List.replicate (n:Int).toNat (.int 0)))else none)=_
  rw[Qn (by omega),Yg]
  unfold dR;rw[List.map_replicate]
 have s2:(v1_ 3 (v5_ z3_)) [.par [.int a,.bl b],.dat (.int n),.dat (dR (List.replicate n 0)),.nil,.nil,.nil,.nil,.nil,.nil]=some (.nx,[.par [.int a,.bl b],.dat (.int n),.dat (dR (List.replicate n 0)),.dat (dT []),.nil,.nil,.nil,.nil,.nil]):=rfl
 have s3:(v1_ 4 (mCD 2 x6_ (y6_ 0 (z6_ (mC (.int 3)) z8_)))) [.par [.int a,.bl b],.dat (.int n),.dat (dR (List.replicate n 0)),.dat (dT []),.nil,.nil,.nil,.nil,.nil]=some (.nx,[.par [.int a1,.bl b],.dat (.int n),.dat (dR (List.replicate n 0)),.dat (dT []),.dat (.int v),.nil,.nil,.nil,.nil]):=
  a1d (e1:=[.par [.int a1,.bl b],.dat (.int n),.dat (dR (List.replicate n 0)),.dat (dT []),.nil,.nil,.nil,.nil,.nil]) (a0Q ((a3W (e1:=[.par [.int a,.bl b],.dat (.int n),.dat (dR (List.replicate n 0)),.dat (dT []),.nil,.nil,.nil,.nil,.nil]) (w:=.par [.int a,.bl b]) (av:=[.sl 0,.d (.int 3)]) (i:=0) (c:=[.int a,.bl b]) (c':=[.int a1,.bl b]) rfl rfl rfl rfl rfl et rfl).trans rfl))
 have start:TbI b n 0 v [.par [.int a1,.bl b],.dat (.int n),.dat (dR (List.replicate n 0)),.dat (dT []),.dat (.int v),.nil,.nil,.nil,.nil] a1 (List.replicate n 0) [] .nil .nil .nil .nil:=by
  refine⟨rfl,a10,⟨by simp,fun x hx=>.inl (List.eq_of_mem_replicate hx)⟩,rfl,fun r hr=>(by cases hr),by simp,fun j hj=>?_⟩
  simp[run,Jb,hj]
 obtain⟨e',h1,a',h',rows',x5,x6,x7,x8,I⟩:=a9H (g:=gN 5) (b:=a9I) (ds:=a0l 0 n) (P:=fun i e=>∃a h rows w5 w6 w7 w8,TbI b n i v e a h rows w5 w6 w7 w8) (env:=[.par [.int a1,.bl b],.dat (.int n),.dat (dR (List.replicate n 0)),.dat (dT []),.dat (.int v),.nil,.nil,.nil,.nil])
  (fun i d e hi ⟨a,h,rows,w5,w6,w7,w8,I⟩=>by
   have hil:i<n:=by
    have:=(Qb.mp hi).1;rw[a4r]at this
    simpa using this
   obtain⟨rfl,r1,r2,r3,r4,r5,r6⟩:=I;obtain⟨e2,a',h',rows',x5,x6,x7,x8,t1,t2⟩:=c2P (b:=b) (few:=v) (w5:=.dat d) (w6:=w6) (w7:=w7) (w8:=w8) n1 n6 hil ⟨rfl,r1,r2,r3,r4,r5,r6⟩;exact⟨_,e2,rfl,t1,a',h',rows',x5,x6,x7,x8,t2⟩) ⟨_,_,_,_,_,_,_,start⟩
 have hlen:(a0l 0 n).length=n:=by rw[a4r];simp
 rw[hlen]at I;obtain⟨rfl,r1,r2,r3,r4,r5,r6⟩:=I;have ones:=(b3G r2.bit).2 (by rw[r2.len];exact r5)
 have tab:Tab rows':=by
  refine⟨by omega,by omega,fun r hr=>by rw[r3];exact(r4 r hr).1,?_⟩
  unfold isT;rw[b3p (by omega) (by omega) (fun r hr=>by rw[r3];exact(r4 r hr).1),a6O,Yp,Tz,Qy,Qu,Qu]
  refine⟨fun r hr=>(r4 r hr).2,fun c hc=>?_⟩
  unfold flip at hc;obtain⟨j,hj,rfl⟩:=Zn.mp hc;have hj':j<n:=by rw[r3]at hj;exact Zt.mp hj
  rw[c2G,r6 j hj'];have hjl:j<h'.length:=by rw[r2.len];exact hj'
  have:h'.getD j 0=h'[j]:=by simp[hjl]
  rw[this,ones _ (Jz hjl)];rfl
 refine⟨rows',a',(w2_ (d:=dT rows') (env:=[.par [.int a',.bl b],.dat (.int n),.dat (dR h'),.dat (dT rows'),.dat (.int v),x5,x6,x7,x8]) ?_).trans rfl,r1,tab,r3⟩;show a9w [.par [.int a,.bl b],.dat (.int n),.nil,.nil,.nil,.nil,.nil,.nil,.nil]=_;unfold a9w;have rg:=a6p (ms:=z1_ (z0_ 1) z3_) (env:=[.par [.int a1,.bl b],.dat (.int n),.dat (dR (List.replicate n 0)),.dat (dT []),.dat (.int v),.nil,.nil,.nil,.nil]) (e1:=[.par [.int a1,.bl b],.dat (.int n),.dat (dR (List.replicate n 0)),.dat (dT []),.dat (.int v),.nil,.nil,.nil,.nil]) (j:=(n:Int)) rfl (by omega) (by omega)
 rw[Yg]at rg;rw[w1_ s1,w1_ s2,w1_ s3,w1_ ((a1G rg).trans h1)];rfl
theorem a2E{m:Mo D}{as:Mo (List Ar)}{q:List Ar}(h:m e=some (d,e1))(h2:as e1=some (q,e2)):z6_ m as e=some (.d d::q,e2):=by unfold z6_;rw[h,Qj,h2];rfl
def Pl(w:W):Prop:=w=.nil∨ ∃d,w=.dat d
def a0I(n:Nat)(d:D):Bool:=match d with
 |.tup xs=>(xs.length==n)&&(xs.all (fun x=>inB x (-1) 1)&&tt2 (unR d))
 |_=>false
theorem a9K{x:D}(h:inB x (-1) 1=true):isW x=true/\small (unI x)=true:=by
 cases x<;>first|cases h|skip
 exact⟨rfl,h⟩
theorem a5v(n:Nat)(d:D):a0I n d=(isR d n&&tt 0 (unR d)):=by
 cases d with
 |tup xs=>
  simp only[a0I,isR]
  by_cases hl:xs.length=n
  ·subst hl
   rw[c2u];simp only[beq_self_eq_true,Yp,←Bool.and_assoc]
   congr 1
   by_cases h:xs.all (fun x=>inB x (-1) 1)=true
   ·rw[h]
    have h1:=Qu.mp h
    have a1:xs.all isW=true:=Qu.mpr fun x hx=>(a9K (h1 x hx)).1
    have a2:(unR (.tup xs)).all small=true:=Qu.mpr fun y hy=>by
     obtain⟨x,hx,rfl⟩:=Zn.mp hy;exact(a9K (h1 x hx)).2
    rw[a1,a2];rfl
   ·have h':xs.all (fun x=>inB x (-1) 1)=false:=by simpa using h
    rw[h'];cases hw:(xs.all isW&&(unR (.tup xs)).all small)with
    |false=>rfl
    |true=>
     rw[Qy]at hw
     exfalso
     apply h
     refine Qu.mpr fun x hx=>?_
     have b1:=Qu.mp hw.1 x hx
     have b2:=Qu.mp hw.2 (unI x) (Zn.mpr ⟨x,hx,rfl⟩)
     cases x<;>first|exact b2|cases b1
  ·have h1:(xs.length==n)=false:=by simpa using hl
   have h2:((xs.length:Int)==(n:Int))=false:=by
    rw[Jg];omega
   rw[h1,h2];rfl
 |_=>rfl
abbrev a6Q:Mo D:=a1A (mCD 1 a4n (z6_ (z0_ 2) z8_)) (a0L dLe dLe (j8_ (mC (.int 1))) (z0_ 2) (mC (.int 1)))
theorem c2Q(x:D):a6Q [.nil,.nil,.dat x]=some (.bl (inB x (-1) 1),[.nil,.nil,.dat x]):=by
 cases x with
 |int i=>
  unfold a6Q a1A;have c:=b3w (e:=[.nil,.nil,.dat (.int i)]) (ma:=j8_ (mC (.int 1))) (mb:=z0_ 2) (mc:=mC (.int 1)) (a:=-1) (i:=i) (b:=1) rfl rfl rfl;exact c
 |_=>rfl
abbrev a5w:Mo Fl:=(q1_ (y9_ (k6_ (x3_ (mT (mIs "tuple" (z0_ 1)))) (mT (z5_ (dEq true) (mCB q6_ (z1_ (z0_ 1) z3_)) (mCB q6_ (z1_ (z0_ 0) z3_))))) (y0_ (mC (.bl false))) mNx) (y9_ (k6_ (x3_ (mT (mCB a1a (z1_ (mF (v9_ (y1_ (z0_ 1)) [false,false] 1 (gN 2) v6_ (a1A (mCD 1 a4n (z6_ (z0_ 2) z8_)) (a0L dLe dLe (j8_ (mC (.int 1))) (z0_ 2) (mC (.int 1)))))) z3_)))) (x3_ (mT (mCD 1 a2p (z6_ (z0_ 1) z8_))))) (y0_ (mC (.bl false))) mNx))
theorem c2R(hn:es.length≤6)(d:D):a5w [.dat (.tup es),.dat d]=some (stop (a0I es.length d) (.bl false),[.dat (.tup es),.dat d]):=by
 cases d with
 |tup xs=>
  by_cases hl:xs.length=es.length
  ·have t:(k6_ (x3_ (mT (mIs "tuple" (z0_ 1)))) (mT (z5_ (dEq true) (mCB q6_ (z1_ (z0_ 1) z3_)) (mCB q6_ (z1_ (z0_ 0) z3_))))) [.dat (.tup es),.dat (.tup xs)]=some (false,[.dat (.tup es),.dat (.tup xs)]):=by
    show some (!((xs.length:Int)==(es.length:Int)),_)=_;rw[hl];simp
   have al:(x3_ (mT (mCB a1a (z1_ (mF (v9_ (y1_ (z0_ 1)) [false,false] 1 (gN 2) v6_ a6Q)) z3_)))) [.dat (.tup es),.dat (.tup xs)]=some (!xs.all (fun x=>inB x (-1) 1),[.dat (.tup es),.dat (.tup xs)]):=by
    obtain⟨e',h1,w,rfl⟩:=a3E (g:=gN 2) (m:=a6Q) (P:=fun e=>∃w,e=[.nil,.nil,w]) (q:=id) (f:=fun x=>.bl (inB x (-1) 1)) (l:=xs) (env:=[.nil,.nil,.nil])
     (fun x _ e ⟨w,he⟩=>by
      subst he;exact⟨[.nil,.nil,.dat x],[.nil,.nil,.dat x],rfl,c2Q x,_,rfl⟩) ⟨.nil,rfl⟩
    rw[Vh]at h1;refine a0v (w4_ (x5_ (q4_ (k3_ (a2D (e2:=[.nil,.nil,w]) (a0P rfl rfl) (by omega) h1 rfl)) rfl) ?_))
    show(a0t (xs.map fun x=>D.bl (inB x (-1) 1))).map _=_
    rw[b8q];rfl
   unfold a5w;rw[w1_ (by rw[a0O t];rfl)]
   cases ha:xs.all (fun x=>inB x (-1) 1)with
   |false=>
    rw[ha]at al;rw[a1c (b2Q al)]
    simp[a0I,hl,ha,stop,y0_,mC]
   |true=>
    rw[ha]at al;have h2:xs=(xs.map unI).map .int:=b3m (Qu.mpr fun x hx=>(a9K (Qu.mp ha x hx)).1)
    have c:(x3_ (mT (mCD 1 a2p (z6_ (z0_ 1) z8_)))) [.dat (.tup es),.dat (.tup xs)]=some (!tt2 (unR (.tup xs)),[.dat (.tup es),.dat (.tup xs)]):=
     a0v (w4_ (a0Q (a1e (av:=[.d (.tup xs)]) rfl rfl rfl (b3x (.tup xs) (xs.map unI) (by show some xs=_;rw[←h2]) (by rw[Qv];omega)))))
    cases hb:tt2 (unR (.tup xs))with
    |true=>rw[hb]at c;rw[a0O (a3u al c)];simp[a0I,hl,ha,hb,stop,mNx]
    |false=>rw[hb]at c;rw[a1c (a3u al c)];simp[a0I,hl,ha,hb,stop,y0_,mC]
  ·have t:(k6_ (x3_ (mT (mIs "tuple" (z0_ 1)))) (mT (z5_ (dEq true) (mCB q6_ (z1_ (z0_ 1) z3_)) (mCB q6_ (z1_ (z0_ 0) z3_))))) [.dat (.tup es),.dat (.tup xs)]=some (true,[.dat (.tup es),.dat (.tup xs)]):=by
    show some (!((xs.length:Int)==(es.length:Int)),_)=_;have:((xs.length:Int)==(es.length:Int))=false:=by rw[Jg];omega
    rw[this];rfl
   unfold a5w;rw[a1p (d:=.bl false) (by rw[a1c t];rfl)]
   have:(xs.length==es.length)=false:=by simpa using hl
   simp[a0I,this,stop]
 |_=>rfl
theorem c2S(hok:es.all (a0I es.length)=true):(flip es.length (es.map unR)).all (tt 0)=(List.range es.length).all fun j=>tt2 ((es.map unR).map fun r=>r.getD j 0):=by
 unfold flip;rw[List.all_map];have e:∀j∈List.range es.length,((tt 0)∘fun j=>(es.map unR).map fun r=>r.getD j 0) j=tt2 ((es.map unR).map fun r=>r.getD j 0):=fun j hj=>by
  apply b3z
  intro x hx;obtain⟨r,hr,rfl⟩:=Zn.mp hx;obtain⟨d,hd,rfl⟩:=Zn.mp hr;have h1:=Qu.mp hok d hd;rw[a5v,Qy]at h1;have h2:=b3A _ 0 (.inl rfl) h1.2
  by_cases hj':j<(unR d).length
  ·have:(unR d).getD j 0=(unR d)[j]:=by simp[hj']
   rw[this];exact h2 _ (Jz hj')
  ·have:(unR d).getD j 0=0:=by simp[Nat.le_of_not_lt hj']
   rw[this];rfl
 rw[Bool.eq_iff_iff,Qu,Qu];exact⟨fun h j hj=>(e j hj) ▸ h j hj,fun h j hj=>(e j hj).symm ▸ h j hj⟩
theorem c2T(es:List D):isT (.tup es)=((decide (1≤(es.length:Int))&&decide ((es.length:Int)≤6))&&(es.all (a0I es.length)&&(List.range es.length).all fun j=>tt2 ((es.map unR).map fun r=>r.getD j 0))):=by
 unfold isT isS;simp only[Bool.and_assoc]
 congr 1
 congr 1
 have hu:unT (.tup es)=es.map unR:=rfl
 rw[hu,Tz,Qv];cases hk:es.all (a0I es.length)with
 |true=>
  have h1:es.all (fun r=>isR r es.length)=true:=Qu.mpr fun d hd=>by
   have:=Qu.mp hk d hd;rw[a5v,Qy]at this;exact this.1
  have h2:(es.map unR).all (tt 0)=true:=Qu.mpr fun r hr=>by
   obtain⟨d,hd,rfl⟩:=Zn.mp hr;have:=Qu.mp hk d hd;rw[a5v,Qy]at this;exact this.2
  rw[h1,h2,c2S hk];rfl
 |false=>
  rw[Ja];cases h1:es.all (fun r=>isR r es.length)with
  |false=>rfl
  |true=>
   have h2:(es.map unR).all (tt 0)=false:=by
    cases h3:(es.map unR).all (tt 0)with
    |false=>rfl
    |true=>
     have:es.all (a0I es.length)=true:=Qu.mpr fun d hd=>by
      rw[a5v,Qy];exact⟨Qu.mp h1 d hd,Qu.mp h3 (unR d) (Zn.mpr ⟨d,hd,rfl⟩)⟩
     rw[hk]at this;cases this
   rw[h2];rfl
theorem a9L(d:D):a0q [.dat d]=some (.d (.bl (isT d)),[.dat d]):=by
 cases d with
 |tup es=>
  have t:(k6_ (x3_ (mT (mIs "tuple" (z0_ 0)))) (x3_ (mT (a0L dLe dLe (mC (.int 1)) (mCB q6_ (z1_ (z0_ 0) z3_)) (mC (.int 6)))))) [.dat (.tup es),.nil]=some (!(decide (1≤(es.length:Int))&&decide ((es.length:Int)≤6)),[.dat (.tup es),.nil]):=by
   have c:=b3w (e:=[.dat (.tup es),.nil]) (ma:=mC (.int 1)) (mb:=mCB q6_ (z1_ (z0_ 0) z3_)) (mc:=mC (.int 6)) (a:=1) (i:=es.length) (b:=6) rfl rfl rfl
   exact a3u rfl (a0v (w4_ c))
  rw[c2T];cases hb:(decide (1≤(es.length:Int))&&decide ((es.length:Int)≤6))with
  |false=>
   rw[hb]at t;refine(w2_ (d:=.bl false) (env:=[.dat (.tup es),.nil]) ?_).trans rfl;show a3C [.dat (.tup es),.nil]=_;unfold a3C;rw[a1p (d:=.bl false) (by rw[a1c t];rfl)]
  |true=>
   rw[hb]at t;have hn:1≤es.length/\es.length≤6:=by
    rw[Qy,Zs,Zs]at hb
    omega
   obtain⟨e',h1,w1,hw,rfl⟩:=b1I (g:=gN 1) (b:=a5w) (P:=fun e=>∃w1,Pl w1/\e=[.dat (.tup es),w1]) (ok:=a0I es.length) (r:=.bl false) (ds:=es) (env:=[.dat (.tup es),.nil])
    (fun x _ e ⟨w1,_,he⟩=>by
     subst he;exact⟨_,_,rfl,c2R hn.2 x,_,.inr ⟨_,rfl⟩,rfl⟩) ⟨_,.inl rfl,rfl⟩
   have fr:(g1_ (y1_ (z0_ 0)) (gN 1) a5w) [.dat (.tup es),.nil]=some (stop (es.all (a0I es.length)) (.bl false),[.dat (.tup es),w1]):=(a1G (a0P rfl rfl)).trans h1
   cases hk:es.all (a0I es.length)with
   |false=>
    rw[hk]at fr;refine(w2_ (d:=.bl false) (env:=[.dat (.tup es),w1]) ?_).trans rfl;show a3C [.dat (.tup es),.nil]=_;unfold a3C;rw[w1_ (by rw[a0O t];rfl),a1p (d:=.bl false) fr]
   |true=>
    rw[hk]at fr;have hlen:∀d∈es,d=.tup ((unR d).map .int)/\(unR d).length=es.length:=fun d hd=>by
     have:=Qu.mp hk d hd;rw[a5v,Qy]at this;obtain⟨a1,a2⟩:=a4q this.1;exact⟨a1,by omega⟩
    have inner:∀j,j<es.length->(mCD 1 a2p (z6_ (mF (v9_ (y1_ (z0_ 0)) [false,false,true] 1 (gN 3) v6_ (z5_ dIx (z0_ 3) (z0_ 2)))) z8_)) [.dat (.tup es),w1,.dat (.int (j:Int))]=some (.bl (tt2 ((es.map unR).map fun r=>r.getD j 0)),[.dat (.tup es),w1,.dat (.int (j:Int))]):=fun j hj=>by
     have c:(v9_ (y1_ (z0_ 0)) [false,false,true] 1 (gN 3) v6_ (z5_ dIx (z0_ 3) (z0_ 2))) [.dat (.tup es),w1,.dat (.int (j:Int))]=some (((es.map unR).map fun r=>r.getD j 0).map .int,[.dat (.tup es),w1,.dat (.int (j:Int))]):=by
      rw[Zq,Zq];refine a2k (α:=D) (q:=id) (f:=fun d=>.int ((unR d).getD j 0)) (l:=es) (base:=[.nil,.nil,.dat (.int (j:Int))]) (by rw[Vh];exact a0P rfl rfl) (by omega) rfl rfl (fun d hd=>v0_ rfl rfl ?_) (fun w=>?_)
      ·obtain⟨a1,a2⟩:=hlen d hd
       show dIx d _=_;rw[a1,b3o (unR d)|>fun h=>(show unR (.tup ((unR d).map .int))=unR d from h)]
       exact a0A (by simp[Zx (show j<(unR d).length by omega)])
      ·rcases hw with rfl|⟨d,rfl⟩<;>rfl
     exact a6G (av:=[.d (.lst (((es.map unR).map fun r=>r.getD j 0).map .int))]) (a2E (k3_ c) rfl) rfl rfl (b3x _ _ rfl (by simp;omega))
    refine(w2_ (d:=.bl ((List.range es.length).all fun j=>tt2 ((es.map unR).map fun r=>r.getD j 0))) (env:=[.dat (.tup es),w1]) ?_).trans (by simp;rfl)
    show a3C [.dat (.tup es),.nil]=_;unfold a3C;rw[w1_ (by rw[a0O t];rfl),w1_ fr]
    refine u7_ (x5_ (q4_ (k3_ (a2k (α:=Nat) (q:=fun j=>D.int (j:Int)) (f:=fun j=>.bl (tt2 ((es.map unR).map fun(r:List Int)=>r.getD j 0))) (l:=List.range es.length) (base:=[.dat (.tup es),w1]) (a3t (n:=es.length) rfl rfl (by omega)) (by simp;omega) ?_ rfl (fun j hj=>inner j (Zt.mp hj)) (fun w=>?_))) rfl) ?_)
    ·rcases hw with rfl|⟨d,rfl⟩<;>rfl
    ·rcases hw with rfl|⟨d,rfl⟩<;>rfl
    ·show(a0t _).map _=_
     rw[a3p];rfl
 |_=>rfl
def S(g:Nat->Int):Nat->Int
 |0=>0
 |k+1=>S g k+g k
def HH(f:Nat->Nat->Int)(i j:Nat):Int:=S (fun c=>S (fun r=>f r c) i) j
def U(h:Nat->Nat->Int)(i j:Nat):Int:=(h (i+1) (j+1)-h i (j+1))-(h (i+1) j-h i j)
theorem b3K{g g':Nat->Int}:∀{n:Nat},(∀k<n,g k=g' k)->S g n=S g' n
 |0,_=>rfl
 |n+1,h=>by
  show S g n+g n=S g' n+g' n;rw[b3K (n:=n) fun k hk=>h k (by omega),h n (by omega)]
theorem a9M(g:Nat->Int):∀n,S (fun k=>g (k+1)-g k) n=g n-g 0
 |0=>by show(0:Int)=_;omega
 |n+1=>by
  show S (fun k=>g (k+1)-g k) n+(g (n+1)-g n)=_
  rw[a9M g n];omega
theorem b3L(g g':Nat->Int):∀n,S (fun k=>g k+g' k) n=S g n+S g' n
 |0=>rfl
 |n+1=>by
  show S (fun k=>g k+g' k) n+(g n+g' n)=S g n+g n+(S g' n+g' n)
  rw[b3L g g' n];omega
theorem a3F:∀n,S (fun _=>0) n=0
 |0=>rfl
 |n+1=>by show S (fun _=>0) n+0=0;rw[a3F n];rfl
theorem a5x(g:Nat->Int):∀n,S g (n+1)=g 0+S (fun k=>g (k+1)) n
 |0=>by show(0:Int)+g 0=g 0+0;omega
 |n+1=>by
  show S g (n+1)+g (n+1)=g 0+(S (fun k=>g (k+1)) n+g (n+1))
  rw[a5x g n];omega
theorem b3M(f:Nat->Nat->Int)(i j:Nat):HH f i (j+1)=HH f i j+S (fun r=>f r j) i:=rfl
theorem a3G(f:Nat->Nat->Int)(i j:Nat):HH f (i+1) j=HH f i j+S (f i) j:=b3L _ _ j
theorem c2U(f:Nat->Nat->Int)(i j:Nat):U (HH f) i j=f i j:=by
 unfold U;rw[a3G,a3G];have:S (f i) (j+1)=S (f i) j+f i j:=rfl
 omega
structure TabF(n:Nat)(f:Nat->Nat->Int):Prop where
 row:∀i<n,∀k≤n,S (f i) k=0∨S (f i) k=1
 rowN:∀i<n,S (f i) n=1
 col:∀j<n,∀k≤n,S (fun r=>f r j) k=0∨S (fun r=>f r j) k=1
 colN:∀j<n,S (fun r=>f r j) n=1
structure HtF(n:Nat)(h:Nat->Nat->Int):Prop where
 r0:∀i≤n,h i 0=0
 d0:∀j≤n,h 0 j=0
 rN:∀i≤n,h i n=i
 dN:∀j≤n,h n j=j
 dd:∀i<n,∀j≤n,h (i+1) j=h i j∨h (i+1) j=h i j+1
 rr:∀i≤n,∀j<n,h i (j+1)=h i j∨h i (j+1)=h i j+1
theorem TabF.ht{f:Nat->Nat->Int}(T:TabF n f):HtF n (HH f):=by
 refine⟨fun i _=>rfl,fun j _=>?_,fun i hi=>?_,fun j hj=>?_,fun i hi j hj=>?_,fun i hi j hj=>?_⟩
 ·exact a3F j
 ·induction i with
  |zero=>exact a3F n
  |succ i ih=>rw[a3G,ih (by omega),T.rowN i (by omega)];omega
 ·induction j with
  |zero=>rfl
  |succ j ih=>rw[b3M,ih (by omega),T.colN j (by omega)];omega
 ·rw[a3G];have:=T.row i hi j hj;omega
 ·rw[b3M];have:=T.col j hj i hi;omega
theorem a6R(h:Nat->Nat->Int)(i j:Nat):S (U h i) j=(h (i+1) j-h i j)-(h (i+1) 0-h i 0):=
 a9M (fun j=>h (i+1) j-h i j) j
theorem b3N(h:Nat->Nat->Int)(i j:Nat):S (fun r=>U h r j) i=(h i (j+1)-h i j)-(h 0 (j+1)-h 0 j):=by
 have:=a9M (fun i=>h i (j+1)-h i j) i
 rw[←this]
 apply b3K
 intro k _;unfold U;omega
theorem HtF.tab(H:HtF n h):TabF n (U h):=by
 refine⟨fun i hi k hk=>?_,fun i hi=>?_,fun j hj k hk=>?_,fun j hj=>?_⟩
 ·rw[a6R,H.r0 i (by omega),H.r0 (i+1) (by omega)]
  have:=H.dd i hi k hk;omega
 ·rw[a6R,H.r0 i (by omega),H.r0 (i+1) (by omega),H.rN i (by omega),H.rN (i+1) (by omega)];omega
 ·rw[b3N,H.d0 j (by omega),H.d0 (j+1) (by omega)]
  have:=H.rr k hk j hj;omega
 ·rw[b3N,H.d0 j (by omega),H.d0 (j+1) (by omega),H.dN j (by omega),H.dN (j+1) (by omega)];omega
theorem HtF.back(H:HtF n h)(hi:i≤n)(hj:j≤n):HH (U h) i j=h i j:=by
 induction i with
 |zero=>rw[H.d0 j hj];exact a3F j
 |succ i ih=>
  rw[a3G,ih (by omega),a6R,H.r0 i (by omega),H.r0 (i+1) (by omega)];omega
def mn(x y:Int):Int:=if x≤y then x else y
def mx(x y:Int):Int:=if x≤y then y else x
theorem HtF.min{k:Nat->Nat->Int}(H:HtF n h)(K:HtF n k):HtF n (fun i j=>mn (h i j) (k i j)):=by
 refine⟨fun i hi=>?_,fun i hi=>?_,fun i hi=>?_,fun i hi=>?_,fun i hi j hj=>?_,fun i hi j hj=>?_⟩
 ·show mn _ _=_;rw[H.r0 i hi,K.r0 i hi];rfl
 ·show mn _ _=_;rw[H.d0 i hi,K.d0 i hi];rfl
 ·show mn _ _=_;rw[H.rN i hi,K.rN i hi];simp[mn]
 ·show mn _ _=_;rw[H.dN i hi,K.dN i hi];simp[mn]
 ·have:=H.dd i hi j hj;have:=K.dd i hi j hj
  show mn _ _=mn _ _∨mn _ _=mn _ _+1;unfold mn;split<;>split<;>omega
 ·have:=H.rr i hi j hj;have:=K.rr i hi j hj
  show mn _ _=mn _ _∨mn _ _=mn _ _+1;unfold mn;split<;>split<;>omega
theorem HtF.max{k:Nat->Nat->Int}(H:HtF n h)(K:HtF n k):HtF n (fun i j=>mx (h i j) (k i j)):=by
 refine⟨fun i hi=>?_,fun i hi=>?_,fun i hi=>?_,fun i hi=>?_,fun i hi j hj=>?_,fun i hi j hj=>?_⟩
 ·show mx _ _=_;rw[H.r0 i hi,K.r0 i hi];rfl
 ·show mx _ _=_;rw[H.d0 i hi,K.d0 i hi];rfl
 ·show mx _ _=_;rw[H.rN i hi,K.rN i hi];simp[mx]
 ·show mx _ _=_;rw[H.dN i hi,K.dN i hi];simp[mx]
 ·have:=H.dd i hi j hj;have:=K.dd i hi j hj
  show mx _ _=mx _ _∨mx _ _=mx _ _+1;unfold mx;split<;>split<;>omega
 ·have:=H.rr i hi j hj;have:=K.rr i hi j hj
  show mx _ _=mx _ _∨mx _ _=mx _ _+1;unfold mx;split<;>split<;>omega
def tr(n:Nat)(h:Nat->Nat->Int)(i j:Nat):Int:=(i:Int)+j-n+h (n-i) (n-j)
theorem HtF.turned(H:HtF n h):HtF n (tr n h):=by
 refine⟨fun i hi=>?_,fun i hi=>?_,fun i hi=>?_,fun i hi=>?_,fun i hi j hj=>?_,fun i hi j hj=>?_⟩
 ·unfold tr;rw[Nat.sub_zero,H.rN (n-i) (by omega)];omega
 ·unfold tr;rw[Nat.sub_zero,H.dN (n-i) (by omega)];omega
 ·unfold tr;rw[Xa,H.r0 (n-i) (by omega)];omega
 ·unfold tr;rw[Xa,H.d0 (n-i) (by omega)];omega
 ·have:=H.dd (n-(i+1)) (by omega) (n-j) (by omega)
  rw[show n-(i+1)+1=n-i by omega]at this
  unfold tr;omega
 ·have:=H.rr (n-i) (by omega) (n-(j+1)) (by omega)
  rw[show n-(j+1)+1=n-j by omega]at this
  unfold tr;omega
theorem a9N:∀(n:Nat) (g:Nat->Int) (s:Int),tt s ((List.range n).map g)=true↔(∀k<n,s+S g (k+1)=0∨s+S g (k+1)=1)/\s+S g n=1
 |0,g,s=>by
  show(s==1)=true↔_;rw[Yt]
  constructor
  ·intro h;exact⟨fun k hk=>by omega,by show s+0=1;omega⟩
  ·rintro⟨_,h⟩;have:S g 0=0:=rfl;omega
 |n+1,g,s=>by
  rw[List.range_succ_eq_map,Qr,Zq];show((s+g 0==0||s+g 0==1)&&tt (s+g 0) ((List.range n).map fun k=>g (k+1)))=true↔_
  rw[Qy,Xo,Yt,Yt,a9N n (fun k=>g (k+1)) (s+g 0),a5x g n]
  constructor
  ·rintro⟨h1,h2,h3⟩
   refine⟨fun k hk=>?_,by omega⟩
   rw[a5x g k];cases k with
   |zero=>show s+(g 0+0)=0∨s+(g 0+0)=1;omega
   |succ k=>have:=h2 k (by omega);omega
  ·rintro⟨h1,h2⟩
   refine⟨?_,fun k hk=>?_,by omega⟩
   ·have:=h1 0 (by omega)
    rw[a5x g 0]at this;have e:S (fun k=>g (k+1)) 0=0:=rfl
    omega
   ·have:=h1 (k+1) (by omega)
    rw[a5x g (k+1)]at this;omega
def gm(n m:Nat)(f:Nat->Nat->Int):List (List Int):=(List.range n).map fun i=>(List.range m).map (f i)
theorem a1u{f:Nat->Nat->Int}:(gm n m f).length=n:=by simp[gm]
theorem a6S{f:Nat->Nat->Int}:∀r∈gm n m f,r.length=m:=by
 intro r hr;obtain⟨i,_,rfl⟩:=Zn.mp hr
 simp
theorem b3O{f g:Nat->Nat->Int}(h:∀i<n,∀j<m,f i j=g i j):gm n m f=gm n m g:=by
 unfold gm
 apply Zb
 intro i hi
 apply Zb
 intro j hj;exact h i (Zt.mp hi) j (Zt.mp hj)
def at2(R:List (List Int))(i j:Nat):Int:=(R.getD i []).getD j 0
theorem b3P(h1:R.length=n)(h2:∀r∈R,r.length=n):R=gm n n (at2 R):=by
 subst h1;unfold gm
 apply Vr
 ·simp
 ·intro i hi hi'
  have hr:=h2 R[i] (Jz hi)
  rw[Vs,Vk]
  apply Vr
  ·simp[hr]
  ·intro j hj hj'
   rw[Vs,Vk]
   simp[at2,hi,hj]
theorem b3Q(n m:Nat)(f:Nat->Nat->Int):flip m (gm n m f)=gm m n (fun i j=>f j i):=by
 unfold flip gm
 apply Zb
 intro j hj;have hj:=Zt.mp hj;rw[Zq]
 apply Zb
 intro i hi
 simp[hj]
theorem a4t{f:Nat->Nat->Int}:isT (dT (gm n n f))=true↔(1≤n/\n≤6)/\TabF n f:=by
 unfold isT;rw[a6O,a1u,b3Q,Qy,Tz,Qy,Qu,Qu];have row:∀g:Nat->Nat->Int,(∀x∈gm n n g,tt 0 x=true)↔ ∀i<n,(∀k≤n,S (g i) k=0∨S (g i) k=1)/\S (g i) n=1:=by
  intro g
  constructor
  ·intro h i hi
   have h1:=(a9N n (g i) 0).mp (h _ (Zn.mpr ⟨i,Zt.mpr hi,rfl⟩))
   refine⟨fun k hk=>?_,by have:=h1.2;omega⟩
   cases k with
   |zero=>exact .inl rfl
   |succ k=>have:=h1.1 k (by omega);omega
  ·intro h x hx
   obtain⟨i,hi,rfl⟩:=Zn.mp hx;have h1:=h i (Zt.mp hi);refine(a9N n (g i) 0).mpr ⟨fun k hk=>?_,by have:=h1.2;omega⟩
   have:=h1.1 (k+1) (by omega);omega
 rw[row,row]
 constructor
 ·rintro⟨h1,h2,h3⟩
  have:=b3n h1;rw[a6O,a1u]at this;exact⟨⟨by omega,by omega⟩,⟨fun i hi=>(h2 i hi).1,fun i hi=>(h2 i hi).2,fun i hi=>(h3 i hi).1,fun i hi=>(h3 i hi).2⟩⟩
 ·rintro⟨⟨h1,h2⟩,T⟩
  refine⟨b3p (by rw[a1u];omega) (by rw[a1u];omega) (by rw[a1u];exact a6S),fun i hi=>⟨T.row i hi,T.rowN i hi⟩,fun i hi=>⟨T.col i hi,T.colN i hi⟩⟩
theorem b0E(xs:List α)(x:α):atI (xs++[x]) (-1)=some x:=by
 unfold atI ixN;rw[Qe (by omega),Qn (by rw[Qa];simp;omega)]
 have:((-1:Int)+((xs++[x]).length:Nat)).toNat=xs.length:=by rw[Qa];simp;omega
 rw[this]
 simp
abbrev rw'(n:Nat)(g:Nat->Int):List Int:=(List.range n).map g
theorem c2V{g:Nat->Int}(h:j<n):dIx (dR (rw' n g)) (.int (j:Int))=some (.int (g j)):=by
 show atI ((rw' n g).map D.int) (j:Int)=_;exact a0A (by simp[h])
theorem c2W(n:Nat)(g:Nat->Int)(hn:n≤1000):a4i [.dat (dR (rw' n g))]=some (.d (dR (rw' (n+1) (S g))),[.dat (dR (rw' n g))]):=by
 generalize hL:dR (rw' n g)=L;have hLi:L.items=some ((rw' n g).map D.int):=by rw[←hL];rfl
 obtain⟨e',h1,w,rfl⟩:=a9H (g:=gN 2) (b:=a0C 1 (z5_ v3_ (u5_ 1 (j8_ (mC (.int 1)))) (z0_ 2))) (ds:=(rw' n g).map D.int) (P:=fun i e=>∃w,e=[.dat L,.own ((rw' (i+1) (S g)).map D.int),w]) (env:=[.dat L,.own [.int 0],.nil])
  (fun i d e hi ⟨w,he⟩=>by
   subst he;have hil:i<n:=by
    have:=(Qb.mp hi).1
    simpa using this
   have hd:d=.int (g i):=by
    simp[hil]at hi
    exact hi.symm
   subst hd;have ea:(rw' (i+1) (S g)).map D.int=(rw' i (S g)).map D.int++[D.int (S g i)]:=by
    unfold rw';rw[Uw,Yq,Yq];rfl
   have eb:(rw' (i+1+1) (S g)).map D.int=(rw' (i+1) (S g)).map D.int++[D.int (S g i+g i)]:=by
    unfold rw';rw[Uw (n:=i+1),Yq,Yq];rfl
   have ix:(u5_ 1 (j8_ (mC (.int 1)))) [.dat L,.own ((rw' (i+1) (S g)).map D.int),.dat (.int (g i))]=some (.int (S g i),[.dat L,.own ((rw' (i+1) (S g)).map D.int),.dat (.int (g i))]):=by
    show(atI ((rw' (i+1) (S g)).map D.int) (-1)).map _=_;rw[ea,b0E];rfl
   refine⟨[.dat L,.own ((rw' (i+1) (S g)).map D.int),.dat (.int (g i))],[.dat L,.own ((rw' (i+1+1) (S g)).map D.int),.dat (.int (g i))],rfl,?_,_,rfl⟩;unfold a0C;show((z5_ v3_ (u5_ 1 (j8_ (mC (.int 1)))) (z0_ 2)) [.dat L,.own ((rw' (i+1) (S g)).map D.int),.dat (.int (g i))]).bind _=_;rw[v0_ ix (b:=.int (g i)) (e2:=[.dat L,.own ((rw' (i+1) (S g)).map D.int),.dat (.int (g i))]) rfl (c:=.int (S g i+g i)) rfl];show(if((rw' (i+1) (S g)).map D.int).length<100000 then some (Fl.nx,[W.dat L,.own ((rw' (i+1) (S g)).map D.int++[D.int (S g i+g i)]),.dat (.int (g i))])else none)=_
   rw[Qn (by simp;omega),eb]) ⟨.nil,rfl⟩
 have hlen:((rw' n g).map D.int).length=n:=by simp
 rw[hlen]at h1;refine(w2_ (d:=dR (rw' (n+1) (S g))) (env:=[.dat L,.dat (.lst ((rw' (n+1) (S g)).map D.int)),w]) ?_).trans rfl;show a9h [.dat L,.nil,.nil]=_;unfold a9h;rw[w1_ (e1:=[.dat L,.own [.int 0],.nil]) rfl,w1_ ((a1G (a0P rfl hLi)).trans h1)]
 rfl
theorem c2X(n:Nat)(g:Nat->Int)(hn:n≤1000):a4j [.dat (dR (rw' (n+1) g))]=some (.d (dR (rw' n fun k=>g (k+1)-g k)),[.dat (dR (rw' (n+1) g))]):=by
 have ix:∀j,j<n+1->dIx (dR (rw' (n+1) g)) (.int (j:Int))=some (.int (g j)):=fun j hj=>c2V hj
 have hlen:q6_ [dR (rw' (n+1) g)]=some (.int ((n+1:Nat):Int)):=by
  show some (D.int (((rw' (n+1) g).map D.int).length:Nat))=_
  simp
 generalize dR (rw' (n+1) g)=L at *;obtain⟨e',h1,w,rfl⟩:=a3E (g:=gN 1) (m:=z5_ u2_ (z5_ dIx (z0_ 0) (z0_ 1)) (z5_ dIx (z0_ 0) (z5_ u2_ (z0_ 1) (mC (.int 1))))) (P:=fun e=>∃w,e=[.dat L,w]) (q:=fun(k:Nat)=>D.int (1+k)) (f:=fun k=>.int (g (k+1)-g k)) (l:=List.range n) (env:=[.dat L,.nil])
  (fun k hk e ⟨w,he⟩=>by
   subst he;have hk:=Zt.mp hk;refine⟨[.dat L,.dat (.int (1+k))],[.dat L,.dat (.int (1+k))],rfl,v0_ (a:=.int (g (k+1))) (b:=.int (g k)) (e1:=[.dat L,.dat (.int (1+k))]) (v0_ (a:=L) (b:=.int (1+k)) (e1:=[.dat L,.dat (.int (1+k))]) rfl rfl ?_) (v0_ (a:=L) (b:=.int (1+k-1)) (e1:=[.dat L,.dat (.int (1+k))]) rfl (v0_ (a:=.int (1+k)) (b:=.int 1) (e1:=[.dat L,.dat (.int (1+k))]) rfl rfl rfl) ?_) rfl,_,rfl⟩
   ·have:=ix (k+1) (by omega)
    rw[show(((k+1:Nat):Int))=1+k by omega]at this
    exact this
   ·have:=ix k (by omega)
    rw[show((k:Nat):Int)=1+k-1 by omega]at this
    exact this) ⟨.nil,rfl⟩
 have hr:(a4M (z1_ (mC (.int 1)) (z1_ (mCB q6_ (z1_ (z0_ 0) z3_)) z3_))) [.dat L]=some ((List.range n).map fun(k:Nat)=>D.int (1+k),[.dat L]):=by
  have:=b8r (ms:=z1_ (mC (.int 1)) (z1_ (mCB q6_ (z1_ (z0_ 0) z3_)) z3_)) (env:=[.dat L]) (e1:=[.dat L]) (i:=1) (j:=((n+1:Nat):Int)) (q4_ rfl (q4_ (x5_ (q4_ rfl rfl) hlen) rfl)) (by decide) (by decide) (by omega) (by omega)
  rw[show(((n+1:Nat):Int)-1).toNat=n by omega]at this
  exact this
 refine(w2_ (d:=dR (rw' n fun k=>g (k+1)-g k)) (env:=[.dat L]) ?_).trans rfl
 show a9i [.dat L]=_;unfold a9i;refine u7_ (x5_ (q4_ (k3_ (a2D (e2:=[.dat L,w]) hr (by simp;omega) h1 rfl)) rfl) ?_)
 show some (D.tup _)=_;unfold dR rw';rw[Zq];rfl
theorem b3R{f:Fn}{m':Nat}{k:Nat->Nat->Int}(hf:∀i,i<n->f [.dat (dR (rw' m (h i)))]=some (.d (dR (rw' m' (k i))),[.dat (dR (rw' m (h i)))]))(hn:n≤1000):fnM 1 (y0_ (mCB j1_ (z1_ (mF (v9_ (y1_ (z0_ 0)) [false] 1 (gN 1) v6_ (mCD 1 f (z6_ (z0_ 1) z8_)))) z3_))) [.dat (dT (gm n m h))]=some (.d (dT (gm n m' k)),[.dat (dT (gm n m h))]):=by
 obtain⟨e',h1,w,rfl⟩:=a3E (g:=gN 1) (m:=mCD 1 f (z6_ (z0_ 1) z8_)) (P:=fun e=>∃w,e=[.nil,w]) (q:=fun(i:Nat)=>dR (rw' m (h i))) (f:=fun i=>dR (rw' m' (k i))) (l:=List.range n) (env:=[.nil,.nil])
  (fun i hi e ⟨w,he⟩=>by
   subst he;refine⟨[.nil,.dat (dR (rw' m (h i)))],[.nil,.dat (dR (rw' m (h i)))],rfl,a0Q (a1e (av:=[.d (dR (rw' m (h i)))]) rfl rfl rfl (hf i (Zt.mp hi))),_,rfl⟩) ⟨.nil,rfl⟩
 have it:(y1_ (z0_ 0)) [.dat (dT (gm n m h))]=some ((List.range n).map fun(i:Nat)=>dR (rw' m (h i)),[.dat (dT (gm n m h))]):=by
  refine a0P rfl ?_
  show some ((gm n m h).map dR)=_;unfold gm;rw[Zq];rfl
 refine(w2_ (d:=dT (gm n m' k)) (env:=[.dat (dT (gm n m h))]) ?_).trans rfl;refine u7_ (x5_ (q4_ (k3_ (a2D (e2:=[.nil,w]) it (by simp;omega) h1 rfl)) rfl) ?_)
 show some (D.tup _)=_;unfold dT gm;rw[Zq];rfl
theorem b3S(f:Nat->Nat->Int)(hn:n≤1000)(hm:m≤1000):a2P [.dat (dT (gm n m f))]=some (.d (dT (gm n (m+1) fun i=>S (f i))),[.dat (dT (gm n m f))]):=by
 unfold a2P b2T;exact b3R (f:=a4i) (h:=f) (k:=fun i=>S (f i)) (fun i _=>c2W m (f i) hm) hn
theorem b3T(f:Nat->Nat->Int)(hn:n≤1000)(hm:m≤1000):a2Q [.dat (dT (gm n (m+1) f))]=some (.d (dT (gm n m fun i j=>f i (j+1)-f i j)),[.dat (dT (gm n (m+1) f))]):=by
 unfold a2Q b2U;exact b3R (f:=a4j) (h:=f) (k:=fun i j=>f i (j+1)-f i j) (fun i _=>c2X m (f i) hm) hn
theorem a6T(f:Nat->Nat->Int)(h1:1≤n)(hn:n≤1000)(hm:m≤1000):a0o [.dat (dT (gm n m f))]=some (.d (dT (gm m n fun i j=>f j i)),[.dat (dT (gm n m f))]):=by
 have q:=b3q (R:=gm n m f) (n:=m) (by intro z;have:=a1u (n:=n) (m:=m) (f:=f);rw[z]at this;simp at this;omega) a6S hm (by rw[a1u];exact hn)
 rw[b3Q]at q;exact q
theorem c1{f:Fn}{m:Mo D}{env:Env'}{r:D}(h:m env=some (d,env))(hf:f [.dat d]=some (.d r,ws)):mCD 1 f (z6_ m z8_) env=some (r,env):=
 a0Q (a1e (av:=[.d d]) (a2E h rfl) rfl rfl hf)
theorem c2Y(f:Nat->Nat->Int)(h1:1≤n)(h2:1≤m)(hn:n≤900)(hm:m≤900):a5n [.dat (dT (gm n m f))]=some (.d (dT (gm (n+1) m fun i j=>S (fun k=>f k j) i)),[.dat (dT (gm n m f))]):=by
 have q1:=a6T f h1 (by omega:n≤1000) (by omega:m≤1000)
 have q2:=b3S (fun i j=>f j i) (by omega:m≤1000) (by omega:n≤1000)
 have q3:=a6T (fun i=>S ((fun i j=>f j i) i)) h2 (by omega:m≤1000) (by omega:n+1≤1000)
 refine(w2_ (d:=dT (gm (n+1) m fun i j=>S (fun k=>f k j) i)) (env:=[.dat (dT (gm n m f))]) ?_).trans rfl
 show a9j [.dat (dT (gm n m f))]=_;unfold a9j;have p1:=c1 (m:=z0_ 0) (env:=[.dat (dT (gm n m f))]) rfl q1;exact u7_ (c1 (c1 p1 q2) q3)
theorem c2Z(f:Nat->Nat->Int)(h2:1≤m)(hn:n≤900)(hm:m≤900):a5o [.dat (dT (gm (n+1) m f))]=some (.d (dT (gm n m fun i j=>f (i+1) j-f i j)),[.dat (dT (gm (n+1) m f))]):=by
 have q1:=a6T f (by omega:1≤n+1) (by omega:n+1≤1000) (by omega:m≤1000)
 have q2:=b3T (fun i j=>f j i) (by omega:m≤1000) (by omega:n≤1000)
 have q3:=a6T (fun i j=>(fun i j=>f j i) i (j+1)-(fun i j=>f j i) i j) h2 (by omega:m≤1000) (by omega:n≤1000)
 refine(w2_ (d:=dT (gm n m fun i j=>f (i+1) j-f i j)) (env:=[.dat (dT (gm (n+1) m f))]) ?_).trans rfl
 show a9k [.dat (dT (gm (n+1) m f))]=_;unfold a9k;have p1:=c1 (m:=z0_ 0) (env:=[.dat (dT (gm (n+1) m f))]) rfl q1;exact u7_ (c1 (c1 p1 q2) q3)
theorem b3U(f:Nat->Nat->Int)(h1:1≤n)(hn:n≤900):a3x [.dat (dT (gm n n f))]=some (.d (dT (gm (n+1) (n+1) (HH f))),[.dat (dT (gm n n f))]):=by
 have q1:=c2Y f h1 h1 hn hn
 have q2:=b3S (fun i j=>S (fun k=>f k j) i) (by omega:n+1≤1000) (by omega:n≤1000)
 refine(w2_ (d:=dT (gm (n+1) (n+1) (HH f))) (env:=[.dat (dT (gm n n f))]) ?_).trans rfl;show a9o [.dat (dT (gm n n f))]=_;unfold a9o;have p1:=c1 (m:=z0_ 0) (env:=[.dat (dT (gm n n f))]) rfl q1;exact u7_ (c1 p1 q2)
theorem b3V(h:Nat->Nat->Int)(hn:n≤800):a2o [.dat (dT (gm (n+1) (n+1) h))]=some (.d (dT (gm n n (U h))),[.dat (dT (gm (n+1) (n+1) h))]):=by
 have q1:=c2Z h (by omega:1≤n+1) (by omega:n≤900) (by omega:n+1≤900)
 have q2:=b3T (fun i j=>h (i+1) j-h i j) (by omega:n≤1000) (by omega:n≤1000)
 refine(w2_ (d:=dT (gm n n (U h))) (env:=[.dat (dT (gm (n+1) (n+1) h))]) ?_).trans rfl;show a9p [.dat (dT (gm (n+1) (n+1) h))]=_;unfold a9p;have p1:=c1 (m:=z0_ 0) (env:=[.dat (dT (gm (n+1) (n+1) h))]) rfl q1;exact u7_ (c1 p1 q2)
theorem a5y{f:Nat->Nat->Int}(h1:1≤n)(h6:n≤6)(T:TabF n f):a2n [.dat (dT (gm n n f))]=some (.d .non,[.dat (dT (gm n n f))]):=by
 refine(b8s (env:=[.dat (dT (gm n n f))]) ?_).trans rfl;show a9m [.dat (dT (gm n n f))]=_;unfold a9m;rw[a0O (e1:=[.dat (dT (gm n n f))]) ?_]
 ·rfl
 ·have:=a9F (dT (gm n n f))
  rw[a4t.mpr ⟨⟨h1,h6⟩,T⟩]at this;exact a0v (b:=true) (w4_ (c1 rfl this))
theorem a2r{f:Nat->Nat->Int}:q6_ [dT (gm n m f)]=some (.int (n:Int)):=by
 show some (D.int (((gm n m f).map dR).length:Nat))=_
 simp[gm]
theorem a9O{f g:Nat->Nat->Int}(h1:1≤n)(h6:n≤6)(F:TabF n f)(G:TabF n g):a0z [.dat (dT (gm n n f)),.dat (dT (gm n n g))]=some (.d (.tup [dT (gm (n+1) (n+1) (HH f)),dT (gm (n+1) (n+1) (HH g))]),[.dat (dT (gm n n f)),.dat (dT (gm n n g))]):=by
 refine(w2_ (d:=.tup [dT (gm (n+1) (n+1) (HH f)),dT (gm (n+1) (n+1) (HH g))]) (env:=[.dat (dT (gm n n f)),.dat (dT (gm n n g))]) ?_).trans rfl;show a9q [.dat (dT (gm n n f)),.dat (dT (gm n n g))]=_;unfold a9q;refine x8_ (a4X (c1 rfl (a5y h1 h6 F))) (x8_ (a4X (c1 rfl (a5y h1 h6 G))) (x8_ (a2N (w4_ (v0_ (x5_ (q4_ rfl rfl) a2r) (x5_ (q4_ rfl rfl) a2r) ?_)) rfl) (u7_ (c0p (q4_ (c1 rfl (b3U f h1 (by omega))) (q4_ (c1 rfl (b3U g h1 (by omega))) rfl)) (by simp)))))
 rw[a3V];simp
def prs(N:Nat)(a b:Nat->Nat->Int):List D:=(List.range N).map fun i=>D.lst ((List.range N).map fun j=>.tup [.int (a i j),.int (b i j)])
theorem a6U{f:Nat->Nat->Int}:(dT (gm n m f)).items=some ((List.range n).map fun i=>dR (rw' m (f i))):=by
 show some ((gm n m f).map dR)=_;unfold gm;rw[Zq];rfl
theorem a6V{f:Nat->Int}:(dR (rw' m f)).items=some ((List.range m).map fun j=>D.int (f j)):=by
 show some ((rw' m f).map D.int)=_;unfold rw';rw[Zq];rfl
theorem a9P{N:Nat}(hN:N≤1000)(a b:Nat->Nat->Int):a1j [.dat (dT (gm N N a)),.dat (dT (gm N N b))]=some (.l (prs N a b),[.dat (dT (gm N N a)),.dat (dT (gm N N b))]):=by
 refine(a7W (d:=prs N a b) (env:=[.dat (dT (gm N N a)),.dat (dT (gm N N b))]) ?_).trans rfl;show a9r [.dat (dT (gm N N a)),.dat (dT (gm N N b))]=_;unfold a9r;exact b1J (a5h (α:=Nat) (l:=List.range N) (q:=fun i=>dR (rw' N (a i))) (q2:=fun i=>dR (rw' N (b i))) (f:=fun i=>D.lst ((List.range N).map fun j=>.tup [.int (a i j),.int (b i j)])) (base:=[.nil,.nil]) (a5k rfl a6U a6U) (by simp;omega) rfl rfl (fun i _=>k3_ (a5k rfl a6V a6V)) (fun _ _=>rfl))
def bel(N:Nat)(a b:Nat->Nat->Int):Bool:=(List.range N).all fun i=>(List.range N).all fun j=>decide (b i j≤a i j)
theorem b3W{α β:Type}(z:α->List β)(c:Nat):∀l:List α,(∀x∈l,(z x).length≤c)->(l.flatMap z).length≤l.length * c
 |[],_=>by simp
 |x::l,h=>by
  rw[Vb,Qa,Uq,Nat.succ_mul];have a:=h x (Zd ..);have b:=b3W z c l fun y hy=>h y (Qs _ hy)
  omega
theorem c3a{N:Nat}{f:Nat->Nat->D}(hN:N≤7):((List.range N).flatMap fun i=>(List.range N).map (f i)).length≤100000:=by
 have:=b3W (fun i=>(List.range N).map (f i)) 7 (List.range N) (fun i _=>by simp;omega)
 rw[List.length_range]at this
 omega
theorem b3X{f g:Nat->Nat->Int}(h1:1≤n)(h6:n≤6)(F:TabF n f)(G:TabF n g):a0R [.dat (dT (gm n n f)),.dat (dT (gm n n g))]=some (.d (.bl (bel (n+1) (HH f) (HH g))),[.dat (dT (gm n n f)),.dat (dT (gm n n g))]):=by
 have q1:=a9O h1 h6 F G
 have q2:=a9P (N:=n+1) (by omega) (HH f) (HH g)
 generalize dT (gm n n f)=A at *;generalize dT (gm n n g)=C at *;generalize dT (gm (n+1) (n+1) (HH f))=P at *;generalize dT (gm (n+1) (n+1) (HH g))=Q at *;refine(w2_ (d:=.bl (bel (n+1) (HH f) (HH g))) (env:=[.dat A,.dat C,.dat P,.dat Q]) ?_).trans rfl;show a9s [.dat A,.dat C,.nil,.nil]=_;unfold a9s;refine x8_ (a8x (e1:=[.dat A,.dat C,.nil,.nil]) (e2:=[.dat A,.dat C,.dat P,.dat Q]) (a6G (av:=[.d A,.d C]) rfl rfl rfl q1) rfl) (u7_ (x5_ (q4_ (k3_ (c0n (α:=Nat) (β:=Nat) (l:=List.range (n+1)) (l2:=fun _=>List.range (n+1)) (q:=fun i=>D.lst ((List.range (n+1)).map fun j=>.tup [.int (HH f i j),.int (HH g i j)])) (q2:=fun i j=>.int (HH f i j)) (q3:=fun i j=>.int (HH g i j)) (f:=fun i j=>.bl (decide (HH g i j≤HH f i j))) (base:=[.nil,.nil,.nil,.nil]) (a0P (k3_ (a4V (a1e (av:=[.d P,.d Q]) rfl rfl rfl q2))) rfl) rfl rfl (fun i _ w w'=>rfl) (fun i _ j _=>rfl) (c3a (by omega)) (fun _ _ _=>rfl))) rfl) (c0r _ _ _)))
theorem c3b(x y:Int):u4_ true [.tup [.int x,.int y]]=some (.int (mx x y)):=by
 show some (D.int (([x,y]:List Int).getD (if decide (y>x)then 1 else 0) 0))=_
 unfold mx
 by_cases h:x≤y
 ·by_cases h2:y≤x
  ·have:x=y:=by omega
   subst this;simp
  ·have:x<y:=by omega
   simp[h,this]
 ·have:¬ x<y:=by omega
  simp[h,this]
theorem c3c(x y:Int):u4_ false [.tup [.int x,.int y]]=some (.int (mn x y)):=by
 show some (D.int (([x,y]:List Int).getD (if decide (y<x)then 1 else 0) 0))=_
 unfold mn
 by_cases h:x≤y
 ·have:¬ y<x:=by omega
  simp[h,this]
 ·have:y<x:=by omega
  simp[h,this]
abbrev LO(f g:Nat->Nat->Int):Nat->Nat->Int:=U fun i j=>mx (HH f i j) (HH g i j)
abbrev HI(f g:Nat->Nat->Int):Nat->Nat->Int:=U fun i j=>mn (HH f i j) (HH g i j)
theorem c2{f:Fn}{m n:Mo D}{env:Env'}{a b r:D}(h:m env=some (a,env))(h':n env=some (b,env))(hf:f [.dat a,.dat b]=some (.d r,ws)):mCD 2 f (z6_ m (z6_ n z8_)) env=some (r,env):=
 a0Q (a1e (av:=[.d a,.d b]) (a2E h (a2E h' rfl)) rfl rfl hf)
theorem a6W{N:Nat}{a:Nat->Nat->Int}:j1_ [.lst ((List.range N).map fun i=>dR (rw' N (a i)))]=some (dT (gm N N a)):=by
 show some (D.tup _)=_;unfold dT gm;rw[Zq];rfl
theorem a6X{N:Nat}{a:Nat->Int}:j1_ [.lst ((List.range N).map fun i=>D.int (a i))]=some (dR (rw' N a)):=by
 show some (D.tup _)=_;unfold dR rw';rw[Zq];rfl
theorem c3d{f g:Nat->Nat->Int}(h1:1≤n)(h6:n≤6)(F:TabF n f)(G:TabF n g):a1M [.dat (dT (gm n n f)),.dat (dT (gm n n g))]=some (.d (dT (gm n n (LO f g))),[.dat (dT (gm n n f)),.dat (dT (gm n n g))]):=by
 have q1:=a9O h1 h6 F G
 have q2:=a9P (N:=n+1) (by omega) (HH f) (HH g)
 generalize dT (gm n n f)=A at *;generalize dT (gm n n g)=C at *;generalize dT (gm (n+1) (n+1) (HH f))=P at *;generalize dT (gm (n+1) (n+1) (HH g))=Q at *;refine a2O (d:=dT (gm n n (LO f g))) (env:=[.dat A,.dat C,.dat P,.dat Q]) ?_ rfl;show a9t [.dat A,.dat C,.nil,.nil]=_;unfold a9t;exact x8_ (a8x (e1:=[.dat A,.dat C,.nil,.nil]) (e2:=[.dat A,.dat C,.dat P,.dat Q]) (a6G (av:=[.d A,.d C]) rfl rfl rfl q1) rfl) (u7_ (c1 (x5_ (q4_ (k3_ (a2k (α:=Nat) (l:=List.range (n+1)) (q:=fun i=>D.lst ((List.range (n+1)).map fun j=>.tup [.int (HH f i j),.int (HH g i j)])) (f:=fun i=>dR (rw' (n+1) fun j=>mx (HH f i j) (HH g i j))) (base:=[.nil,.nil,.nil,.nil]) (a0P (k3_ (a4V (a1e (av:=[.d P,.d Q]) rfl rfl rfl q2))) rfl) (by simp;omega) rfl rfl
  (fun i _=>x5_ (q4_ (k3_ (a2k (α:=Nat) (l:=List.range (n+1)) (q:=fun j=>.tup [.int (HH f i j),.int (HH g i j)]) (f:=fun j=>.int (mx (HH f i j) (HH g i j))) (base:=[.nil,.nil,.nil,.nil,.nil]) (a0P rfl rfl) (by simp;omega) rfl rfl (fun j _=>x5_ (q4_ rfl rfl) (c3b _ _)) (fun _=>rfl))) rfl) a6X) (fun _=>rfl))) rfl) a6W) (b3V _ (by omega))))
theorem c3e{f g:Nat->Nat->Int}(h1:1≤n)(h6:n≤6)(F:TabF n f)(G:TabF n g):a1O [.dat (dT (gm n n f)),.dat (dT (gm n n g))]=some (.d (dT (gm n n (HI f g))),[.dat (dT (gm n n f)),.dat (dT (gm n n g))]):=by
 have q1:=a9O h1 h6 F G
 have q2:=a9P (N:=n+1) (by omega) (HH f) (HH g)
 generalize dT (gm n n f)=A at *;generalize dT (gm n n g)=C at *;generalize dT (gm (n+1) (n+1) (HH f))=P at *;generalize dT (gm (n+1) (n+1) (HH g))=Q at *;refine a2O (d:=dT (gm n n (HI f g))) (env:=[.dat A,.dat C,.dat P,.dat Q]) ?_ rfl;show a9u [.dat A,.dat C,.nil,.nil]=_;unfold a9u;exact x8_ (a8x (e1:=[.dat A,.dat C,.nil,.nil]) (e2:=[.dat A,.dat C,.dat P,.dat Q]) (a6G (av:=[.d A,.d C]) rfl rfl rfl q1) rfl) (u7_ (c1 (x5_ (q4_ (k3_ (a2k (α:=Nat) (l:=List.range (n+1)) (q:=fun i=>D.lst ((List.range (n+1)).map fun j=>.tup [.int (HH f i j),.int (HH g i j)])) (f:=fun i=>dR (rw' (n+1) fun j=>mn (HH f i j) (HH g i j))) (base:=[.nil,.nil,.nil,.nil]) (a0P (k3_ (a4V (a1e (av:=[.d P,.d Q]) rfl rfl rfl q2))) rfl) (by simp;omega) rfl rfl
  (fun i _=>x5_ (q4_ (k3_ (a2k (α:=Nat) (l:=List.range (n+1)) (q:=fun j=>.tup [.int (HH f i j),.int (HH g i j)]) (f:=fun j=>.int (mn (HH f i j) (HH g i j))) (base:=[.nil,.nil,.nil,.nil,.nil]) (a0P rfl rfl) (by simp;omega) rfl rfl (fun j _=>x5_ (q4_ rfl rfl) (c3c _ _)) (fun _=>rfl))) rfl) a6X) (fun _=>rfl))) rfl) a6W) (b3V _ (by omega))))
theorem TabF.lo{f g:Nat->Nat->Int}(F:TabF n f)(G:TabF n g):TabF n (LO f g):=(F.ht.max G.ht).tab
theorem TabF.hi{f g:Nat->Nat->Int}(F:TabF n f)(G:TabF n g):TabF n (HI f g):=(F.ht.min G.ht).tab
theorem a9Q(g:Nat->Int):∀n,((List.range n).map g).sum=S g n
 |0=>rfl
 |n+1=>by
  rw[Uw,Yq,List.sum_append,a9Q g n];show S g n+(g n+0)=S g n+g n
  omega
theorem b3Y(f:Nat->Nat->Int)(j:Nat):∀i,S (fun r=>S (f r) j) i=HH f i j
 |0=>by
  show 0=S (fun c=>0) j
  rw[a3F]
 |i+1=>by
  show S (fun r=>S (f r) j) i+S (f i) j=_
  rw[b3Y f j i,a3G]
theorem b3Z(g:Nat->α)(h:i≤n):((List.range n).map g).take i=(List.range i).map g:=by
 rw[←List.map_take,List.take_range,Tq h]
abbrev hIn:Mo D:=mCB a2f (z1_ (mF (v9_ (y1_ (mSl (z0_ 0) k1_ (k2_ (z0_ 3)))) [false,false,false,false,true] 1 (gN 5) v6_ (mCB a2f (z1_ (mSl (z0_ 5) k1_ (k2_ (z0_ 4))) z3_)))) z3_)
abbrev b4a:Mo D:=mCB j1_ (z1_ (mF (v9_ (g0_ (z1_ (z5_ v3_ (z0_ 1) (mC (.int 1))) z3_)) [true,false,false,true] 1 (gN 4) v6_ hIn)) z3_)
theorem c3f{f:Nat->Nat->Int}:dT (gm n m f)=.tup ((List.range n).map fun r=>dR (rw' m (f r))):=by
 unfold dT gm;rw[Zq];rfl
theorem c3g{f:Nat->Nat->Int}(h6:n≤6)(hi:i≤n)(hj:j≤n):
  hIn [.dat (dT (gm n n f)),.nil,.nil,.dat (.int (i:Int)),.dat (.int (j:Int))]=some (.int (HH f i j),[.dat (dT (gm n n f)),.nil,.nil,.dat (.int (i:Int)),.dat (.int (j:Int))]):=by
 refine x5_ (q4_ (k3_ (a2k (α:=Nat) (l:=List.range i) (q:=fun r=>dR (rw' n (f r))) (f:=fun r=>.int (S (f r) j)) (base:=[.nil,.nil,.nil,.nil,.dat (.int (j:Int))]) (a0P (a5H (xs:=(List.range n).map fun r=>dR (rw' n (f r))) (Yx (fun d=>some (d,_)) c3f) rfl rfl) ?_) (by simp;omega) rfl rfl (fun r _=>x5_ (q4_ (a5H (xs:=(rw' n (f r)).map D.int) rfl rfl rfl) rfl) ?_) (fun _=>rfl))) rfl) ?_
 ·show some _=_
  rw[b2O,b3Z _ hi]
 ·rw[b2O,←List.map_take,b3Z _ hj,c0i,a9Q]
 ·have:((List.range i).map fun r=>D.int (S (f r) j))=((List.range i).map fun r=>S (f r) j).map D.int:=by rw[Zq];rfl
  rw[this,c0h,a9Q,b3Y]
theorem c3h{f:Nat->Nat->Int}(h6:n≤6)(hi:i≤n):
  b4a [.dat (dT (gm n n f)),.dat (.int (n:Int)),.own ds,.dat (.int (i:Int))]=some (dR (rw' (n+1) (HH f i)),[.dat (dT (gm n n f)),.dat (.int (n:Int)),.own ds,.dat (.int (i:Int))]):=by
 refine x5_ (q4_ (k3_ (a2k (α:=Nat) (l:=List.range (n+1)) (q:=fun(j:Nat)=>.int (j:Int)) (f:=fun j=>.int (HH f i j)) (base:=[.dat (dT (gm n n f)),.nil,.nil,.dat (.int (i:Int))]) (a3t (n:=n+1) (v0_ rfl rfl rfl) (by push_cast;rfl) (by omega)) (by simp;omega) rfl rfl (fun j hj=>c3g h6 hi (by have:=Zt.mp hj;omega)) (fun _=>rfl))) rfl) a6X
theorem a9R{f:Nat->Nat->Int}(h6:n≤6):a1R [.dat (dT (gm n n f))]=some (.d (dT (gm (n+1) (n+1) (HH f))),[.dat (dT (gm n n f))]):=by
 obtain⟨e',h,w,rfl⟩:=a8v (g:=gN 3) (b:=a0C 2 b4a) (n:=n+1) (fun i e=>∃w,e=[.dat (dT (gm n n f)),.dat (.int (n:Int)),.own ((List.range i).map fun i=>dR (rw' (n+1) (HH f i))),w]) (env:=[.dat (dT (gm n n f)),.dat (.int (n:Int)),.own [],.nil]) (fun i hi e ⟨w,he⟩=>by
  subst he;refine⟨[.dat (dT (gm n n f)),.dat (.int (n:Int)),.own ((List.range i).map fun i=>dR (rw' (n+1) (HH f i))),.dat (.int (i:Int))],_,rfl,b2P rfl rfl (c3h h6 (by omega)) rfl rfl (by simp;omega),.dat (.int (i:Int)),?_⟩
  rw[Uw,Yq]
  rfl) ⟨_,rfl⟩
 refine a2O (d:=dT (gm (n+1) (n+1) (HH f))) (env:=[.dat (dT (gm n n f)),.dat (.int (n:Int)),.dat (.lst ((List.range (n+1)).map fun i=>dR (rw' (n+1) (HH f i)))),w]) ?_ rfl
 show a9A [.dat (dT (gm n n f)),.nil,.nil,.nil]=_;unfold a9A;refine x8_ (a0n (x5_ (q4_ rfl rfl) a2r) rfl) (x8_ (e1:=[.dat (dT (gm n n f)),.dat (.int (n:Int)),.own [],.nil]) rfl (x8_ ((a1G (a3t (n:=n+1) (v0_ rfl rfl rfl) (by push_cast;rfl) (by omega))).trans h) (u7_ (x5_ (q4_ rfl rfl) a6W))))
def sq(b:Bool)(ds:List D):D:=if b then .tup ds else .lst ds
theorem c3i:q6_ [sq b ds]=some (.int (ds.length:Int)):=by cases b<;>rfl
theorem b4b:(sq b ds).items=some ds:=by cases b<;>rfl
theorem c3j{k:Nat}{x:D}(e:z=(k:Int))(h:ds[k]? =some x):dIx (sq b ds) (.int z)=some x:=by
 subst e;have:atI ds (k:Int)=some x:=by
  exact a0A h
 cases b<;>exact this
theorem c3k{m:Mo D}{lo hi:Option Int}(h:m e=some (sq b xs,e))(h1:ml e=some (lo,e))(h2:mh e=some (hi,e)):a4f m ml mh e=some (sq b (u9_ xs lo hi),e):=by
 unfold a4f;rw[h,Qj,h1,Qj,h2];cases b<;>rfl
def RD(b:Bool)(n:Nat)(g:Nat->Int):D:=sq b ((List.range n).map fun j=>D.int (g j))
def HD(b:Bool)(n:Nat)(a:Nat->Nat->Int):D:=sq b ((List.range (n+1)).map fun i=>RD b (n+1) (a i))
theorem c3l{a:Nat->Nat->Int}:HD false n a=a2M (gm (n+1) (n+1) a):=by
 show D.lst _=D.lst _;unfold gm;rw[Zq];refine Yx D.lst (Zb fun i _=>?_)
 show D.lst _=D.lst _;rw[Zq];rfl
theorem b4c{α:Type}(p q:α->D)(r:List D):∀l:List α,g3_ (l.map p++r) (l.map q)=l.map fun a=>.tup [p a,q a]
 |[]=>by simp[g3_]
 |a::l=>by
  have:=b4c p q r l;unfold g3_ at this ⊢;rw[Qr,Qr,Xi,List.zip_cons_cons,Qr,this,Qr]
abbrev fDf(mi:Mo D):Mo (List D):=v9_ (a0c (z1_ (z5_ dIx (z0_ 0) mi) (z1_ (a4f (z5_ dIx (z0_ 0) mi) (k2_ (mC (.int 1))) k1_) z3_))) [false,false,false,false,false,false] 2 (gT 2 (gCn (gN 6) (gCn (gN 7) gNl))) v6_ (z5_ u2_ (z0_ 7) (z0_ 6))
theorem b4d{a:Nat->Nat->Int}{mi:Mo D}{k:Nat}(hn:n≤6)(hk:k≤n)(hz:z=(k:Int))(hmi:mi [.dat (HD b n a),w1,w2,w3,w4,w5]=some (.int z,[.dat (HD b n a),w1,w2,w3,w4,w5])):
  fDf mi [.dat (HD b n a),w1,w2,w3,w4,w5]=some ((List.range n).map fun j=>D.int (a k (j+1)-a k j),[.dat (HD b n a),w1,w2,w3,w4,w5]):=by
 have ix:z5_ dIx (z0_ 0) mi [.dat (HD b n a),w1,w2,w3,w4,w5]=some (RD b (n+1) (a k),[.dat (HD b n a),w1,w2,w3,w4,w5]):=v0_ rfl hmi (c3j hz (by rw[Zj,Ul (by omega)];rfl))
 refine a5h (α:=Nat) (l:=List.range n) (q:=fun j=>.int (a k j)) (q2:=fun j=>.int (a k (j+1))) (f:=fun j=>.int (a k (j+1)-a k j)) (base:=[.nil,.nil,.nil,.nil,.nil,.nil]) ?_ (by simp;omega) rfl rfl (fun j _=>rfl) (fun _ _=>rfl)
 unfold a0c;rw[q4_ ix (q4_ (c3k (lo:=some 1) (hi:=none) ix rfl rfl) rfl),Qj];show(RD b (n+1) (a k)).items.bind _=_;unfold RD;rw[b4b,Qj,b4b,Xe];have e1:u9_ ((List.range (n+1)).map fun j=>D.int (a k j)) (some 1) none=(List.range n).map fun j=>D.int (a k (j+1)):=by
  have:=c0c (xs:=(List.range (n+1)).map fun j=>D.int (a k j)) (i:=1)
  rw[show((1:Nat):Int)=1 from rfl]at this
  rw[this,List.range_succ_eq_map,Qr,List.drop_succ_cons,List.drop_zero,Zq]
  rfl
 rw[e1,Uw,Yq,b4c]
theorem c3m{mi:Mo (List D)}{keep:List Bool}{m:Mo D}{env base:Env'}{l:List α}{q q2 f:α->D}{k:Nat}(hi:mi env=some (l.map (fun a=>.tup [q a,q2 a]),e1))(hl:l.length≤100000)(hb:k5_ keep 0 e1=base)(hk:base.length=k)
  (h:∀a∈l,m (base++[.dat (q a),.dat (q2 a)])=some (f a,base++[.dat (q a),.dat (q2 a)]))(ho:∀w w2,w3_ keep e1 (base++[w,w2])=some e1):v9_ mi keep 2 (gT 2 (gCn (gN k) (gCn (gN (k+1)) gNl))) v6_ m env=some (l.map f,e1):=by
 have:=a5h (mi:=fun e=>some (l.map (fun a=>.tup [q a,q2 a]),e)) (env:=e1) rfl hl hb hk h ho
 unfold v9_ at this ⊢;rw[hi];exact this
abbrev fBd:Mo Fl:=q1_ (j3_ 4 (fDf (z0_ 3))) (q1_ (j3_ 5 (fDf (z5_ v3_ (z0_ 3) (mC (.int 1))))) (a0C 2 (mCB j1_ (z1_ (mF (v9_ (a0c (z1_ (z0_ 4) (z1_ (z0_ 5) z3_))) [false,false,false,false,false,false] 2 (gT 2 (gCn (gN 6) (gCn (gN 7) gNl))) v6_ (z5_ u2_ (z0_ 7) (z0_ 6)))) z3_))))
theorem c3n{a:Nat->Nat->Int}(hn:n≤6)(hi:i<n)(hd:ds.length<100000):
  ∃w4' w5',fBd [.dat (HD b n a),w1,.own ds,.dat (.int (i:Int)),w4,w5]=some (.nx,[.dat (HD b n a),w1,.own (ds++[dR (rw' n (U a i))]),.dat (.int (i:Int)),w4',w5']):=by
 refine⟨.dat (.lst ((List.range n).map fun j=>D.int (a i (j+1)-a i j))),.dat (.lst ((List.range n).map fun j=>D.int (a (i+1) (j+1)-a (i+1) j))),?_⟩
 refine x8_ (a8y (b4d hn (by omega:i≤n) rfl rfl) rfl) (x8_ (a8y (b4d hn (by omega:i+1≤n) (by push_cast;rfl) (v0_ rfl rfl rfl)) rfl) ?_)
 refine(b2P (w:=.own ds) (d:=dR (rw' n (U a i))) (env':=[.dat (HD b n a),w1,.own ds,.dat (.int (i:Int)),.dat (.lst ((List.range n).map fun j=>D.int (a i (j+1)-a i j))),.dat (.lst ((List.range n).map fun j=>D.int (a (i+1) (j+1)-a (i+1) j)))]) rfl rfl (x5_ (q4_ (k3_ (c3m (α:=Nat) (l:=List.range n) (q:=fun j=>D.int (a i (j+1)-a i j)) (q2:=fun j=>D.int (a (i+1) (j+1)-a (i+1) j)) (f:=fun j=>.int ((a (i+1) (j+1)-a (i+1) j)-(a i (j+1)-a i j))) (base:=[.nil,.nil,.nil,.nil,.nil,.nil]) (a5k rfl rfl rfl) (by simp;omega) rfl rfl (fun j _=>rfl) (fun _ _=>rfl))) rfl) ?_) rfl rfl hd).trans rfl
 rw[a6X];refine Yx some (Yx dR (Zb fun j _=>?_))
 show _=U a i j;unfold U
 omega
theorem c3o{a:Nat->Nat->Int}(hn:n≤6):a1s [.dat (HD b n a)]=some (.d (dT (gm n n (U a))),[.dat (HD b n a)]):=by
 obtain⟨e',h,w3,w4,w5,rfl⟩:=a8v (g:=gN 3) (b:=fBd) (n:=n) (fun i e=>∃w3 w4 w5,e=[.dat (HD b n a),.dat (.int (n:Int)),.own ((List.range i).map fun i=>dR (rw' n (U a i))),w3,w4,w5]) (env:=[.dat (HD b n a),.dat (.int (n:Int)),.own [],.nil,.nil,.nil]) (fun i hi e ⟨w3,w4,w5,he⟩=>by
  subst he;obtain⟨w4',w5',q⟩:=c3n (b:=b) (n:=n) (a:=a) (w1:=.dat (.int (n:Int))) (w4:=w4) (w5:=w5) (ds:=(List.range i).map fun i=>dR (rw' n (U a i))) hn hi (by simp;omega)
  refine⟨_,_,rfl,q,.dat (.int (i:Int)),w4',w5',?_⟩;rw[Uw,Yq]
  rfl) ⟨_,_,_,rfl⟩
 refine a2O (d:=dT (gm n n (U a))) (env:=[.dat (HD b n a),.dat (.int (n:Int)),.dat (.lst ((List.range n).map fun i=>dR (rw' n (U a i)))),w3,w4,w5]) ?_ rfl
 show a9B [.dat (HD b n a),.nil,.nil,.nil,.nil,.nil]=_;unfold a9B;have hl:q6_ [HD b n a]=some (.int (((n+1:Nat)):Int)):=by
  unfold HD;rw[c3i]
  simp
 refine x8_ (a0n (v0_ (x5_ (q4_ rfl rfl) hl) rfl (c:=.int (n:Int)) ?_) rfl) (x8_ (e1:=[.dat (HD b n a),.dat (.int (n:Int)),.own [],.nil,.nil,.nil]) rfl (x8_ ((a1G (a3t (n:=n) rfl rfl (by omega))).trans h) (u7_ (x5_ (q4_ rfl rfl) a6W))))
 show some (D.int (((n+1:Nat):Int)-1))=_
 congr 2
 omega
theorem a1S{m n:MoN Fl}{q1:Ro}{r:Option (Fl×Env'×Ro)}(h:m e q=some (.nx,e1,q1))(h2:n e1 q1=r):a0y m n e q=r:=by unfold a0y;rw[h];exact h2
theorem b4e{r:Nat}{g:D->Env'->Option Env'}{b:MoN Fl}{P:Env'->Ro->Prop}:∀{ds:List D}{e:Env'}{q:Ro},(∀d∈ds,∀e q,P e q->∃e1 e2 q2,g d e=some e1/\a0x r e1=true/\b e1 q=some (.nx,e2,q2)/\P e2 q2)->P e q->∃e' q',a4e r g b ds e q=some (.nx,e',q')/\P e' q'
 |[],e,q,_,p=>⟨e,q,rfl,p⟩
 |d::ds,e,q,h,p=>by
  obtain⟨e1,e2,q2,h1,h2,h3,h4⟩:=h d (Zd ..) e q p;obtain⟨e',q',h5,h6⟩:=b4e (ds:=ds) (fun d hd=>h d (Qs _ hd)) h4
  refine⟨e',q',?_,h6⟩;unfold a4e;rw[h1,Qj,Qn h2,h3];exact h5
abbrev mkH:MoN Fl:=mkN 2 (y1_ (mCD 1 a1R (z6_ (z0_ 1) z8_))) [false,false,false,false,false,false,false] 1 (gN 7) (mCL a1m (z1_ (z0_ 7) z3_))
theorem b4f:∀(R:List (List Int)) (w:W),∃w',compR (gN 7) (mCL a1m (z1_ (z0_ 7) z3_)) (R.map dR) [.nil,.nil,.nil,.nil,.nil,.nil,.nil,w]=some (R,[.nil,.nil,.nil,.nil,.nil,.nil,.nil,w'])
 |[],w=>⟨w,rfl⟩
 |r::R,w=>by
  obtain⟨w',h⟩:=b4f R (.dat (dR r));refine⟨w',?_⟩;rw[Qr];unfold compR;have h1:gN 7 (dR r) [.nil,.nil,.nil,.nil,.nil,.nil,.nil,w]=some [.nil,.nil,.nil,.nil,.nil,.nil,.nil,.dat (dR r)]:=rfl;have h2:mCL a1m (z1_ (z0_ 7) z3_) [.nil,.nil,.nil,.nil,.nil,.nil,.nil,.dat (dR r)]=some (r.map D.int,[.nil,.nil,.nil,.nil,.nil,.nil,.nil,.dat (dR r)]):=rfl;rw[h1,Qj,h2,Qj,a5i,Qj,h]
  rfl
theorem b4g{f:Nat->Nat->Int}(h6:n≤6):mkH [w0,.dat (dT (gm n n f)),.nil,w3,w4,w5,w6] q=some (.nx,[w0,.dat (dT (gm n n f)),.nil,w3,w4,w5,w6],some (gm (n+1) (n+1) (HH f))):=by
 obtain⟨w',h⟩:=b4f (gm (n+1) (n+1) (HH f)) .nil;unfold mkH mkN;rw[a0P (c1 rfl (a9R h6)) (ds:=(gm (n+1) (n+1) (HH f)).map dR) rfl,Qj];dsimp only;rw[Qn (by rw[Qv,a1u];omega)]
 show(compR (gN 7) (mCL a1m (z1_ (z0_ 7) z3_)) ((gm (n+1) (n+1) (HH f)).map dR) [.nil,.nil,.nil,.nil,.nil,.nil,.nil,.nil]).bind _=_;rw[h]
 rfl
theorem b4h:∀l:List Int,lfL (l.map D.int)=true
 |[]=>rfl
 |_::l=>by
  show(true&&lfL (l.map D.int))=true;rw[b4h l];rfl
theorem b4i:∀R:List (List Int),(dT R).lf=true
 |[]=>rfl
 |r::R=>by
  show(lfL (r.map D.int)&&lfL (R.map dR))=true;rw[b4h r];exact b4i R
theorem b4j{a:Nat->Nat->Int}(h6:n≤6):mCallN a1s e (some (gm (n+1) (n+1) a))=some (dT (gm n n (U a)),e):=by
 unfold mCallN;rw[Qj,←c3l,c3o h6,Qj];dsimp only;rw[Qn (b4i _)]
theorem c3p(r0:∀i,h i 0=0)(d0:∀j,h 0 j=0)(i j:Nat):HH (U h) i j=h i j:=by
 induction i with
 |zero=>rw[d0 j];exact a3F j
 |succ i ih=>rw[a3G,ih,a6R,r0 i,r0 (i+1)];omega
def pk(a:Nat->Nat->Int)(r c:Nat)(y:Int)(i j:Nat):Int:=if i=r/\j=c then y else a i j
theorem c3q{N:Nat}{a:Nat->Nat->Int}{c:Nat}{y:Int}(hr:r<N)(hc:c<N):(gm N N a).set r (((List.range N).map (a r)).set c y)=gm N N (pk a r c y):=by
 apply Vr
 ·simp[gm]
 intro i h1 h2;rw[List.getElem_set];simp only[gm,Vs,Vk];split
 ·rename_i e
  subst e
  apply Vr
  ·simp
  intro j h3 h4;rw[List.getElem_set];simp only[Vs,Vk];unfold pk;split
  ·rename_i e2
   subst e2
   simp
  ·rename_i e2
   rw[Qe (fun z=>e2 z.2.symm)]
 ·rename_i e
  apply Zb
  intro j _;unfold pk;rw[Qe (fun z=>e z.1.symm)]
theorem tk0{a m:Int}(hm:mm (.par [.int a,.bl b]::ws)=some (.int m,.par [.int a,.bl b]::ws))(ht:x6_ [.par [.int a,.bl b],.dat (.int m)]=some (.d (.int v),[.par [.int a',.bl b],.dat (.int m)])):
  mCD 2 x6_ (y6_ 0 (z6_ mm z8_)) (.par [.int a,.bl b]::ws)=some (.int v,.par [.int a',.bl b]::ws):=by
 refine a0Q ((a3W (e1:=.par [.int a,.bl b]::ws) (w:=.par [.int a,.bl b]) (av:=[.sl 0,.d (.int m)]) (i:=0) (c:=[.int a,.bl b]) (c':=[.int a',.bl b]) ?_ rfl rfl rfl rfl ht rfl).trans rfl);unfold y6_;rw[a2E hm rfl]
 rfl
abbrev tkA:Mo D:=z5_ v3_ (mC (.int 1)) (mCD 2 x6_ (y6_ 0 (z6_ (z5_ u2_ (mCB q6_ (z1_ (z0_ 1) z3_)) (mC (.int 1))) z8_)))
abbrev tkB:Mo D:=z5_ dIx (mF (x2_ (z1_ (j8_ (mC (.int 1))) (z1_ (mC (.int 1)) z3_)))) (mCD 2 x6_ (y6_ 0 (z6_ (mC (.int 2)) z8_)))
abbrev a9S:MoN Fl:=a6A (r:=2) 5 6 (z1_ tkA (z1_ tkA z3_))
abbrev nSt:MoN Fl:=a6B (r:=2) (z0_ 5) (z0_ 6) (a5d (r:=2) v3_ (a5e (z0_ 5) (z0_ 6)) (a4d tkB))
abbrev nIf:MoN Fl:=ifN (r:=2) (x3_ (mT (mCD 1 a0q (z6_ (z0_ 4) z8_)))) mkH nxN
abbrev a9T:MoN Fl:=a0y a9S (a0y nSt (a0y (a2j (r:=2) 4 (mCallN a1s)) (a0y nIf (a2j (r:=2) 1 (mCallN a1s)))))
theorem c3r{t:Mo Bool}{m n:MoN Fl}(h:t e=some (true,e1))(hn:a0x r e1=true)(h2:m e1 q=x):ifN (r:=r) t m n e q=x:=by
 unfold ifN;rw[h,Qj];dsimp only;rw[Qn hn,Qn rfl];exact h2
theorem c3s{t:Mo Bool}{m n:MoN Fl}(h:t e=some (false,e1))(hn:a0x r e1=true)(h2:n e1 q=x):ifN (r:=r) t m n e q=x:=by
 unfold ifN;rw[h,Qj];dsimp only;rw[Qn hn,Qe (by simp)]
 exact h2
theorem b4k{N:Nat}(h:r<N):ixN N (r:Int)=some r:=by
 unfold ixN;rw[Qn (by omega)]
 simpa using h
theorem b4l{N:Nat}{a:Nat->Nat->Int}(h:r<N):(gm N N a)[r]? =some ((List.range N).map (a r)):=by
 unfold gm;rw[Zj,Ul h]
 rfl
theorem c3t{N:Nat}{a:Nat->Int}(h:r<N):((List.range N).map a)[r]? =some (a r):=by
 rw[Zj,Ul h]
 rfl
theorem b4m{f:Nat->Nat->Int}{a:Int}(hr:1+v=(r:Int))(ht:x6_ [.par [.int a,.bl b],.dat (.int ((n:Int)-1))]=some (.d (.int v),[.par [.int a',.bl b],.dat (.int ((n:Int)-1))])):
  tkA (.par [.int a,.bl b]::.dat (dT (gm n n f))::ws)=some (.int (r:Int),.par [.int a',.bl b]::.dat (dT (gm n n f))::ws):=by
 refine v0_ rfl (tk0 (v0_ (x5_ (q4_ rfl rfl) a2r) rfl rfl) ht) ?_
 show some (D.int (1+v))=_;rw[hr]
theorem c3u{a s:Int}(hx:dIx (.lst [.int (-1),.int 1]) (.int s)=some (.int δ))(ht:x6_ [.par [.int a,.bl b],.dat (.int 2)]=some (.d (.int s),[.par [.int a',.bl b],.dat (.int 2)])):
  tkB (.par [.int a,.bl b]::ws)=some (.int δ,.par [.int a',.bl b]::ws):=
 v0_ rfl (tk0 rfl ht) hx
theorem c3v{A:Nat->Nat->Int}{a s:Int}{T:D}{c:Nat}(hr:r<n+1)(hc:c<n+1)(hx:dIx (.lst [.int (-1),.int 1]) (.int s)=some (.int δ))(ht:x6_ [.par [.int a,.bl b],.dat (.int 2)]=some (.d (.int s),[.par [.int a',.bl b],.dat (.int 2)])):
  nSt [.par [.int a,.bl b],.dat T,.nil,w3,w4,.dat (.int (r:Int)),.dat (.int (c:Int))] (some (gm (n+1) (n+1) A))=some (.nx,[.par [.int a',.bl b],.dat T,.nil,w3,w4,.dat (.int (r:Int)),.dat (.int (c:Int))],some (gm (n+1) (n+1) (pk A r c (A r c+δ)))):=by
 have h1:a5e (z0_ 5) (z0_ 6) [.par [.int a,.bl b],.dat T,.nil,w3,w4,.dat (.int (r:Int)),.dat (.int (c:Int))] (some (gm (n+1) (n+1) A))=some (.int (A r c),[.par [.int a,.bl b],.dat T,.nil,w3,w4,.dat (.int (r:Int)),.dat (.int (c:Int))]):=by
  show(atI (gm (n+1) (n+1) A) (r:Int)).bind _=_;rw[a0A (b4l hr),Qj,a0A (c3t hc)]
  rfl
 have h2:a5d (r:=2) v3_ (a5e (z0_ 5) (z0_ 6)) (a4d tkB) [.par [.int a,.bl b],.dat T,.nil,w3,w4,.dat (.int (r:Int)),.dat (.int (c:Int))] (some (gm (n+1) (n+1) A))=some (.int (A r c+δ),[.par [.int a',.bl b],.dat T,.nil,w3,w4,.dat (.int (r:Int)),.dat (.int (c:Int))]):=by
  unfold a5d;rw[h1,Qj];show(a4d tkB [.par [.int a,.bl b],.dat T,.nil,w3,w4,.dat (.int (r:Int)),.dat (.int (c:Int))] _).bind _=_;unfold a4d;rw[c3u hx ht]
  rfl
 unfold nSt a6B;rw[h2,Qj];show(ixN (gm (n+1) (n+1) A).length (r:Int)).bind _=_;rw[a1u,b4k hr,Qj,b4l hr,Qj,Qv,List.length_range,b4k hc,Qj,c3q hr hc]
 rfl
theorem c3w{f:Nat->Nat->Int}{a:Int}(h2:2≤n)(h6:n≤6)(ha:0≤a)(F:TabF n f):∃a' f' w4' w5' w6',0≤a'/\TabF n f'/\
  a9T [.par [.int a,.bl b],.dat (dT (gm n n f)),.nil,w3,w4,w5,w6] (some (gm (n+1) (n+1) (HH f)))=some (.nx,[.par [.int a',.bl b],.dat (dT (gm n n f')),.nil,w3,w4',w5',w6'],some (gm (n+1) (n+1) (HH f'))):=by
 obtain⟨v,a1,t1,v0,v1,a10⟩:=a2q (a:=a) (m:=(n:Int)-1) (b:=b) ha (by omega) (by omega)
 obtain⟨u,a2,t2,u0,u1,a20⟩:=a2q (a:=a1) (m:=(n:Int)-1) (b:=b) a10 (by omega) (by omega)
 obtain⟨s,a3,t3,s0,s1,a30⟩:=a2q (a:=a2) (m:=2) (b:=b) a20 (by omega) (by omega)
 obtain⟨r,hr⟩:∃r:Nat,(1:Int)+v=(r:Int):=⟨(1+v).toNat,by omega⟩
 obtain⟨c,hc⟩:∃r:Nat,(1:Int)+u=(r:Int):=⟨(1+u).toNat,by omega⟩
 obtain⟨δ,hx⟩:∃δ:Int,dIx (.lst [.int (-1),.int 1]) (.int s)=some (.int δ):=by
  rcases(by omega:s=0∨s=1)with rfl|rfl
  ·exact⟨-1,rfl⟩
  ·exact⟨1,rfl⟩
 have p1:a9S [.par [.int a,.bl b],.dat (dT (gm n n f)),.nil,w3,w4,w5,w6] (some (gm (n+1) (n+1) (HH f)))=some (.nx,[.par [.int a2,.bl b],.dat (dT (gm n n f)),.nil,w3,w4,.dat (.int (r:Int)),.dat (.int (c:Int))],some (gm (n+1) (n+1) (HH f))):=by
  unfold a9S a6A;rw[q4_ (b4m hr t1) (q4_ (b4m hc t2) rfl)]
  rfl
 have p2:=c3v (n:=n) (A:=HH f) (T:=dT (gm n n f)) (w3:=w3) (w4:=w4) (r:=r) (c:=c) (by omega) (by omega) hx t3
 generalize HH f r c+δ=y at p2;have z0:∀i,pk (HH f) r c y i 0=0:=fun i=>by
  unfold pk;rw[Qe (fun z=>by omega)]
  rfl
 have z1:∀j,pk (HH f) r c y 0 j=0:=fun j=>by
  unfold pk;rw[Qe (fun z=>by omega)]
  exact a3F j
 have p3:∀A:Nat->Nat->Int,a2j (r:=2) 4 (mCallN a1s) [.par [.int a3,.bl b],.dat (dT (gm n n f)),.nil,w3,w4,.dat (.int (r:Int)),.dat (.int (c:Int))] (some (gm (n+1) (n+1) A))=some (.nx,[.par [.int a3,.bl b],.dat (dT (gm n n f)),.nil,w3,.dat (dT (gm n n (U A))),.dat (.int (r:Int)),.dat (.int (c:Int))],some (gm (n+1) (n+1) A)):=fun A=>by
  unfold a2j;rw[b4j h6]
  rfl
 have p5:∀(A:Nat->Nat->Int) (x y:D),a2j (r:=2) 1 (mCallN a1s) [.par [.int a3,.bl b],.dat x,.nil,w3,.dat y,.dat (.int (r:Int)),.dat (.int (c:Int))] (some (gm (n+1) (n+1) A))=some (.nx,[.par [.int a3,.bl b],.dat (dT (gm n n (U A))),.nil,w3,.dat y,.dat (.int (r:Int)),.dat (.int (c:Int))],some (gm (n+1) (n+1) A)):=fun A x y=>by
  unfold a2j;rw[b4j h6]
  rfl
 have pt:(x3_ (mT (mCD 1 a0q (z6_ (z0_ 4) z8_)))) [.par [.int a3,.bl b],.dat (dT (gm n n f)),.nil,w3,.dat (dT (gm n n (U (pk (HH f) r c y)))),.dat (.int (r:Int)),.dat (.int (c:Int))]=some (!isT (dT (gm n n (U (pk (HH f) r c y)))),[.par [.int a3,.bl b],.dat (dT (gm n n f)),.nil,w3,.dat (dT (gm n n (U (pk (HH f) r c y)))),.dat (.int (r:Int)),.dat (.int (c:Int))]):=a0v (w4_ (c1 rfl (a9L _)))
 cases hT:isT (dT (gm n n (U (pk (HH f) r c y))))with
 |true=>
  rw[hT]at pt;refine⟨a3,U (pk (HH f) r c y),.dat (dT (gm n n (U (pk (HH f) r c y)))),.dat (.int (r:Int)),.dat (.int (c:Int)),a30,(a4t.mp hT).2,?_⟩;have e0:gm (n+1) (n+1) (HH (U (pk (HH f) r c y)))=gm (n+1) (n+1) (pk (HH f) r c y):=b3O fun i _ j _=>c3p z0 z1 i j
  rw[e0];refine a1S p1 (a1S p2 (a1S (p3 _) (a1S ?_ (p5 _ (dT (gm n n f)) _))));exact c3s pt rfl rfl
 |false=>
  rw[hT]at pt;refine⟨a3,f,.dat (dT (gm n n (U (pk (HH f) r c y)))),.dat (.int (r:Int)),.dat (.int (c:Int)),a30,F,?_⟩;refine a1S p1 (a1S p2 (a1S (p3 _) (a1S (e1:=[.par [.int a3,.bl b],.dat (dT (gm n n f)),.nil,w3,.dat (dT (gm n n (U (pk (HH f) r c y)))),.dat (.int (r:Int)),.dat (.int (c:Int))]) (q1:=some (gm (n+1) (n+1) (HH f))) ?_ ((p5 _ _ _).trans ?_))))
  ·exact c3r pt rfl (b4g h6)
  ·rw[b3O (f:=U (HH f)) (g:=f) fun i _ j _=>c2U f i j]
theorem c3x{f:Nat->Nat->Int}{a:Int}(h1:1≤n)(h6:n≤6)(ha:0≤a)(F:TabF n f):∃a' g ws,a4p [.par [.int a,.bl b],.dat (dT (gm n n f))]=some (.d (dT (gm n n g)),.par [.int a',.bl b]::ws)/\0≤a'/\TabF n g:=by
 obtain⟨v,a1,t1,v0,v1,a10⟩:=a2q (a:=a) (m:=5) (b:=b) ha (by omega) (by omega)
 let P:Env'->Ro->Prop:=fun e q=>∃a' f' w3 w4 w5 w6,0≤a'/\TabF n f'/\e=[.par [.int a',.bl b],.dat (dT (gm n n f')),.nil,w3,w4,w5,w6]/\q=some (gm (n+1) (n+1) (HH f'))
 obtain⟨N,hN,hr⟩:∃N:Nat,(N=0∨2≤n)/\g0_ (z1_ (z5_ j4_ (mCD 2 x6_ (y6_ 0 (z6_ (mC (.int 5)) z8_))) (mCB a3n (z1_ (z5_ dGt (mCB q6_ (z1_ (z0_ 1) z3_)) (mC (.int 1))) z3_))) z3_) [.par [.int a,.bl b],.dat (dT (gm n n f)),.nil,.nil,.nil,.nil,.nil]=some (rgD N,[.par [.int a1,.bl b],.dat (dT (gm n n f)),.nil,.nil,.nil,.nil,.nil]):=by
  have hi:∀k:Int,(if decide ((1:Int)<(n:Int))=true then(1:Int)else 0)=k->z5_ j4_ (mCD 2 x6_ (y6_ 0 (z6_ (mC (.int 5)) z8_))) (mCB a3n (z1_ (z5_ dGt (mCB q6_ (z1_ (z0_ 1) z3_)) (mC (.int 1))) z3_)) [.par [.int a,.bl b],.dat (dT (gm n n f)),.nil,.nil,.nil,.nil,.nil]=some (.int (v * k),[.par [.int a1,.bl b],.dat (dT (gm n n f)),.nil,.nil,.nil,.nil,.nil]):=fun k hk=>by
   refine v0_ (tk0 rfl t1) (x5_ (q4_ (v0_ (x5_ (q4_ rfl rfl) a2r) rfl rfl) rfl) (d:=.int k) (by rw[←hk];rfl)) ?_
   have hb:a1X v k=true:=by
    unfold a1X
    simp
    omega
   show(fOr a4E a6j) (.int v) (.int k)=_;unfold fOr a4E fI;simp only[hb,Zu]
  by_cases hn:2≤n
  ·refine⟨v.toNat,.inr hn,a3t (hi 1 ?_) (by omega) (by omega)⟩
   rw[Qn (Vv (by omega))]
  ·refine⟨0,.inl rfl,a3t (hi 0 ?_) (by omega) (by omega)⟩
   rw[Qe (by simp;omega)]
 obtain⟨e',q',hl,a',f',w3,w4,w5,w6,a0',F',rfl,rfl⟩:=b4e (r:=2) (g:=gN 3) (b:=a9T) (P:=P) (ds:=rgD N) (e:=[.par [.int a1,.bl b],.dat (dT (gm n n f)),.nil,.nil,.nil,.nil,.nil]) (q:=some (gm (n+1) (n+1) (HH f))) (fun d hd e q ⟨a',f',w3,w4,w5,w6,a0',F',he,hq⟩=>by
  subst he hq;have h2:2≤n:=by
   rcases hN with rfl|h
   ·simp at hd
   ·exact h
  obtain⟨a2,f2,x4,x5,x6,b1,b2,b3⟩:=c3w (w3:=.dat d) (w4:=w4) (w5:=w5) (w6:=w6) (b:=b) h2 h6 a0' F';exact⟨[.par [.int a',.bl b],.dat (dT (gm n n f')),.nil,.dat d,w4,w5,w6],_,_,rfl,rfl,b3,a2,f2,_,_,_,_,b1,b2,rfl,rfl⟩) ⟨a1,f,_,_,_,_,a10,F,rfl,rfl⟩
 refine⟨a',f',[a4O (.dat (dT (gm n n f))) (.dat (dT (gm n n f')))],?_,a0',F'⟩;refine a2O (env:=[.par [.int a',.bl b],.dat (dT (gm n n f')),.nil,w3,w4,w5,w6]) ?_ rfl;show a9C [.par [.int a,.bl b],.dat (dT (gm n n f)),.nil,.nil,.nil,.nil,.nil]=_;unfold a9C a6y;rw[Qn (show a0x 2 [.par [.int a,.bl b],.dat (dT (gm n n f)),.nil,.nil,.nil,.nil,.nil]=true from rfl)]
 have hb:a0y mkH (a0y (a6C 2 (g0_ (z1_ (z5_ j4_ (mCD 2 x6_ (y6_ 0 (z6_ (mC (.int 5)) z8_))) (mCB a3n (z1_ (z5_ dGt (mCB q6_ (z1_ (z0_ 1) z3_)) (mC (.int 1))) z3_))) z3_)) (gN 3) a9T) (a8p (z0_ 1))) [.par [.int a,.bl b],.dat (dT (gm n n f)),.nil,.nil,.nil,.nil,.nil] none=some (.ret (dT (gm n n f')),[.par [.int a',.bl b],.dat (dT (gm n n f')),.nil,w3,w4,w5,w6],some (gm (n+1) (n+1) (HH f'))):=by
  refine a1S (b4g h6) (a1S (e1:=[.par [.int a',.bl b],.dat (dT (gm n n f')),.nil,w3,w4,w5,w6]) (q1:=some (gm (n+1) (n+1) (HH f'))) ?_ rfl);unfold a6C;rw[hr,Qj];exact hl
 exact Yx (Option.map _) hb
theorem a3H{w:W}{a k:Int}{M:Mo D}(hw:e[i]? =some w)(hm:w.mutL=some [.int a,.bl b])(hM:M e=some (.int k,e))(ha:0≤a)(h1:1≤k)(h2:k<1073741824):
  ∃v a',mCD 2 x6_ (y6_ i (z6_ M z8_)) e=some (.int v,e.set i (w.put [.int a',.bl b]))/\0≤v/\v<k/\0≤a':=by
 obtain⟨v,a',et,v0,v1,a0⟩:=a2q (a:=a) (m:=k) (b:=b) ha h1 h2;refine⟨v,a',a0Q (a3W (av:=[.sl i,.d (.int k)]) (c:=[.int a,.bl b]) ?_ rfl rfl hw hm et rfl),v0,v1,a0⟩;unfold y6_;rw[hw];simp only[Qj];have hm':∃m,w.mut=some m:=by
  cases w<;>first|cases hm;done|exact⟨_,rfl⟩
 obtain⟨m,hm'⟩:=hm';rw[hm'];simp only[Qj];rw[a2E hM rfl];rfl
theorem a4u(h0:0≤v)(h1:v<ds.length):∃d,d∈ds/\dIx (.lst ds) (.int v)=some d:=by
 have hv:v.toNat<ds.length:=by omega
 refine⟨ds[v.toNat],Jz hv,?_⟩;have:((v.toNat:Nat):Int)=v:=by omega
 have h:=a0A (Zx hv)
 rw[this]at h;exact h
theorem b4n{L:List Int}(h0:0≤v)(h1:v<L.length):∃j,j∈L/\dIx (.lst (L.map .int)) (.int v)=some (.int j):=by
 obtain⟨d,hd,e⟩:=a4u (ds:=L.map .int) h0 (by rw[Qv];exact h1)
 obtain⟨j,hj,rfl⟩:=Zn.mp hd;exact⟨j,hj,e⟩
theorem b4o(xs:List D)(lo hi:Option Int):(u9_ xs lo hi).length≤xs.length:=by
 unfold u9_;rw[Ye,Xr];omega
theorem a0J{m:Mo D}{lo hi:Option Int}(h:m e=some (.tup xs,e))(h1:ml e=some (lo,e))(h2:mh e=some (hi,e)):mSl m ml mh e=some (.tup (u9_ xs lo hi),e):=by
 unfold mSl;rw[h];simp only[Qj];rw[h1];simp only[Qj];rw[h2];rfl
theorem a2U{ms:Mo (List D)}(h:ms e=some (ds,e1))(hl:ds.length≤1000):x2_ ms e=some (ds,e1):=by
 unfold x2_;rw[h];exact Qn hl
theorem a6Y{ys:List D}(h1:ma e=some (.lst xs,e1))(h2:mb e1=some (.lst ys,e2))(hl:xs.length+ys.length≤10000):a0E ma mb e=some (xs++ys,e2):=by
 unfold a0E;rw[h1];simp only[Qj];rw[h2];exact Qn hl
theorem c3y(h:isG d n n=true):∃f,d=dT (gm n n f):=by
 cases d<;>first|cases h|skip
 rename_i es;simp only[isG,Qy,Yt,Qu]at h;have hl:(es.map unR).length=n:=by
  have:=h.1;rw[Qv]
  omega
 have hr:∀r∈es.map unR,r.length=n:=fun r hr=>by
  obtain⟨e,he,rfl⟩:=Zn.mp hr;have:=(a4q (h.2 e he)).2
  omega
 refine⟨at2 (es.map unR),?_⟩;rw[←b3P hl hr];show D.tup es=D.tup ((es.map unR).map dR);rw[Zq];refine Yx D.tup ?_
 rw[Zb (f:=dR∘unR) (g:=id) fun e he=>((a4q (h.2 e he)).1).symm]
 simp
theorem a9U(h:isT d=true):∃n f,1≤n/\n≤6/\TabF n f/\d=dT (gm n n f):=by
 have hs:isS d 1 6=true:=by
  unfold isT at h;rw[Qy]at h;exact h.1
 cases d<;>first|cases hs|skip
 rename_i es;have hg:isG (.tup es) (es.length:Int) es.length=true:=by
  simp only[isS,Qy]at hs;simp only[isG,beq_self_eq_true,Yp];exact hs.2
 obtain⟨f,e⟩:=c3y (n:=es.length) hg;have h':=h;rw[e]at h';obtain⟨⟨a,b⟩,c⟩:=a4t.mp h';exact⟨_,f,a,b,c,e⟩
def b4p(o:Option D)(x:Str):Bool:=match o with
 |some (.str y)=>decide (y=x)
 |_=>false
theorem b4q{x:Str}(h:b4p o x=true):o=some (.str x):=by
 unfold b4p at h;split at h
 ·rw[of_decide_eq_true h]
 ·cases h
def b4r(o:Option D):Bool:=match o with
 |some .non=>true
 |_=>false
theorem c3z(h:b4r o=true):o=some .non:=by
 unfold b4r at h;split at h
 ·rfl
 ·cases h
def b4s(o:Option D):Bool:=match o with
 |some (.bl false)=>true
 |_=>false
theorem a9V(h:b4s o=true):o=some (.bl false):=by
 unfold b4s at h;split at h
 ·rfl
 ·cases h
theorem b4t:dEq true (.str "table") (.str "table")=some (.bl false):=a9V (by decide+kernel)
theorem c3A:dEq true (.str "not alike") (.str "not alike")=some (.bl false):=a9V (by decide+kernel)
theorem c3B:dEq true .non .non=some (.bl false):=a9V (by decide+kernel)
theorem b4u:a1t (some ("NoTable":Str))=some (.str "table"):=b4q (by decide+kernel)
theorem c3C:a1t (some ("NotAlike":Str))=some (.str "not alike"):=b4q (by decide+kernel)
theorem c3D:a1t none=some .non:=c3z (by decide+kernel)
theorem b4v{t:Mo Bool}{x:Mx}(h:t e=some (true,e1)):xIf t x y e=x e1:=by unfold xIf;rw[h];rfl
theorem b4w{t:Mo Bool}{x:Mx}(h:t e=some (false,e1)):xIf t x y e=y e1:=by unfold xIf;rw[h];rfl
theorem b4x{x:Mx}{n:Str}(h:x e=some n):a0F x s y e=some n:=by unfold a0F;rw[h]
theorem a9W{x:Mx}(h:x e=none)(h2:s e=some (.nx,e1)):a0F x s y e=y e1:=by unfold a0F;rw[h];dsimp only;rw[h2]
theorem a6Z{x:Mx}{r:Option Str}(h:x e=r):a0F x s xNo e=r:=by
 unfold a0F;rw[h];cases r with
 |some n=>rfl
 |none=>
  dsimp only;cases h2:s e with
  |none=>rfl
  |some p=>
   obtain⟨fl,e1⟩:=p;cases fl<;>rfl
theorem a5z(d:D):a4k [.dat d]=if isT d then none else some ("NoTable":Str):=by
 show a9n [.dat d]=_;unfold a9n;cases h:isT d with
 |true=>
  have e:=a9F d
  rw[h]at e;exact(b4w (e1:=[.dat d]) (a0v (w4_ (c1 rfl e)))).trans rfl
 |false=>
  have e:=a9F d
  rw[h]at e;exact(b4v (e1:=[.dat d]) (a0v (w4_ (c1 rfl e)))).trans rfl
theorem b4y(h:isT d1=false∨isT d2=false):a0p [.dat d1,.dat d2]=some ("NoTable":Str):=by
 show a5q [.dat d1,.dat d2]=_;unfold a5q;cases h1:isT d1 with
 |false=>
  have e:=a5z d1
  rw[h1]at e;exact b4x (a2l (av:=[.d d1]) rfl rfl rfl e)
 |true=>
  have h2:isT d2=false:=by
   rcases h with h|h
   ·rw[h1]at h;cases h
   ·exact h
  have e:=a5z d1
  rw[h1]at e;have e2:=a5z d2;rw[h2]at e2;obtain⟨n,f,a,b,F,rfl⟩:=a9U h1;refine(a9W (e1:=[.dat (dT (gm n n f)),.dat d2]) (a2l (av:=[.d (dT (gm n n f))]) rfl rfl rfl e) (a4X (c1 rfl (a5y a b F)))).trans ?_
  exact b4x (a2l (av:=[.d d2]) rfl rfl rfl e2)
theorem b4z{f g:Nat->Nat->Int}(h1:1≤n)(h6:n≤6)(F:TabF n f)(k1:1≤m)(k6:m≤6)(G:TabF m g):a0p [.dat (dT (gm n n f)),.dat (dT (gm m m g))]=if n=m then none else some ("NotAlike":Str):=by
 show a5q [.dat (dT (gm n n f)),.dat (dT (gm m m g))]=_;unfold a5q;have t1:isT (dT (gm n n f))=true:=a4t.mpr ⟨⟨h1,h6⟩,F⟩;have t2:isT (dT (gm m m g))=true:=a4t.mpr ⟨⟨k1,k6⟩,G⟩;have e:=a5z (dT (gm n n f));rw[t1]at e;have e2:=a5z (dT (gm m m g));rw[t2]at e2;have l1:q6_ [dT (gm n n f)]=some (.int (n:Int)):=a2r;have l2:q6_ [dT (gm m m g)]=some (.int (m:Int)):=a2r;have u1:=a5y h1 h6 F;have u2:=a5y k1 k6 G;generalize dT (gm n n f)=A at *;generalize dT (gm m m g)=C at *;refine(a9W (e1:=[.dat A,.dat C]) (a2l (av:=[.d A]) rfl rfl rfl e) (a4X (c1 rfl u1))).trans ?_
 refine(a9W (e1:=[.dat A,.dat C]) (a2l (av:=[.d C]) rfl rfl rfl e2) (a4X (c1 rfl u2))).trans ?_
 refine a6Z ?_
 by_cases hn:n=m
 ·subst hn
  rw[Qn rfl];refine(b4w (e1:=[.dat A,.dat C]) (w4_ (v0_ (x5_ (q4_ rfl rfl) l1) (x5_ (q4_ rfl rfl) l2) ?_))).trans rfl;rw[a3V];simp
 ·rw[Qe hn]
  refine(b4v (e1:=[.dat A,.dat C]) (w4_ (v0_ (x5_ (q4_ rfl rfl) l1) (x5_ (q4_ rfl rfl) l2) ?_))).trans rfl;rw[a3V];have:((n:Int)==(m:Int))=false:=by
   rw[Jg]
   omega
  rw[this]
  rfl
theorem c3E(d1 d2:D):a1L [.dat d1,.dat d2]=a0p [.dat d1,.dat d2]:=a6Z (a2l (av:=[.d d1,.d d2]) rfl rfl rfl rfl)
theorem c3F(d1 d2:D):a1N [.dat d1,.dat d2]=a0p [.dat d1,.dat d2]:=a6Z (a2l (av:=[.d d1,.d d2]) rfl rfl rfl rfl)
theorem c3G(d1 d2:D):a1P [.dat d1,.dat d2]=a0p [.dat d1,.dat d2]:=a6Z (a2l (av:=[.d d1,.d d2]) rfl rfl rfl rfl)
theorem b4A:a0V (.int 10) (.int 29)=some (.int 100000000000000000000000000000):=b3B (by decide+kernel) (by decide+kernel)
theorem b4B{a:Int}(h1:1≤n)(h6:n≤6)(hl:R.length=n)(hr:∀r∈R,r.length=n)(ha:0≤a):∃d a',a2T [.par [.int a,.bl b],.dat (dT R)]=some (.d d,[.par [.int a',.bl b],.dat (dT R)])/\0≤a':=by
 obtain⟨v1,a1,t1,p1,q1,a10⟩:=a3H (i:=0) (e:=[.par [.int a,.bl b],.dat (dT R),.nil,.nil,.nil,.nil,.nil,.nil,.nil,.nil]) (w:=.par [.int a,.bl b]) (k:=(n:Int)) (M:=mCB q6_ (z1_ (z0_ 1) z3_)) rfl rfl (by show some (D.int ((R.map dR).length:Nat),_)=_;rw[Qv,hl]) ha (by omega) (by omega)
 change mCD 2 _ _ _=some (_,[.par [.int a1,.bl b],.dat (dT R),.nil,.nil,.nil,.nil,.nil,.nil,.nil,.nil])at t1;obtain⟨v2,a2,t2,p2,q2,a20⟩:=a3H (i:=0) (e:=[.par [.int a1,.bl b],.dat (dT R),.nil,.nil,.nil,.nil,.nil,.nil,.nil,.nil]) (w:=.par [.int a1,.bl b]) (k:=(n:Int)) (M:=mCB q6_ (z1_ (z0_ 1) z3_)) rfl rfl (by show some (D.int ((R.map dR).length:Nat),_)=_;rw[Qv,hl]) a10 (by omega) (by omega)
 change mCD 2 _ _ _=some (_,[.par [.int a2,.bl b],.dat (dT R),.nil,.nil,.nil,.nil,.nil,.nil,.nil,.nil])at t2;have s1:(a1C 8 9 (z1_ (mCD 2 x6_ (y6_ 0 (z6_ (mCB q6_ (z1_ (z0_ 1) z3_)) z8_))) (z1_ (mCD 2 x6_ (y6_ 0 (z6_ (mCB q6_ (z1_ (z0_ 1) z3_)) z8_))) z3_))) [.par [.int a,.bl b],.dat (dT R),.nil,.nil,.nil,.nil,.nil,.nil,.nil,.nil]=some (.nx,[.par [.int a2,.bl b],.dat (dT R),.nil,.nil,.nil,.nil,.nil,.nil,.dat (.int v1),.dat (.int v2)]):=a6H (e1:=[.par [.int a2,.bl b],.dat (dT R),.nil,.nil,.nil,.nil,.nil,.nil,.nil,.nil]) (q4_ t1 (q4_ t2 rfl)) rfl;have hv1:v1.toNat<R.length:=by omega
 have hv1':((v1.toNat:Nat):Int)=v1:=by omega
 generalize hrr:R[v1.toNat]=r;have hrl:r.length=n:=by rw[←hrr];exact hr _ (Jz hv1)
 have ixr:dIx (dT R) (.int v1)=some (dR r):=by
  rw[←hv1'];exact a0A (xs:=R.map dR) (by rw[Zj,Zx hv1,hrr];rfl)
 have s2':(v1_ 2 (z5_ dIx (z0_ 1) (z0_ 8))) [.par [.int a2,.bl b],.dat (dT R),.nil,.nil,.nil,.nil,.nil,.nil,.dat (.int v1),.dat (.int v2)]=some (.nx,[.par [.int a2,.bl b],.dat (dT R),.dat (dR r),.nil,.nil,.nil,.nil,.nil,.dat (.int v1),.dat (.int v2)]):=a0n (e1:=[.par [.int a2,.bl b],.dat (dT R),.nil,.nil,.nil,.nil,.nil,.nil,.dat (.int v1),.dat (.int v2)]) (v0_ rfl rfl ixr) rfl
 obtain⟨v3,a3,t3,p3,q3,a30⟩:=a3H (i:=0) (e:=[.par [.int a2,.bl b],.dat (dT R),.dat (dR r),.nil,.nil,.nil,.nil,.nil,.dat (.int v1),.dat (.int v2)]) (w:=.par [.int a2,.bl b]) (k:=12) (M:=mC (.int 12)) rfl rfl rfl a20 (by omega) (by omega)
 change mCD 2 _ _ _=some (_,[.par [.int a3,.bl b],.dat (dT R),.dat (dR r),.nil,.nil,.nil,.nil,.nil,.dat (.int v1),.dat (.int v2)])at t3;have hv2:v2.toNat<r.length:=by omega
 have hv2':((v2.toNat:Nat):Int)=v2:=by omega
 obtain⟨xk,ixk⟩:∃x,dIx (dR r) (.int v2)=some (.int x):=by
  rw[←hv2'];exact⟨_,a0A (xs:=r.map D.int) (by rw[Zj,Zx hv2];rfl)⟩
 obtain⟨odd,_,hodd⟩:=a4u (ds:=[.int 0,.int 1,.int (-1),.int 2,.int (-2),.bl true,.bl false,.non,.str "1",.tup [.int 1],.int 100000000000000000000000000000,.int (-xk)]) p3 q3;have ng:j8_ (z5_ dIx (z0_ 2) (z0_ 9)) [.par [.int a2,.bl b],.dat (dT R),.dat (dR r),.nil,.nil,.nil,.nil,.nil,.dat (.int v1),.dat (.int v2)]=some (.int (-xk),[.par [.int a2,.bl b],.dat (dT R),.dat (dR r),.nil,.nil,.nil,.nil,.nil,.dat (.int v1),.dat (.int v2)]):=by
  unfold j8_;rw[v0_ (e1:=[.par [.int a2,.bl b],.dat (dT R),.dat (dR r),.nil,.nil,.nil,.nil,.nil,.dat (.int v1),.dat (.int v2)]) (e2:=[.par [.int a2,.bl b],.dat (dT R),.dat (dR r),.nil,.nil,.nil,.nil,.nil,.dat (.int v1),.dat (.int v2)]) rfl rfl ixk]
  rfl
 have s3':(v1_ 3 (z5_ dIx (mF (x2_ (z1_ (mC (.int 0)) (z1_ (mC (.int 1)) (z1_ (j8_ (mC (.int 1))) (z1_ (mC (.int 2)) (z1_ (j8_ (mC (.int 2))) (z1_ (mC (.bl true)) (z1_ (mC (.bl false)) (z1_ (mC .non) (z1_ (mC (.str "1")) (z1_ (v5_ (z1_ (mC (.int 1)) z3_)) (z1_ (z5_ a0V (mC (.int 10)) (mC (.int 29))) (z1_ (j8_ (z5_ dIx (z0_ 2) (z0_ 9))) z3_)))))))))))))) (mCD 2 x6_ (y6_ 0 (z6_ (mC (.int 12)) z8_))))) [.par [.int a2,.bl b],.dat (dT R),.dat (dR r),.nil,.nil,.nil,.nil,.nil,.dat (.int v1),.dat (.int v2)]=some (.nx,[.par [.int a3,.bl b],.dat (dT R),.dat (dR r),.dat odd,.nil,.nil,.nil,.nil,.dat (.int v1),.dat (.int v2)]):=a0n (e1:=[.par [.int a3,.bl b],.dat (dT R),.dat (dR r),.nil,.nil,.nil,.nil,.nil,.dat (.int v1),.dat (.int v2)]) (v0_ (k3_ (a2U (q4_ rfl (q4_ rfl (q4_ rfl (q4_ rfl (q4_ rfl (q4_ rfl (q4_ rfl (q4_ rfl (q4_ rfl (q4_ rfl (q4_ (v0_ rfl rfl b4A) (q4_ ng rfl)))))))))))) (by simp))) t3 hodd) rfl
 have cl:∀lo hi,(u9_ (r.map D.int) lo hi).length≤6:=fun lo hi=>Zm (b4o _ _ _) (by rw[Qv];omega)
 have cl2:∀lo hi,(u9_ (R.map dR) lo hi).length≤6:=fun lo hi=>Zm (b4o _ _ _) (by rw[Qv];omega)
 obtain⟨rw4,hrw4,s4'⟩:∃rw4:List D,rw4.length=4/\(v1_ 4 (mF (x2_ (z1_ (z5_ v3_ (z5_ v3_ (mSl (z0_ 2) k1_ (k2_ (z0_ 9))) (v5_ (z1_ (z0_ 3) z3_))) (mSl (z0_ 2) (k2_ (z5_ v3_ (z0_ 9) (mC (.int 1)))) k1_)) (z1_ (z5_ v3_ (z5_ v3_ (mSl (z0_ 2) k1_ (k2_ (z0_ 9))) (v5_ (z1_ (z0_ 3) z3_))) (mSl (z0_ 2) (k2_ (z0_ 9)) k1_)) (z1_ (z5_ v3_ (mSl (z0_ 2) k1_ (k2_ (z0_ 9))) (mSl (z0_ 2) (k2_ (z5_ v3_ (z0_ 9) (mC (.int 1)))) k1_)) (z1_ (mF (mCL a1m (z1_ (z0_ 2) z3_))) z3_))))))) [.par [.int a3,.bl b],.dat (dT R),.dat (dR r),.dat odd,.nil,.nil,.nil,.nil,.dat (.int v1),.dat (.int v2)]=some (.nx,[.par [.int a3,.bl b],.dat (dT R),.dat (dR r),.dat odd,.dat (.lst rw4),.nil,.nil,.nil,.dat (.int v1),.dat (.int v2)]):=by
  refine⟨[_,_,_,_],?_,a0n (e1:=[.par [.int a3,.bl b],.dat (dT R),.dat (dR r),.dat odd,.nil,.nil,.nil,.nil,.dat (.int v1),.dat (.int v2)]) (k3_ (a2U (q4_
   (v0_ (v0_ (a0J rfl rfl rfl) rfl (a1i ?_)) (a0J rfl rfl rfl) (a1i ?_)) (q4_
   (v0_ (v0_ (a0J rfl rfl rfl) rfl (a1i ?_)) (a0J rfl rfl rfl) (a1i ?_)) (q4_
   (v0_ (a0J rfl rfl rfl) (a0J rfl rfl rfl) (a1i ?_)) (q4_ rfl rfl)))) (by simp))) rfl⟩
  ·rfl
  ·have:=cl none (some v2);simp;omega
  ·have:=cl none (some v2);have:=cl (some (v2+1)) none;simp;omega
  ·have:=cl none (some v2);simp;omega
  ·have:=cl none (some v2);have:=cl (some v2) none;simp;omega
  ·have:=cl none (some v2);have:=cl (some (v2+1)) none;omega
 obtain⟨v4,a4,t4,p4,q4,a40⟩:=a3H (i:=0) (e:=[.par [.int a3,.bl b],.dat (dT R),.dat (dR r),.dat odd,.dat (.lst rw4),.nil,.nil,.nil,.dat (.int v1),.dat (.int v2)]) (w:=.par [.int a3,.bl b]) (k:=10) (M:=mC (.int 10)) rfl rfl rfl a30 (by omega) (by omega)
 change mCD 2 _ _ _=some (_,[.par [.int a4,.bl b],.dat (dT R),.dat (dR r),.dat odd,.dat (.lst rw4),.nil,.nil,.nil,.dat (.int v1),.dat (.int v2)])at t4;obtain⟨j4,hj4,ej4⟩:=b4n (L:=[0,0,0,0,0,1,2,3,4,5]) p4 q4;obtain⟨one,_,hone⟩:=a4u (ds:=rw4++[dR r.reverse,.non]) (v:=j4) (by simp at hj4;omega) (by simp at hj4;simp[hrw4];omega)
 have rv:a3S (z0_ 2) [.par [.int a3,.bl b],.dat (dT R),.dat (dR r),.dat odd,.dat (.lst rw4),.nil,.nil,.nil,.dat (.int v1),.dat (.int v2)]=some (dR r.reverse,[.par [.int a3,.bl b],.dat (dT R),.dat (dR r),.dat odd,.dat (.lst rw4),.nil,.nil,.nil,.dat (.int v1),.dat (.int v2)]):=by
  show some (D.tup (r.map D.int).reverse,_)=_;rw[←List.map_reverse]
  rfl
 have s5:(v1_ 5 (z5_ dIx (mF (a0E (z0_ 4) (mF (x2_ (z1_ (a3S (z0_ 2)) (z1_ (mC .non) z3_)))))) (z5_ dIx (mF (x2_ (z1_ (mC (.int 0)) (z1_ (mC (.int 0)) (z1_ (mC (.int 0)) (z1_ (mC (.int 0)) (z1_ (mC (.int 0)) (z1_ (mC (.int 1)) (z1_ (mC (.int 2)) (z1_ (mC (.int 3)) (z1_ (mC (.int 4)) (z1_ (mC (.int 5)) z3_)))))))))))) (mCD 2 x6_ (y6_ 0 (z6_ (mC (.int 10)) z8_)))))) [.par [.int a3,.bl b],.dat (dT R),.dat (dR r),.dat odd,.dat (.lst rw4),.nil,.nil,.nil,.dat (.int v1),.dat (.int v2)]=some (.nx,[.par [.int a4,.bl b],.dat (dT R),.dat (dR r),.dat odd,.dat (.lst rw4),.dat one,.nil,.nil,.dat (.int v1),.dat (.int v2)]):=a0n (e1:=[.par [.int a4,.bl b],.dat (dT R),.dat (dR r),.dat odd,.dat (.lst rw4),.nil,.nil,.nil,.dat (.int v1),.dat (.int v2)]) (v0_ (k3_ (a6Y (e1:=[.par [.int a3,.bl b],.dat (dT R),.dat (dR r),.dat odd,.dat (.lst rw4),.nil,.nil,.nil,.dat (.int v1),.dat (.int v2)]) (e2:=[.par [.int a3,.bl b],.dat (dT R),.dat (dR r),.dat odd,.dat (.lst rw4),.nil,.nil,.nil,.dat (.int v1),.dat (.int v2)]) rfl (k3_ (a2U (q4_ rv (q4_ rfl rfl)) (by simp))) (by simp[hrw4]))) (v0_ rfl t4 ej4) hone) rfl
 obtain⟨v5,a5,t5,p5,q5,a50⟩:=a3H (i:=0) (e:=[.par [.int a4,.bl b],.dat (dT R),.dat (dR r),.dat odd,.dat (.lst rw4),.dat one,.nil,.nil,.dat (.int v1),.dat (.int v2)]) (w:=.par [.int a4,.bl b]) (k:=(n:Int)) (M:=mCB q6_ (z1_ (z0_ 1) z3_)) rfl rfl (by show some (D.int ((R.map dR).length:Nat),_)=_;rw[Qv,hl]) a40 (by omega) (by omega)
 change mCD 2 _ _ _=some (_,[.par [.int a5,.bl b],.dat (dT R),.dat (dR r),.dat odd,.dat (.lst rw4),.dat one,.nil,.nil,.dat (.int v1),.dat (.int v2)])at t5;have hv5:v5.toNat<R.length:=by omega
 have hv5':((v5.toNat:Nat):Int)=v5:=by omega
 obtain⟨oth,hoth⟩:∃oth,dIx (dT R) (.int v5)=some oth:=by
  rw[←hv5'];exact⟨_,a0A (xs:=R.map dR) (by rw[Zj,Zx hv5];rfl)⟩
 have s6:(v1_ 6 (z5_ dIx (z0_ 1) (mCD 2 x6_ (y6_ 0 (z6_ (mCB q6_ (z1_ (z0_ 1) z3_)) z8_))))) [.par [.int a4,.bl b],.dat (dT R),.dat (dR r),.dat odd,.dat (.lst rw4),.dat one,.nil,.nil,.dat (.int v1),.dat (.int v2)]=some (.nx,[.par [.int a5,.bl b],.dat (dT R),.dat (dR r),.dat odd,.dat (.lst rw4),.dat one,.dat oth,.nil,.dat (.int v1),.dat (.int v2)]):=a0n (e1:=[.par [.int a5,.bl b],.dat (dT R),.dat (dR r),.dat odd,.dat (.lst rw4),.dat one,.nil,.nil,.dat (.int v1),.dat (.int v2)]) (v0_ rfl t5 hoth) rfl
 obtain⟨s2,hs2,s7⟩:∃s2:List D,s2.length=2/\(v1_ 7 (mF (x2_ (z1_ (z5_ v3_ (z5_ v3_ (mSl (z0_ 1) k1_ (k2_ (z0_ 8))) (v5_ (z1_ (z0_ 5) z3_))) (mSl (z0_ 1) (k2_ (z5_ v3_ (z0_ 8) (mC (.int 1)))) k1_)) (z1_ (z5_ v3_ (z5_ v3_ (mSl (z0_ 1) k1_ (k2_ (z0_ 8))) (v5_ (z1_ (z0_ 6) z3_))) (mSl (z0_ 1) (k2_ (z5_ v3_ (z0_ 8) (mC (.int 1)))) k1_)) z3_))))) [.par [.int a5,.bl b],.dat (dT R),.dat (dR r),.dat odd,.dat (.lst rw4),.dat one,.dat oth,.nil,.dat (.int v1),.dat (.int v2)]=some (.nx,[.par [.int a5,.bl b],.dat (dT R),.dat (dR r),.dat odd,.dat (.lst rw4),.dat one,.dat oth,.dat (.lst s2),.dat (.int v1),.dat (.int v2)]):=by
  refine⟨[_,_],?_,a0n (e1:=[.par [.int a5,.bl b],.dat (dT R),.dat (dR r),.dat odd,.dat (.lst rw4),.dat one,.dat oth,.nil,.dat (.int v1),.dat (.int v2)]) (k3_ (a2U (q4_
   (v0_ (v0_ (a0J rfl rfl rfl) rfl (a1i ?_)) (a0J rfl rfl rfl) (a1i ?_)) (q4_
   (v0_ (v0_ (a0J rfl rfl rfl) rfl (a1i ?_)) (a0J rfl rfl rfl) (a1i ?_)) rfl)) (by simp))) rfl⟩
  ·rfl
  ·have:=cl2 none (some v1);simp;omega
  ·have:=cl2 none (some v1);have:=cl2 (some (v1+1)) none;simp;omega
  ·have:=cl2 none (some v1);simp;omega
  ·have:=cl2 none (some v1);have:=cl2 (some (v1+1)) none;simp;omega
 obtain⟨s4,hs4,s8⟩:∃s4:List D,s4.length=4/\(v1_ 7 (mF (a0E (z0_ 7) (mF (x2_ (z1_ (z5_ v3_ (mSl (z0_ 1) k1_ (k2_ (z0_ 8))) (mSl (z0_ 1) (k2_ (z5_ v3_ (z0_ 8) (mC (.int 1)))) k1_)) (z1_ (z5_ v3_ (z5_ v3_ (mSl (z0_ 1) k1_ (k2_ (z0_ 8))) (v5_ (z1_ (z0_ 2) z3_))) (mSl (z0_ 1) (k2_ (z0_ 8)) k1_)) (z1_ (mF (mCL a1m (z1_ (z0_ 1) z3_))) (z1_ (a3S (z0_ 1)) z3_))))))))) [.par [.int a5,.bl b],.dat (dT R),.dat (dR r),.dat odd,.dat (.lst rw4),.dat one,.dat oth,.dat (.lst s2),.dat (.int v1),.dat (.int v2)]=some (.nx,[.par [.int a5,.bl b],.dat (dT R),.dat (dR r),.dat odd,.dat (.lst rw4),.dat one,.dat oth,.dat (.lst (s2++s4)),.dat (.int v1),.dat (.int v2)]):=by
  refine⟨[_,_,_,_],?_,a0n (e1:=[.par [.int a5,.bl b],.dat (dT R),.dat (dR r),.dat odd,.dat (.lst rw4),.dat one,.dat oth,.dat (.lst s2),.dat (.int v1),.dat (.int v2)]) (k3_ (a6Y (e1:=[.par [.int a5,.bl b],.dat (dT R),.dat (dR r),.dat odd,.dat (.lst rw4),.dat one,.dat oth,.dat (.lst s2),.dat (.int v1),.dat (.int v2)]) (e2:=[.par [.int a5,.bl b],.dat (dT R),.dat (dR r),.dat odd,.dat (.lst rw4),.dat one,.dat oth,.dat (.lst s2),.dat (.int v1),.dat (.int v2)]) rfl (k3_ (a2U (q4_
   (v0_ (a0J rfl rfl rfl) (a0J rfl rfl rfl) (a1i ?_)) (q4_
   (v0_ (v0_ (a0J rfl rfl rfl) rfl (a1i ?_)) (a0J rfl rfl rfl) (a1i ?_)) (q4_ rfl (q4_ rfl rfl)))) (by simp))) (by simp[hs2]))) rfl⟩
  ·rfl
  ·have:=cl2 none (some v1);have:=cl2 (some (v1+1)) none;omega
  ·have:=cl2 none (some v1);simp;omega
  ·have:=cl2 none (some v1);have:=cl2 (some v1) none;simp;omega
 obtain⟨s3,hs3,s9⟩:∃s3:List D,s3.length=3/\(v1_ 7 (mF (a0E (z0_ 7) (mF (x2_ (z1_ (v5_ (z1_ (z0_ 1) z3_)) (z1_ (mC .non) (z1_ (z0_ 2) z3_)))))))) [.par [.int a5,.bl b],.dat (dT R),.dat (dR r),.dat odd,.dat (.lst rw4),.dat one,.dat oth,.dat (.lst (s2++s4)),.dat (.int v1),.dat (.int v2)]=some (.nx,[.par [.int a5,.bl b],.dat (dT R),.dat (dR r),.dat odd,.dat (.lst rw4),.dat one,.dat oth,.dat (.lst (s2++s4++s3)),.dat (.int v1),.dat (.int v2)]):=
  ⟨[_,_,_],rfl,a0n (e1:=[.par [.int a5,.bl b],.dat (dT R),.dat (dR r),.dat odd,.dat (.lst rw4),.dat one,.dat oth,.dat (.lst (s2++s4)),.dat (.int v1),.dat (.int v2)]) (k3_ (a6Y (e1:=[.par [.int a5,.bl b],.dat (dT R),.dat (dR r),.dat odd,.dat (.lst rw4),.dat one,.dat oth,.dat (.lst (s2++s4)),.dat (.int v1),.dat (.int v2)]) (e2:=[.par [.int a5,.bl b],.dat (dT R),.dat (dR r),.dat odd,.dat (.lst rw4),.dat one,.dat oth,.dat (.lst (s2++s4)),.dat (.int v1),.dat (.int v2)]) rfl (k3_ (a2U (q4_ rfl (q4_ rfl (q4_ rfl rfl))) (by simp))) (by simp[hs2,hs4]))) rfl⟩
 obtain⟨v6,a6,t6,p6,q6,a60⟩:=a3H (i:=0) (e:=[.par [.int a5,.bl b],.dat (dT R),.dat (dR r),.dat odd,.dat (.lst rw4),.dat one,.dat oth,.dat (.lst (s2++s4++s3)),.dat (.int v1),.dat (.int v2)]) (w:=.par [.int a5,.bl b]) (k:=13) (M:=mC (.int 13)) rfl rfl rfl a50 (by omega) (by omega)
 change mCD 2 _ _ _=some (_,[.par [.int a6,.bl b],.dat (dT R),.dat (dR r),.dat odd,.dat (.lst rw4),.dat one,.dat oth,.dat (.lst (s2++s4++s3)),.dat (.int v1),.dat (.int v2)])at t6;obtain⟨j6,hj6,ej6⟩:=b4n (L:=[0,0,0,0,1,1,2,3,4,5,6,7,8]) p6 q6;obtain⟨d,_,hd⟩:=a4u (ds:=s2++s4++s3) (v:=j6) (by simp at hj6;omega) (by simp at hj6;simp[hs2,hs4,hs3];omega)
 refine⟨d,a6,a2O (env:=[.par [.int a6,.bl b],.dat (dT R),.dat (dR r),.dat odd,.dat (.lst rw4),.dat one,.dat oth,.dat (.lst (s2++s4++s3)),.dat (.int v1),.dat (.int v2)]) ?_ rfl,a60⟩;show a9z [.par [.int a,.bl b],.dat (dT R),.nil,.nil,.nil,.nil,.nil,.nil,.nil,.nil]=_;unfold a9z;exact x8_ s1 (x8_ s2' (x8_ s3' (x8_ s4' (x8_ s5 (x8_ s6 (x8_ s7 (x8_ s8 (x8_ s9 (u7_ (v0_ rfl (v0_ rfl t6 ej6) hd))))))))))
theorem c3H{a:Int}(ha:0≤a):∃d a',a4o [.par [.int a,.bl b]]=some (.d d,[.par [.int a',.bl b]])/\0≤a':=by
 obtain⟨v,a1,t,p,q,a10⟩:=a3H (i:=0) (e:=[.par [.int a,.bl b],.dat (.lst [.non,.bl true,.bl false,.int (-1),.int 0,.int 1,.str "",.str "+",.tup [],.lst [],.tup [.bl true],.lst [.tup [.int 1]],.emp,.tup [.non],.tup [.tup [.bl true]]])]) (w:=.par [.int a,.bl b]) (k:=20) (M:=mC (.int 20)) rfl rfl rfl ha (by omega) (by omega)
 change mCD 2 _ _ _=some (_,[.par [.int a1,.bl b],.dat (.lst [.non,.bl true,.bl false,.int (-1),.int 0,.int 1,.str "",.str "+",.tup [],.lst [],.tup [.bl true],.lst [.tup [.int 1]],.emp,.tup [.non],.tup [.tup [.bl true]]])])at t;obtain⟨d,hd,ed⟩:=a4u (ds:=[.non,.bl true,.bl false,.int (-1),.int 0,.int 1,.str "",.str "+",.tup [],.lst [],.tup [.bl true],.lst [.tup [.int 1]],.emp,.tup [.non],.tup [.tup [.bl true]],.int 100000000000000000000000000000,.tup [.tup []],.tup [.tup [.int 0]],.tup [.tup [.int 1],.tup [.int 1]],.tup [.tup [.tup [.int 1]]]]) p q;refine⟨d,a1,a2O (d:=d) (env:=[.par [.int a1,.bl b],.dat (.lst [.non,.bl true,.bl false,.int (-1),.int 0,.int 1,.str "",.str "+",.tup [],.lst [],.tup [.bl true],.lst [.tup [.int 1]],.emp,.tup [.non],.tup [.tup [.bl true]]])]) ?_ rfl,a10⟩;show a9y [.par [.int a,.bl b],.nil]=_;unfold a9y;refine x8_ (e1:=[.par [.int a,.bl b],.dat (.lst [.non,.bl true,.bl false,.int (-1),.int 0,.int 1,.str "",.str "+",.tup [],.lst [],.tup [.bl true],.lst [.tup [.int 1]],.emp,.tup [.non],.tup [.tup [.bl true]]])]) rfl (u7_ (v0_ (k3_ (a6Y rfl (k3_ (a2U (q4_ (v0_ rfl rfl b4A) (q4_ rfl (q4_ rfl (q4_ rfl (q4_ rfl rfl))))) (by simp))) (by simp))) t ed))
theorem b4C{α:Type}{g:D->Env'->Option Env'}{b:Mo Fl}{P:Env'->Prop}{q:α->D}{ok:α->Bool}{r:D}:∀{l:List α}{env:Env'},(∀x∈l,∀e,P e->∃e1 e2,g (q x) e=some e1/\b e1=some (stop (ok x) r,e2)/\P e2)->P env->∃env',loop g b (l.map q) env=some (stop (l.all ok) r,env')/\P env'
 |[],env,_,p=>⟨env,rfl,p⟩
 |d::ds,env,h,p=>by
  obtain⟨e1,e2,h1,h2,h3⟩:=h d (by simp) env p
  by_cases hk:ok d=true
  ·obtain⟨e3,h4,h5⟩:=b4C (l:=ds) (fun x hx=>h x (by simp[hx])) h3
   refine⟨e3,?_,h5⟩;rw[Qr];unfold loop;rw[h1];simp only[Qj];rw[h2,hk,Jl,hk,Yp];exact h4
  ·have hk':ok d=false:=by simpa using hk
   refine⟨e2,?_,h3⟩;rw[Qr];unfold loop;rw[h1];simp only[Qj];rw[h2,hk',Jl,hk',Ja];rfl
theorem b4D{α:Type}(p:α->Bool):∀l:List α,a2e (l.map fun x=>D.bl (p x))=some (l.any p)
 |[]=>rfl
 |a::l=>by
  show(a2e (l.map fun x=>D.bl (p x))).map _=_
  rw[b4D p l]
  rfl
theorem c3I(p:α->Bool)(l:List α):a3X [.lst (l.map fun x=>D.bl (p x))]=some (.bl (l.any p)):=by
 show(a2e (l.map fun x=>D.bl (p x))).map _=_
 rw[b4D p l]
 rfl
abbrev c3J:Mo Fl:=(y9_ (mT (mCB a3X (z1_ (mF (v9_ (a0c (z1_ (z0_ 4) (z1_ (z0_ 5) z3_))) [false,false,false,false,false,false] 2 (gT 2 (gCn (gN 6) (gCn (gN 7) gNl))) v6_ (z5_ dLt (z0_ 6) (z0_ 7)))) z3_))) (y0_ (mC (.bl false))) mNx)
theorem c3K{f g:Nat->Nat->Int}(h6:n≤6):∃ws,a3D [.dat (dT (gm n n f)),.dat (dT (gm n n g))]=some (.d (.bl (bel (n+1) (HH f) (HH g))),ws):=by
 have e1:=a9R (f:=f) h6
 have e2:=a9R (f:=g) h6
 have i1:(dT (gm (n+1) (n+1) (HH f))).items=some ((List.range (n+1)).map fun i=>dR (rw' (n+1) (HH f i))):=a6U
 have i2:(dT (gm (n+1) (n+1) (HH g))).items=some ((List.range (n+1)).map fun i=>dR (rw' (n+1) (HH g i))):=a6U
 generalize dT (gm (n+1) (n+1) (HH f))=L at *;generalize dT (gm (n+1) (n+1) (HH g))=M at *;generalize dT (gm n n f)=A at *;generalize dT (gm n n g)=C at *;obtain⟨e',h,w2,w3,rfl⟩:=b4C (g:=gT 2 (gCn (gN 4) (gCn (gN 5) gNl))) (b:=c3J) (P:=fun e=>∃w2 w3,e=[.dat A,.dat C,.dat L,.dat M,w2,w3]) (q:=fun i=>.tup [dR (rw' (n+1) (HH f i)),dR (rw' (n+1) (HH g i))]) (ok:=fun i=>(List.range (n+1)).all fun j=>decide (HH g i j≤HH f i j)) (r:=.bl false) (l:=List.range (n+1)) (env:=[.dat A,.dat C,.dat L,.dat M,.nil,.nil]) (fun i hi e ⟨w2,w3,he⟩=>by
  subst he;refine⟨[.dat A,.dat C,.dat L,.dat M,.dat (dR (rw' (n+1) (HH f i))),.dat (dR (rw' (n+1) (HH g i)))],[.dat A,.dat C,.dat L,.dat M,.dat (dR (rw' (n+1) (HH f i))),.dat (dR (rw' (n+1) (HH g i)))],rfl,?_,_,_,rfl⟩;have ha:(mCB a3X (z1_ (mF (v9_ (a0c (z1_ (z0_ 4) (z1_ (z0_ 5) z3_))) [false,false,false,false,false,false] 2 (gT 2 (gCn (gN 6) (gCn (gN 7) gNl))) v6_ (z5_ dLt (z0_ 6) (z0_ 7)))) z3_)) [.dat A,.dat C,.dat L,.dat M,.dat (dR (rw' (n+1) (HH f i))),.dat (dR (rw' (n+1) (HH g i)))]=some (.bl ((List.range (n+1)).any fun j=>decide (HH f i j<HH g i j)),[.dat A,.dat C,.dat L,.dat M,.dat (dR (rw' (n+1) (HH f i))),.dat (dR (rw' (n+1) (HH g i)))]):=
   x5_ (q4_ (k3_ (a5h (α:=Nat) (l:=List.range (n+1)) (q:=fun j=>.int (HH f i j)) (q2:=fun j=>.int (HH g i j)) (f:=fun j=>.bl (decide (HH f i j<HH g i j))) (base:=[.nil,.nil,.nil,.nil,.nil,.nil]) (a5k rfl a6V a6V) (by simp;omega) rfl rfl (fun j _=>rfl) (fun _ _=>rfl))) rfl) (c3I _ _)
  have hq:((List.range (n+1)).all fun j=>decide (HH g i j≤HH f i j))=!((List.range (n+1)).any fun j=>decide (HH f i j<HH g i j)):=by
   rw[List.not_any_eq_all_not]
   congr 1
   funext j
   rw[←decide_not];exact decide_eq_decide.mpr (by omega)
  rw[hq];cases hb:(List.range (n+1)).any fun j=>decide (HH f i j<HH g i j)with
  |true=>
   rw[hb]at ha;exact a5j (w4_ ha) rfl
  |false=>
   rw[hb]at ha;exact a2N (w4_ ha) rfl) ⟨_,_,rfl⟩
 refine⟨_,a2O (env:=[.dat A,.dat C,.dat L,.dat M,w2,w3]) ?_ rfl⟩;show a9E [.dat A,.dat C,.nil,.nil,.nil,.nil]=_;unfold a9E;have h':=(a1G (mi:=a0c (z1_ (z0_ 2) (z1_ (z0_ 3) z3_))) (env:=[.dat A,.dat C,.dat L,.dat M,.nil,.nil]) (a5k rfl i1 i2)).trans h;change _=some (stop (bel (n+1) (HH f) (HH g)) _,_)at h';refine x8_ (a6H (e1:=[.dat A,.dat C,.nil,.nil,.nil,.nil]) (q4_ (c1 rfl e1) (q4_ (c1 rfl e2) rfl)) rfl) ?_
 cases hb:bel (n+1) (HH f) (HH g)with
 |true=>
  rw[hb]at h';exact x8_ h' rfl
 |false=>
  rw[hb]at h';exact a1p h'
abbrev a7a:List (Str×(List W->Option Str)):=[("is_below",a1L),("both_below",a1N),("both_above",a1P)]
abbrev a9X:List (Str×Fn):=[("is_below",a0R),("both_below",a1M),("both_above",a1O)]
def a2V(nm:Str):Prop:=∃g fn,a7a.lookup nm=some g/\a9X.lookup nm=some fn/\(∀d1 d2,g [.dat d1,.dat d2]=a0p [.dat d1,.dat d2])/\(∀n f g,1≤n->n≤6->TabF n f->TabF n g->∃r ws,fn [.dat (dT (gm n n f)),.dat (dT (gm n n g))]=some (.d r,ws))
theorem c3L:a2V "is_below":=⟨a1L,a0R,by rfl,by rfl,c3E,fun n f g h1 h6 F G=>⟨_,_,b3X h1 h6 F G⟩⟩
theorem c3M:a2V "both_below":=⟨a1N,a1M,by rfl,by rfl,c3F,fun n f g h1 h6 F G=>⟨_,_,c3d h1 h6 F G⟩⟩
theorem c3N:a2V "both_above":=⟨a1P,a1O,by rfl,by rfl,c3G,fun n f g h1 h6 F G=>⟨_,_,c3e h1 h6 F G⟩⟩
abbrev nmL:List Str:=["NoTable","NoHeights","NoNet","NoPlace","NoTriangle","NoRow","NoNumber","NoTurn","NotAlike","NoStep","NoRows","TooMany","BadNote"]
abbrev rfM:Mo D:=a1I nmL [false,false,false,false,false,false,false,false,false,true,true,false,false,false,false,true] (mCV 2 15 a9X (z6_ (z0_ 9) (z6_ (z0_ 10) z8_))) (xCV 2 15 a7a (z6_ (z0_ 9) (z6_ (z0_ 10) z8_))) a1t
abbrev lwF(d1 d2:D)(nm:Str):Env':=[.nil,.nil,.nil,.nil,.nil,.nil,.nil,.nil,.nil,.dat d1,.dat d2,.nil,.nil,.nil,.nil,.dat (.obj (.fn nm))]
theorem b4E{nm:Str}(t:a2V nm):xCV 2 15 a7a (z6_ (z0_ 9) (z6_ (z0_ 10) z8_)) (lwF d1 d2 nm)=a0p [.dat d1,.dat d2]:=by
 obtain⟨g,fn,h1,h2,h3,h4⟩:=t;show(a7a.lookup nm).bind _=_;rw[h1,Qj];exact a2l (av:=[.d d1,.d d2]) rfl rfl rfl (h3 d1 d2)
section
variable{nm:Str}{w11 w12 w13 w14:W}
abbrev u0_(w0 w1 w2 w3 w4 w5 w6 w7 w8:W)(d1 d2:D)(w11 w12 w13 w14 w15:W):Env':=[w0,w1,w2,w3,w4,w5,w6,w7,w8,.dat d1,.dat d2,w11,w12,w13,w14,w15]
theorem a9Y{n:Str}(t:a2V nm)(hg:a0p [.dat d1,.dat d2]=some n)(hn:nmL.contains n=true)(hf:a1t (some n)=some d):rfM (u0_ w0 w1 w2 w3 w4 w5 w6 w7 w8 d1 d2 w11 w12 w13 w14 (.dat (.obj (.fn nm))))=some (d,u0_ w0 w1 w2 w3 w4 w5 w6 w7 w8 d1 d2 w11 w12 w13 w14 (.dat (.obj (.fn nm)))):=
 c0d (lw:=lwF d1 d2 nm) rfl ((b4E t).trans hg) hn hf
end
theorem c3O{f g:Nat->Nat->Int}{nm:Str}{w11 w12 w13 w14:W}(t:a2V nm)(h1:1≤n)(h6:n≤6)(F:TabF n f)(G:TabF n g):rfM (u0_ w0 w1 w2 w3 w4 w5 w6 w7 w8 (dT (gm n n f)) (dT (gm n n g)) w11 w12 w13 w14 (.dat (.obj (.fn nm))))=some (.non,u0_ w0 w1 w2 w3 w4 w5 w6 w7 w8 (dT (gm n n f)) (dT (gm n n g)) w11 w12 w13 w14 (.dat (.obj (.fn nm)))):=by
 have hg:=b4z h1 h6 F h1 h6 G
 rw[Qn rfl]at hg;have hx:=(b4E (d1:=dT (gm n n f)) (d2:=dT (gm n n g)) t).trans hg;obtain⟨g0,fn,k1,k2,k3,k4⟩:=t;obtain⟨r,ws,e⟩:=k4 n f g h1 h6 F G;refine c0e (lw:=lwF (dT (gm n n f)) (dT (gm n n g)) nm) (p:=(r,lwF (dT (gm n n f)) (dT (gm n n g)) nm)) rfl hx ?_ c3D;show(a9X.lookup nm).bind _=_;rw[k2,Qj];exact c2 rfl rfl e
abbrev ifW:Mo Fl:=y9_ (k6_ (x3_ (mT (mCD 1 a0q (z6_ (z0_ 9) z8_)))) (x3_ (mT (mCD 1 a0q (z6_ (z0_ 10) z8_))))) (v1_ 14 (mC (.str "table"))) (y9_ (mT (z5_ (dEq true) (mCB q6_ (z1_ (z0_ 9) z3_)) (mCB q6_ (z1_ (z0_ 10) z3_)))) (v1_ 14 (mC (.str "not alike"))) mNx)
theorem c3P(d1 d2:D)(w0 w1 w2 w3 w4 w5 w6 w7 w8 w11 w12 w13 w15:W):∃wd,ifW (u0_ w0 w1 w2 w3 w4 w5 w6 w7 w8 d1 d2 w11 w12 w13 (.dat .non) w15)=some (.nx,u0_ w0 w1 w2 w3 w4 w5 w6 w7 w8 d1 d2 w11 w12 w13 (.dat wd) w15)/\dEq true wd wd=some (.bl false)/\
  ∀nm,a2V nm->∀w14,rfM (u0_ w0 w1 w2 w3 w4 w5 w6 w7 w8 d1 d2 w11 w12 w13 w14 (.dat (.obj (.fn nm))))=some (wd,u0_ w0 w1 w2 w3 w4 w5 w6 w7 w8 d1 d2 w11 w12 w13 w14 (.dat (.obj (.fn nm)))):=by
 have t1:=a9L d1
 have t2:=a9L d2
 cases h1:isT d1 with
 |false=>
  rw[h1]at t1;exact⟨.str "table",a5j (b2Q (a0v (b:=false) (w4_ (c1 rfl t1)))) rfl,b4t,fun nm t w14=>a9Y t (b4y (.inl h1)) (by decide+kernel) b4u⟩
 |true=>
  rw[h1]at t1;cases h2:isT d2 with
  |false=>
   rw[h2]at t2;exact⟨.str "table",a5j (a3u (a0v (b:=true) (w4_ (c1 rfl t1))) (a0v (b:=false) (w4_ (c1 rfl t2)))) rfl,b4t,fun nm t w14=>a9Y t (b4y (.inr h2)) (by decide+kernel) b4u⟩
  |true=>
   rw[h2]at t2;obtain⟨n,f,a1,a2,F,rfl⟩:=a9U h1;obtain⟨m,g,b1,b2,G,rfl⟩:=a9U h2;have l1:q6_ [dT (gm n n f)]=some (.int (n:Int)):=a2r;have l2:q6_ [dT (gm m m g)]=some (.int (m:Int)):=a2r;have hg:=b4z a1 a2 F b1 b2 G
   by_cases hn:n=m
   ·subst hn
    refine⟨.non,a2N (a3u (a0v (b:=true) (w4_ (c1 rfl t1))) (a0v (b:=true) (w4_ (c1 rfl t2)))) (a2N (w4_ (v0_ (x5_ (q4_ rfl rfl) l1) (x5_ (q4_ rfl rfl) l2) ?_)) rfl),c3B,fun nm t w14=>c3O t a1 a2 F G⟩
    rw[a3V];simp
   ·rw[Qe hn]at hg
    refine⟨.str "not alike",a2N (a3u (a0v (b:=true) (w4_ (c1 rfl t1))) (a0v (b:=true) (w4_ (c1 rfl t2)))) (a5j (w4_ (v0_ (x5_ (q4_ rfl rfl) l1) (x5_ (q4_ rfl rfl) l2) ?_)) rfl),c3A,fun nm t w14=>a9Y t hg (by decide+kernel) c3C⟩
    rw[a3V];have:((n:Int)==(m:Int))=false:=by
     rw[Jg]
     omega
    rw[this]
    rfl
theorem Tab.fn{T:List (List Int)}(t:Tab T)(hn:T.length=n):∃f,T=gm n n f/\TabF n f:=by
 have e:=b3P (n:=n) hn (by rw[←hn];exact t.len)
 refine⟨at2 T,e,?_⟩;have:=t.ok;rw[e]at this;exact(a4t.mp this).2
abbrev lw:Mo Fl:=(q1_ (j3_ 2 (a0Y 2 a4m (z6_ (z0_ 0) (z6_ (z0_ 1) z8_)))) (q1_ (v1_ 3 (z5_ v3_ (mC (.int 1)) (mCD 2 x6_ (y6_ 2 (z6_ (mC (.int 6)) z8_))))) (q1_ (v1_ 4 (mCD 2 a1Q (y6_ 2 (z6_ (z0_ 3) z8_)))) (q1_ (a1C 7 8 (z1_ (mCD 2 a4p (y6_ 2 (z6_ (z0_ 4) z8_))) (z1_ (mCD 2 a1Q (y6_ 2 (z6_ (z0_ 3) z8_))) z3_))) (q1_ (g1_ (y1_ (mF (x2_ (z1_ (v5_ (z1_ (z0_ 4) (z1_ (z0_ 7) z3_))) (z1_ (v5_ (z1_ (z0_ 7) (z1_ (z0_ 4) z3_))) (z1_ (v5_ (z1_ (z0_ 4) (z1_ (z0_ 8) z3_))) (z1_ (v5_ (z1_ (z0_ 8) (z1_ (z0_ 7) z3_))) (z1_ (v5_ (z1_ (z0_ 8) (z1_ (z0_ 8) z3_))) z3_)))))))) (gT 2 (gCn (gN 9) (gCn (gN 10) gNl))) (q1_ (v1_ 11 (mCD 2 a0R (z6_ (z0_ 9) (z6_ (z0_ 10) z8_)))) (y9_ (k6_ (x3_ (mT (mIs "bool" (z0_ 11)))) (mT (z5_ (dEq true) (z0_ 11) (mCD 2 a3D (z6_ (z0_ 9) (z6_ (z0_ 10) z8_)))))) (y0_ (mC (.bl false))) mNx))) (q1_ (a1C 12 13 (z1_ (mCD 2 a2T (y6_ 2 (z6_ (z0_ 4) z8_))) (z1_ (z5_ dIx (mF (x2_ (z1_ (mCD 2 a2T (y6_ 2 (z6_ (z0_ 8) z8_))) (z1_ (mCD 1 a4o (y6_ 2 z8_)) z3_)))) (mCD 2 x6_ (y6_ 2 (z6_ (mC (.int 2)) z8_)))) z3_))) (q1_ (v1_ 5 (mCD 2 a1Q (y6_ 2 (z6_ (z5_ v3_ (mC (.int 1)) (z5_ g6_ (z0_ 3) (mC (.int 6)))) z8_)))) (q1_ (v1_ 6 (mF (x2_ (z1_ (v5_ (z1_ (z0_ 12) (z1_ (z0_ 8) z3_))) (z1_ (v5_ (z1_ (z0_ 4) (z1_ (z0_ 13) z3_))) (z1_ (v5_ (z1_ (z0_ 12) (z1_ (z0_ 13) z3_))) (z1_ (v5_ (z1_ (z0_ 4) (z1_ (z0_ 5) z3_))) (z1_ (v5_ (z1_ (z0_ 5) (z1_ (z0_ 4) z3_))) (z1_ (v5_ (z1_ (z0_ 13) (z1_ (z0_ 5) z3_))) z3_))))))))) (g1_ (y1_ (z0_ 6)) (gT 2 (gCn (gN 9) (gCn (gN 10) gNl))) (q1_ (v1_ 14 (mC .non)) (q1_ (y9_ (k6_ (x3_ (mT (mCD 1 a0q (z6_ (z0_ 9) z8_)))) (x3_ (mT (mCD 1 a0q (z6_ (z0_ 10) z8_))))) (v1_ 14 (mC (.str "table"))) (y9_ (mT (z5_ (dEq true) (mCB q6_ (z1_ (z0_ 9) z3_)) (mCB q6_ (z1_ (z0_ 10) z3_)))) (v1_ 14 (mC (.str "not alike"))) mNx)) (g1_ (y1_ (mF (x2_ (z1_ (mC (.obj (.fn "is_below"))) (z1_ (mC (.obj (.fn "both_below"))) (z1_ (mC (.obj (.fn "both_above"))) z3_)))))) (gN 15) (y9_ (mT (z5_ (dEq true) (a1I ["NoTable","NoHeights","NoNet","NoPlace","NoTriangle","NoRow","NoNumber","NoTurn","NotAlike","NoStep","NoRows","TooMany","BadNote"] [false,false,false,false,false,false,false,false,false,true,true,false,false,false,false,true] (mCV 2 15 [("is_below",a0R),("both_below",a1M),("both_above",a1O)] (z6_ (z0_ 9) (z6_ (z0_ 10) z8_))) (xCV 2 15 [("is_below",a1L),("both_below",a1N),("both_above",a1P)] (z6_ (z0_ 9) (z6_ (z0_ 10) z8_))) a1t) (z0_ 14))) (y0_ (mC (.bl false))) mNx)))))))))))))
abbrev a9Z:Mo Fl:=(q1_ (v1_ 11 (mCD 2 a0R (z6_ (z0_ 9) (z6_ (z0_ 10) z8_)))) (y9_ (k6_ (x3_ (mT (mIs "bool" (z0_ 11)))) (mT (z5_ (dEq true) (z0_ 11) (mCD 2 a3D (z6_ (z0_ 9) (z6_ (z0_ 10) z8_)))))) (y0_ (mC (.bl false))) mNx))
abbrev b4F:Mo Fl:=(q1_ (v1_ 14 (mC .non)) (q1_ (y9_ (k6_ (x3_ (mT (mCD 1 a0q (z6_ (z0_ 9) z8_)))) (x3_ (mT (mCD 1 a0q (z6_ (z0_ 10) z8_))))) (v1_ 14 (mC (.str "table"))) (y9_ (mT (z5_ (dEq true) (mCB q6_ (z1_ (z0_ 9) z3_)) (mCB q6_ (z1_ (z0_ 10) z3_)))) (v1_ 14 (mC (.str "not alike"))) mNx)) (g1_ (y1_ (mF (x2_ (z1_ (mC (.obj (.fn "is_below"))) (z1_ (mC (.obj (.fn "both_below"))) (z1_ (mC (.obj (.fn "both_above"))) z3_)))))) (gN 15) (y9_ (mT (z5_ (dEq true) (a1I ["NoTable","NoHeights","NoNet","NoPlace","NoTriangle","NoRow","NoNumber","NoTurn","NotAlike","NoStep","NoRows","TooMany","BadNote"] [false,false,false,false,false,false,false,false,false,true,true,false,false,false,false,true] (mCV 2 15 [("is_below",a0R),("both_below",a1M),("both_above",a1O)] (z6_ (z0_ 9) (z6_ (z0_ 10) z8_))) (xCV 2 15 [("is_below",a1L),("both_below",a1N),("both_above",a1P)] (z6_ (z0_ 9) (z6_ (z0_ 10) z8_))) a1t) (z0_ 14))) (y0_ (mC (.bl false))) mNx))))
abbrev c3Q:Mo Fl:=(y9_ (mT (z5_ (dEq true) (a1I ["NoTable","NoHeights","NoNet","NoPlace","NoTriangle","NoRow","NoNumber","NoTurn","NotAlike","NoStep","NoRows","TooMany","BadNote"] [false,false,false,false,false,false,false,false,false,true,true,false,false,false,false,true] (mCV 2 15 [("is_below",a0R),("both_below",a1M),("both_above",a1O)] (z6_ (z0_ 9) (z6_ (z0_ 10) z8_))) (xCV 2 15 [("is_below",a1L),("both_below",a1N),("both_above",a1P)] (z6_ (z0_ 9) (z6_ (z0_ 10) z8_))) a1t) (z0_ 14))) (y0_ (mC (.bl false))) mNx)
theorem c3R{f g:Nat->Nat->Int}(h1:1≤n)(h6:n≤6)(F:TabF n f)(G:TabF n g)(w0 w1 w2 w3 w4 w5 w6 w7 w8 w11 w12 w13 w14 w15:W):∃x11,a9Z (u0_ w0 w1 w2 w3 w4 w5 w6 w7 w8 (dT (gm n n f)) (dT (gm n n g)) w11 w12 w13 w14 w15)=some (.nx,u0_ w0 w1 w2 w3 w4 w5 w6 w7 w8 (dT (gm n n f)) (dT (gm n n g)) x11 w12 w13 w14 w15):=by
 have eb:=b3X h1 h6 F G
 obtain⟨_,ed⟩:=c3K (f:=f) (g:=g) h6;generalize bel (n+1) (HH f) (HH g)=q at *;generalize dT (gm n n f)=A at *;generalize dT (gm n n g)=C at *;refine⟨.dat (.bl q),?_⟩;refine x8_ (a0n (c2 rfl rfl eb) rfl) (a2N (a3u (a0v (b:=true) (w4_ rfl)) (w4_ (v0_ rfl (c2 rfl rfl ed) ?_))) rfl);rw[b8p]
 simp
theorem c3S(d1 d2:D)(w0 w1 w2 w3 w4 w5 w6 w7 w8 w11 w12 w13 w14 w15:W):∃x14 x15,b4F (u0_ w0 w1 w2 w3 w4 w5 w6 w7 w8 d1 d2 w11 w12 w13 w14 w15)=some (.nx,u0_ w0 w1 w2 w3 w4 w5 w6 w7 w8 d1 d2 w11 w12 w13 x14 x15):=by
 obtain⟨wd,hi,he,hr⟩:=c3P d1 d2 w0 w1 w2 w3 w4 w5 w6 w7 w8 w11 w12 w13 w15;obtain⟨e',hl,x,rfl⟩:=a6o (g:=gN 15) (b:=c3Q) (P:=fun e=>∃x,e=u0_ w0 w1 w2 w3 w4 w5 w6 w7 w8 d1 d2 w11 w12 w13 (.dat wd) x) (ds:=[.obj (.fn "is_below"),.obj (.fn "both_below"),.obj (.fn "both_above")]) (env:=u0_ w0 w1 w2 w3 w4 w5 w6 w7 w8 d1 d2 w11 w12 w13 (.dat wd) w15) (fun d hd e ⟨x,hx⟩=>by
  subst hx;obtain⟨nm,rfl,t⟩:∃nm,d=.obj (.fn nm)/\a2V nm:=by
   simp only[Ql,Zw,Yo]at hd
   rcases hd with rfl|rfl|rfl
   ·exact⟨_,rfl,c3L⟩
   ·exact⟨_,rfl,c3M⟩
   ·exact⟨_,rfl,c3N⟩
  refine⟨u0_ w0 w1 w2 w3 w4 w5 w6 w7 w8 d1 d2 w11 w12 w13 (.dat wd) (.dat (.obj (.fn nm))),u0_ w0 w1 w2 w3 w4 w5 w6 w7 w8 d1 d2 w11 w12 w13 (.dat wd) (.dat (.obj (.fn nm))),rfl,?_,_,rfl⟩;exact a2N (w4_ (v0_ (hr nm t (.dat wd)) rfl he)) rfl) ⟨_,rfl⟩
 refine⟨.dat wd,x,?_⟩;exact x8_ (a0n (e1:=u0_ w0 w1 w2 w3 w4 w5 w6 w7 w8 d1 d2 w11 w12 w13 w14 w15) (e2:=u0_ w0 w1 w2 w3 w4 w5 w6 w7 w8 d1 d2 w11 w12 w13 (.dat .non) w15) (d:=.non) rfl rfl) (x8_ hi ((a1G (env:=u0_ w0 w1 w2 w3 w4 w5 w6 w7 w8 d1 d2 w11 w12 w13 (.dat wd) w15) (e1:=u0_ w0 w1 w2 w3 w4 w5 w6 w7 w8 d1 d2 w11 w12 w13 (.dat wd) w15) (ds:=[.obj (.fn "is_below"),.obj (.fn "both_below"),.obj (.fn "both_above")]) rfl).trans hl))
abbrev st(a:Int)(b:Bool):W:=.own [.int a,.bl b]
theorem s2{fn:Fn}{a:Int}{x r:D}(hm:mm (w0::w1::st a b::ws)=some (x,w0::w1::st a b::ws))(h:fn [.par [.int a,.bl b],.dat x]=some (.d r,.par [.int a',.bl b]::ws')):
  mCD 2 fn (y6_ 2 (z6_ mm z8_)) (w0::w1::st a b::ws)=some (r,w0::w1::st a' b::ws):=by
 refine a0Q ((a3W (e1:=w0::w1::st a b::ws) (w:=st a b) (av:=[.sl 2,.d x]) (i:=2) (c:=[.int a,.bl b]) (c':=[.int a',.bl b]) ?_ rfl rfl rfl rfl h rfl).trans rfl);unfold y6_;rw[a2E hm rfl]
 rfl
theorem s1{fn:Fn}{a:Int}{r:D}(h:fn [.par [.int a,.bl b]]=some (.d r,.par [.int a',.bl b]::ws')):
  mCD 1 fn (y6_ 2 z8_) (w0::w1::st a b::ws)=some (r,w0::w1::st a' b::ws):=
 a0Q ((a3W (e1:=w0::w1::st a b::ws) (w:=st a b) (av:=[.sl 2]) (i:=2) (c:=[.int a,.bl b]) (c':=[.int a',.bl b]) rfl rfl rfl rfl rfl h rfl).trans rfl)
theorem c3T(ns:List Int)(k:Nat)(hk:k<1000)(w2 w3 w4 w5 w6 w7 w8 w9 w10 w11 w12 w13 w14 w15:W):∃ws':List W,ws'.length=15/\lw [.dat (.lst (ns.map .int)),.dat (.int k),w2,w3,w4,w5,w6,w7,w8,w9,w10,w11,w12,w13,w14,w15]=some (.nx,.dat (.lst (ns.map .int))::ws'):=by
 obtain⟨a,b,a0,est⟩:=c2w ns k hk;generalize D.lst (ns.map .int)=Z at *;obtain⟨v,a1,et,v0,v1,a10⟩:=a2q (a:=a) (m:=6) (b:=b) a0 (by decide) (by decide)
 obtain⟨n,hn⟩:∃n:Nat,(1:Int)+v=(n:Int):=⟨(1+v).toNat,by omega⟩
 have h1:1≤n:=by omega
 have h6:n≤6:=by omega
 obtain⟨T1,a2,et1,a20,t1,l1⟩:=a9J (a:=a1) (b:=b) a10 h1 h6;obtain⟨f,rfl,F⟩:=t1.fn l1;obtain⟨a3,g1,wn,en,a30,G1⟩:=c3x (b:=b) h1 h6 a20 F;obtain⟨T2,a4,et2,a40,t2,l2⟩:=a9J (a:=a3) (b:=b) a30 h1 h6;obtain⟨g2,rfl,G2⟩:=t2.fn l2;obtain⟨d1,a5,eb1,a50⟩:=b4B (b:=b) (R:=gm n n f) h1 h6 a1u a6S a40;obtain⟨d2,a6,eb2,a60⟩:=b4B (b:=b) (R:=gm n n g2) h1 h6 a1u a6S a50;obtain⟨d3,a7,eo,a70⟩:=c3H (b:=b) a60;obtain⟨u,a8,eu,u0,u1,a80⟩:=a2q (a:=a7) (m:=2) (b:=b) a70 (by decide) (by decide)
 obtain⟨d4,_,hd4⟩:=a4u (ds:=[d2,d3]) u0 (by simpa using u1)
 obtain⟨m,hm⟩:∃m:Nat,(1:Int)+(n:Int)%6=(m:Int):=⟨1+n%6,by omega⟩
 have m1:1≤m:=by omega
 have m6:m≤6:=by omega
 obtain⟨T3,a9,et3,a90,t3,l3⟩:=a9J (a:=a8) (b:=b) a80 m1 m6;have hc:∀g h,TabF n g->TabF n h->∀(x5 x6 x7 x8 x11 x12 x13 x14 x15:W),∃y11,a9Z (u0_ (.dat Z) (.dat (.int k)) (st a4 b) (.dat (.int (n:Int))) (.dat (dT (gm n n f))) x5 x6 x7 x8 (dT (gm n n g)) (dT (gm n n h)) x11 x12 x13 x14 x15)=some (.nx,u0_ (.dat Z) (.dat (.int k)) (st a4 b) (.dat (.int (n:Int))) (.dat (dT (gm n n f))) x5 x6 x7 x8 (dT (gm n n g)) (dT (gm n n h)) y11 x12 x13 x14 x15):=fun g h G H x5 x6 x7 x8 x11 x12 x13 x14 x15=>c3R h1 h6 G H ..
 have c1:=hc f g1 F G1
 have c2:=hc g1 f G1 F
 have c3:=hc f g2 F G2
 have c4:=hc g2 g1 G2 G1
 have c5:=hc g2 g2 G2 G2
 clear hc;generalize dT (gm n n f)=A at *;generalize dT (gm n n g1)=C at *;generalize dT (gm n n g2)=E at *;generalize dT T3=M at *;obtain⟨e',hl,y9,y10,y11,rfl⟩:=a6o (g:=gT 2 (gCn (gN 9) (gCn (gN 10) gNl))) (b:=a9Z) (P:=fun e=>∃y9 y10 y11,e=[.dat Z,.dat (.int k),st a4 b,.dat (.int (n:Int)),.dat A,w5,w6,.dat C,.dat E,y9,y10,y11,w12,w13,w14,w15]) (ds:=[.tup [A,C],.tup [C,A],.tup [A,E],.tup [E,C],.tup [E,E]]) (env:=[.dat Z,.dat (.int k),st a4 b,.dat (.int (n:Int)),.dat A,w5,w6,.dat C,.dat E,w9,w10,w11,w12,w13,w14,w15]) (fun d hd e ⟨y9,y10,y11,he⟩=>by
  subst he;simp only[Ql,Zw,Yo]at hd
  rcases hd with rfl|rfl|rfl|rfl|rfl
  ·obtain⟨z,hz⟩:=c1 w5 w6 (.dat C) (.dat E) y11 w12 w13 w14 w15
   exact⟨_,_,rfl,hz,_,_,_,rfl⟩
  ·obtain⟨z,hz⟩:=c2 w5 w6 (.dat C) (.dat E) y11 w12 w13 w14 w15
   exact⟨_,_,rfl,hz,_,_,_,rfl⟩
  ·obtain⟨z,hz⟩:=c3 w5 w6 (.dat C) (.dat E) y11 w12 w13 w14 w15
   exact⟨_,_,rfl,hz,_,_,_,rfl⟩
  ·obtain⟨z,hz⟩:=c4 w5 w6 (.dat C) (.dat E) y11 w12 w13 w14 w15
   exact⟨_,_,rfl,hz,_,_,_,rfl⟩
  ·obtain⟨z,hz⟩:=c5 w5 w6 (.dat C) (.dat E) y11 w12 w13 w14 w15
   exact⟨_,_,rfl,hz,_,_,_,rfl⟩) ⟨_,_,_,rfl⟩
 have R6:List D:=[]
 obtain⟨e',hp,z9,z10,z14,z15,rfl⟩:=a6o (g:=gT 2 (gCn (gN 9) (gCn (gN 10) gNl))) (b:=b4F) (P:=fun e=>∃z9 z10 z14 z15,e=[.dat Z,.dat (.int k),st a9 b,.dat (.int (n:Int)),.dat A,.dat M,.dat (.lst [.tup [d1,E],.tup [A,d4],.tup [d1,d4],.tup [A,M],.tup [M,A],.tup [d4,M]]),.dat C,.dat E,z9,z10,y11,.dat d1,.dat d4,z14,z15]) (ds:=[.tup [d1,E],.tup [A,d4],.tup [d1,d4],.tup [A,M],.tup [M,A],.tup [d4,M]]) (env:=[.dat Z,.dat (.int k),st a9 b,.dat (.int (n:Int)),.dat A,.dat M,.dat (.lst [.tup [d1,E],.tup [A,d4],.tup [d1,d4],.tup [A,M],.tup [M,A],.tup [d4,M]]),.dat C,.dat E,y9,y10,y11,.dat d1,.dat d4,w14,w15]) (fun d hd e ⟨z9,z10,z14,z15,he⟩=>by
  subst he;obtain⟨x,y,rfl⟩:∃x y,d=.tup [x,y]:=by
   simp only[Ql,Zw,Yo]at hd
   rcases hd with rfl|rfl|rfl|rfl|rfl|rfl<;>exact⟨_,_,rfl⟩
  obtain⟨x14,x15,hz⟩:=c3S x y (.dat Z) (.dat (.int k)) (st a9 b) (.dat (.int (n:Int))) (.dat A) (.dat M) (.dat (.lst [.tup [d1,E],.tup [A,d4],.tup [d1,d4],.tup [A,M],.tup [M,A],.tup [d4,M]])) (.dat C) (.dat E) y11 (.dat d1) (.dat d4) z14 z15;exact⟨_,_,rfl,hz,_,_,_,_,rfl⟩) ⟨_,_,_,_,rfl⟩
 refine⟨[.dat (.int k),st a9 b,.dat (.int (n:Int)),.dat A,.dat M,.dat (.lst [.tup [d1,E],.tup [A,d4],.tup [d1,d4],.tup [A,M],.tup [M,A],.tup [d4,M]]),.dat C,.dat E,z9,z10,y11,.dat d1,.dat d4,z14,z15],rfl,?_⟩;unfold lw;refine x8_ (a8y (e1:=[.dat Z,.dat (.int k),w2,w3,w4,w5,w6,w7,w8,w9,w10,w11,w12,w13,w14,w15]) (e2:=[.dat Z,.dat (.int k),st a b,w3,w4,w5,w6,w7,w8,w9,w10,w11,w12,w13,w14,w15]) (a4V (a1e (av:=[.d Z,.d (.int k)]) rfl rfl rfl est)) rfl) ?_
 refine x8_ (a0n (d:=.int (n:Int)) (e2:=[.dat Z,.dat (.int k),st a1 b,.dat (.int (n:Int)),w4,w5,w6,w7,w8,w9,w10,w11,w12,w13,w14,w15]) (v0_ rfl (s2 rfl et) (by show some (D.int (1+v))=_;rw[hn])) rfl) ?_
 refine x8_ (a0n (e2:=[.dat Z,.dat (.int k),st a2 b,.dat (.int (n:Int)),.dat A,w5,w6,w7,w8,w9,w10,w11,w12,w13,w14,w15]) (s2 rfl et1) rfl) ?_
 refine x8_ (a6H (e2:=[.dat Z,.dat (.int k),st a4 b,.dat (.int (n:Int)),.dat A,w5,w6,.dat C,.dat E,w9,w10,w11,w12,w13,w14,w15]) (q4_ (s2 rfl en) (q4_ (s2 rfl et2) rfl)) rfl) ?_
 refine x8_ ((a1G (ds:=[.tup [A,C],.tup [C,A],.tup [A,E],.tup [E,C],.tup [E,E]]) (e1:=[.dat Z,.dat (.int k),st a4 b,.dat (.int (n:Int)),.dat A,w5,w6,.dat C,.dat E,w9,w10,w11,w12,w13,w14,w15]) rfl).trans hl) ?_
 refine x8_ (a6H (e2:=[.dat Z,.dat (.int k),st a8 b,.dat (.int (n:Int)),.dat A,w5,w6,.dat C,.dat E,y9,y10,y11,.dat d1,.dat d4,w14,w15]) (q4_ (s2 rfl eb1) (q4_ (v0_ (k3_ (a2U (q4_ (s2 rfl eb2) (q4_ (s1 eo) rfl)) (by simp))) (s2 rfl eu) hd4) rfl)) rfl) ?_
 refine x8_ (a0n (e2:=[.dat Z,.dat (.int k),st a9 b,.dat (.int (n:Int)),.dat A,.dat M,w6,.dat C,.dat E,y9,y10,y11,.dat d1,.dat d4,w14,w15]) (s2 (x:=.int (m:Int)) (v0_ rfl (v0_ rfl rfl rfl) (by show some (D.int (1+(n:Int)%6))=_;rw[hm])) et3) rfl) ?_
 refine x8_ (a0n (e1:=[.dat Z,.dat (.int k),st a9 b,.dat (.int (n:Int)),.dat A,.dat M,w6,.dat C,.dat E,y9,y10,y11,.dat d1,.dat d4,w14,w15]) (d:=.lst [.tup [d1,E],.tup [A,d4],.tup [d1,d4],.tup [A,M],.tup [M,A],.tup [d4,M]]) rfl rfl) ?_
 exact(a1G (ds:=[.tup [d1,E],.tup [A,d4],.tup [d1,d4],.tup [A,M],.tup [M,A],.tup [d4,M]]) rfl).trans hp
theorem c3U:∀ns:List Int,ns.length≤63->∃ws',a6N [.dat (.lst (ns.map D.int))]=some (.d (.bl true),ws'):=by
 intro ns hns;refine c0f (C:=8) (N:=14) (by decide) (by decide) (fun k hk ws hw=>?_) fun ws hw=>?_
 ·match ws,hw with
  |[w2,w3,w4,w5,w6,w7,w8,w9,w10,w11,w12,w13,w14,w15],_=>exact c3T ns k hk w2 w3 w4 w5 w6 w7 w8 w9 w10 w11 w12 w13 w14 w15
 ·exact⟨_,rfl⟩
end K61
namespace K61
open L2 L2.Mir PySem
theorem c3V{P:Program}(w:World)(mg:Str->Option Value)(fa:Addr)(h:Heap)(X:(hK w.params).In h)(G:h.Ns mainGlobals mg)(hfa:mg "law"=some (.ref fa)):
 ∃fd:FuncData,(∀(s:Shared) (v:Value),BindsTo s fd ⟨[v],[]⟩ [("_law_script",v)])/\PySem.W.noTabs (hK w.params)=true/\(∀p∈[402],∃c,PySem.W.codeHdIn (hK w.params) c p=true)/\∀base:Heap,(hK w.params).In base->base.Ns mainGlobals mg->a2h mg base->FnOk P w (hK w.params) mg base CX0 11 fa fd ["_law_script"] (SpT (hK w.params) [402] 1 a6N):=by
 have A1:DfAt (hK w.params) "is_whole" a8z 190 (.str "turnsigns.grids" 415) 189:=⟨by kernel_rfl,by kernel_rfl,by kernel_rfl,by kernel_rfl⟩
 have A2:DfAt (hK w.params) "is_row" a8A 195 (.str "turnsigns.grids" 415) 194:=⟨by kernel_rfl,by kernel_rfl,by kernel_rfl,by kernel_rfl⟩
 have A3:DfAt (hK w.params) "is_grid" a8B 200 (.str "turnsigns.grids" 415) 199:=⟨by kernel_rfl,by kernel_rfl,by kernel_rfl,by kernel_rfl⟩
 have A4:DfAt (hK w.params) "is_square" a8C 207 (.str "turnsigns.grids" 415) 206:=⟨by kernel_rfl,by kernel_rfl,by kernel_rfl,by kernel_rfl⟩
 have A5:DfAt (hK w.params) "flipped" a8D 212 (.str "turnsigns.grids" 415) 211:=⟨by kernel_rfl,by kernel_rfl,by kernel_rfl,by kernel_rfl⟩
 have A6:DfAt (hK w.params) "running_sums" a8E 219 (.str "turnsigns.grids" 415) 218:=⟨by kernel_rfl,by kernel_rfl,by kernel_rfl,by kernel_rfl⟩
 have A7:DfAt (hK w.params) "rises" a8F 224 (.str "turnsigns.grids" 415) 223:=⟨by kernel_rfl,by kernel_rfl,by kernel_rfl,by kernel_rfl⟩
 have A8:DfAt (hK w.params) "sums_across" a8G 229 (.str "turnsigns.grids" 415) 228:=⟨by kernel_rfl,by kernel_rfl,by kernel_rfl,by kernel_rfl⟩
 have A9:DfAt (hK w.params) "sums_down" a8H 236 (.str "turnsigns.grids" 415) 235:=⟨by kernel_rfl,by kernel_rfl,by kernel_rfl,by kernel_rfl⟩
 have A10:DfAt (hK w.params) "rises_across" a8I 241 (.str "turnsigns.grids" 415) 240:=⟨by kernel_rfl,by kernel_rfl,by kernel_rfl,by kernel_rfl⟩
 have A11:DfAt (hK w.params) "rises_down" a8J 248 (.str "turnsigns.grids" 415) 247:=⟨by kernel_rfl,by kernel_rfl,by kernel_rfl,by kernel_rfl⟩
 have A12:DfAt (hK w.params) "takes_turns" a8K 255 (.str "turnsigns.tables" 492) 254:=⟨by kernel_rfl,by kernel_rfl,by kernel_rfl,by kernel_rfl⟩
 have A13:DfAt (hK w.params) "is_table" a8L 260 (.str "turnsigns.tables" 492) 259:=⟨by kernel_rfl,by kernel_rfl,by kernel_rfl,by kernel_rfl⟩
 have A14:DfAt (hK w.params) "must_be_table" a6I 267 (.str "turnsigns.tables" 492) 266:=⟨by kernel_rfl,by kernel_rfl,by kernel_rfl,by kernel_rfl⟩
 have A15:DfAt (hK w.params) "summed" a8M 274 (.str "turnsigns.tables" 492) 273:=⟨by kernel_rfl,by kernel_rfl,by kernel_rfl,by kernel_rfl⟩
 have A16:DfAt (hK w.params) "unsummed" a8N 281 (.str "turnsigns.tables" 492) 280:=⟨by kernel_rfl,by kernel_rfl,by kernel_rfl,by kernel_rfl⟩
 have A17:DfAt (hK w.params) "heights_of_both" a6J 288 (.str "turnsigns.orders" 532) 287:=⟨by kernel_rfl,by kernel_rfl,by kernel_rfl,by kernel_rfl⟩
 have A18:DfAt (hK w.params) "pairs_of" a8O 293 (.str "turnsigns.orders" 532) 292:=⟨by kernel_rfl,by kernel_rfl,by kernel_rfl,by kernel_rfl⟩
 have A19:DfAt (hK w.params) "is_below" a6K 298 (.str "turnsigns.orders" 532) 297:=⟨by kernel_rfl,by kernel_rfl,by kernel_rfl,by kernel_rfl⟩
 have A20:DfAt (hK w.params) "both_below" a6L 303 (.str "turnsigns.orders" 532) 302:=⟨by kernel_rfl,by kernel_rfl,by kernel_rfl,by kernel_rfl⟩
 have A21:DfAt (hK w.params) "both_above" a6M 308 (.str "turnsigns.orders" 532) 307:=⟨by kernel_rfl,by kernel_rfl,by kernel_rfl,by kernel_rfl⟩
 have A22:DfAt (hK w.params) "_law_cell_at" a8P 315 (.str "law_turnsigns_k61_below_and_above" 566) 314:=⟨by kernel_rfl,by kernel_rfl,by kernel_rfl,by kernel_rfl⟩
 have A23:DfAt (hK w.params) "_law_state" a8Q 322 (.str "law_turnsigns_k61_below_and_above" 566) 321:=⟨by kernel_rfl,by kernel_rfl,by kernel_rfl,by kernel_rfl⟩
 have A24:DfAt (hK w.params) "_law_take" a8R 329 (.str "law_turnsigns_k61_below_and_above" 566) 328:=⟨by kernel_rfl,by kernel_rfl,by kernel_rfl,by kernel_rfl⟩
 have A25:DfAt (hK w.params) "_law_rows" a8S 334 (.str "law_turnsigns_k61_below_and_above" 566) 333:=⟨by kernel_rfl,by kernel_rfl,by kernel_rfl,by kernel_rfl⟩
 have A26:DfAt (hK w.params) "_law_held" a8T 339 (.str "law_turnsigns_k61_below_and_above" 566) 338:=⟨by kernel_rfl,by kernel_rfl,by kernel_rfl,by kernel_rfl⟩
 have A27:DfAt (hK w.params) "_law_table" a8U 344 (.str "law_turnsigns_k61_below_and_above" 566) 343:=⟨by kernel_rfl,by kernel_rfl,by kernel_rfl,by kernel_rfl⟩
 have A28:DfAt (hK w.params) "_law_whole" a8V 351 (.str "law_turnsigns_k61_below_and_above" 566) 350:=⟨by kernel_rfl,by kernel_rfl,by kernel_rfl,by kernel_rfl⟩
 have A29:DfAt (hK w.params) "_law_turns" a8W 356 (.str "law_turnsigns_k61_below_and_above" 566) 355:=⟨by kernel_rfl,by kernel_rfl,by kernel_rfl,by kernel_rfl⟩
 have A30:DfAt (hK w.params) "_law_is_table" a8X 361 (.str "law_turnsigns_k61_below_and_above" 566) 360:=⟨by kernel_rfl,by kernel_rfl,by kernel_rfl,by kernel_rfl⟩
 have A31:DfAt (hK w.params) "_law_odd" a8Y 368 (.str "law_turnsigns_k61_below_and_above" 566) 367:=⟨by kernel_rfl,by kernel_rfl,by kernel_rfl,by kernel_rfl⟩
 have A32:DfAt (hK w.params) "_law_bent" a8Z 375 (.str "law_turnsigns_k61_below_and_above" 566) 374:=⟨by kernel_rfl,by kernel_rfl,by kernel_rfl,by kernel_rfl⟩
 have A33:DfAt (hK w.params) "_law_heights" a9a 380 (.str "law_turnsigns_k61_below_and_above" 566) 379:=⟨by kernel_rfl,by kernel_rfl,by kernel_rfl,by kernel_rfl⟩
 have A34:DfAt (hK w.params) "_law_from" a9b 385 (.str "law_turnsigns_k61_below_and_above" 566) 384:=⟨by kernel_rfl,by kernel_rfl,by kernel_rfl,by kernel_rfl⟩
 have A35:DfAt (hK w.params) "_law_near" a9c 390 (.str "law_turnsigns_k61_below_and_above" 566) 389:=⟨by kernel_rfl,by kernel_rfl,by kernel_rfl,by kernel_rfl⟩
 have A36:DfAt (hK w.params) "_law_refused" a9d 395 (.str "law_turnsigns_k61_below_and_above" 566) 394:=⟨by kernel_rfl,by kernel_rfl,by kernel_rfl,by kernel_rfl⟩
 have A37:DfAt (hK w.params) "_law_due" a9e 400 (.str "law_turnsigns_k61_below_and_above" 566) 399:=⟨by kernel_rfl,by kernel_rfl,by kernel_rfl,by kernel_rfl⟩
 have A38:DfAt (hK w.params) "law" a4g 407 (.str "law_turnsigns_k61_below_and_above" 566) 406:=⟨by kernel_rfl,by kernel_rfl,by kernel_rfl,by kernel_rfl⟩
 have e:=hfa.symm.trans (Xh X G A38.a)
 cases e;have T:Txt (hK w.params) mg:=⟨by kernel_rfl,Zp X G (by kernel_rfl),Zp X G (by kernel_rfl),Zp X G (by kernel_rfl),Zp X G (by kernel_rfl),Zp X G (by kernel_rfl),Zp X G (by kernel_rfl),Zp X G (by kernel_rfl),Zp X G (by kernel_rfl),Zp X G (by kernel_rfl),Zp X G (by kernel_rfl),Zp X G (by kernel_rfl),Zp X G (by kernel_rfl),Zp X G (by kernel_rfl),Zp X G (by kernel_rfl),⟨_,A21.a,A21.g X G,a8t (by kernel_rfl)⟩,⟨_,A20.a,A20.g X G,a8t (by kernel_rfl)⟩,⟨_,A19.a,A19.g X G,a8t (by kernel_rfl)⟩,⟨494,Xh X G (by kernel_rfl)⟩⟩
 have F1:=A1.f
 have b1:=F1.binds (ps:=["thing"]) fun _ _ _ _ _ _ us hl=>match us,hl with|[_],_=>rfl
 have F2:=A2.f
 have b2:=F2.binds (ps:=["thing","width"]) fun _ _ _ _ _ _ us hl=>match us,hl with|[_,_],_=>rfl
 have F3:=A3.f
 have b3:=F3.binds (ps:=["thing","many","width"]) fun _ _ _ _ _ _ us hl=>match us,hl with|[_,_,_],_=>rfl
 have F4:=A4.f
 have b4:=F4.binds (ps:=["thing","least","greatest"]) fun _ _ _ _ _ _ us hl=>match us,hl with|[_,_,_],_=>rfl
 have F5:=A5.f
 have b5:=F5.binds (ps:=["grid"]) fun _ _ _ _ _ _ us hl=>match us,hl with|[_],_=>rfl
 have F6:=A6.f
 have b6:=F6.binds (ps:=["row"]) fun _ _ _ _ _ _ us hl=>match us,hl with|[_],_=>rfl
 have F7:=A7.f
 have b7:=F7.binds (ps:=["row"]) fun _ _ _ _ _ _ us hl=>match us,hl with|[_],_=>rfl
 have F8:=A8.f
 have b8:=F8.binds (ps:=["grid"]) fun _ _ _ _ _ _ us hl=>match us,hl with|[_],_=>rfl
 have F9:=A9.f
 have b9:=F9.binds (ps:=["grid"]) fun _ _ _ _ _ _ us hl=>match us,hl with|[_],_=>rfl
 have F10:=A10.f
 have b10:=F10.binds (ps:=["grid"]) fun _ _ _ _ _ _ us hl=>match us,hl with|[_],_=>rfl
 have F11:=A11.f
 have b11:=F11.binds (ps:=["grid"]) fun _ _ _ _ _ _ us hl=>match us,hl with|[_],_=>rfl
 have F12:=A12.f
 have b12:=F12.binds (ps:=["line"]) fun _ _ _ _ _ _ us hl=>match us,hl with|[_],_=>rfl
 have F13:=A13.f
 have b13:=F13.binds (ps:=["thing"]) fun _ _ _ _ _ _ us hl=>match us,hl with|[_],_=>rfl
 have F14:=A14.f
 have b14:=F14.binds (ps:=["thing"]) fun _ _ _ _ _ _ us hl=>match us,hl with|[_],_=>rfl
 have F15:=A15.f
 have b15:=F15.binds (ps:=["table"]) fun _ _ _ _ _ _ us hl=>match us,hl with|[_],_=>rfl
 have F16:=A16.f
 have b16:=F16.binds (ps:=["heights"]) fun _ _ _ _ _ _ us hl=>match us,hl with|[_],_=>rfl
 have F17:=A17.f
 have b17:=F17.binds (ps:=["one","other"]) fun _ _ _ _ _ _ us hl=>match us,hl with|[_,_],_=>rfl
 have F18:=A18.f
 have b18:=F18.binds (ps:=["one","other"]) fun _ _ _ _ _ _ us hl=>match us,hl with|[_,_],_=>rfl
 have F19:=A19.f
 have b19:=F19.binds (ps:=["one","other"]) fun _ _ _ _ _ _ us hl=>match us,hl with|[_,_],_=>rfl
 have F20:=A20.f
 have b20:=F20.binds (ps:=["one","other"]) fun _ _ _ _ _ _ us hl=>match us,hl with|[_,_],_=>rfl
 have F21:=A21.f
 have b21:=F21.binds (ps:=["one","other"]) fun _ _ _ _ _ _ us hl=>match us,hl with|[_,_],_=>rfl
 have F22:=A22.f
 have b22:=F22.binds (ps:=["_law_script","_law_k"]) fun _ _ _ _ _ _ us hl=>match us,hl with|[_,_],_=>rfl
 have F23:=A23.f
 have b23:=F23.binds (ps:=["_law_script","_law_k"]) fun _ _ _ _ _ _ us hl=>match us,hl with|[_,_],_=>rfl
 have F24:=A24.f
 have b24:=F24.binds (ps:=["_law_state_here","_law_many"]) fun _ _ _ _ _ _ us hl=>match us,hl with|[_,_],_=>rfl
 have F25:=A25.f
 have b25:=F25.binds (ps:=["_law_held_here"]) fun _ _ _ _ _ _ us hl=>match us,hl with|[_],_=>rfl
 have F26:=A26.f
 have b26:=F26.binds (ps:=["_law_held_here","_law_row"]) fun _ _ _ _ _ _ us hl=>match us,hl with|[_,_],_=>rfl
 have F27:=A27.f
 have b27:=F27.binds (ps:=["_law_state_here","_law_side"]) fun _ _ _ _ _ _ us hl=>match us,hl with|[_,_],_=>rfl
 have F28:=A28.f
 have b28:=F28.binds (ps:=["_law_thing"]) fun _ _ _ _ _ _ us hl=>match us,hl with|[_],_=>rfl
 have F29:=A29.f
 have b29:=F29.binds (ps:=["_law_row"]) fun _ _ _ _ _ _ us hl=>match us,hl with|[_],_=>rfl
 have F30:=A30.f
 have b30:=F30.binds (ps:=["_law_thing"]) fun _ _ _ _ _ _ us hl=>match us,hl with|[_],_=>rfl
 have F31:=A31.f
 have b31:=F31.binds (ps:=["_law_state_here"]) fun _ _ _ _ _ _ us hl=>match us,hl with|[_],_=>rfl
 have F32:=A32.f
 have b32:=F32.binds (ps:=["_law_state_here","_law_table_here"]) fun _ _ _ _ _ _ us hl=>match us,hl with|[_,_],_=>rfl
 have F33:=A33.f
 have b33:=F33.binds (ps:=["_law_table_here"]) fun _ _ _ _ _ _ us hl=>match us,hl with|[_],_=>rfl
 have F34:=A34.f
 have b34:=F34.binds (ps:=["_law_heights_here"]) fun _ _ _ _ _ _ us hl=>match us,hl with|[_],_=>rfl
 have F35:=A35.f
 have b35:=F35.binds (ps:=["_law_state_here","_law_table_here"]) fun _ _ _ _ _ _ us hl=>match us,hl with|[_,_],_=>rfl
 have F36:=A36.f
 have b36:=F36.binds (ps:=["_law_call"]) fun _ _ _ _ _ _ us hl=>match us,hl with|[_],_=>rfl
 have F37:=A37.f
 have b37:=F37.binds (ps:=["_law_one","_law_other"]) fun _ _ _ _ _ _ us hl=>match us,hl with|[_,_],_=>rfl
 have F38:=A38.f
 have b38:=F38.binds (ps:=["_law_script"]) fun _ _ _ _ _ _ us hl=>match us,hl with|[_],_=>rfl
 have tc:a6u (hK w.params) (.ref 406) 402=true:=by kernel_rfl
 refine⟨PySem.W.fnOf "law" "law" (a3c a4g) (a0U a4g) (y3_ a4g) .none .none .none (.str "law_turnsigns_k61_below_and_above" 566) none (.ref 406) .none,fun s v=>.of_eq rfl,by kernel_rfl,fun p hp=>?_,fun base _ _ hBm=>?_⟩
 ·obtain rfl:=Vj.mp hp
  obtain⟨c,_,hc⟩:=b1Z tc;exact⟨c,hc⟩
 have d_is_whole:Def P w (hK w.params) mg base "is_whole" 1 1 a2m:=⟨_,_,_,c0u F1 T,rfl,A1.g X G,A1.k,b1⟩
 have d_is_row:Def P w (hK w.params) mg base "is_row" 2 2 a1K:=⟨_,_,_,c0w F2 T d_is_whole,rfl,A2.g X G,A2.k,b2⟩
 have d_is_grid:Def P w (hK w.params) mg base "is_grid" 3 3 a4h:=⟨_,_,_,c0y F3 T d_is_row,rfl,A3.g X G,A3.k,b3⟩
 have d_is_square:Def P w (hK w.params) mg base "is_square" 4 3 a3v:=⟨_,_,_,c0A F4 T d_is_grid,rfl,A4.g X G,A4.k,b4⟩
 have d_flipped:Def P w (hK w.params) mg base "flipped" 1 1 a0o:=⟨_,_,_,c0C F5 T,rfl,A5.g X G,A5.k,b5⟩
 have d_running_sums:Def P w (hK w.params) mg base "running_sums" 1 1 a4i:=⟨_,_,_,c0D F6 T,rfl,A6.g X G,A6.k,b6⟩
 have d_rises:Def P w (hK w.params) mg base "rises" 1 1 a4j:=⟨_,_,_,c0F F7 T,rfl,A7.g X G,A7.k,b7⟩
 have d_sums_across:Def P w (hK w.params) mg base "sums_across" 2 1 a2P:=⟨_,_,_,c0H F8 T d_running_sums,rfl,A8.g X G,A8.k,b8⟩
 have d_sums_down:Def P w (hK w.params) mg base "sums_down" 3 1 a5n:=⟨_,_,_,c0J F9 T d_flipped d_sums_across,rfl,A9.g X G,A9.k,b9⟩
 have d_rises_across:Def P w (hK w.params) mg base "rises_across" 2 1 a2Q:=⟨_,_,_,c0L F10 T d_rises,rfl,A10.g X G,A10.k,b10⟩
 have d_rises_down:Def P w (hK w.params) mg base "rises_down" 3 1 a5o:=⟨_,_,_,c0N F11 T d_flipped d_rises_across,rfl,A11.g X G,A11.k,b11⟩
 have d_takes_turns:Def P w (hK w.params) mg base "takes_turns" 1 1 a2R:=⟨_,_,_,c0O F12 T,rfl,A12.g X G,A12.k,b12⟩
 have d_is_table:Def P w (hK w.params) mg base "is_table" 5 1 a3w:=⟨_,_,_,c0Q F13 T d_is_square d_takes_turns d_flipped,rfl,A13.g X G,A13.k,b13⟩
 have d_must_be_table:Def P w (hK w.params) mg base "must_be_table" 6 1 a2n:=⟨_,_,_,c0R F14 T d_is_table,rfl,A14.g X G,A14.k,b14⟩
 have dx_must_be_table:DefX P w (hK w.params) mg base "must_be_table" 6 1 a4k:=⟨_,_,_,c0S F14 T d_is_table,rfl,A14.g X G,A14.k,b14⟩
 have d_summed:Def P w (hK w.params) mg base "summed" 4 1 a3x:=⟨_,_,_,c0U F15 T d_sums_across d_sums_down,rfl,A15.g X G,A15.k,b15⟩
 have d_unsummed:Def P w (hK w.params) mg base "unsummed" 4 1 a2o:=⟨_,_,_,c0W F16 T d_rises_across d_rises_down,rfl,A16.g X G,A16.k,b16⟩
 have d_heights_of_both:Def P w (hK w.params) mg base "heights_of_both" 7 2 a0z:=⟨_,_,_,c0X F17 T d_must_be_table d_summed,rfl,A17.g X G,A17.k,b17⟩
 have dx_heights_of_both:DefX P w (hK w.params) mg base "heights_of_both" 7 2 a0p:=⟨_,_,_,c0Y F17 T d_must_be_table d_summed dx_must_be_table,rfl,A17.g X G,A17.k,b17⟩
 have d_pairs_of:Def P w (hK w.params) mg base "pairs_of" 1 2 a1j:=⟨_,_,_,c1a F18 T,rfl,A18.g X G,A18.k,b18⟩
 have d_is_below:Def P w (hK w.params) mg base "is_below" 8 2 a0R:=⟨_,_,_,c1c F19 T d_heights_of_both d_pairs_of,rfl,A19.g X G,A19.k,b19⟩
 have dx_is_below:DefX P w (hK w.params) mg base "is_below" 8 2 a1L:=⟨_,_,_,c1e F19 T d_heights_of_both d_pairs_of dx_heights_of_both,rfl,A19.g X G,A19.k,b19⟩
 have d_both_below:Def P w (hK w.params) mg base "both_below" 8 2 a1M:=⟨_,_,_,c1h F20 T d_heights_of_both d_unsummed d_pairs_of,rfl,A20.g X G,A20.k,b20⟩
 have dx_both_below:DefX P w (hK w.params) mg base "both_below" 8 2 a1N:=⟨_,_,_,c1j F20 T d_heights_of_both d_unsummed d_pairs_of dx_heights_of_both,rfl,A20.g X G,A20.k,b20⟩
 have d_both_above:Def P w (hK w.params) mg base "both_above" 8 2 a1O:=⟨_,_,_,c1m F21 T d_heights_of_both d_unsummed d_pairs_of,rfl,A21.g X G,A21.k,b21⟩
 have dx_both_above:DefX P w (hK w.params) mg base "both_above" 8 2 a1P:=⟨_,_,_,c1o F21 T d_heights_of_both d_unsummed d_pairs_of dx_heights_of_both,rfl,A21.g X G,A21.k,b21⟩
 have d__law_cell_at:Def P w (hK w.params) mg base "_law_cell_at" 1 2 a4l:=⟨_,_,_,c1q F22 T,rfl,A22.g X G,A22.k,b22⟩
 have d__law_state:Def P w (hK w.params) mg base "_law_state" 2 2 a4m:=⟨_,_,_,c1r F23 T d__law_cell_at,rfl,A23.g X G,A23.k,b23⟩
 have d__law_take:Def P w (hK w.params) mg base "_law_take" 1 2 x6_:=⟨_,_,_,c1s F24 T,rfl,A24.g X G,A24.k,b24⟩
 have d__law_rows:Def P w (hK w.params) mg base "_law_rows" 1 1 a2S:=⟨_,_,_,c1v F25 T,rfl,A25.g X G,A25.k,b25⟩
 have d__law_held:Def P w (hK w.params) mg base "_law_held" 1 2 a3B:=⟨_,_,_,c1y F26 T,rfl,A26.g X G,A26.k,b26⟩
 have d__law_table:Def P w (hK w.params) mg base "_law_table" 2 2 a1Q:=⟨_,_,_,c1B F27 T d__law_take d__law_rows d__law_held,rfl,A27.g X G,A27.k,b27⟩
 have d__law_whole:Def P w (hK w.params) mg base "_law_whole" 1 1 a4n:=⟨_,_,_,c1E F28 T,rfl,A28.g X G,A28.k,b28⟩
 have d__law_turns:Def P w (hK w.params) mg base "_law_turns" 1 1 a2p:=⟨_,_,_,c1H F29 T,rfl,A29.g X G,A29.k,b29⟩
 have d__law_is_table:Def P w (hK w.params) mg base "_law_is_table" 2 1 a0q:=⟨_,_,_,c1L F30 T d__law_turns d__law_whole,rfl,A30.g X G,A30.k,b30⟩
 have d__law_odd:Def P w (hK w.params) mg base "_law_odd" 2 1 a4o:=⟨_,_,_,c1M F31 T d__law_take,rfl,A31.g X G,A31.k,b31⟩
 have d__law_bent:Def P w (hK w.params) mg base "_law_bent" 2 2 a2T:=⟨_,_,_,c1N F32 T d__law_take,rfl,A32.g X G,A32.k,b32⟩
 have d__law_heights:Def P w (hK w.params) mg base "_law_heights" 1 1 a1R:=⟨_,_,_,c1Q F33 T,rfl,A33.g X G,A33.k,b33⟩
 have d__law_from:Def P w (hK w.params) mg base "_law_from" 1 1 a1s:=⟨_,_,_,c1U F34 T,rfl,A34.g X G,A34.k,b34⟩
 have d__law_near:Def P w (hK w.params) mg base "_law_near" 3 2 a4p:=⟨_,_,_,c1X F35 T d__law_from d__law_heights d__law_take d__law_is_table,rfl,A35.g X G,A35.k,b35⟩
 have d__law_refused:=c2b (P:=P) (w:=w) (mg:=mg) (base:=base) F36 T (A36.g X G) b36
 have d__law_due:Def P w (hK w.params) mg base "_law_due" 2 2 a3D:=⟨_,_,_,c2d F37 T d__law_heights,rfl,A37.g X G,A37.k,b37⟩
 exact c2e F38 rfl T (b9p tc A38.c (by kernel_rfl) hBm) d__law_state d__law_table d__law_take d__law_near d_is_below d__law_bent d__law_due d__law_odd d__law_is_table d__law_refused d_both_below d_both_above dx_is_below dx_both_below dx_both_above
end K61
open PySem PySem.W PyProof.Rows
set_option maxRecDepth 100000 in
set_option maxHeartbeats 0 in
theorem PySem.Challenge.cw_turnsigns_k61_below_and_above_holds : PySem.Challenge.rw_turnsigns_k61_below_and_above.Holds := by
 o_law
 refine PySem.W.holds_open (r:=PySem.Challenge.rw_turnsigns_k61_below_and_above.row) (q:=K61.hQ) (loose:=[]) (Xt:=fun s=>xlAt K61.hQ [] s && recOk [] s) (XP:=XL K61.hQ []) (Yf:=Hook.obs K61.hHk) (Ya:=Hook.val K61.hHk) (YP:=Hook.says K61.hHk) (d:=K61.hDr) (kwd:=[]) (N:=8298) K61.hlf (Hook.of K61.hHk) (Hook.keeps K61.hHk) (fun s e=>xl_of s (Bool.and_eq_true_iff.mp e).1) XL.keeps (by kernel_rfl) (by kernel_rfl) (by kernel_rfl) (fun s e=>recFacts_of (Bool.and_eq_true_iff.mp e).2) rfl (by assumption) (by decide+kernel) ⟨rfl,rfl,rfl,rfl,rfl,by decide+kernel⟩ ⟨[.list []],by decide+kernel,by decide+kernel⟩ ?hc
 exact L2.Mir.b9n (l:=PySem.Challenge.rw_turnsigns_k61_below_and_above) (k:=11) (x := "_law_script") (fn:=K61.a6N) rfl rfl ⟨rfl,by decide,by decide⟩ (fun w h Y=>⟨PySem.W.km_in_of Y,PySem.W.km_tabs_of Y⟩) K61.c3V K61.c3U
