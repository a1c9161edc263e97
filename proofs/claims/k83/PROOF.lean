import PyProof.Rows.All
import Wide.All
import OpenK.AllK
import Wide.FinOn
import Lean
import PyProof.EqAt
import PyProof.EqKinds
import PyProof.TupleCall
import PySem.Challenge.RW_turnsigns_k83_whole_shares
set_option Elab.async false
set_option linter.all false
set_option maxRecDepth 100000
set_option maxHeartbeats 0
abbrev Qq:=PySem.W.Frag
abbrev Qz:=@PySem.wpAny_bind
abbrev Qj:=@Option.bind_some
abbrev Qx:=@PySem.Heap.get?_push_of_some
abbrev Qk:=@Bool.and_eq_true
abbrev Qv:=@PySem.wpAny_pure
abbrev Qw:=@List.length_map
abbrev Qy:=@List.map_cons
abbrev Qu:=@List.all_eq_true
abbrev Qp:=@Nat.le_refl
abbrev Qb:=@List.getElem?_eq_some_iff
abbrev Qg:=@if_pos
abbrev Qh:=@PySem.Heap.lt_size
abbrev Qm:=@List.mem_cons_of_mem
abbrev Qn:=@PySem.Heap.get?_push_size
abbrev Qc:=@List.getElem?_set_ne
abbrev Ql:=@List.size_toArray
abbrev Qd:=@List.mem_cons_self
abbrev Qr:=@decide_eq_true_eq
abbrev Qs:=@decide_eq_false
abbrev Qi:=@List.mem_cons
abbrev Qt:=@if_neg
abbrev Qa:=@Nat.lt_of_lt_of_le
abbrev Qe:=@decide_eq_true
abbrev Qo:=@PySem.PassesOwn.never
abbrev Zq:=@List.mem_append_right
abbrev Zz:=@List.length_append
abbrev Zj:=@Bool.false_eq_true
abbrev Zx:=@List.mem_map
abbrev Zk:=@List.length_cons
abbrev Zv:=@PySem.W.kia_one
abbrev Zw:=@Nat.ne_of_lt
abbrev Zy:=@PySem.wpAny_mono
abbrev Zu:=@List.getElem?_map
abbrev Zp:=@List.filter_cons_of_pos
abbrev Zb:=@List.map_map
abbrev Zg:=@List.map_append
abbrev Zf:=@Option.some.injEq
abbrev Zh:=@PySem.W.mg_none_of
abbrev Zm:=@if_true
abbrev Zn:=@PySem.mem_of_lookup
abbrev Zc:=@List.map_congr_left
abbrev Zl:=@List.filter_cons_of_neg
abbrev Zd:=@Bool.false_ne_true
abbrev Zr:=@PySem.wpAny_loadPart'
abbrev Zs:=@List.replicate_succ
abbrev Zi:=@PyProof.Rows.slot_tuple_getitem
abbrev Zt:=@List.mem_range
abbrev Za:=@Ne.symm
abbrev Ze:=@List.sum_cons
abbrev Zo:=@List.length_set
abbrev Yq:=@List.getElem?_append_left
abbrev Yz:=@PySem.wpAny_truthy_bool
abbrev Yj:=@Nat.le_trans
abbrev Yx:=@PySem.Heap.size_push
abbrev Yk:=@List.getElem?_eq_getElem
abbrev Yv:=@PySem.boot_len
abbrev Yw:=@Option.some.inj
abbrev Yy:=@PySem.wpAny_field
abbrev Yu:=@List.not_mem_nil
abbrev Yp:=@List.mem_append
abbrev Yb:=@congrArg
abbrev Yg:=@PySem.W.Fast.te14364793385576792824
abbrev Yh:=@PySem.wpAny_callSpecial?_slot
abbrev Ym:=@PySem.wpAny_newObj_type
abbrev Yn:=@Int.toNat_natCast
abbrev Yc:=@if_false
abbrev Yl:=@List.getElem?_set_self
abbrev Yd:=@Nat.lt_irrefl
abbrev Yr:=@PySem.wpAny_holding
abbrev Ys:=@List.getElem?_append_right
abbrev Yi:=@PySem.F.slot_tuple_iterator_next
abbrev Yt:=@List.length_replicate
abbrev Ye:=@List.contains_cons
abbrev Yo:=@PySem.wpAny_seqItems
abbrev Jq:=@List.append_nil
abbrev Jz:=@Nat.mul_comm
abbrev Jj:=@PySem.SeqAt.canLay_of_shaped
abbrev Jx:=@List.take_of_length_le
abbrev Jk:=@PyProof.Rows.callWith_type1
abbrev Jv:=@List.zip_cons_cons
abbrev Jw:=@PySem.wpAny_setField_rec
abbrev Jy:=@PySem.wpAny_passesOwn
abbrev Ju:=@List.length_nil
abbrev Jp:=@List.getElem?_zipWith
abbrev Jb:=@congrFun
abbrev Jg:=@PySem.wpAny_pyIter_list
abbrev Jf:=@Nat.le_of_succ_le
abbrev Jh:=@List.mem_of_getElem?
abbrev Jm:=@Nat.mul_pos
abbrev Jn:=@Prod.ext
abbrev Jc:=@Nat.ne_of_gt
abbrev Jl:=@Option.isSome_iff_exists
abbrev Jd:=@PySem.wpAny_call_entry
abbrev Jr:=@List.length_zipWith
abbrev Js:=@PySem.wpAny_standAt
abbrev Ji:=@List.mem_filter
abbrev Jt:=@List.nodup_cons
abbrev Ja:=@PySem.wpAny_ite_false
abbrev Je:=@PySem.tupleKind_room_in1
abbrev Jo:=@Int.emod_nonneg
abbrev Uq:=@PySem.W.cellsFrom_some
abbrev Uz:=@List.zipWith_cons_cons
abbrev Uj:=@PySem.W.kitx_dict
abbrev Ux:=@List.flatten_cons
abbrev Uk:=@Nat.le_of_lt
abbrev Uv:=@PySem.F.slot_zip_next
abbrev Uw:=@List.contains_iff_mem
abbrev Uy:=@PySem.wpAny_rule
abbrev Uu:=@or_false
abbrev Up:=@List.getElem_mem
abbrev Ub:=@Nat.mul_assoc
abbrev Ug:=@List.filter_eq_self
abbrev Uh:=@Classical.byContradiction
abbrev Um:=@PySem.wpAny_typeOf
abbrev Uc:=@List.map_nil
abbrev Ul:=@Nat.lt_trans
abbrev Ud:=@PySem.wpAny_pyIter_tuple
abbrev Ur:=@PySem.F.args_tuple_add_2
abbrev Us:=@Int.emod_lt_of_pos
abbrev Ui:=@Nat.pos_of_ne_zero
abbrev Ut:=@Nat.mul_le_mul
abbrev Ua:=@List.getElem?_replicate
abbrev Ue:=@PySem.F.entry_tuple_add
abbrev Uo:=@List.append_assoc
abbrev Vq:=@PySem.F.args_tuple_iterator_next_1
abbrev Vz:=@PySem.F.slot_tuple_add
abbrev Vj:=@PySem.F.entry_tuple_iterator_next
abbrev Vx:=@Option.map_eq_some_iff
abbrev Vk:=@List.range_succ_eq_map
abbrev Vv:=@Bool.true_and
abbrev Vw:=@List.length_take
abbrev Vy:=@PySem.F.slot_tuple_mul
abbrev Vu:=@Nat.le_add_right
abbrev Vp:=@List.map_zipWith
abbrev Vb:=@PySem.wpAny_execs_nil
abbrev Vg:=@PySem.call_meets
abbrev Vf:=@List.find?_cons
abbrev Vh:=@List.cons.injEq
abbrev Vm:=@PySem.pushCells_keeps
abbrev Vn:=@List.nil_append
abbrev Vc:=@PySem.wpAny_updateSeq_pair
abbrev Vl:=@Bool.or_eq_true
abbrev Vd:=@List.range_succ
abbrev Vr:=@Nat.gcd_comm
abbrev Vs:=@List.filterMap_cons
abbrev Vi:=@Array.length_toList
abbrev Vt:=@Int.toNat_of_nonneg
abbrev Va:=@Nat.zero_le
abbrev Ve:=@PySem.wpAny_Call_Name_kw
abbrev Vo:=@Nat.lt_of_le_of_lt
abbrev Xq:=@List.all_cons
abbrev Xz:=@List.any_cons
abbrev Xj:=@Bool.false_or
abbrev Xx:=@PySem.wpAny_onRaise
abbrev Xk:=@PySem.wpAny_attempt
abbrev Xv:=@List.map_take
abbrev Xw:=@PySem.W.kitx_list
abbrev Xy:=@Option.isSome_map
abbrev Xu:=@Nat.lt_succ_of_lt
abbrev Xp:=@beq_iff_eq
abbrev Xb:=@List.length_drop
abbrev Xg:=@Nat.lt_succ_self
abbrev Xf:=@List.cons_append
abbrev Xh:=@List.of_mem_zip
abbrev Xm:=@List.map_id
abbrev OO:=Nat->Nat->Int
abbrev OI:=List (List Int)
abbrev OU:=PySem.Str->Option PySem.Value
abbrev OE:=PySem.Value->PySem.Shared->Prop
abbrev OA:=PySem.Addr->Prop
abbrev OX:=List (PySem.Addr×PySem.Obj)
namespace HG
open PySem PySem.W PySem.Calls PyProof.Rows
noncomputable def hnth {α:Type}(l:List α) (i:Nat) (d:α):α:=@List.rec α (fun _=>Nat->α) (fun _=>d) (fun a _ ih i=>@Nat.rec (fun _=>α) a (fun j _=>ih j) i) l i
def hsN(s:Stmt):Str:=match s with
 |.FunctionDef n ..=>n
 |.ClassDef n ..=>n
 |_=>Str.empty
def hsA(s:Stmt):Arguments:=match s with
 |.FunctionDef _ a ..=>a
 |_=>default
def hsB(s:Stmt):List Stmt:=match s with
 |.FunctionDef _ _ b ..=>b
 |.ClassDef _ _ _ b ..=>b
 |_=>[]
def hsS(s:Stmt):Scope:=match s with
 |.FunctionDef _ _ _ _ _ _ c ..=>c
 |_=>default
def hsP(s:Stmt):Pos:=match s with
 |.FunctionDef _ _ _ _ _ _ _ _ _ p=>p
 |_=>⟨0,0,0,0⟩
def hdep{α:Sort u}(_:α):Bool:=true
def hE(P:Params)(x:Str)(t:Tok)(v:Value):DictEntry:=⟨PyData.keyHash P x,.str x t,v⟩
def hZ:Obj:=⟨.type "tuple",none,.seq ⟨[]⟩ 0,⟨[]⟩⟩
def hU(l:List Value):Obj:=⟨.type "tuple",none,.seq ⟨l⟩ 0,⟨[]⟩⟩
def hN:Obj:=⟨.none,none,.fields ⟨[]⟩,⟨[]⟩⟩
def hC(n:Str)(t t2:Nat)(ln na fl:Int)(a:Addr)(g:Bool)(b:Addr)(v1 v2 v3 v4:Value):Obj:=
 ⟨.type "code",none,.fields ⟨[.str n t,.str n (Nat.add t 1),.str "/claim/cut.py" (Nat.add t 2),.int ln 0,.int na 0,.int 0 0,.int 0 0,.int fl 0,.ref a,.bool g,.int 181 0,.ref b,v1,v2,v3,v4,.int (Int.ofNat t2) 0,.int ln 0,.str "/claim/cut.py" (Nat.add t2 1)]⟩,⟨[]⟩⟩
def hX(s:Stmt)(q:Str)(g:Addr)(cl:List (Str×Addr))(d k dc m:Value)(an:Option Addr)(c ct:Value)(b:Addr):FuncData:=
 ⟨hsN s,q,hsA s,.stmts (hsB s),hsS s,g,cl,d,k,dc,m,an,c,ct,b⟩
def hR(s:Stmt):Obj:=⟨.none,none,.func (hX s (hsN s) 0 [] .none .none .none .none none .none .none 0),⟨[]⟩⟩
def hF(s:Stmt)(m c:Value):Obj:=⟨.type "function",none,.func (hX s (hsN s) 3 [] .none .none .none m none c .none 0),⟨[]⟩⟩
def hD5(s:Stmt)(a t:Nat)(ln na:Int)(m:Value):List Obj:=[hZ,hN,hR s,hC (hsN s) t (Nat.add t 3) ln na 3 a true (Nat.add a 1) .none .none .none (.ref (Nat.add a 2)),hF s m (.ref (Nat.add a 3))]
noncomputable def hvs (l:List Str) (t:Nat):List Value:=@List.rec Str (fun _=>Nat->List Value) (fun _=>[]) (fun x _ ih t=>.str x t::ih (Nat.succ t)) l t
noncomputable def hD7 (s:Stmt) (a t:Nat) (ln na:Int) (m:Value) (l:List Str):List Obj:=[hZ,hN,hU (hvs l (Nat.add t 3)),hZ,hR s,hC (hsN s) t (Nat.add (Nat.add t 3) l.length) ln na 3 a true (Nat.add a 1) .none (.ref (Nat.add a 2)) (.ref (Nat.add a 3)) (.ref (Nat.add a 4)),hF s m (.ref (Nat.add a 5))]
def hCl(P:Params)(s:Stmt)(a t:Nat)(ln:Int)(m:Value):List Obj:=
 [⟨.type "builtin_function_or_method",none,.fields ⟨[.builtin "type.__prepare__",.type "type"]⟩,⟨[]⟩⟩,
  ⟨.type "dict",none,.dict ⟨[hE P "__module__" (Nat.add t 7) m,hE P "__qualname__" (Nat.add t 9) (.str (hsN s) (Nat.add t 8)),hE P "__firstlineno__" (Nat.add t 11) (.int ln (Nat.add t 10)),hE P "__static_attributes__" (Nat.add t 12) (.ref (Nat.add a 6))]⟩ 4,⟨[]⟩⟩,
  hZ,hN,hC (hsN s) (Nat.add t 2) (Nat.add t 5) ln 0 0 (Nat.add a 2) false (Nat.add a 3) .none .none .none .none,
  ⟨.type "frame",none,.plain,⟨[some (.ref (Nat.add a 4)),some (.ref 3),some (.ref (Nat.add a 1)),none,some m,none,some (.ref 0)]⟩⟩,hZ,
  ⟨.type "dict",none,.dict ⟨[hE P "__module__" (Nat.add t 7) m,hE P "__firstlineno__" (Nat.add t 11) (.int ln (Nat.add t 10)),hE P "__static_attributes__" (Nat.add t 12) (.ref (Nat.add a 6)),hE P "__doc__" (Nat.add t 13) .none]⟩ 2,⟨[]⟩⟩,
  ⟨.type "type",none,.cls ⟨hsN s,[.ref 24],[.ref (Nat.add a 8),.ref 24,.type "ValueError",.type "Exception",.type "BaseException",.type "object"],Nat.add a 7,hsN s,true,[],[],false,none,false⟩,⟨[some (.ref (Nat.sub a 1)),none,some (.str (hsN s) t),some (.str (hsN s) (Nat.add t 8)),some (.builtin "ValueError.__new__"),some (.bool true)]⟩⟩,
  ⟨.type "super",none,.fields ⟨[.ref (Nat.add a 8),.ref (Nat.add a 8),.ref (Nat.add a 8)]⟩,⟨[]⟩⟩,
  ⟨.type "builtin_function_or_method",none,.fields ⟨[.builtin "object.__init_subclass__",.ref (Nat.add a 8)]⟩,⟨[]⟩⟩]
noncomputable def hfd (l:List (Nat×List Obj)) (b:Nat):Obj:=@List.rec (Nat×List Obj) (fun _=>Nat->Obj) (fun _=>hZ) (fun x _ ih b=>@Bool.rec (fun _=>Obj) (ih (Nat.sub b x.1)) (hnth x.2 b hZ) (Nat.blt b x.1)) l b
def hL3(l:List (Int×Addr)):List Value:=l.flatMap fun x=>[.int x.1 0,.int 0 0,.ref x.2]
noncomputable def hmk (f:Nat->Obj) (n:Nat) (fuel:Nat):Nat->Nat->BT:=
 @Nat.rec (fun _=>Nat->Nat->BT) (fun _ _=>.nil) (fun _ ih a b=>@Bool.rec (fun _=>BT) .nil (.node (f b) (ih (Nat.mul 2 a) (Nat.add a b)) (ih (Nat.mul 2 a) (Nat.add (Nat.mul 2 a) b))) (Nat.blt b n)) fuel
def hEnv(p:Program)(c:Value)(f:Addr):Env:={scope:=p.main.scope,locals:=mainNs,globals:=mainNs,cells:=[],code:=c,frame:=some f}
def hVw(p:Program)(l:List Nat):Program:={p with main:={p.main with body:=l.map fun i=>p.main.body.getD i (.Pass ⟨0,0,0,0⟩)}}
abbrev hSt(tr:Nat->Params->BT)(k n t:Nat)(w:World)(os:OsState):SharedT:=⟨tr k w.params,n,{},⟨[]⟩,{},t,os⟩
abbrev hCd(p:Program)(ev:Env):Code:=.body (behindTheImports p) ev
def hPre(m0:Nat)(ann:Option Value)(n n0 t0:Nat)(q q0:Pos)(tg:(String->Option Builtin)->Program->World->Nat->Option Value->Nat->Shared->Thread->Option (Shared×Thread))(dn:(String->Option Builtin)->Code->Sem Fin)(tb:String->Option Builtin)(p:Program)(tr:Nat->Params->BT)(ev:Env):Prop:=
 ∀w:World,(fun os=>tg tb p w m0 ann n ⟨boot_heap w.params,⟨[]⟩,boot_drawn,boot_toks,os⟩ (topStub p))=fun os=>some ((hSt tr 0 n0 t0 w os).abs,Thread.mk (dn tb (hCd p ev)) (hCd p ev) q0 [topFrame q])
def hBlk(m0:Nat)(ann:Option Value)(n n0 t0:Nat)(q q0 q1:Pos)(sr:(String->Option Builtin)->Program->World->Nat->Option Value->Nat->Nat->Shared->Thread->Option (Flow×Shared×Code×Pos))(tb:String->Option Builtin)(p:Program)(tr:Nat->Params->BT)(ev:Env):Prop:=
 ∀w:World,(fun os=>sr tb p w m0 ann 1 n (hSt tr 0 n0 t0 w os).abs (blockOf (behindTheImports p) ev (hCd p ev) q0 [topFrame q]))=fun os=>some (.next,(hSt tr 0 n0 t0 w os).abs,hCd p ev,q1)
def hPc(m0:Nat)(ann:Option Value)(n i j k n0 t0 n1 t1:Nat)(q q0 q1:Pos)(sr:(String->Option Builtin)->Program->World->Nat->Option Value->Nat->Nat->SharedT->Thread->Option (Flow×SharedT×Code×Pos))(tb:String->Option Builtin)(p:Program)(tr:Nat->Params->BT)(ev:Env):Prop:=
 ∀w:World,(fun os=>sr tb p w m0 ann 1 n (hSt tr k n0 t0 w os) (piecesOf (((behindTheImports p).drop i).take j) ev (hCd p ev) q0 [topFrame q]))=fun os=>some (.next,hSt tr (Nat.succ k) n1 t1 w os,hCd p ev,q1)
def hFin(m0:Nat)(ann:Option Value)(n k n0 t0:Nat)(q q0:Pos)(sr:(String->Option Builtin)->Program->World->Nat->Option Value->Nat->Shared->Thread->Option Shared)(tb:String->Option Builtin)(p:Program)(tr:Nat->Params->BT)(ev:Env):Prop:=
 ∀w:World,(fun os=>sr tb p w m0 ann n (hSt tr k n0 t0 w os).abs (Thread.mk (doneF .next) (hCd p ev) q0 [topFrame q]))=fun os=>some (hSt tr k n0 t0 w os).abs
variable{m0:Nat}{ann:Option Value}{q q0 q1:Pos}{tb:String->Option Builtin}{p:Program}{tr:Nat->Params->BT}{ev:Env}{n N i j k n0 t0 n1 t1:Nat}{r:Shared}
theorem hgo(h:hPre m0 ann n n0 t0 q q0 topGo denote tb p tr ev)(w:World)(os:OsState)(g:topRun tb p w m0 ann N (hSt tr 0 n0 t0 w os).abs (Thread.mk (denote tb (hCd p ev)) (hCd p ev) q0 [topFrame q])=some r):
  topRun tb p w m0 ann (Nat.add n N) ⟨boot_heap w.params,⟨[]⟩,boot_drawn,boot_toks,os⟩ (topStub p)=some r:=go_top (Jb (h w) os) g
theorem hblkk(h:hBlk m0 ann n n0 t0 q q0 q1 segRun tb p tr ev)(w:World)(os:OsState)(g:topRun tb p w m0 ann N (hSt tr 0 n0 t0 w os).abs (restOf ((behindTheImports p).drop 0) ev (hCd p ev) q1 [topFrame q])=some r):
  topRun tb p w m0 ann (Nat.add n N) (hSt tr 0 n0 t0 w os).abs (Thread.mk (denote tb (hCd p ev)) (hCd p ev) q0 [topFrame q])=some r:=piece_block (Jb (h w) os) g
theorem hpcs(h:hPc m0 ann n i j k n0 t0 n1 t1 q q0 q1 segRunT tb p tr ev)(w:World)(os:OsState)(g:topRun tb p w m0 ann N (hSt tr (Nat.succ k) n1 t1 w os).abs (restOf ((behindTheImports p).drop (Nat.add i j)) ev (hCd p ev) q1 [topFrame q])=some r):
  topRun tb p w m0 ann (Nat.add n N) (hSt tr k n0 t0 w os).abs (restOf ((behindTheImports p).drop i) ev (hCd p ev) q0 [topFrame q])=some r:=by
 have a:=piece_app (segRun_of (Jb (h w) os)) g
 have e:((behindTheImports p).drop i).take j++(behindTheImports p).drop (Nat.add i j)=(behindTheImports p).drop i:=by
  have:=List.take_append_drop j ((behindTheImports p).drop i);rw[List.drop_drop]at this;exact this
 rw[e]at a;exact a
theorem hfin'(e:(behindTheImports p).drop i=[])(h:hFin m0 ann n k n0 t0 q q0 topRun tb p tr ev)(w:World)(os:OsState):
  topRun tb p w m0 ann n (hSt tr k n0 t0 w os).abs (restOf ((behindTheImports p).drop i) ev (hCd p ev) q0 [topFrame q])=some (hSt tr k n0 t0 w os).abs:=by
 rw[e];exact Jb (h w) os
abbrev hSh(H:Params->Heap)(t:Nat)(w:World)(os:OsState):Shared:=⟨H w.params,⟨[]⟩,{},t,os⟩
structure hLk(p v:Program)(H:Params->Heap)(K:Params->Frag)(as ts:List Addr)(t:Nat)(ls:List Str:=[]):Prop where
 l1:∀w:World,(fun os=>staticsOk (PySem.W.Fast.tw5923862056798008813 p.main.body) (boot_heap w.params) (H w.params)&&namesBound p (H w.params)&&gensDone (hSh H t w os)&&laidKept (boot_heap w.params) (H w.params))=fun _=>true
 l2:∀w:World,(fun os=>PySem.W.Fast.tw5160383126252970620 (PySem.W.R.mapR (fun x=>x.name) (PySem.W.Fast.tw3399658132070893891 v)) (PySem.W.Fast.tw5991557255702980513 v) [] (hSh H t w os))=fun _=>expectedOf v
 l3:∀w:World,(H w.params).bltView=bltViewBooted
 l4:∀w:World,(fun os=>PySem.W.Fast.tw10880121769531294198 (H w.params) (PySem.W.Fast.tw821141287760084731 v ls) (PySem.W.R.mapR (fun x=>x.name) (PySem.W.Fast.tw3399658132070893891 v)) (PySem.W.R.mapR (fun x=>x.1) (PySem.W.Fast.tw7409074990110511671 v)) (PySem.W.R.mapR (fun x=>x.name) (PySem.W.Fast.tw13664370479719496447 v (PySem.W.Fast.tw821141287760084731 v ls)))&&PySem.W.Fast.tw14722251495701143533 (H w.params) (PySem.W.Fast.tw5923862056798008813 p.main.body)&&(H w.params).isNs mainGlobals&&(H w.params).isNs builtinsNs&&PySem.W.Fast.tw10994771534591457954 v (H w.params)&&(xlAt v [] (hSh H t w os)&&recOk [] (hSh H t w os))&&(if true then(hSh H t w os).gens.size==0 else !leftWithCleanup (hSh H t w os).gens))=fun _=>true
 l5:∀w:World,(fun os=>PySem.W.Fast.tw479339242167458305 v (hSh H t w os))=fun _=>true
 l6:∀w:World,(fun os=>PySem.W.Fast.tw16090120013241838585 v (PySem.W.Fast.tw3247288618530077131 v) (hSh H t w os))=fun _=>pinGoodD (PySem.W.Fast.tw3247288618530077131 v)
 l7:∀w:World,(fun os=>PySem.W.Fast.tw2386780881361962483 v (PySem.W.Fast.tw821141287760084731 v ls) (hSh H t w os))=fun _=>plainGoodE v (PySem.W.Fast.tw821141287760084731 v ls)
 l8:∀w:World,(fun os=>PySem.W.Fast.tw11698064438423848299 v ls (hSh H t w os))=fun _=>plainGoodD v ls
 l9:∀w:World,(fun os=>PySem.W.Fast.tw7317090234206586261 v (hSh H t w os))=fun _=>wideGood v
 l10:∀w:World,(fun os=>PySem.W.Fast.tw7369524293546568484 v ls (hSh H t w os))=fun _=>clsGoodW v ls
 l11:∀w:World,PySem.W.R.mapR (H w.params).get? as=PySem.W.R.mapR (fun p=>some p.2) (K w.params)
 l12:∀w:World,PySem.W.R.mapR (H w.params).get? ts=PySem.W.R.mapR (fun _=>some (tabObj #[])) ts
theorem hsize(w:World):((boot_heap w.params).isNs mainGlobals&&(Array.mk []:Array GenState).size==0,(boot_heap w.params).objs.size,(boot_heap w.params).nsMap mainGlobals "__annotations__")=(true,11,some (.ref 6)):=by
 rw[PySem.W.Fast.te8920871248978507458,show("__annotations__":Str)=⟨⟨[95,95,97,110,110,111,116,97,116,105,111,110,115,95,95]⟩⟩from PySem.W.Fast.ofString_ofList ['_','_','a','n','n','o','t','a','t','i','o','n','s','_','_']]
 kernel_rfl
theorem hleft{v:Program}{H:Params->Heap}{K:Params->Frag}{as ts:List Addr}{t M:Nat}(e:∀P,as=(K P).map (·.1))(eo:opening p=plainProg p.main.scope.names)(hf:∀s,fenceModules? p s=some s)(hN:Nat.ble 600 N=true)(le:Nat.ble M N=true)
  (run:∀(w:World) (os:OsState),topRun treeTable p w 11 (some (.ref 6)) M ⟨boot_heap w.params,⟨[]⟩,boot_drawn,boot_toks,os⟩ (topStub p)=some (hSh H t w os)){ls:List Str}(L:hLk p v H K as ts t ls):
  LeftO p v ls (fun s=>xlAt v [] s&&recOk [] s) (Hook.obs (kmHook K as e ts)) (Hook.val (kmHook K as e ts)) N:=by
 refine LeftO.of_pieces (boot_open eo hN hf) hsize run le fun w=>?_
 have q1:=L.l1 w;have q2:=L.l2 w;have q3:=L.l3 w;have q4:=L.l4 w;have q5:=L.l5 w;have q6:=L.l6 w;have q7:=L.l7 w;have q8:=L.l8 w;have q9:=L.l9 w;have q10:=L.l10 w;have q11:=L.l11 w;have q12:=L.l12 w
 simp only[←PySem.W.Fast.te5923862056798008813,←PySem.W.Fast.te5160383126252970620,←PySem.W.R.mapR_eq,←PySem.W.Fast.te3399658132070893891,←PySem.W.Fast.te5991557255702980513,←PySem.W.Fast.te10880121769531294198,←PySem.W.Fast.te821141287760084731,←PySem.W.Fast.te7409074990110511671,←PySem.W.Fast.te13664370479719496447,←PySem.W.Fast.te14722251495701143533,←PySem.W.Fast.te10994771534591457954,←PySem.W.Fast.te479339242167458305,←PySem.W.Fast.te16090120013241838585,←PySem.W.Fast.te3247288618530077131,←PySem.W.Fast.te2386780881361962483,←PySem.W.Fast.te11698064438423848299,←PySem.W.Fast.te7317090234206586261,←PySem.W.Fast.te7369524293546568484]at q1 q2 q4 q5 q6 q7 q8 q9 q10 q11 q12
 funext os
 unfold openSeen openGood;refine Jn (Jb q1 os) (Jn (Jn (Jb q2 os) (Jn q3 (Jn (Jb q4 os) (Jn (Jb q5 os) (Jn (Jb q6 os) (Jn (Jb q7 os) (Jn (Jb q8 os) (Jn (Jb q9 os) (Jb q10 os))))))))) (Jn q11 q12))
end HG
namespace K83
noncomputable section
open PySem PySem.W PySem.Calls PyProof.Rows HG
def hS(i:Nat):Stmt:=PySem.Challenge.pw_turnsigns_k83_whole_shares.main.body.getD i (.Pass ⟨0,0,0,0⟩)
def hm0:Value:=(.str "turnsigns.errors" 187)
def hm1:Value:=(.str "turnsigns.grids" 255)
def hm2:Value:=(.str "turnsigns.tables" 322)
def hm3:Value:=(.str "turnsigns.counts" 348)
def hm4:Value:=(.str "turnsigns.shares" 457)
def hm5:Value:=(.str "law_turnsigns_k83_whole_shares" 509)
def hc0(P:Params):List (Nat×List Obj):=[(15,[boot_o_0 P,boot_o_1 P,boot_o_2 P,hZ,boot_o_4 P,boot_o_5 P,boot_o_6 P,boot_o_7 P,boot_o_8 P,boot_o_9 P,boot_o_10 P,hZ,hZ,hC "<module>" 182 185 1 0 0 11 false 12 .none .none .none .none,⟨(.type "frame"),none,.plain,⟨[(some (.ref 13)),(some (.ref 3)),(some (.ref 3)),none,(some (.str "__main__" 164)),none,(some (.ref 0))]⟩⟩]),(13,[hU [(.type "ValueError")],⟨(.type "builtin_function_or_method"),none,.fields ⟨[(.builtin "type.__prepare__"),(.type "type")]⟩,⟨[]⟩⟩,⟨(.type "dict"),none,.dict ⟨[hE P "__module__" 196 (.str "turnsigns.errors" 187),hE P "__qualname__" 198 (.str "SignError" 197),hE P "__firstlineno__" 200 (.int 2 199),hE P "__static_attributes__" 201 (.ref 22)]⟩ 4,⟨[]⟩⟩,hZ,hN,hC "SignError" 191 194 2 0 0 18 false 19 .none .none .none .none,⟨(.type "frame"),none,.plain,⟨[(some (.ref 20)),(some (.ref 3)),(some (.ref 17)),none,(some (.str "turnsigns.errors" 187)),none,(some (.ref 0))]⟩⟩,hZ,⟨(.type "dict"),none,.dict ⟨[hE P "__module__" 196 (.str "turnsigns.errors" 187),hE P "__firstlineno__" 200 (.int 2 199),hE P "__static_attributes__" 201 (.ref 22),hE P "__weakref__" 203 (.ref 25),hE P "__doc__" 204 .none]⟩ 3,⟨[]⟩⟩,hZ,⟨(.type "getset_descriptor"),none,.fields ⟨[(.str "__weakref__" 202),(.ref 24),(.builtin "ExceptionGroup.__weakref__"),.none]⟩,⟨[]⟩⟩,⟨(.type "super"),none,.fields ⟨[(.ref 24),(.ref 24),(.ref 24)]⟩,⟨[]⟩⟩,⟨(.type "builtin_function_or_method"),none,.fields ⟨[(.builtin "object.__init_subclass__"),(.ref 24)]⟩,⟨[]⟩⟩]),(1,[hU [.ref 24]]),(11,hCl P (hS 2) 29 207 4 hm0),(1,[hU [.ref 24]]),(11,hCl P (hS 3) 41 223 6 hm0),(1,[hU [.ref 24]]),(11,hCl P (hS 4) 53 239 8 hm0),(7,hD7 (hS 6) 64 257 11 1 hm1 ["thing"]),(7,hD7 (hS 7) 71 264 13 3 hm1 ["thing","least","greatest"])]
def hc1(P:Params):List (Nat×List Obj):=[(5,hD5 (hS 8) 78 273 15 2 hm1),(5,hD5 (hS 9) 83 279 19 3 hm1),(7,hD7 (hS 10) 88 285 23 3 hm1 ["thing","least","greatest"]),(5,hD5 (hS 11) 95 294 27 1 hm1),(7,hD7 (hS 12) 100 300 29 1 hm1 ["row","sums","number"]),(5,hD5 (hS 13) 107 309 34 1 hm1),(7,hD7 (hS 14) 112 315 36 1 hm1 ["grid"]),(7,hD7 (hS 17) 119 326 40 1 hm2 ["line","total","number"]),(5,hD5 (hS 18) 126 335 47 1 hm2),(7,hD7 (hS 19) 131 341 51 1 hm2 ["thing"])]
def hc2(P:Params):List (Nat×List Obj):=[(7,hD7 (hS 22) 138 352 56 4 hm3 ["thing","least","greatest","name"]),(7,hD7 (hS 23) 145 362 59 1 hm3 ["number","product","factor"]),(7,hD7 (hS 24) 152 371 64 1 hm3 ["side","top","bottom","at"]),(7,hD7 (hS 25) 159 381 71 1 hm3 ["side"]),(7,hD7 (hS 26) 166 388 74 2 hm3 ["side","column","many","at"]),(5,hD5 (hS 27) 173 398 83 1 hm3),(5,hD5 (hS 28) 178 404 88 2 hm3),(5,hD5 (hS 29) 183 410 90 2 hm3),(5,hD5 (hS 30) 188 416 92 2 hm3),(7,hD7 (hS 31) 193 422 98 2 hm3 ["choices","number","at"])]
def hc3(P:Params):List (Nat×List Obj):=[(7,hD7 (hS 32) 200 431 104 3 hm3 ["side","number","known","rows","sums","row"]),(5,hD5 (hS 33) 207 443 112 1 hm3),(7,hD7 (hS 34) 212 449 119 2 hm3 ["side","number"]),(7,hD7 (hS 36) 219 459 124 2 hm4 ["thing","width"]),(7,hD7 (hS 37) 226 467 126 2 hm4 ["side","rows","sums","row"]),(7,hD7 (hS 38) 233 477 136 2 hm4 ["top","bottom","common","rest"]),(7,hD7 (hS 39) 240 487 141 2 hm4 ["side","rows"]),(7,hD7 (hS 40) 247 495 143 2 hm4 ["side","rows"]),(5,hD5 (hS 41) 254 503 145 2 hm4),(7,hD7 (hS 43) 259 511 151 2 hm5 ["_law_script","_law_k"])]
def hc4(P:Params):List (Nat×List Obj):=[(7,hD7 (hS 44) 266 519 155 2 hm5 ["_law_script","_law_k","_law_cell"]),(7,hD7 (hS 45) 273 528 160 2 hm5 ["_law_state_here","_law_many","_law_found","_law_mixed"]),(5,hD5 (hS 46) 280 538 169 1 hm5),(5,hD5 (hS 47) 285 544 181 2 hm5),(5,hD5 (hS 48) 290 550 183 2 hm5),(7,hD7 (hS 49) 295 556 196 2 hm5 ["_law_top","_law_bottom","_law_one","_law_other"]),(7,hD7 (hS 50) 302 566 201 2 hm5 ["_law_side","_law_rows_here","_law_top","_law_bottom","_law_row","_law_part"]),(7,hD7 (hS 51) 309 578 208 3 hm5 ["_law_side","_law_rows_here","_law_table_here","_law_first","_law_here","_law_behind","_law_last","_law_many","_law_some"]),(7,hD7 (hS 52) 316 593 220 1 hm5 ["_law_script","_law_k","_law_state_here","_law_side","_law_table_here","_law_top","_law_bottom","_law_many","_law_rows_here","_law_part"])]
def hB(P:Params):Nat->Obj:=hfd (hc0 P++hc1 P++hc2 P++hc3 P++hc4 P)
def b4r(P:Params)(v:Value):List DictEntry:=[hE P "__name__" 165 v,hE P "__doc__" 166 .none,hE P "__package__" 167 .none,hE P "__loader__" 168 (.builtin "__main__.__loader__#opaque"),hE P "__spec__" 169 .none,hE P "__annotations__" 170 (.ref 6),hE P "__builtins__" 171 (.ref 4),hE P "__file__" 173 (.str "/claim/cut.py" 172),hE P "__cached__" 174 .none,hE P "SignError" 206 (.ref 24),hE P "NoTable" 222 (.ref 37),hE P "NoNumber" 238 (.ref 49),hE P "NoRows" 254 (.ref 61),hE P "is_whole" 263 (.ref 70),hE P "is_within" 272 (.ref 77),hE P "is_row" 278 (.ref 82)]
def b4s(P:Params)(v:Value):List DictEntry:=[hE P "is_grid" 284 (.ref 87),hE P "is_square" 293 (.ref 94),hE P "flipped" 299 (.ref 99),hE P "running_sums" 308 (.ref 106),hE P "sums_across" 314 (.ref 111),hE P "sums_down" 321 (.ref 118),hE P "GREATEST_SIDE" 325 (.int 6 324),hE P "takes_turns" 334 (.ref 125),hE P "is_table" 340 (.ref 130),hE P "must_be_table" 347 (.ref 137),hE P "GREATEST_COUNTED" 351 (.int 40 350),hE P "must_be_within" 361 (.ref 144),hE P "factorial" 370 (.ref 151),hE P "counted" 380 (.ref 158),hE P "many_tables" 387 (.ref 165),hE P "many_first" 397 (.ref 172)]
def b4t(P:Params)(v:Value):List DictEntry:=[hE P "rows_on" 403 (.ref 177),hE P "added" 409 (.ref 182),hE P "choices_on" 415 (.ref 187),hE P "ways_on" 421 (.ref 192),hE P "chosen" 430 (.ref 199),hE P "laid" 442 (.ref 206),hE P "number_of" 448 (.ref 211),hE P "table_at" 456 (.ref 218),hE P "is_rows" 466 (.ref 225),hE P "sums_behind" 476 (.ref 232),hE P "fraction" 486 (.ref 239),hE P "many_so" 494 (.ref 246),hE P "share_so" 502 (.ref 253),hE P "next_rows" 508 (.ref 258),hE P "_law_cell_at" 518 (.ref 265),hE P "_law_state" 527 (.ref 272)]
def b4u(P:Params)(v:Value):List DictEntry:=[hE P "_law_take" 537 (.ref 279),hE P "_law_rows" 543 (.ref 284),hE P "_law_held" 549 (.ref 289),hE P "_law_table" 555 (.ref 294),hE P "_law_cut" 565 (.ref 301),hE P "_law_next_right" 577 (.ref 308),hE P "_law_numbers_right" 592 (.ref 315),hE P "law" 608 (.ref 322)]
def he3(P:Params)(v:Value):List DictEntry:=b4r P v++b4s P v++b4t P v++b4u P v
def ht3(k:Nat):Nat×Nat×Value:=hnth [(9,9,(.str "__main__" 164)),(10,10,(.str "turnsigns.errors" 187)),(11,11,(.str "turnsigns.errors" 187)),(12,12,(.str "turnsigns.errors" 187)),(19,19,(.str "turnsigns.grids" 255)),(33,33,(.str "turnsigns.counts" 348)),(46,46,(.str "law_turnsigns_k83_whole_shares" 509)),(56,56,(.str "law_turnsigns_k83_whole_shares" 509))] k (0,0,.none)
def hx3(P:Params)(k:Nat):Obj:=⟨(.type "dict"),none,.dict ⟨(he3 P (ht3 k).2.2).take (ht3 k).1⟩ (ht3 k).2.1,⟨[]⟩⟩
def b4v:List Value:=hL3 [(2,20),(4,33),(6,45),(8,57),(11,69),(13,76),(15,81),(19,86),(23,93),(27,98),(29,105),(34,110),(36,117),(40,124),(47,129),(51,136),(56,143),(59,150),(64,157),(71,164),(74,171),(83,176),(88,181),(90,186),(92,191),(98,198),(104,205),(112,210),(119,217),(124,224),(126,231),(136,238),(141,245),(143,252),(145,257),(151,264),(155,271),(160,278),(169,283),(181,288),(183,293),(196,300),(201,307),(208,314),(220,321)]
def b4w(_:Params)(k:Nat):Obj:=⟨.none,none,.fields ⟨b4v.take (hnth [0,3,6,9,30,66,105,135] k 0)⟩,⟨[]⟩⟩
def b4x:List Value:=[(.ref 37),(.ref 49),(.ref 61)]
def b4y(_:Params)(k:Nat):Obj:=⟨(.type "type"),none,.cls ⟨"SignError",[(.type "ValueError")],[(.ref 24),(.type "ValueError"),(.type "Exception"),(.type "BaseException"),(.type "object")],23,"SignError",true,[],b4x.take (hnth [0,0,1,2,3,3,3,3] k 0),false,none,false⟩,⟨[(some (.ref 15)),none,(some (.str "SignError" 189)),(some (.str "SignError" 197)),(some (.builtin "ValueError.__new__")),(some (.bool true))]⟩⟩
def hO(P:Params)(k b:Nat):Obj:=match Nat.beq b 3 with|true=>hx3 P k|false=>match Nat.beq b 12 with|true=>b4w P k|false=>match Nat.beq b 24 with|true=>b4y P k|false=>hB P b
def hn(k:Nat):Nat:=hnth [15,28,40,52,100,178,259,323] k 0
noncomputable def hT (k:Nat) (P:Params):BT:=hmk (hO P k) (hn k) 12 1 0
def hV:Env:=hEnv PySem.Challenge.pw_turnsigns_k83_whole_shares (.ref 13) 14
def hQ:Program:=hVw PySem.Challenge.pw_turnsigns_k83_whole_shares [1,2,3,4,6,7,8,9,10,11,12,13,14,16,17,18,19,21,22,23,24,25,26,27,28,29,30,31,32,33,34,36,37,38,39,40,41,43,44,45,46,47,48,49,50,51,52]
def hA:List Nat:=[2,3,15,22,23,24,25,28,35,36,37,40,47,48,49,52,59,60,61,64,66,67,69,70,71,73,74,76,77,78,81,82,83,86,87,88,90,91,93,94,95,98,99,100,102,103,105,106,107,110,111,112,114,115,117,118,119,121,122,124,125,126,129,130,131,133,134,136,137,138,140,141,143,144,145,147,148,150,151,152,154,155,157,158,159,161,162,164,165,166,168,169,171,172,173,176,177,178,181,182,183,186,187,188,191,192,193,195,196,198,199,200,202,203,205,206,207,210,211,212,214,215,217,218,219,221,222,224,225,226,228,229,231,232,233,235,236,238,239,240,242,243,245,246,247,249,250,252,253,254,257,258,259,261,262,264,265,266,268,269,271,272,273,275,276,278,279,280,283,284,285,288,289,290,293,294,295,297,298,300,301,302,304,305,307,308,309,311,312,314,315,316,318,319,321,322]
def hK(P:Params):Frag:=hA.map fun a=>(a,hO P 7 a)
def hH(P:Params):Heap:=absHeap (hT 7 P) 323 {}
theorem htw:(hdep hT&&hdep hH&&hdep hV&&hdep hQ&&hdep hK&&hdep PySem.Challenge.pw_turnsigns_k83_whole_shares)=true:=by k_qdec
abbrev hpw:=PySem.Challenge.pw_turnsigns_k83_whole_shares
noncomputable abbrev fb:=PySem.W.Fast.tw14364793385576792824
noncomputable abbrev fp:=PySem.W.Fast.tw17246606890821379191
noncomputable abbrev ft:=PySem.W.Fast.tw12184124176156836835
noncomputable abbrev fv:=PySem.W.Fast.tw8501348473203875331
theorem b4z:hPre 11 (some (.ref 6)) 12 15 187 ⟨0,0,0,0⟩ ⟨0,0,0,0⟩ PySem.W.Fast.tw15667345088766844465 PySem.W.Fast.tw11892475500146522536 fb fp ft fv:=fun w=>by kernel_rfl
theorem hpre:hPre 11 (some (.ref 6)) 12 15 187 ⟨0,0,0,0⟩ ⟨0,0,0,0⟩ topGo denote treeTable PySem.Challenge.pw_turnsigns_k83_whole_shares hT hV:=by rw[PySem.W.Fast.te15667345088766844465,PySem.W.Fast.te11892475500146522536,Yg,PySem.W.Fast.te17246606890821379191,PySem.W.Fast.te12184124176156836835,PySem.W.Fast.te8501348473203875331];exact b4z
theorem b4A:hBlk 11 (some (.ref 6)) 1 15 187 ⟨0,0,0,0⟩ ⟨0,0,0,0⟩ ⟨0,0,0,0⟩ PySem.W.Fast.tw14374325043358763698 fb fp ft fv:=fun w=>by kernel_rfl
theorem hblk:hBlk 11 (some (.ref 6)) 1 15 187 ⟨0,0,0,0⟩ ⟨0,0,0,0⟩ ⟨0,0,0,0⟩ segRun treeTable PySem.Challenge.pw_turnsigns_k83_whole_shares hT hV:=by rw[PySem.W.Fast.te14374325043358763698,Yg,PySem.W.Fast.te17246606890821379191,PySem.W.Fast.te12184124176156836835,PySem.W.Fast.te8501348473203875331];exact b4A
theorem hsl{m0:Nat}{ann:Option Value}{n i j k n0 t0 n1 t1:Nat}{q q0 q1:Pos}(h:hPc m0 ann n i j k n0 t0 n1 t1 q q0 q1 PySem.W.Fast.tw10110043849684766642 fb fp ft fv):hPc m0 ann n i j k n0 t0 n1 t1 q q0 q1 segRunT treeTable PySem.Challenge.pw_turnsigns_k83_whole_shares hT hV:=by rw[PySem.W.Fast.te10110043849684766642,Yg,PySem.W.Fast.te17246606890821379191,PySem.W.Fast.te12184124176156836835,PySem.W.Fast.te8501348473203875331];exact h
theorem hp0:hPc 11 (some (.ref 6)) 196 0 2 0 15 187 28 207 ⟨0,0,0,0⟩ ⟨0,0,0,0⟩ ⟨2,0,3,8⟩ segRunT treeTable hpw hT hV:=hsl fun w=>by kernel_rfl
theorem hp1:hPc 11 (some (.ref 6)) 214 2 1 1 28 207 40 223 ⟨0,0,0,0⟩ ⟨2,0,3,8⟩ ⟨4,0,5,8⟩ segRunT treeTable hpw hT hV:=hsl fun w=>by kernel_rfl
theorem hp2:hPc 11 (some (.ref 6)) 214 3 1 2 40 223 52 239 ⟨0,0,0,0⟩ ⟨4,0,5,8⟩ ⟨6,0,7,8⟩ segRunT treeTable hpw hT hV:=hsl fun w=>by kernel_rfl
theorem hp3:hPc 11 (some (.ref 6)) 392 4 8 3 52 239 100 300 ⟨0,0,0,0⟩ ⟨6,0,7,8⟩ ⟨27,0,28,82⟩ segRunT treeTable hpw hT hV:=hsl fun w=>by kernel_rfl
theorem hp4:hPc 11 (some (.ref 6)) 391 12 16 4 100 300 178 404 ⟨0,0,0,0⟩ ⟨27,0,28,82⟩ ⟨83,0,87,49⟩ segRunT treeTable hpw hT hV:=hsl fun w=>by kernel_rfl
theorem hp5:hPc 11 (some (.ref 6)) 398 28 15 5 178 404 259 511 ⟨0,0,0,0⟩ ⟨83,0,87,49⟩ ⟨150,0,150,8⟩ segRunT treeTable hpw hT hV:=hsl fun w=>by kernel_rfl
theorem hp6:hPc 11 (some (.ref 6)) 313 43 10 6 259 511 323 609 ⟨0,0,0,0⟩ ⟨150,0,150,8⟩ ⟨220,0,242,15⟩ segRunT treeTable hpw hT hV:=hsl fun w=>by kernel_rfl
theorem b4B:hFin 11 (some (.ref 6)) 2 7 323 609 ⟨0,0,0,0⟩ ⟨220,0,242,15⟩ PySem.W.Fast.tw14082659384304107361 fb fp ft fv:=fun w=>by kernel_rfl
theorem hfin:hFin 11 (some (.ref 6)) 2 7 323 609 ⟨0,0,0,0⟩ ⟨220,0,242,15⟩ topRun treeTable PySem.Challenge.pw_turnsigns_k83_whole_shares hT hV:=by rw[PySem.W.Fast.te14082659384304107361,Yg,PySem.W.Fast.te17246606890821379191,PySem.W.Fast.te12184124176156836835,PySem.W.Fast.te8501348473203875331];exact b4B
theorem hrun(w:World)(os:OsState):topRun treeTable PySem.Challenge.pw_turnsigns_k83_whole_shares w 11 (some (.ref 6)) (Nat.add 12 (Nat.add 1 (Nat.add 196 (Nat.add 214 (Nat.add 214 (Nat.add 392 (Nat.add 391 (Nat.add 398 (Nat.add 313 (2)))))))))) ⟨boot_heap w.params,⟨[]⟩,boot_drawn,boot_toks,os⟩ (topStub PySem.Challenge.pw_turnsigns_k83_whole_shares)=some (SharedT.abs ⟨hT 7 w.params,323,{},⟨[]⟩,{},609,os⟩):=hgo hpre w os (hblkk hblk w os (hpcs hp0 w os (hpcs hp1 w os (hpcs hp2 w os (hpcs hp3 w os (hpcs hp4 w os (hpcs hp5 w os (hpcs hp6 w os (hfin' (by kernel_rfl) hfin w os)))))))))
theorem b4C:hLk PySem.W.Fast.tw17246606890821379191 PySem.W.Fast.tw1270997679601176759 PySem.W.Fast.tw18152897217309608662 PySem.W.Fast.tw7827366838905975436 hA [] 609 []:=⟨fun _=>by kernel_rfl,fun _=>by kernel_rfl,fun _=>by kernel_rfl,fun _=>by kernel_rfl,fun _=>by kernel_rfl,fun _=>by kernel_rfl,fun _=>by kernel_rfl,fun _=>by kernel_rfl,fun _=>by kernel_rfl,fun _=>by kernel_rfl,fun _=>by kernel_rfl,fun _=>by kernel_rfl⟩
theorem hlk:hLk PySem.Challenge.pw_turnsigns_k83_whole_shares hQ hH hK hA [] 609 []:=by rw[PySem.W.Fast.te17246606890821379191,PySem.W.Fast.te1270997679601176759,PySem.W.Fast.te18152897217309608662,PySem.W.Fast.te7827366838905975436];exact b4C
abbrev hHk:Hook:=kmHook hK hA (fun _=>by kernel_rfl) []
theorem hlf:LeftO PySem.Challenge.pw_turnsigns_k83_whole_shares hQ [] (fun s=>xlAt hQ [] s&&recOk [] s) (Hook.obs hHk) (Hook.val hHk) 4348:=hleft (fun _=>by kernel_rfl) (by kernel_rfl) (fun _=>by kernel_rfl) (by decide) (by decide) hrun hlk
abbrev hDr:DefRec:=⟨"law",hsA (hS 52),hsB (hS 52),hsS (hS 52),hsP (hS 52)⟩
end
end K83
namespace K83
open PySem PySem.W PyProof.Rows
theorem b4D(hc:WalkO hQ [] (XL hQ []) (Hook.says hHk) PySem.Challenge.rw_turnsigns_k83_whole_shares.row.toRowW hDr [] fun f vs=>call f vs):PySem.Challenge.rw_turnsigns_k83_whole_shares.Holds:=by
 o_law
 exact holds_open (Xt:=fun s=>xlAt hQ [] s&&recOk [] s) (Yf:=Hook.obs hHk) (Ya:=Hook.val hHk) (N:=4348) hlf (Hook.of hHk) (Hook.keeps hHk) (fun s e=>xl_of s (Bool.and_eq_true_iff.mp e).1) XL.keeps (by kernel_rfl) (by kernel_rfl) (by kernel_rfl) (fun s e=>recFacts_of (Bool.and_eq_true_iff.mp e).2) rfl (by assumption) (by decide+kernel) ⟨rfl,rfl,rfl,rfl,rfl,by decide+kernel⟩ ⟨[.list []],by decide+kernel,by decide+kernel⟩ hc
end K83
namespace L2
open PySem PySem.Spec PyProof.Rows
abbrev Key:=Sum Int Str
def a3e:Key->Value->Bool
 |.inl k,v=>Value.isInt k v
 |.inr x,v=>Value.isStrOf x v
def b4E(w:World):Key->Int
 |.inl k=>hashInt k
 |.inr x=>hashStr w x
theorem a1F:∀{k:Key}{v:Value},a3e k v=true->(∃i t,k=Sum.inl i/\v=Value.int i t)∨(∃x t,k=Sum.inr x/\v=Value.str x t)
 |.inl i,v,h=>by
  obtain⟨t,e⟩:=Value.isInt_shape (k:=i) (v:=v) h;exact .inl ⟨i,t,rfl,e⟩
 |.inr x,v,h=>by
  obtain⟨t,e⟩:=Value.isStrOf_shape (x:=x) (v:=v) h;exact .inr ⟨x,t,rfl,e⟩
theorem b4F(i:Int)(t:Tok):a3e (.inl i) (.int i t)=true:=by simp[a3e,Value.isInt]
theorem b4G(x:Str)(t:Tok):a3e (.inr x) (.str x t)=true:=by simp[a3e,Value.isStrOf]
theorem b4H(a b:Int):decide ((Sum.inl a:Key)=Sum.inl b)=(a==b):=by
 by_cases e:a=b
 ·subst e;simp
 ·have h:¬ (Sum.inl a:Key)=Sum.inl b:=fun q=>e (Sum.inl.inj q)
  rw[Qs h];exact(beq_eq_false_iff_ne.mpr e).symm
theorem b4I(a b:Str):decide ((Sum.inr a:Key)=Sum.inr b)=decide (a=b):=by
 by_cases e:a=b
 ·subst e;simp
 ·have h:¬ (Sum.inr a:Key)=Sum.inr b:=fun q=>e (Sum.inr.inj q)
  rw[Qs h,Qs e]
theorem b4J(a:Int)(b:Str):decide ((Sum.inl a:Key)=Sum.inr b)=false:=Qs (fun q=>nomatch q)
theorem b4K(a:Str)(b:Int):decide ((Sum.inr a:Key)=Sum.inl b)=false:=Qs (fun q=>nomatch q)
def a0j(prog:Program)(w:World):PySem.KeyKind prog w Key where
 is:=a3e
 hash:=b4E w
 inj:=fun v a b ha hb=>by
  rcases a1F ha with⟨i,t,rfl,rfl⟩|⟨x,t,rfl,rfl⟩
  ·rcases a1F hb with⟨j,u,rfl,e⟩|⟨y,u,rfl,e⟩
   ·injection e with e1 _;rw[e1]
   ·exact nomatch e
  ·rcases a1F hb with⟨j,u,rfl,e⟩|⟨y,u,rfl,e⟩
   ·exact nomatch e
   ·injection e with e1 _;rw[e1]
 byValue:=fun k v h=>by
  rcases a1F h with⟨i,t,rfl,rfl⟩|⟨x,t,rfl,rfl⟩<;>rfl
 pyHash:=fun hv h=>by
  rcases a1F hv with⟨i,t,rfl,rfl⟩|⟨x,t,rfl,rfl⟩
  ·exact wpAny_pyHash_int h
  ·exact wpAny_pyHash_str h
 eqBool:=fun hu hv h=>by
  rcases a1F hu with⟨i,t,rfl,rfl⟩|⟨x,t,rfl,rfl⟩
  ·rcases a1F hv with⟨j,u,rfl,rfl⟩|⟨y,u,rfl,rfl⟩
   ·rw[b4H]at h;exact wpAny_eqBool_int h
   ·rw[b4J]at h;exact SeqAt.EqAt.int_str i t y u _ _ _ _ h
  ·rcases a1F hv with⟨j,u,rfl,rfl⟩|⟨y,u,rfl,rfl⟩
   ·rw[b4K]at h;exact SeqAt.EqAt.str_int x t j u _ _ _ _ h
   ·rw[b4I]at h;exact wpAny_eqBool_str h
 «strs»:=fun k x t v h=>by
  rcases a1F h with⟨i,u,rfl,e⟩|⟨y,u,rfl,e⟩
  ·exact nomatch e
  ·injection e with e1 _
   subst e1;cases v<;>rfl
theorem b4L(prog:Program)(w:World)(i:Int)(t:Tok):(a0j prog w).is (.inl i) (.int i t)=true:=b4F i t
theorem b4M(prog:Program)(w:World)(x:Str)(t:Tok):(a0j prog w).is (.inr x) (.str x t)=true:=b4G x t
inductive V where
 |non|bl (b:Bool)|int (i:Int)|str (x:Str)|byt (b:Array UInt8)|flt (b:UInt64)|ref (a:Addr)|ty (n:String)
 deriving DecidableEq
def v6_:V->Value->Prop
 |.non,u=>u=Value.none
 |.bl b,u=>u=Value.bool b
 |.int i,u=>∃t,u=Value.int i t
 |.str x,u=>∃t,u=Value.str x t
 |.byt b,u=>∃t,u=Value.bytes b t
 |.flt b,u=>∃t,u=Value.float b t
 |.ref a,u=>u=Value.ref a
 |.ty n,u=>u=Value.type n
abbrev v5_:List V->List Value->Prop:=Paired v6_
theorem v5_.length{xs:List V}{us:List Value}(r:v5_ xs us):xs.length=us.length:=Paired.length r
theorem v5_.get:∀{xs:List V}{us:List Value}{i:Nat}{x:V},v5_ xs us->xs[i]? =some x->∃u,us[i]? =some u/\v6_ x u
 |_,_,_,_,.nil,e=>by simp at e
 |_,_,0,_,.cons r _,e=>by simp at e;subst e;exact⟨_,rfl,r⟩
 |_,_,i+1,x,.cons _ t,e=>by
  obtain⟨u,h1,h2⟩:=v5_.get (i:=i) (x:=x) t (by simpa using e)
  exact⟨u,by simpa using h1,h2⟩
theorem v5_.set{x:V}{u:Value}(r:v6_ x u):∀{xs:List V}{us:List Value}(i:Nat),v5_ xs us->v5_ (xs.set i x) (us.set i u)
 |_,_,_,.nil=>.nil
 |_,_,0,.cons _ t=>.cons r t
 |_,_,i+1,.cons q t=>.cons q (v5_.set r i t)
theorem v5_.append:∀{xs ys:List V}{us ws:List Value},v5_ xs us->v5_ ys ws->v5_ (xs++ys) (us++ws)
 |_,_,_,_,.nil,s=>s
 |_,_,_,_,.cons r t,s=>.cons r (v5_.append t s)
theorem v5_.take:∀{xs:List V}{us:List Value}(n:Nat),v5_ xs us->v5_ (xs.take n) (us.take n)
 |_,_,0,_=>.nil
 |_,_,_+1,.nil=>.nil
 |_,_,n+1,.cons r t=>.cons r (v5_.take n t)
theorem v5_.drop:∀{xs:List V}{us:List Value}(n:Nat),v5_ xs us->v5_ (xs.drop n) (us.drop n)
 |_,_,0,r=>r
 |_,_,_+1,.nil=>.nil
 |_,_,n+1,.cons _ t=>v5_.drop n t
def a1q:Option V->Option Value->Prop
 |some v,some u=>v6_ v u
 |none,none=>True
 |_,_=>False
def KV{κ:Type}:List (κ×V)->List (κ×Value)->Prop:=Paired fun(p:κ×V) (q:κ×Value)=>p.1=q.1/\v6_ p.2 q.2
def kV:Key->V
 |.inl i=>.int i
 |.inr x=>.str x
inductive HO where
 |lst (xs:List V)
 |tup (xs:List V)
 |dK (kvs:List (Key×V))|dT (C:Addr->List Key->Prop) (kvs:List (List Key×V))|dX (es:Array DictEntry) (ep:Nat)
 |set (S:Int->Bool) (n:Nat)
 |ins (C dx:Addr) (fs:List (Str×V))
 |own (x:Addr)
 |xd (fs:List (Str×V))
 |met (f x:Addr)
 |rng (lo hi:Int)
 |frz (o:Obj) (u:HO)
 |tbl (ps:Array Value)
 |ext (φ:Heap->Prop)
abbrev Hp:=Addr->Option HO
def upd(H:Hp)(a:Addr)(o:HO):Hp:=fun b=>if b=a then some o else H b
theorem x8_{H:Hp}{a:Addr}{o:HO}:upd H a o a=some o:=by unfold upd;rw[Qg rfl]
theorem v9_{H:Hp}{a b:Addr}{o:HO}(h:b≠a):upd H a o b=H b:=by unfold upd;rw[Qt h]
theorem a6W{H:Hp}{a:Addr}{o u:HO}:upd (upd H a o) a u=upd H a u:=by
 funext b;unfold upd;split<;>rfl
theorem b0k{H:Hp}{a b:Addr}{o u:HO}(h:H a=some o)(h':H b=some u)(d:o≠u):a≠b:=by
 intro e;subst e;rw[h]at h';exact d (Yw h')
theorem a0a{H:Hp}{a b:Addr}{o:HO}(h:H a=some o)(h':H b=none):a≠b:=by
 intro e;subst e;rw[h]at h';cases h'
def a0O(h:Heap)(a:Addr)(items:Array Value):Prop:=∃o,h.get? a=some o/\o.cls=.type "tuple"/\o.dict=none/\∃n,o.data=.seq items n
theorem a0O.tup{h:Heap}{a:Addr}{items:Array Value}:a0O h a items->IsTup h a items:=fun⟨o,e,c,_,d⟩=>⟨o,e,c,d⟩
theorem a0O.lt{h:Heap}{a:Addr}{items:Array Value}(p:a0O h a items):a<h.objs.size:=p.tup.lt
theorem a0O.new(h:Heap)(items:Array Value):a0O (h.push {cls:=.type "tuple",data:=.seq items}) h.objs.size items:=⟨_,Qn _ rfl,rfl,rfl,_,rfl⟩
section
variable(P:Program)(w:World)
def w3_(H:Hp)(h:Heap)(a:Addr):HO->Prop
 |.lst xs=>xs.length≤sizeLine/\∃(its:List Value) (n:Nat),v5_ xs its/\h.get? a=some {cls:=.type "list",data:=.seq its.toArray n}
 |.tup xs=>xs.length≤sizeLine/\∃its:List Value,v5_ xs its/\a0O h a its.toArray
 |.dK kvs=>kvs.length≤sizeLine/\(a==sysModules)=false/\∃vs,KV kvs vs/\h.DictOf (a0j P w) a vs
 |.dT C kvs=>kvs.length≤sizeLine/\(a==sysModules)=false/\∃xs:List (List Key×Addr×Value),
   Paired (fun(p:List Key×V) (q:List Key×Addr×Value)=>p.1=q.1/\(H q.2.1=some (.tup (p.1.map kV))∨C q.2.1 p.1)/\v6_ p.2 q.2.2) kvs xs/\
   ∃o es ep,h.get? a=some o/\o.ExactDict/\o.data=.dict es ep/\es.toList=xs.map (entryOfKey (tupleKind (a0j P w)))/\(xs.map (·.1)).Nodup
 |.dX es ep=>es.size≤sizeLine/\(a==sysModules)=false/\∃o,h.get? a=some o/\o.ExactDict/\o.data=.dict es ep
 |.set S n=>h.SetOf (intKind P w) a S n
 |.ins C dx fs=>H dx=some (.own a)/\fs.length≤1000/\dx≠a/\h.get? a=some (PySem.W.instObj C dx)/\
   ∃mA,h.Ns1 dx mA/\(∀f,a1q (fs.lookup f) (mA f))/\PySem.Within mA (fs.map (·.1))
 |.own _=>∃o,h.get? a=some o
 |.xd fs=>∃mA,h.Ns1 a mA/\∀f,a1q (fs.lookup f) (mA f)
 |.rng lo hi=>∃t u v,h.get? a=some {cls:=.type "range",data:=.fields #[.int lo t,.int hi u,.int 1 v]}
 |.frz o u=>h.get? a=some o/\w3_ H h a u
 |.tbl ps=>h.get? a=some {cls:=.none,data:=.fields ps}
 |.met f x=>h.get? a=some (PySem.W.methodObj (.ref f) (.ref x))
 |.ext φ=>φ h/\(∃o,h.get? a=some o)/\∀h1 h2:Heap,φ h1->(∀o,h1.get? a=some o->h2.get? a=some o)->φ h2
def HOk(H:Hp)(h:Heap):Prop:=∀a o,H a=some o->w3_ P w H h a o
end
section
variable{P:Program}{w:World}{H H':Hp}{h h':Heap}{a:Addr}{o:HO}
theorem w3_.lt(x:w3_ P w H h a o):a<h.objs.size:=by
 cases o with
 |lst xs=>obtain⟨_,_,_,_,e⟩:=x;exact Qh e
 |tup xs=>obtain⟨_,_,_,p⟩:=x;exact p.lt
 |dK kvs=>obtain⟨_,_,_,_,o,_,_,e,_⟩:=x;exact Qh e
 |dT C kvs=>obtain⟨_,_,_,_,o,_,_,e,_⟩:=x;exact Qh e
 |dX es ep=>obtain⟨_,_,o,e,_⟩:=x;exact Qh e
 |set S n=>obtain⟨o,_,_,_,e,_⟩:=x;exact Qh e
 |ins C dx fs=>obtain⟨_,_,_,e,_⟩:=x;exact Qh e
 |own y=>obtain⟨_,e⟩:=x;exact Qh e
 |xd fs=>obtain⟨_,⟨_,_,_,e,_⟩,_⟩:=x;exact Qh e
 |rng lo hi=>obtain⟨_,_,_,e⟩:=x;exact Qh e
 |frz ob u=>obtain⟨e,_⟩:=x;exact Qh e
 |tbl ps=>exact Qh (show h.get? a=some _ from x)
 |met f y=>exact Qh (show h.get? a=some _ from x)
 |ext φ=>obtain⟨_,⟨_,e⟩,_⟩:=x;exact Qh e
theorem Paired.mapP{α β:Type}{F G:α->β->Prop}:∀{l₁:List α}{l₂:List β},Paired F l₁ l₂->(∀a b,F a b->G a b)->Paired G l₁ l₂
 |_,_,.nil,_=>.nil
 |_,_,.cons r t,f=>.cons (f _ _ r) (Paired.mapP t f)
theorem w3_.stay(x:w3_ P w H h a o)(k:∀b u,(b=a∨H b=some (.own a))->h.get? b=some u->h'.get? b=some u)
  (ho:∀b,H b=some (.own a)->H' b=some (.own a))(ht:∀b xs,H b=some (.tup xs)->H' b=some (.tup xs)):w3_ P w H' h' a o:=by
 induction o with
 |lst xs=>obtain⟨z,its,n,r,e⟩:=x;exact⟨z,its,n,r,k _ _ (.inl rfl) e⟩
 |tup xs=>obtain⟨z,its,r,ob,e,c⟩:=x;exact⟨z,its,r,ob,k _ _ (.inl rfl) e,c⟩
 |dK kvs=>obtain⟨z,y,vs,r,ob,es,ep,e,c⟩:=x;exact⟨z,y,vs,r,ob,es,ep,k _ _ (.inl rfl) e,c⟩
 |dT C kvs=>
  obtain⟨z,y,xs,r,ob,es,ep,e,c⟩:=x;exact⟨z,y,xs,Paired.mapP r fun p q z=>⟨z.1,z.2.1.imp (ht _ _) id,z.2.2⟩,ob,es,ep,k _ _ (.inl rfl) e,c⟩
 |dX es ep=>obtain⟨z,y,ob,e,c⟩:=x;exact⟨z,y,ob,k _ _ (.inl rfl) e,c⟩
 |set S n=>obtain⟨ob,es,ep,t,e,c⟩:=x;exact⟨ob,es,ep,t,k _ _ (.inl rfl) e,c⟩
 |ins C dx fs=>
  obtain⟨d,z,ne,e,mA,⟨od,es,ep,e2,c⟩,r⟩:=x;exact⟨ho _ d,z,ne,k _ _ (.inl rfl) e,mA,⟨od,es,ep,k _ _ (.inr d) e2,c⟩,r⟩
 |own y=>obtain⟨ob,e⟩:=x;exact⟨ob,k _ _ (.inl rfl) e⟩
 |xd fs=>obtain⟨mA,⟨od,es,ep,e,c⟩,r⟩:=x;exact⟨mA,⟨od,es,ep,k _ _ (.inl rfl) e,c⟩,r⟩
 |rng lo hi=>obtain⟨t,u,v,e⟩:=x;exact⟨t,u,v,k _ _ (.inl rfl) e⟩
 |frz ob u ih=>obtain⟨e,q⟩:=x;exact⟨k _ _ (.inl rfl) e,ih q⟩
 |tbl ps=>
  have e:h.get? a=some {cls:=.none,data:=.fields ps}:=x
  show h'.get? a=some {cls:=.none,data:=.fields ps};exact k a _ (.inl rfl) e
 |met f y=>
  have e:h.get? a=some (PySem.W.methodObj (.ref f) (.ref y)):=x
  show h'.get? a=some (PySem.W.methodObj (.ref f) (.ref y));exact k a _ (.inl rfl) e
 |ext φ=>obtain⟨p,⟨o,e⟩,st⟩:=x;exact⟨st _ _ p fun o q=>k _ _ (.inl rfl) q,⟨o,k _ _ (.inl rfl) e⟩,st⟩
theorem HOk.lt(x:HOk P w H h)(e:H a=some o):a<h.objs.size:=(x a o e).lt
theorem HOk.fresh(x:HOk P w H h)(e:h.objs.size≤a):H a=none:=by
 cases q:H a with
 |none=>rfl
 |some u=>exact absurd (Qa (x.lt q) e) (Yd _)
theorem HOk.kept(x:HOk P w H h)(k:∀b u,h.get? b=some u->h'.get? b=some u):HOk P w H h':=fun a o e=>
 (x a o e).stay (fun b u _ q=>k b u q) (fun _ q=>q) fun _ _ q=>q
theorem HOk.laid(x:HOk P w H h)(k:∀b u,h.get? b=some u->h'.get? b=some u)(hp:h.objs.size≤a)(new:w3_ P w (upd H a o) h' a o):HOk P w (upd H a o) h':=fun b u e=>by
 have hn:=x.fresh hp
 by_cases hb:b=a
 ·subst hb;rw[x8_]at e;cases e;exact new
 ·rw[v9_ hb]at e
  exact(x b u e).stay (fun c v _ q=>k c v q) (fun c q=>by rw[v9_ (a0a q hn)];exact q) fun c xs q=>by rw[v9_ (a0a q hn)];exact q
end
def Rd(H:Hp)(a:Addr)(u:HO):Prop:=H a=some u∨ ∃o,H a=some (.frz o u)
theorem Rd.ok{P:Program}{w:World}{H:Hp}{h:Heap}{a:Addr}{u:HO}(r:Rd H a u)(x:HOk P w H h):w3_ P w H h a u:=by
 rcases r with r|⟨o,r⟩
 ·exact x a u r
 ·obtain⟨_,q⟩:=x a _ r
  exact q
def Mut:Option HO->Prop
 |some (.lst _)=>True
 |some (.dK _)=>True
 |some (.dT _ _)=>True
 |some (.dX _ _)=>True
 |some (.set _ _)=>True
 |some (.ins _ _ _)=>True
 |some (.ext _)=>True
 |_=>False
section
variable{P:Program}{w:World}{H:Hp}{h h':Heap}{x e:Addr}{o':HO}
theorem HOk.write(ok:HOk P w H h)(mu:Mut (H x))(he:e=x∨H e=some (.own x))(k:∀b u,b≠e->h.get? b=some u->h'.get? b=some u)(heo:∃u,h'.get? e=some u)
  (new:w3_ P w (upd H x o') h' x o'):HOk P w (upd H x o') h':=fun b u q=>by
 have nown:∀c y,H c=some (.own y)->c≠x:=fun c y r z=>by subst z;rw[r]at mu;exact mu
 have ntup:∀c xs,H c=some (.tup xs)->c≠x:=fun c xs r z=>by subst z;rw[r]at mu;exact mu
 by_cases hb:b=x
 ·subst hb;rw[x8_]at q;cases q;exact new
 ·rw[v9_ hb]at q
  by_cases hbe:b=e
  ·have q':H b=some (.own x):=by
    rcases he with z|z
    ·exact absurd (hbe.trans z) hb
    ·rw[hbe];exact z
   rw[q]at q';cases q';obtain⟨v,hv⟩:=heo;exact⟨v,by rw[hbe];exact hv⟩
  ·refine(ok b u q).stay (fun c v hc r=>k c v ?_ r) (fun c r=>by rw[v9_ (nown c b r)];exact r) fun c xs r=>by rw[v9_ (ntup c xs r)];exact r
   rcases hc with rfl|hc
   ·exact hbe
   ·rintro rfl
    rcases he with z|z
    ·exact nown c b hc z
    ·rw[hc]at z;cases z;exact hb rfl
end
structure Un(fs ex:List Addr)(H H':Hp)(h h':Heap):Prop where
 keep:∀b o,h.get? b=some o->H b=none->b∉fs->b∉ex->h'.get? b=some o
 slot:∀b o,h.get? b=some o->H b=none->b∈fs->b∉ex->∃sl,h'.get? b=some {o with slots:=sl}
 free:∀b o,h.get? b=some o->H b=none->b∉ex->H' b=none
 there:∀b o,h.get? b=some o->b∉ex->∃o',h'.get? b=some o'
 tups:∀b xs,H b=some (.tup xs)->H' b=some (.tup xs)
 frzs:∀b o u,H b=some (.frz o u)->H' b=some (.frz o u)
 tbls:∀b ps,H b=some (.tbl ps)->∃more,H' b=some (.tbl (ps++more))
section
variable{fs fs' ex ex':List Addr}{H H1 H2:Hp}{h h1 h2 h':Heap}{a x e:Addr}{o:HO}
theorem Un.any(u:Un fs ex H H1 h h1){b:Addr}{ob:Obj}(q:h.get? b=some ob)(n:H b=none)(hx:b∉ex):∃sl,h1.get? b=some {ob with slots:=sl}:=by
 by_cases hb:b∈fs
 ·exact u.slot b ob q n hb hx
 ·exact⟨ob.slots,u.keep b ob q n hb hx⟩
theorem Un.kept(k:∀b u,h.get? b=some u->h'.get? b=some u):Un fs ex H H h h':=
 ⟨fun b ob q _ _ _=>k b ob q,fun b ob q _ _ _=>⟨ob.slots,k b ob q⟩,fun _ _ _ n _=>n,fun b ob q _=>⟨ob,k b ob q⟩,fun _ _ q=>q,fun _ _ _ q=>q,fun _ ps q=>⟨#[],by rw[q];simp⟩⟩
theorem Un.refl:Un fs ex H H h h:=Un.kept fun _ _ q=>q
theorem Un.laid(k:∀b u,h.get? b=some u->h'.get? b=some u)(hp:h.objs.size≤a)(hn:H a=none):Un fs ex H (upd H a o) h h' where
 keep:=fun b u q _ _ _=>k b u q
 slot:=fun b u q _ _ _=>⟨u.slots,k b u q⟩
 free:=fun b u q n _=>by rw[v9_ (Zw (Qa (Qh q) hp))];exact n
 there:=fun b u q _=>⟨u,k b u q⟩
 tups:=fun b xs q=>by rw[v9_ (a0a q hn)];exact q
 frzs:=fun b u xs q=>by rw[v9_ (a0a q hn)];exact q
 tbls:=fun b ps q=>⟨#[],by rw[v9_ (a0a q hn),q];simp⟩
theorem Un.write(mu:Mut (H x))(he:e=x∨H e=some (.own x))(k:∀b u,b≠e->h.get? b=some u->h'.get? b=some u)(heo:∃u,h'.get? e=some u):Un fs ex H (upd H x o) h h':=by
 have hx:∀b,H b=none->b≠x:=fun b n z=>by subst z;rw[n]at mu;exact mu
 have hb:∀b,H b=none->b≠e:=fun b n z=>by
  subst z
  rcases he with r|r
  ·exact hx b n r
  ·rw[n]at r;cases r
 have hm:∀b u,H b=some u-> ¬ Mut (some u)->b≠x:=fun b u q nm z=>by subst z;rw[q]at mu;exact nm mu
 refine⟨fun b u q n _ _=>k b u (hb b n) q,fun b u q n _ _=>⟨u.slots,k b u (hb b n) q⟩,fun b u q n _=>by rw[v9_ (hx b n)];exact n,fun b u q _=>?_,
  fun b xs q=>by rw[v9_ (hm b _ q fun z=>z)];exact q,fun b u xs q=>by rw[v9_ (hm b _ q fun z=>z)];exact q,fun b ps q=>⟨#[],by rw[v9_ (hm b _ q fun z=>z),q];simp⟩⟩
 by_cases hbe:b=e
 ·subst hbe;exact heo
 ·exact⟨u,k b u hbe q⟩
end
def trk(h:Heap)(H:Hp):List Addr:=(List.range h.objs.size).filter fun a=>(H a).isSome
def a1G(h:Heap)(H:Hp):Heap:=PySem.W.hideAll h (trk h H)
theorem b4N(h:Heap)(H:Hp):(a1G h H).objs.size=h.objs.size:=PySem.W.hideAll_size _ _
theorem b4O{h:Heap}{H:Hp}{b:Addr}{o:Obj}(e:h.get? b=some o)(n:H b=none):(a1G h H).get? b=some o:=
 PySem.W.hideAll_get _ e fun hm=>by
  have q:(H b).isSome=true:=(Ji.mp hm).2
  rw[n]at q;simp at q
theorem b4P{h:Heap}{H:Hp}{b:Addr}{o:Obj}(e:(a1G h H).get? b=some o):h.get? b=some o/\H b=none:=by
 have e':h.get? b=some o:=PySem.W.of_hideAll (trk h H) e
 refine⟨e',?_⟩;cases q:H b with
 |none=>rfl
 |some x=>
  have hm:b∈trk h H:=Ji.mpr ⟨Zt.mpr (Qh e'),by simp[q]⟩
  have z:(a1G h H).get? b=none:=PySem.W.hideAll_none (trk h H) hm
  rw[z]at e;cases e
def b4Q(g h:Heap)(L:Addr):OX:=(List.range h.objs.size).filterMap fun a=>if a=L∨(g.get? a).isSome=true then none else(h.get? a).map fun o=>(a,o)
def rest(g h:Heap)(L d:Addr):OX:=(b4Q g h L).filter fun p=>decide (p.1≠d)
structure Mod(K:Qq)(mg:OU)(base:Heap):Prop where
 kin:K.In base
 glob:base.Ns mainGlobals mg
 blt:∃mb,base.Ns builtinsNs mb/\∀x:Str,x≠"__name__"->mb x=bootBuiltins x
 nolimit:base.NoLimit
structure Cx where
 prog:Program
 w:World
 K:Qq
 mg:OU
 base:Heap
 A:Around
 N:List Str
 s₀:Shared
 H₀:Hp
 env:Env
 outer:List Env
 stack:List Env
 ex:List Addr
 fn:Str->Bool
 calm:Bool
 pn:OX
 xe:OE
def frs(l:List Env):List Addr:=l.filterMap (·.frame)
abbrev Cx.fs(X:Cx):List Addr:=frs X.outer
def Vis(sc:Scope)(x:Str):Prop:=sc.names.lookup x=some .local∨sc.names.lookup x=some .cell∨sc.names.lookup x=some .free
def Loc(sc:Scope)(x:Str):Prop:=sc.names.lookup x=some .local∨sc.names.lookup x=some .cell
def b4R(env:Env)(h:Heap)(m:OU)(x:Str)(u:Value):Prop:=
 (env.kindOf x=some .local/\m x=some u)∨((env.kindOf x=some .cell∨env.kindOf x=some .free)/\∃c,env.cells.lookup x=some c/\h.IsCell c (some u))
structure Cx.Ok(X:Cx):Prop where
 mod:Mod X.K X.mg X.base
 kind:X.env.scope.kind=.function
 glob:X.env.globals=mainGlobals
 blt:X.env.builtins=builtinsNs
 above:X.s₀.heap.objs.size≤X.env.locals
 inj:∀x y c,X.env.cells.lookup x=some c->X.env.cells.lookup y=some c->x=y
 has:∀x,(X.env.kindOf x=some .cell∨X.env.kindOf x=some .free)->∃c,X.env.cells.lookup x=some c
 cab:∀x c,X.fn x=true->X.env.cells.lookup x=some c->X.s₀.heap.objs.size≤c
 hd:X.calm=true->X.A.handled=none
 frames:X.A.frames=some X.stack
 stk:X.stack=X.outer∨(X.stack=X.env::X.outer/\X.env.frame=some X.env.locals)
 exf:∀b∈X.ex,b≠X.env.locals/\∀x c,X.env.cells.lookup x=some c->c≠b
 bs:∀b o,X.base.get? b=some o->X.s₀.heap.get? b=some o/\X.H₀ b=none
 bsz:X.base.objs.size≤X.s₀.heap.objs.size
 noex:∀b o,X.base.get? b=some o->b∉X.ex
 exfs:∀b∈X.ex,b∉X.fs
 funs:X.s₀.heap.FunFrames X.base X.outer
 frf:∀b∈X.fs,X.H₀ b=none
structure Inv(X:Cx)(pins:OX)(σ:List (Option V))(H:Hp)(s:Shared):Prop where
 ok:X.Ok
 os:s.os=X.s₀.os
 bare:AllBare s.gens
 base:Un X.fs X.ex X.H₀ H X.s₀.heap s.heap
 loc:∃m,s.heap.Ns X.env.locals m/\∀(i:Nat) (x:Str) (v:V),X.N[i]? =some x->σ[i]? =some (some v)->Vis X.env.scope x->∃u,v6_ v u/\b4R X.env s.heap m x u
 cell:∀x c,X.env.cells.lookup x=some c->∃v,s.heap.IsCell c v
 free:H X.env.locals=none
 freeC:∀x c,X.env.cells.lookup x=some c->H c=none
 pin:∀p∈X.pn++pins,s.heap.get? p.1=some p.2/\H p.1=none/\p.1≠X.env.locals/\p.1∉X.fs/\∀v,p.2.data≠.cell v
 hok:HOk X.prog X.w H s.heap
 len:σ.length=X.N.length
section
variable{X:Cx}{pins:OX}{σ:List (Option V)}{H H':Hp}{s:Shared}{h':Heap}
theorem Cx.Ok.nofr(ok:X.Ok){b:Addr}{o:Obj}(e:X.base.get? b=some o):b∉X.fs:=fun hb=>by
 have:=(ok.funs.mem hb).1;rw[e]at this;cases this
theorem Inv.bs(I:Inv X pins σ H s):∀b o,X.base.get? b=some o->s.heap.get? b=some o/\H b=none:=fun b o e=>
 ⟨I.base.keep b o (I.ok.bs b o e).1 (I.ok.bs b o e).2 (I.ok.nofr e) (I.ok.noex b o e),I.base.free b o (I.ok.bs b o e).1 (I.ok.bs b o e).2 (I.ok.noex b o e)⟩
theorem Inv.bk(I:Inv X pins σ H s):∀b o,X.base.get? b=some o->s.heap.get? b=some o:=fun b o e=>(I.bs b o e).1
theorem Inv.mod(I:Inv X pins σ H s):Mod X.K X.mg X.base:=I.ok.mod
theorem Inv.kIn(I:Inv X pins σ H s):X.K.In s.heap:=I.ok.mod.kin.keeps I.bk
theorem Inv.lt(I:Inv X pins σ H s):X.env.locals<s.heap.objs.size:=let ⟨_,hn,_⟩:=I.loc;hn.lt
theorem Inv.sz(I:Inv X pins σ H s):X.s₀.heap.objs.size≤s.heap.objs.size:=Yj I.ok.above (Uk I.lt)
theorem Inv.nofs(I:Inv X pins σ H s){a:Addr}(h:s.heap.objs.size≤a):a∉X.fs:=fun hb=>by
 obtain⟨_,o,ho,_⟩:=I.ok.funs.mem hb;exact absurd (Qa (Qh ho) (Yj I.sz h)) (Yd _)
theorem Inv.cne(I:Inv X pins σ H s):∀x c,X.env.cells.lookup x=some c->c≠X.env.locals:=fun x c e z=>by
 obtain⟨v,o,ho,hd⟩:=I.cell x c e;obtain⟨m,⟨o',es,ep,ho',hd',_⟩,_⟩:=I.loc;rw[z,ho']at ho;cases ho;rw[hd']at hd;cases hd
theorem Inv.funs(I:Inv X pins σ H s):s.heap.FunFrames X.base X.outer:=by
 have all:∀(l:List Env),(∀b∈frs l,b∈X.fs)->X.s₀.heap.FunFrames X.base l->s.heap.FunFrames X.base l:=by
  intro l
  induction l with
  |nil=>intro _ _;trivial
  |cons env r ih=>
   intro hs hl;obtain⟨hk,⟨L,o,hf,hn,ho,hd⟩,hr⟩:=hl;have hL:L∈X.fs:=hs L (by unfold frs;rw[Vs,hf];exact Qd)
   obtain⟨sl,e⟩:=I.base.slot L o ho (I.ok.frf L hL) hL fun z=>I.ok.exfs L z hL
   exact⟨hk,⟨L,_,hf,hn,e,hd⟩,ih (fun b hb=>hs b (by unfold frs;rw[Vs,hf];exact Qm _ hb)) hr⟩
 exact all X.outer (fun _ hb=>hb) I.ok.funs
theorem Inv.stack(I:Inv X pins σ H s):s.heap.FunFrames X.base X.stack:=by
 rcases I.ok.stk with e|⟨e,hf⟩
 ·rw[e];exact I.funs
 ·rw[e]
  obtain⟨m,hn,_⟩:=I.loc;refine .cons (by rw[I.ok.kind];decide) hf hn ?_ I.funs
  exact Heap.get?_none_of_le (Yj I.ok.bsz I.ok.above)
theorem Inv.stkSub(I:Inv X pins σ H s):∀b∈frs X.stack,b∈X.env.locals::X.fs:=fun b hb=>by
 rcases I.ok.stk with e|⟨e,hf⟩
 ·rw[e]at hb;exact Qm _ hb
 ·rw[e]at hb
  unfold frs at hb;rw[Vs,hf]at hb;exact hb
theorem Inv.stkFree(I:Inv X pins σ H s):∀b∈frs X.stack,H b=none:=fun b hb=>by
 rcases Qi.mp (I.stkSub b hb)with e|hb
 ·rw[e];exact I.free
 ·obtain⟨_,o,ho,_⟩:=I.ok.funs.mem hb
  exact I.base.free b o ho (I.ok.frf b hb) fun z=>I.ok.exfs b z hb
theorem Inv.step{g':Array GenState}{t':Nat}{d':Drawn}{ch:List Addr}(I:Inv X pins σ H s)
  (hch:∀b∈ch,(b∈X.ex∨X.s₀.heap.objs.size≤b)/\b≠X.env.locals/\(∀x c,X.env.cells.lookup x=some c->c≠b)/\∀p∈X.pn++pins,p.1≠b)
  (keep:∀b o,b≠X.env.locals->b∉X.fs->b∉ch->s.heap.get? b=some o->H b=none->h'.get? b=some o)
  (slot:∀b o,b≠X.env.locals->b∈X.fs->b∉ch->s.heap.get? b=some o->H b=none->∃sl,h'.get? b=some {o with slots:=sl})(free:∀b o,b∉ch->s.heap.get? b=some o->H b=none->H' b=none)
  (there:∀b o,b∉ch->s.heap.get? b=some o->∃o',h'.get? b=some o')
  (tups:∀b xs,H b=some (.tup xs)->H' b=some (.tup xs))(frzs:∀b o u,H b=some (.frz o u)->H' b=some (.frz o u))(tbls:∀b ps,H b=some (.tbl ps)->∃more,H' b=some (.tbl (ps++more)))
  (ns:∀m,s.heap.Ns X.env.locals m->h'.Ns X.env.locals m)(hok:HOk X.prog X.w H' h')(hg:AllBare g'):
  Inv X pins σ H' {s with heap:=h',gens:=g',drawn:=d',toks:=t'}:=by
 have neL:∀b o,X.s₀.heap.get? b=some o->b≠X.env.locals:=fun b o e=>Zw (Qa (Qh e) I.ok.above)
 have neC:∀b o,X.s₀.heap.get? b=some o->b∉X.ex->b∉ch:=fun b o e hx hb=>by
  rcases(hch b hb).1 with z|z
  ·exact hx z
  ·exact absurd (Qa (Qh e) z) (Yd _)
 have cellK:∀x c,X.env.cells.lookup x=some c->∀v,s.heap.IsCell c v->h'.IsCell c v:=fun x c e v ⟨o,ho,hd⟩=>by
  have nch:c∉ch:=fun z=>(hch c z).2.2.1 x c e rfl
  by_cases hc:c∈X.fs
  ·obtain⟨sl,q⟩:=slot c o (I.cne x c e) hc nch ho (I.freeC x c e)
   exact⟨_,q,hd⟩
  ·exact⟨o,keep c o (I.cne x c e) hc nch ho (I.freeC x c e),hd⟩
 refine⟨I.ok,I.os,hg,⟨fun b o e n hb hx=>?_,fun b o e n hb hx=>?_,fun b o e n hx=>?_,fun b o e hx=>?_,fun b xs e=>tups b xs (I.base.tups b xs e),fun b o xs e=>frzs b o xs (I.base.frzs b o xs e),fun b ps e=>?_⟩,?_,fun x c e=>?_,?_,fun x c e=>?_,fun p hp=>?_,hok,I.len⟩
 ·exact keep b o (neL b o e) hb (neC b o e hx) (I.base.keep b o e n hb hx) (I.base.free b o e n hx)
 ·obtain⟨sl,e1⟩:=I.base.slot b o e n hb hx
  obtain⟨sl',e2⟩:=slot b _ (neL b o e) hb (neC b o e hx) e1 (I.base.free b o e n hx);exact⟨sl',e2⟩
 ·obtain⟨o',e1⟩:=I.base.there b o e hx
  exact free b o' (neC b o e hx) e1 (I.base.free b o e n hx)
 ·obtain⟨o',e1⟩:=I.base.there b o e hx
  exact there b o' (neC b o e hx) e1
 ·obtain⟨m1,e1⟩:=I.base.tbls b ps e
  obtain⟨m2,e2⟩:=tbls b _ e1;exact⟨m1++m2,by rw[e2,Array.append_assoc]⟩
 ·obtain⟨m,hn,hl⟩:=I.loc
  refine⟨m,ns m hn,fun i x v e1 e2 e3=>?_⟩
  obtain⟨u,r,l⟩:=hl i x v e1 e2 e3;refine⟨u,r,?_⟩
  rcases l with l|⟨k,c,e,z⟩
  ·exact .inl l
  ·exact .inr ⟨k,c,e,cellK x c e _ z⟩
 ·obtain⟨v,z⟩:=I.cell x c e
  exact⟨v,cellK x c e v z⟩
 ·obtain⟨m,⟨o,_,_,ho,_⟩,_⟩:=I.loc
  exact free _ o (fun z=>(hch _ z).2.1 rfl) ho I.free
 ·obtain⟨v,o,ho,hd⟩:=I.cell x c e
  exact free c o (fun z=>(hch c z).2.2.1 x c e rfl) ho (I.freeC x c e)
 ·obtain⟨e,n,ne,nf,d⟩:=I.pin p hp
  have nch:p.1∉ch:=fun z=>(hch p.1 z).2.2.2 p hp rfl
  exact⟨keep p.1 p.2 ne nf nch e n,free p.1 p.2 nch e n,ne,nf,d⟩
theorem Inv.un{t':Nat}(I:Inv X pins σ H s)(u:Un X.fs [] H H' s.heap h')(hok:HOk X.prog X.w H' h'):Inv X pins σ H' {s with heap:=h',toks:=t'}:=by
 obtain⟨m,⟨o,es,ep,ho,r⟩,_⟩:=id I.loc;obtain⟨sl,hL⟩:=u.any ho I.free (by simp)
 exact I.step (g':=s.gens) (d':=s.drawn) (ch:=[]) (fun _ z=>nomatch z) (fun b o _ hb _ e n=>u.keep b o e n hb (by simp)) (fun b o _ hb _ e n=>u.slot b o e n hb (by simp)) (fun b o _ e n=>u.free b o e n (by simp)) (fun b o _ e=>u.there b o e (by simp)) u.tups u.frzs u.tbls (fun m' hm=>by
  obtain⟨o',es',ep',ho',r'⟩:=hm;rw[ho]at ho';cases ho';exact⟨_,es',ep',hL,r'⟩) hok I.bare
theorem Inv.call{g':Array GenState}{t':Nat}{d':Drawn}{ch:List Addr}(I:Inv X pins σ H s)(u:Un (frs X.stack) ch H H' s.heap h')(hok:HOk X.prog X.w H' h')(hg:AllBare g')
  (hch:∀b∈ch,(b∈X.ex∨X.s₀.heap.objs.size≤b)/\b≠X.env.locals/\(∀x c,X.env.cells.lookup x=some c->c≠b)/\∀p∈X.pn++pins,p.1≠b):
  Inv X pins σ H' {s with heap:=h',gens:=g',drawn:=d',toks:=t'}:=by
 obtain⟨m,⟨o,es,ep,ho,r⟩,_⟩:=id I.loc;obtain⟨sl,hL⟩:=u.any ho I.free fun z=>(hch _ z).2.1 rfl
 exact I.step (ch:=ch) hch (fun b o hL hb hc e n=>u.keep b o e n (fun z=>(Qi.mp (I.stkSub b z)).elim hL hb) hc) (fun b o _ _ hc e n=>u.any e n hc) (fun b o hc e n=>u.free b o e n hc) (fun b o hc e=>u.there b o e hc) u.tups u.frzs u.tbls (fun m' hm=>by
  obtain⟨o',es',ep',ho',r'⟩:=hm;rw[ho]at ho';cases ho';exact⟨_,es',ep',hL,r'⟩) hok hg
theorem Inv.turned{t':Nat}{it:Addr}(I:Inv X pins σ H s)(k:∀b o,b≠it->s.heap.get? b=some o->h'.get? b=some o)(hn:H it=none)(hL:it≠X.env.locals)
  (h1:it∈X.ex∨X.s₀.heap.objs.size≤it)(h2:∀x c,X.env.cells.lookup x=some c->c≠it)(h3:∀p∈X.pn++pins,p.1≠it):Inv X pins σ H {s with heap:=h',toks:=t'}:=by
 have nit:∀b u,H b=some u->b≠it:=fun b u e z=>by rw[z,hn]at e;cases e
 refine I.step (g':=s.gens) (d':=s.drawn) (ch:=[it]) (fun b hb=>?_) (fun b o _ _ hc e _=>k b o (fun z=>hc (by simp[z])) e) (fun b o _ _ hc e _=>⟨o.slots,k b o (fun z=>hc (by simp[z])) e⟩) (fun _ _ _ _ n=>n)
  (fun b o hc e=>⟨o,k b o (fun z=>hc (by simp[z])) e⟩) (fun _ _ e=>e) (fun _ _ _ e=>e) (fun b ps e=>⟨#[],by rw[e];simp⟩) (fun m hm=>?_) (fun b u e=>?_) I.bare
 ·have e:b=it:=by simpa using hb
  subst e;exact⟨h1,hL,h2,h3⟩
 ·obtain⟨o,es,ep,ho,r⟩:=hm
  exact⟨o,es,ep,k _ o (Za hL) ho,r⟩
 ·refine(I.hok b u e).stay (fun c v hc q=>k c v ?_ q) (fun _ q=>q) fun _ _ q=>q
  rcases hc with z|z
  ·rw[z];exact nit b u e
  ·exact nit c _ z
theorem Inv.tok(I:Inv X pins σ H s)(t:Nat):Inv X pins σ H {s with toks:=t}:=I.un (h':=s.heap) (t':=t) Un.refl I.hok
theorem Inv.kept{t':Nat}(I:Inv X pins σ H s)(k:∀b u,s.heap.get? b=some u->h'.get? b=some u):Inv X pins σ H {s with heap:=h',toks:=t'}:=I.un (Un.kept k) (I.hok.kept k)
theorem Inv.laid{a:Addr}{o:HO}{t':Nat}(I:Inv X pins σ H s)(k:∀b u,s.heap.get? b=some u->h'.get? b=some u)(hp:s.heap.objs.size≤a)(new:w3_ X.prog X.w (upd H a o) h' a o):
  Inv X pins σ (upd H a o) {s with heap:=h',toks:=t'}:=I.un (Un.laid k hp (I.hok.fresh hp)) (I.hok.laid k hp new)
theorem Inv.write{x e:Addr}{o:HO}{t':Nat}(I:Inv X pins σ H s)(mu:Mut (H x))(he:e=x∨H e=some (.own x))(k:∀b u,b≠e->s.heap.get? b=some u->h'.get? b=some u)(heo:∃u,h'.get? e=some u)
  (new:w3_ X.prog X.w (upd H x o) h' x o):Inv X pins σ (upd H x o) {s with heap:=h',toks:=t'}:=I.un (Un.write mu he k heo) (I.hok.write mu he k heo new)
theorem Inv.pins_of{pins':OX}(I:Inv X pins σ H s)(h:∀p∈pins',s.heap.get? p.1=some p.2/\H p.1=none/\p.1≠X.env.locals/\p.1∉X.fs/\∀v,p.2.data≠.cell v):Inv X pins' σ H s:=
 ⟨I.ok,I.os,I.bare,I.base,I.loc,I.cell,I.free,I.freeC,fun p hp=>(Yp.mp hp).elim (fun z=>I.pin p (List.mem_append_left _ z)) (h p),I.hok,I.len⟩
theorem b0l{N:List Str}(hN:N.Nodup){i j:Nat}{x:Str}(a:N[i]? =some x)(b:N[j]? =some x):i=j:=by
 obtain⟨h1,e1⟩:=Qb.mp a;obtain⟨h2,e2⟩:=Qb.mp b;exact(List.getElem_inj hN).mp (e1.trans e2.symm)
theorem b0m{M:Model}{A:Around}{E:OE}{i:Nat}{x:Str}{v:V}{u:Value}{Q:Unit->Shared->Prop}(I:Inv X pins σ H s)(hN:X.N.Nodup)(hi:X.N[i]? =some x)(hx:Loc X.env.scope x)(r:v6_ v u)
  (h:∀s',Inv X pins (σ.set i (some v)) H s'->(∃a,Heap.SameBut a s.heap s'.heap/\(a=X.env.locals∨X.env.cells.lookup x=some a))->Q () s')(hf:X.fn x=true∨X.env.scope.names.lookup x=some .local:=by first|exact .inl rfl|exact .inr rfl|assumption):wpAny M A (storeName X.env x u) Q E s:=by
 obtain⟨m,hn,hl⟩:=id I.loc;have hcls:(X.env.scope.kind==.class||(X.env.scope.kind==.module&&X.env.locals !=X.env.globals))=false:=by rw[I.ok.kind];rfl
 have hiσ:i<σ.length:=by rw[I.len];exact(Qb.mp hi).1
 have cne:=I.cne
 have tracked:∀{a:Addr}{h':Heap},(∃o,s.heap.get? a=some o/\H a=none)->Heap.SameBut a s.heap h'->HOk X.prog X.w H h':=fun{a h'} ha hs b ob e=>by
  obtain⟨_,_,hfree⟩:=ha;refine(I.hok b ob e).stay (fun c w' hc q=>(hs.2 c ?_).trans q) (fun _ q=>q) fun _ _ q=>q
  rintro rfl
  rcases hc with rfl|hc
  ·rw[hfree]at e;cases e
  ·rw[hfree]at hc;cases hc
 rcases hx with hk|hk
 ·refine wpAny_storeName_local hk hn (fun h' hn' hs=>?_) hcls
  obtain⟨oL,_,_,hoL,_⟩:=id hn;refine h _ ⟨I.ok,I.os,I.bare,⟨fun b o e n hb hx=>?_,fun b o e n hb hx=>?_,I.base.free,fun b o e hx=>?_,I.base.tups,I.base.frzs,I.base.tbls⟩,⟨_,hn',fun j y v' e1 e2 e3=>?_⟩,fun y c e=>?_,I.free,I.freeC,fun p hp=>?_,tracked ⟨oL,hoL,I.free⟩ hs,by simpa using I.len⟩ ⟨_,hs,.inl rfl⟩
  ·exact(hs.2 b (Zw (Qa (Qh e) I.ok.above))).trans (I.base.keep b o e n hb hx)
  ·obtain⟨sl,e1⟩:=I.base.slot b o e n hb hx
   exact⟨sl,(hs.2 b (Zw (Qa (Qh e) I.ok.above))).trans e1⟩
  ·obtain⟨o',e1⟩:=I.base.there b o e hx
   exact⟨o',(hs.2 b (Zw (Qa (Qh e) I.ok.above))).trans e1⟩
  ·by_cases hj:j=i
   ·subst hj
    rw[hi]at e1;cases e1;rw[Yl hiσ]at e2;cases e2;exact⟨u,r,.inl ⟨hk,by simp⟩⟩
   ·rw[Qc (Za hj)]at e2
    obtain⟨u',r',q⟩:=hl j y v' e1 e2 e3;refine⟨u',r',?_⟩
    rcases q with⟨k,e⟩|⟨k,c,e,z⟩
    ·refine .inl ⟨k,?_⟩
     have:y≠x:=fun e=>hj (b0l hN e1 (e ▸ hi))
     simp[this,e]
    ·exact .inr ⟨k,c,e,z.sameBut hs (cne y c e)⟩
  ·obtain⟨w',z⟩:=I.cell y c e
   exact⟨w',z.sameBut hs (cne y c e)⟩
  ·obtain⟨e,n,ne,nf,d⟩:=I.pin p hp
   exact⟨(hs.2 p.1 ne).trans e,n,ne,nf,d⟩
 ·have hfn:X.fn x=true:=by
   rcases hf with z|z
   ·exact z
   ·rw[z]at hk;cases hk
  obtain⟨c,hc⟩:=I.ok.has x (.inl hk);obtain⟨w',z⟩:=I.cell x c hc;refine wpAny_storeName_cell I.ok.kind hk hc z (fun h' hc' hs=>?_)
  obtain⟨oc,hoc,hocd⟩:=id z;refine h {s with heap:=h'} ⟨I.ok,I.os,I.bare,⟨fun b o e n hb hx=>?_,fun b o e n hb hx=>?_,I.base.free,fun b o e hx=>?_,I.base.tups,I.base.frzs,I.base.tbls⟩,⟨m,hn.sameBut hs (Za (cne x c hc)),fun j y v' e1 e2 e3=>?_⟩,fun y c' e=>?_,I.free,I.freeC,fun p hp=>?_,tracked ⟨oc,hoc,I.freeC x c hc⟩ hs,by simpa using I.len⟩ ⟨c,hs,.inr hc⟩
  ·exact(hs.2 b (Zw (Qa (Qh e) (I.ok.cab x c hfn hc)))).trans (I.base.keep b o e n hb hx)
  ·obtain⟨sl,e1⟩:=I.base.slot b o e n hb hx
   exact⟨sl,(hs.2 b (Zw (Qa (Qh e) (I.ok.cab x c hfn hc)))).trans e1⟩
  ·obtain⟨o',e1⟩:=I.base.there b o e hx
   exact⟨o',(hs.2 b (Zw (Qa (Qh e) (I.ok.cab x c hfn hc)))).trans e1⟩
  ·by_cases hj:j=i
   ·subst hj
    rw[hi]at e1;cases e1;rw[Yl hiσ]at e2;cases e2;exact⟨u,r,.inr ⟨.inl hk,c,hc,hc'⟩⟩
   ·rw[Qc (Za hj)]at e2
    obtain⟨u',r',q⟩:=hl j y v' e1 e2 e3;refine⟨u',r',?_⟩
    rcases q with q|⟨k,c',e,z'⟩
    ·exact .inl q
    ·refine .inr ⟨k,c',e,z'.sameBut hs ?_⟩
     rintro rfl;exact hj (b0l hN e1 (I.ok.inj _ _ _ e hc ▸ hi))
  ·by_cases hcc:c'=c
   ·subst hcc;exact⟨_,hc'⟩
   ·obtain⟨w2,z2⟩:=I.cell y c' e
    exact⟨w2,z2.sameBut hs hcc⟩
  ·obtain⟨e,n,ne,nf,d⟩:=I.pin p hp
   refine⟨(hs.2 p.1 ?_).trans e,n,ne,nf,d⟩;intro q;rw[q,hoc]at e;have q':oc=p.2:=Yw e;exact d w' (by rw[←q'];exact hocd)
theorem a4e{M:Model}{A:Around}{E:OE}{i:Nat}{x:Str}{v:V}{u:Value}{Q:Unit->Shared->Prop}(I:Inv X pins σ H s)(hN:X.N.Nodup)(hi:X.N[i]? =some x)(hx:Loc X.env.scope x)(r:v6_ v u)
  (h:∀s',Inv X pins (σ.set i (some v)) H s'->Q () s')(hf:X.fn x=true∨X.env.scope.names.lookup x=some .local:=by first|exact .inl rfl|exact .inr rfl|assumption):wpAny M A (storeName X.env x u) Q E s:=
 b0m I hN hi hx r (fun s' I' _=>h s' I') hf
theorem Inv.call'{s':Shared}{ch:List Addr}(I:Inv X pins σ H s)(ho:s'.os=s.os)(u:Un (frs X.stack) ch H H' s.heap s'.heap)(hok:HOk X.prog X.w H' s'.heap)(hg:AllBare s'.gens)
  (hch:∀b∈ch,(b∈X.ex∨X.s₀.heap.objs.size≤b)/\b≠X.env.locals/\(∀x c,X.env.cells.lookup x=some c->c≠b)/\∀p∈X.pn++pins,p.1≠b):Inv X pins σ H' s':=by
 obtain⟨h',g',d',t',o'⟩:=s';have e:o'=s.os:=ho;subst e;exact I.call (g':=g') (t':=t') (d':=d') u hok hg hch
end
abbrev XK:=Value->Option Addr->Hp->Prop
abbrev St:=List (Option V)
abbrev VK:=V->Hp->Prop
abbrev TE:=St->Hp->VK->Prop
abbrev TT:=St->Hp->(Bool->Hp->Prop)->Prop
abbrev TA:=St->Hp->(List V->Hp->Prop)->Prop
structure Ends where
 nx:St->Hp->Prop
 rt:VK
 bk:St->Hp->Prop:=fun _ _=>False
 ct:St->Hp->Prop:=fun _ _=>False
abbrev TS:=Ends->St->Hp->Prop
def EP(X:Cx)(pins:OX)(σ:St)(Q:VK)(u:Value)(s':Shared):Prop:=∃v H',Inv X pins σ H' s'/\v6_ v u/\Q v H'
def TP(X:Cx)(pins:OX)(σ:St)(Q:Bool->Hp->Prop)(b:Bool)(s':Shared):Prop:=∃H',Inv X pins σ H' s'/\Q b H'
def AP(X:Cx)(pins:OX)(σ:St)(Q:List V->Hp->Prop)(us:List Value)(s':Shared):Prop:=∃vs H',Inv X pins σ H' s'/\v5_ vs us/\Q vs H'
def SP(X:Cx)(pins:OX)(D:Ends)(f:Flow)(s':Shared):Prop:=
 match f with
 |.next=>∃σ' H',Inv X pins σ' H' s'/\D.nx σ' H'
 |.brk=>∃σ' H',Inv X pins σ' H' s'/\D.bk σ' H'
 |.cont=>∃σ' H',Inv X pins σ' H' s'/\D.ct σ' H'
 |.ret u=>∃v σ' H',Inv X pins σ' H' s'/\v6_ v u/\D.rt v H'
def PE(X:Cx)(e:Expr)(t:TE):Prop:=
 ∀(pins:OX) (s:Shared) (σ:St) (H:Hp) (Q:VK),Inv X pins σ H s->t σ H Q->wpAny (model X.prog X.w) X.A (eval e X.env) (EP X pins σ Q) X.xe s
def PT(X:Cx)(e:Expr)(t:TT):Prop:=
 ∀(pins:OX) (s:Shared) (σ:St) (H:Hp) (Q:Bool->Hp->Prop),Inv X pins σ H s->t σ H Q->wpAny (model X.prog X.w) X.A (isTrue e X.env (eval e X.env)) (TP X pins σ Q) X.xe s
def PW(X:Cx)(e:Expr)(t:TT):Prop:=
 ∀(whole:Sem Value) (pins:OX) (s:Shared) (σ:St) (H:Hp) (Q:Bool->Hp->Prop),Inv X pins σ H s->t σ H Q->wpAny (model X.prog X.w) X.A (isTrue e X.env whole) (TP X pins σ Q) X.xe s
theorem PW.pt{X:Cx}{e:Expr}{t:TT}(h:PW X e t):PT X e t:=h _
def PA(X:Cx)(es:List Expr)(t:TA):Prop:=
 ∀(pos:Pos) (pins:OX) (s:Shared) (σ:St) (H:Hp) (Q:List V->Hp->Prop),Inv X pins σ H s->t σ H Q->wpAny (model X.prog X.w) X.A (spliced (backTo pos (starEach es X.env))) (AP X pins σ Q) X.xe s
def PS(X:Cx)(st:Stmt)(t:TS):Prop:=
 ∀(pins:OX) (s:Shared) (σ:St) (H:Hp) (D:Ends),Inv X pins σ H s->t D σ H->wpAny (model X.prog X.w) X.A (exec st X.env) (SP X pins D) X.xe s
def PSs(X:Cx)(st:List Stmt)(t:TS):Prop:=
 ∀(pins:OX) (s:Shared) (σ:St) (H:Hp) (D:Ends),Inv X pins σ H s->t D σ H->wpAny (model X.prog X.w) X.A (execs st X.env) (SP X pins D) X.xe s
theorem thn{α:Type}{t:Sem α}{Q Q':α->Shared->Prop}{M:Model}{A:Around}{E:OE}{s:Shared}(h:wpAny M A t Q E s)(hQ:∀a s,Q a s->Q' a s):wpAny M A t Q' E s:=Zy h hQ fun _ _ x=>x
section
variable{X:Cx}
theorem bin{a b:Expr}{ta tb:TE}(ha:PE X a ta)(hb:PE X b tb){pins:OX}{s:Shared}{σ:St}{H:Hp}{R:V->V->Hp->Prop}(I:Inv X pins σ H s)(h:ta σ H fun x H1=>tb σ H1 fun y H2=>R x y H2)
  {α:Type}{Q:α->Shared->Prop}{f:Value->Value->Sem α}
  (hf:∀v u s2 x y H2,Inv X pins σ H2 s2->v6_ x v->v6_ y u->R x y H2->wpAny (model X.prog X.w) X.A (f v u) Q X.xe s2):
  wpAny (model X.prog X.w) X.A (eval a X.env) (fun v s₁=>wpAny (model X.prog X.w) X.A (eval b X.env) (fun u s₂=>wpAny (model X.prog X.w) X.A (f v u) Q X.xe s₂) X.xe s₁) X.xe s:=by
 refine thn (ha pins s σ H _ I h) fun v s1 ⟨x,H1,I1,r1,q1⟩=>?_
 refine thn (hb pins s1 σ H1 _ I1 q1) fun u s2 ⟨y,H2,I2,r2,q2⟩=>?_
 exact hf v u s2 x y H2 I2 r1 r2 q2
def a0D(i:Nat):TE:=fun σ H Q=>∃v,σ[i]? =some (some v)/\Q v H
def tC(v:V):TE:=fun _ H Q=>Q v H
theorem b4S{i:Nat}{x:Str}{pos:Pos}(hN:X.N[i]? =some x)(hv:Vis X.env.scope x)(hd:(x==("__debug__":Str))=false:=by decide)(hcd:(x==("__classdict__":Str))=false:=by decide):PE X (.Name x pos) (a0D i):=by
 intro pins s σ H Q I h;obtain⟨v,e,h⟩:=h;obtain⟨m,hn,hl⟩:=I.loc;obtain⟨u,r,l⟩:=hl i x v hN e hv;have fin:EP X pins σ Q u s:=⟨v,H,I,r,h⟩
 rcases l with⟨hk,hm⟩|⟨hk,c,hc,hcell⟩
 ·exact wpAny_Name (wpAny_loadName_local I.ok.kind hk hn hm fin) hd
 ·rcases hk with hk|hk
  ·exact wpAny_Name (wpAny_loadName_cell I.ok.kind hk hc hcell fin) hd
  ·exact wpAny_Name (wpAny_loadName_free I.ok.kind hk hc hcell fin hcd) hd
theorem b4T{i j pos}:PE X (.Constant (.int i) j pos) (tC (.int i)):=fun _ _ _ H _ I h=>wpAny_Constant_int ⟨.int i,H,I.tok _,⟨_,rfl⟩,h⟩
theorem b4U{b j pos}:PE X (.Constant (.bool b) j pos) (tC (.bl b)):=fun _ _ _ H _ I h=>Constant_bool ⟨.bl b,H,I,rfl,h⟩
theorem b4V{x j pos}:PE X (.Constant (.str x) j pos) (tC (.str x)):=fun _ _ _ H _ I h=>Calls.Constant_str ⟨.str x,H,I.tok _,⟨_,rfl⟩,h⟩
def Gl(X:Cx)(x:Str):Prop:=X.env.kindOf x=some .globalImplicit
theorem b0n{E:OE}{pins:OX}{s:Shared}{σ:St}{H:Hp}{x:Str}{u:Value}{pos:Pos}{Q:OE}(I:Inv X pins σ H s)(hg:Gl X x)(hm:X.mg x=some u)(h:Q u s)
  (hd:(x==("__debug__":Str))=false:=by decide):wpAny (model X.prog X.w) X.A (eval (.Name x pos) X.env) Q E s:=
 Calls.Name_function_global I.ok.kind hg (Calls.loadGlobal_global (by rw[I.ok.glob];exact I.mod.glob.keeps I.bk) hm h) hd
theorem a3f{E:OE}{pins:OX}{s:Shared}{σ:St}{H:Hp}{x:Str}{u:Value}{pos:Pos}{Q:OE}(I:Inv X pins σ H s)(hg:Gl X x)(hm:X.mg x=none)(hv:bootBuiltins x=some u)(h:Q u s)
  (hn:x≠"__name__":=by decide)(hd:(x==("__debug__":Str))=false:=by decide):wpAny (model X.prog X.w) X.A (eval (.Name x pos) X.env) Q E s:=by
 obtain⟨mb,h1,h2⟩:=I.mod.blt;exact Calls.Name_function_global I.ok.kind hg (Calls.loadGlobal_builtin (by rw[I.ok.glob];exact I.mod.glob.keeps I.bk) hm (by rw[I.ok.blt];exact h1.keeps I.bk) ((h2 x hn).trans hv) h) hd
theorem b4W{x:Str}{v:V}{u:Value}{pos:Pos}(hg:Gl X x)(hm:X.mg x=some u)(r:v6_ v u)(hd:(x==("__debug__":Str))=false:=by decide):PE X (.Name x pos) (tC v):=
 fun _ _ _ H _ I h=>b0n I hg hm ⟨v,H,I,r,h⟩ hd
theorem b4X{x:Str}{v:V}{u:Value}{pos:Pos}(hg:Gl X x)(hm:X.mg x=none)(hv:bootBuiltins x=some u)(r:v6_ v u)(hn:x≠"__name__":=by decide)(hd:(x==("__debug__":Str))=false:=by decide):PE X (.Name x pos) (tC v):=
 fun _ _ _ H _ I h=>a3f I hg hm hv ⟨v,H,I,r,h⟩ hn hd
variable{a b:Expr}{ta tb:TE}{pos:Pos}
def PC(X:Cx)(op:CmpOp)(a b:Expr)(t:TE):Prop:=
 ∀(pins:OX) (s:Shared) (σ:St) (H:Hp) (Q:VK),Inv X pins σ H s->t σ H Q->
  wpAny (model X.prog X.w) X.A (eval a X.env) (fun v s₁=>wpAny (model X.prog X.w) X.A (eval b X.env) (fun u s₂=>wpAny (model X.prog X.w) X.A (compareOp op v u) (EP X pins σ Q) X.xe s₂) X.xe s₁) X.xe s
theorem nobehind(b:Expr){op:CmpOp}(h:op≠.In)(h2:op≠.NotIn):behindInMarks op b=false:=by
 have e1:(op==CmpOp.In)=false:=by cases op<;>first|rfl|exact absurd rfl h
 have e2:(op==CmpOp.NotIn)=false:=by cases op<;>first|rfl|exact absurd rfl h2
 cases b<;>simp[behindInMarks,e1,e2]
def tB(t:TE):TT:=fun σ H Q=>t σ H fun x H1=>∃c,x=.bl c/\Q c H1
theorem b4Y{op:CmpOp}{t:TE}(h:PC X op a b t)(h1:behindInMarks op b=false:=by first|exact nobehind _ (by decide) (by decide)|rfl):PT X (.Compare a [op] [b] pos) (tB t):=by
 intro pins s σ H Q I hw;refine wpAny_isTrue_Compare1 (thn (h pins s σ H _ I hw) fun v s1 h1=>thn h1 fun u s2 h2=>thn h2 fun c s3 ⟨x,H1,I1,r1,q1⟩=>?_) h1
 obtain⟨d,rfl,q⟩:=q1;cases r1;exact Yz ⟨H1,I1,q⟩
theorem b4Z{e:Expr}{t:TE}(h:PE X e t)(he:∀whole,isTrue e X.env whole=(do let v←whole;standAt e.pos;holding [v] (truthy v)):=by intro _;rfl):PT X e (tB t):=by
 intro pins s σ H Q I hw;refine isTrue_plain (thn (h pins s σ H _ I hw) fun v s1 ⟨x,H1,I1,r1,q1⟩=>?_) (he _)
 obtain⟨d,rfl,q⟩:=q1;cases r1;exact Yz ⟨H1,I1,q⟩
variable{tA tB':TT}{rest:List Expr}
def b0o(t u:TT):TT:=fun σ H Q=>t σ H fun c H1=>if c=true then u σ H1 Q else Q false H1
def tOr(t u:TT):TT:=fun σ H Q=>t σ H fun c H1=>if c=true then Q true H1 else u σ H1 Q
def b5a(t:TT):TT:=fun σ H Q=>t σ H fun c H1=>Q (!c) H1
theorem b5b(ha:PT X a tA):PW X (.BoolOp .And [a] pos) tA:=by
 intro wh pins s σ H Q I h;refine isTrue_and (thn (ha pins s σ H Q I h) fun c s1 e=>?_)
 cases c with
 |true=>exact isTrue_and_nil e
 |false=>exact e
theorem b5c(ha:PT X a tA):PW X (.BoolOp .Or [a] pos) tA:=by
 intro wh pins s σ H Q I h;refine isTrue_or (thn (ha pins s σ H Q I h) fun c s1 e=>?_)
 cases c with
 |false=>exact isTrue_or_nil e
 |true=>exact e
theorem b5d(ha:PT X a tA)(hb:PW X (.BoolOp .And (b::rest) pos) tB'):PW X (.BoolOp .And (a::b::rest) pos) (b0o tA tB'):=by
 intro wh pins s σ H Q I h;refine isTrue_and (thn (ha pins s σ H _ I h) fun c s1 ⟨H1,I1,q1⟩=>?_)
 cases c with
 |true=>exact hb wh pins s1 σ H1 Q I1 q1
 |false=>exact⟨H1,I1,q1⟩
theorem b5e(ha:PT X a tA)(hb:PW X (.BoolOp .Or (b::rest) pos) tB'):PW X (.BoolOp .Or (a::b::rest) pos) (tOr tA tB'):=by
 intro wh pins s σ H Q I h;refine isTrue_or (thn (ha pins s σ H _ I h) fun c s1 ⟨H1,I1,q1⟩=>?_)
 cases c with
 |true=>exact⟨H1,I1,q1⟩
 |false=>exact hb wh pins s1 σ H1 Q I1 q1
theorem b5f(ha:PT X a tA):PT X (.UnaryOp .Not a pos) (b5a tA):=by
 intro pins s σ H Q I h;exact isTrue_not (ha pins s σ H (fun c H1=>Q (!c) H1) I h)
def b5g(ta tb:TE):TE:=fun σ H Q=>ta σ H fun x H1=>∃c,x=.bl c/\if c=true then tb σ H1 Q else Q (.bl false) H1
def b5h(ta tb:TE):TE:=fun σ H Q=>ta σ H fun x H1=>∃c,x=.bl c/\if c=true then Q (.bl true) H1 else tb σ H1 Q
def b5i(ta:TE):TE:=fun σ H Q=>ta σ H fun x H1=>∃c,x=.bl c/\Q (.bl (!c)) H1
theorem b5j{op}{t:TE}(h:PE X a t):PE X (.BoolOp op [a] pos) t:=fun pins s σ H Q I hw=>BoolOp_one (h pins s σ H Q I hw)
theorem b5k(ha:PE X a ta)(hb:PE X (.BoolOp .And (b::rest) pos) tb):PE X (.BoolOp .And (a::b::rest) pos) (b5g ta tb):=by
 intro pins s σ H Q I h;refine BoolOp_and (thn (ha pins s σ H _ I h) fun v s1 ⟨x,H1,I1,r1,q1⟩=>?_)
 obtain⟨c,rfl,q1⟩:=q1;cases r1;refine Yz ?_
 cases c with
 |true=>exact hb pins s1 σ H1 Q I1 q1
 |false=>exact⟨.bl false,H1,I1,rfl,q1⟩
theorem b0p(ha:PE X a ta)(hb:PE X (.BoolOp .Or (b::rest) pos) tb):PE X (.BoolOp .Or (a::b::rest) pos) (b5h ta tb):=by
 intro pins s σ H Q I h;refine BoolOp_or (thn (ha pins s σ H _ I h) fun v s1 ⟨x,H1,I1,r1,q1⟩=>?_)
 obtain⟨c,rfl,q1⟩:=q1;cases r1;refine Yz ?_
 cases c with
 |false=>exact hb pins s1 σ H1 Q I1 q1
 |true=>exact⟨.bl true,H1,I1,rfl,q1⟩
theorem b5l(ha:PE X a ta):PE X (.UnaryOp .Not a pos) (b5i ta):=by
 intro pins s σ H Q I h;refine UnaryOp_ (thn (ha pins s σ H _ I h) fun v s1 ⟨x,H1,I1,r1,q1⟩=>?_)
 obtain⟨c,rfl,q1⟩:=q1;cases r1;exact not_of (Yz ⟨.bl (!c),H1,I1,rfl,q1⟩)
end
def SqL(K:Qq)(H:Hp)(a:Addr)(xs:List V):Prop:=
 Rd H a (.lst xs)∨
  ∃(o:Obj) (its:Array Value) (n:Nat),K.lookup a=some o/\o.cls=.type "list"/\o.dict=none/\o.data=.seq its n/\its.size≤sizeLine/\v5_ xs its.toList
def SqT(K:Qq)(H:Hp)(a:Addr)(xs:List V):Prop:=
 Rd H a (.tup xs)∨
  ∃(o:Obj) (its:Array Value) (n:Nat),K.lookup a=some o/\o.cls=.type "tuple"/\o.dict=none/\o.data=.seq its n/\its.size≤sizeLine/\v5_ xs its.toList
def b5m:Value->Option V
 |.none=>some .non
 |.bool b=>some (.bl b)
 |.int i _=>some (.int i)
 |.str x _=>some (.str x)
 |.bytes b _=>some (.byt b)
 |.float b _=>some (.flt b)
 |.ref a=>some (.ref a)
 |.type n=>some (.ty n)
 |_=>none
theorem v6_.abs{x:V}{u:Value}(r:v6_ x u):b5m u=some x:=by
 cases x with
 |non=>cases r;rfl
 |bl _=>cases r;rfl
 |int _=>obtain⟨t,rfl⟩:=r;rfl
 |str _=>obtain⟨t,rfl⟩:=r;rfl
 |byt _=>obtain⟨t,rfl⟩:=r;rfl
 |flt _=>obtain⟨t,rfl⟩:=r;rfl
 |ref _=>cases r;rfl
 |ty _=>cases r;rfl
theorem v6_.inj{x y:V}{u:Value}(r:v6_ x u)(q:v6_ y u):x=y:=Yw (r.abs.symm.trans q.abs)
theorem v5_.inj:∀{xs ys:List V}{us:List Value},v5_ xs us->v5_ ys us->xs=ys
 |_,_,_,.nil,.nil=>rfl
 |_,_,_,.cons r t,.cons r' t'=>by rw[r.inj r',v5_.inj t t']
section
variable{X:Cx}{pins:OX}{σ:St}{H:Hp}{s:Shared}{a:Addr}{xs ys:List V}
theorem Inv.list(I:Inv X pins σ H s)(h:SqL X.K H a xs):∃its:List Value,v5_ xs its/\PlainL s.heap a its.toArray/\xs.length≤sizeLine:=by
 rcases h with h|⟨o,its,n,hk,hc,hd,hs,hz,r⟩
 ·obtain⟨z,its,n,r,e⟩:=h.ok I.hok
  exact⟨its,r,⟨_,n,e,rfl,rfl,rfl⟩,z⟩
 ·refine⟨its.toList,r,⟨o,n,I.kIn a o hk,hc,hd,by simpa using hs⟩,?_⟩
  have e:=r.length
  simp only[Vi]at e
  omega
theorem Inv.tupleD(I:Inv X pins σ H s)(h:SqT X.K H a xs):∃its:List Value,v5_ xs its/\a0O s.heap a its.toArray/\xs.length≤sizeLine:=by
 rcases h with h|⟨o,its,n,hk,hc,hd,hs,hz,r⟩
 ·obtain⟨z,its,r,p⟩:=h.ok I.hok
  exact⟨its,r,p,z⟩
 ·refine⟨its.toList,r,⟨o,I.kIn a o hk,hc,hd,n,by simpa using hs⟩,?_⟩
  have e:=r.length
  simp only[Vi]at e
  omega
theorem Inv.tuple(I:Inv X pins σ H s)(h:SqT X.K H a xs):∃its:List Value,v5_ xs its/\IsTup s.heap a its.toArray/\xs.length≤sizeLine:=
 let ⟨its,r,p,z⟩:=I.tupleD h
 ⟨its,r,p.tup,z⟩
theorem Inv.list_inj(I:Inv X pins σ H s)(h:SqL X.K H a xs)(h':SqL X.K H a ys):xs=ys:=by
 obtain⟨its,r,⟨o,n,e,_,_,d⟩,_⟩:=I.list h;obtain⟨its',r',⟨o',n',e',_,_,d'⟩,_⟩:=I.list h';rw[e]at e';cases e';rw[d]at d';injection d' with d1 _
 have:its=its':=by simpa using Yb Array.toList d1
 subst this;exact r.inj r'
theorem Inv.tuple_inj(I:Inv X pins σ H s)(h:SqT X.K H a xs)(h':SqT X.K H a ys):xs=ys:=by
 obtain⟨its,r,⟨o,e,_,n,d⟩,_⟩:=I.tuple h;obtain⟨its',r',⟨o',e',_,n',d'⟩,_⟩:=I.tuple h';rw[e]at e';cases e';rw[d]at d';injection d' with d1 _
 have:its=its':=by simpa using Yb Array.toList d1
 subst this;exact r.inj r'
end
abbrev Cx.wish(X:Cx)(E:OE):Cx:={X with xe:=E}
abbrev Cx.nox(X:Cx):Cx:=X.wish fun _ _=>False
theorem Cx.Ok.wish{X:Cx}(ok:X.Ok)(E:OE):(X.wish E).Ok:=
 ⟨ok.mod,ok.kind,ok.glob,ok.blt,ok.above,ok.inj,ok.has,ok.cab,ok.hd,ok.frames,ok.stk,ok.exf,ok.bs,ok.bsz,ok.noex,ok.exfs,ok.funs,ok.frf⟩
theorem Cx.Ok.unwish{X:Cx}{E:OE}(ok:(X.wish E).Ok):X.Ok:=
 ⟨ok.mod,ok.kind,ok.glob,ok.blt,ok.above,ok.inj,ok.has,ok.cab,ok.hd,ok.frames,ok.stk,ok.exf,ok.bs,ok.bsz,ok.noex,ok.exfs,ok.funs,ok.frf⟩
section
variable{X:Cx}{pins:OX}{σ:St}{H:Hp}{s:Shared}{E:OE}
theorem Inv.wish(I:Inv X pins σ H s)(E:OE):Inv (X.wish E) pins σ H s:=⟨I.ok.wish E,I.os,I.bare,I.base,I.loc,I.cell,I.free,I.freeC,I.pin,I.hok,I.len⟩
theorem Inv.unwish(I:Inv (X.wish E) pins σ H s):Inv X pins σ H s:=⟨I.ok.unwish,I.os,I.bare,I.base,I.loc,I.cell,I.free,I.freeC,I.pin,I.hok,I.len⟩
theorem SP.unwish{D:Ends}{f:Flow}{s':Shared}(h:SP (X.wish E) pins D f s'):SP X pins D f s':=by
 cases f with
 |next=>obtain⟨σ',H',I,q⟩:=h;exact⟨σ',H',I.unwish,q⟩
 |brk=>obtain⟨σ',H',I,q⟩:=h;exact⟨σ',H',I.unwish,q⟩
 |cont=>obtain⟨σ',H',I,q⟩:=h;exact⟨σ',H',I.unwish,q⟩
 |ret u=>obtain⟨v,σ',H',I,r,q⟩:=h;exact⟨v,σ',H',I.unwish,r,q⟩
theorem PSs.nox{st:List Stmt}{t:TS}(h:PSs X.nox st t):PSs X st t:=fun pins s σ H D I hw=>
 Zy (h pins s σ H D (I.wish _) hw) (fun _ _ q=>q.unwish) fun _ _ z=>False.elim z
end
section
variable{X:Cx}{st:Stmt}{rest:List Stmt}{t u:TS}{e:Expr}{te:TE}{pos:Pos}
def b5n:TS:=fun D σ H=>D.nx σ H
def b5o(t u:TS):TS:=fun D σ H=>t {D with nx:=u D} σ H
theorem b5p:PSs X [] b5n:=fun _ _ σ H _ I h=>Vb ⟨σ,H,I,h⟩
theorem b5q(h1:PS X st t)(h2:PSs X rest u):PSs X (st::rest) (b5o t u):=by
 intro pins s σ H D I h;refine wpAny_execs_cons (thn (h1 pins s σ H {D with nx:=u D} I h) fun f s1 q=>?_)
 cases f with
 |next=>
  obtain⟨σ',H',I',q⟩:=q;exact h2 pins s1 σ' H' D I' q
 |ret v=>exact q
 |brk=>exact q
 |cont=>exact q
theorem b5r(h1:PS X st t):PSs X [st] t:=by
 intro pins s σ H D I h;refine wpAny_execs_cons (thn (h1 pins s σ H D I h) fun f s1 q=>?_)
 cases f with
 |next=>exact Vb q
 |ret v=>exact q
 |brk=>exact q
 |cont=>exact q
theorem Inv.quiet{pins:OX}{σ:St}{H:Hp}{s:Shared}(I:Inv X pins σ H s):interactive X.env=false:=by simp[interactive,I.ok.kind]
def b5s(te:TE):TS:=fun D σ H=>te σ H fun _ H1=>D.nx σ H1
theorem b0q(he:PE X e te)(hs:swapsWith e none pos.line X.env=pure false:=by rfl):PS X (.Expr e pos) (b5s te):=by
 intro pins s σ H D I h;exact wpAny_Expr_any (thn (he pins s σ H _ I h) fun v s1 ⟨x,H1,I1,r1,q1⟩=>⟨σ,H1,I1,q1⟩) I.quiet hs
def b5t(te:TE):TS:=fun D σ H=>te σ H D.rt
theorem b0r(he:PE X e te):PS X (.Return (some e) pos) (b5t te):=by
 intro pins s σ H D I h;exact wpAny_Return_some (thn (he pins s σ H _ I h) fun v s1 ⟨x,H1,I1,r1,q1⟩=>⟨x,σ,H1,I1,r1,q1⟩)
def b5u(c:TT)(t u:TS):TS:=fun D σ H=>c σ H fun b H1=>if b=true then t D σ H1 else u D σ H1
theorem b5v{c:Expr}{a b:List Stmt}{tc:TT}(hc:PT X c tc)(ha:PSs X a t)(hb:PSs X b u):PS X (.If c a b pos) (b5u tc t u):=by
 intro pins s σ H D I h;refine wpAny_If (thn (hc pins s σ H _ I h) fun d s1 ⟨H1,I1,q1⟩=>?_)
 cases d with
 |true=>exact ha pins s1 σ H1 D I1 q1
 |false=>exact hb pins s1 σ H1 D I1 q1
def b5w:TS:=fun _ _ _=>False
theorem b5x:PS X st b5w:=fun _ _ _ _ _ _ h=>h.elim
end
abbrev TG:=V->St->Hp->(St->Hp->Prop)->Prop
abbrev TGs:=List V->St->Hp->(St->Hp->Prop)->Prop
def PG(X:Cx)(target:Expr)(t:TG):Prop:=
 ∀(pins:OX) (s:Shared) (σ:St) (H:Hp) (v:V) (u:Value) (Q:St->Hp->Prop),Inv X pins σ H s->v6_ v u->t v σ H Q->
  wpAny (model X.prog X.w) X.A (assign target X.env u) (fun _ s'=>∃σ' H',Inv X pins σ' H' s'/\Q σ' H') X.xe s
def PGs(X:Cx)(ts:List Expr)(t:TGs):Prop:=
 ∀(pins:OX) (s:Shared) (σ:St) (H:Hp) (vs:List V) (us:List Value) (Q:St->Hp->Prop),Inv X pins σ H s->v5_ vs us->t vs σ H Q->
  wpAny (model X.prog X.w) X.A (assignInOrder ((assignEach ts X.env).map (·.2)) us) (fun _ s'=>∃σ' H',Inv X pins σ' H' s'/\Q σ' H') X.xe s
abbrev a5l:=V->V->V->Hp->(Hp->Prop)->Prop
def a6X(X:Cx)(t:a5l):Prop:=
 ∀(pins:OX) (s:Shared) (σ:St) (H:Hp) (o i v:V) (ov iv u:Value) (Q:Hp->Prop),Inv X pins σ H s->v6_ o ov->v6_ i iv->v6_ v u->t o i v H Q->
  wpAny (model X.prog X.w) X.A (setItem ov iv u) (fun _ s'=>∃H',Inv X pins σ H' s'/\Q H') X.xe s
abbrev TIp:=V->V->Hp->VK->Prop
def PIp(X:Cx)(op:Operator)(t:TIp):Prop:=
 ∀(pins:OX) (s:Shared) (σ:St) (H:Hp) (x y:V) (v u:Value) (Q:VK),Inv X pins σ H s->v6_ x v->v6_ y u->t x y H Q->
  wpAny (model X.prog X.w) X.A (inplaceOp op v u) (EP X pins σ Q) X.xe s
section
variable{X:Cx}{pos:Pos}
def a6Y(i:Nat):TG:=fun v σ H Q=>Q (σ.set i (some v)) H
theorem b5y{i:Nat}{x:Str}(hN:X.N.Nodup)(hi:X.N[i]? =some x)(hx:Loc X.env.scope x)(hf:X.fn x=true∨X.env.scope.names.lookup x=some .local:=by first|exact .inl rfl|exact .inr rfl|assumption):PG X (.Name x pos) (a6Y i):=by
 intro pins s σ H v u Q I r h;exact wpAny_assign_Name (a4e I hN hi hx r (fun s' I'=>⟨_,H,I',h⟩) hf)
def b5z:TGs:=fun vs σ H Q=>vs=[]/\Q σ H
def b5A(t:TG)(u:TGs):TGs:=fun vs σ H Q=>∃v r,vs=v::r/\t v σ H fun σ' H'=>u r σ' H' Q
theorem b5B:PGs X [] b5z:=by
 intro pins s σ H vs us Q I r h;obtain⟨e,h⟩:=h;subst e;cases r;exact assignInOrder_nil ⟨σ,H,I,h⟩
theorem b5C{e:Expr}{es:List Expr}{t:TG}{u:TGs}(h1:PG X e t)(h2:PGs X es u)
  (hs:(assignEach (e::es) X.env).map (·.2)=assign e X.env::(assignEach es X.env).map (·.2):=by rfl):PGs X (e::es) (b5A t u):=by
 intro pins s σ H vs us Q I r h;obtain⟨v,vr,e1,h⟩:=h;subst e1;cases r with
 |cons r rr=>
  rw[hs];refine assignInOrder_cons (thn (h1 pins s σ H _ _ _ I r h) fun _ s1 ⟨σ1,H1,I1,q1⟩=>?_)
  exact h2 pins s1 σ1 H1 _ _ Q I1 rr q1
def b5D(K:Qq)(n:Nat)(t:TGs):TG:=fun v σ H Q=>∃a xs,v=.ref a/\SqT K H a xs/\xs.length=n/\t xs σ H Q
theorem b5E{es:List Expr}{k:Nat}{t:TGs}{n:Nat}(hc:X.calm=true)(h:PGs X es t)
  (hn:(assignEach es X.env).length=n:=by rfl)(hst:(assignEach es X.env).findIdx? (·.1)=none:=by rfl):PG X (.Tuple es k pos) (b5D X.K n t):=by
 intro pins s σ H v u Q I r hw;obtain⟨a,xs,e1,hq,hl,hw⟩:=hw;subst e1;cases r;obtain⟨its,rv,ht,hz⟩:=I.tuple hq;refine assign_Tuple_tuple (I.ok.hd hc) ht (by simp[hn,←hl,rv.length]) hst fun h' hx=>?_
 have I1:Inv X pins σ H {s with heap:=h'}:=I.kept (t':=s.toks) fun b o e=>hx b o (Zw (Qh e)) e
 exact h pins _ σ H xs _ Q I1 (by simpa using rv) hw
def b5F(to ti:TE)(t:a5l):TG:=fun v σ H Q=>to σ H fun o H1=>ti σ H1 fun i H2=>t o i v H2 fun H3=>Q σ H3
theorem b0s{o i:Expr}{to ti:TE}{t:a5l}(ho:PE X o to)(hi:PE X i ti)(hs:a6X X t)
  (ha:∀v,assign (.Subscript o i pos) X.env v=(do
   let ov←holding [v] (eval o X.env)
   let iv←holding [v,ov] (eval i X.env)
   standAt pos
   holding [v,ov,iv] (setItem ov iv v)
   release [v,ov,iv] []):=by intro _;rfl):PG X (.Subscript o i pos) (b5F to ti t):=by
 intro pins s σ H v u Q I r h;rw[ha];refine Qz (Yr (thn (ho pins s σ H _ I h) fun ov s1 ⟨x,H1,I1,r1,q1⟩=>?_))
 refine Qz (Yr (thn (hi pins s1 σ H1 _ I1 q1) fun iv s2 ⟨y,H2,I2,r2,q2⟩=>?_))
 refine Qz (Js (Qz (Yr (thn (hs pins s2 σ H2 x y v ov iv u _ I2 r1 r2 r q2) fun _ s3 ⟨H3,I3,q3⟩=>?_))))
 exact wpAny_release ⟨σ,H3,I3,q3⟩
def a6Z(te:TE)(g:TG):TS:=fun D σ H=>te σ H fun x H1=>g x σ H1 D.nx
theorem b5G{tg e:Expr}{te:TE}{g:TG}(he:PE X e te)(hg:PG X tg g)(hs:swapsWithSole [tg] e pos.line X.env=pure false:=by rfl)(hw:swappedStores [tg] e X.env=pure none:=by rfl)
  (h1:(assignEach [tg] X.env).map (·.2)=[assign tg X.env]:=by rfl):PS X (.Assign [tg] e pos) (a6Z te g):=by
 intro pins s σ H D I h;refine wpAny_Assign_stores (thn (he pins s σ H _ I h) fun v s1 ⟨x,H1,I1,r1,q1⟩=>?_) hs hw
 rw[h1];exact thn (hg pins s1 σ H1 x v _ I1 r1 q1) fun _ s2 q=>q
theorem a7a{i:Nat}{x:Str}{e:Expr}{te:TE}{pos':Pos}(hN:X.N.Nodup)(hi:X.N[i]? =some x)(hx:Loc X.env.scope x)(he:PE X e te)(hs:swapsWith e (some (.Name x pos')) pos.line X.env=pure false:=by rfl)(hf:X.fn x=true∨X.env.scope.names.lookup x=some .local:=by first|exact .inl rfl|exact .inr rfl|assumption):
  PS X (.Assign [.Name x pos'] e pos) (a6Z te (a6Y i)):=by
 intro pins s σ H D I h;refine wpAny_Assign_Name (thn (he pins s σ H _ I h) fun v s1 ⟨y,H1,I1,r1,q1⟩=>?_) hs
 exact a4e I1 hN hi hx r1 (fun s2 I2=>⟨_,H1,I2,q1⟩) hf
def b5H(i j:Nat)(ta:TA):TS:=fun D σ H=>ta σ H fun vs H1=>∃v w,vs=[v,w]/\D.nx ((σ.set i (some v)).set j (some w)) H1
theorem b5I{i j:Nat}{x y:Str}{a b:Expr}{ta:TA}{px py pt:Pos}{kt k2 pt2}(hc:X.calm=true)(hN:X.N.Nodup)(hi:X.N[i]? =some x)(hj:X.N[j]? =some y)(hij:i≠j)
  (hx:X.env.scope.names.lookup x=some .local)(hy:X.env.scope.names.lookup y=some .local)(ha:PA X [a,b] ta)
  (hw:swappedStores [.Tuple [.Name x px,.Name y py] kt pt] (.Tuple [a,b] k2 pt2) X.env=pure (some [x,y]))
  (hs:swapsWithSole [.Tuple [.Name x px,.Name y py] kt pt] (.Tuple [a,b] k2 pt2) pos.line X.env=pure false:=by rfl):
  PS X (.Assign [.Tuple [.Name x px,.Name y py] kt pt] (.Tuple [a,b] k2 pt2) pos) (b5H i j ta):=by
 intro pins s σ H D I h;rw[exec_Assign_arm];refine Qz (Js ?_);rw[hs];refine Qz (Qv ?_);rw[Qt (by decide)]
 refine Qz (Tuple_ (thn (ha _ pins s σ H _ I h) fun us s1 ⟨vs,H1,I1,r1,q1⟩=>?_))
 obtain⟨v,w,e1,q1⟩:=q1;subst e1;obtain⟨u1,u2,rfl,rv,rw'⟩:∃u1 u2,us=[u1,u2]/\v6_ v u1/\v6_ w u2:=by
  cases r1 with
  |cons p q=>
   cases q with
   |cons p' q'=>
    cases q';exact⟨_,_,rfl,p,p'⟩
 refine Ym ?_ (by show 2≤sizeLine;decide)
 have I2:Inv X pins σ H1 {s1 with heap:=s1.heap.push {cls:=.type "tuple",data:=.seq [u1,u2].toArray}}:=I1.kept (t':=s1.toks) fun b o e=>Qx _ e
 rw[hw];refine Qz (Qv ?_);show wpAny (model X.prog X.w) X.A (do rule "assign.swapped-stores";let items←unpackItems (.ref s1.heap.objs.size) 2 none;assignInOrder [fun v=>bindName X.env y v,fun v=>bindName X.env x v] items.reverse;pure Flow.next) _ _ _
 refine Qz (Uy (Qz (unpackItems_tuple (items:=#[u1,u2]) (I.ok.hd hc) (IsTup.new s1.heap _) fun h' hx'=>?_)))
 have I3:=I2.kept (h':=h') (t':=s1.toks) fun b o e=>hx' b o (Zw (Qh e)) e
 show wpAny _ _ (assignInOrder [fun v=>bindName X.env y v,fun v=>bindName X.env x v] [u2,u1]>>=fun _=>pure Flow.next) _ _ _
 refine Qz (assignInOrder_cons (wpAny_bindName (a4e I3 hN hj (.inl hy) rw' (fun s2 I4=>?_) (.inr hy))))
 refine assignInOrder_cons (wpAny_bindName (a4e I4 hN hi (.inl hx) rv (fun s3 I5=>assignInOrder_nil (Qv ?_)) (.inr hx)))
 rw[List.set_comm _ _ (Za hij)]at I5;exact⟨_,H1,I5,q1⟩
def b5J(i:Nat)(te:TE)(ti:TIp):TS:=fun D σ H=>∃x,σ[i]? =some (some x)/\te σ H fun y H1=>ti x y H1 fun z H2=>D.nx (σ.set i (some z)) H2
theorem b5K{i:Nat}{x:Str}{e:Expr}{te:TE}{op:Operator}{ti:TIp}{pos':Pos}(hN:X.N.Nodup)(hi:X.N[i]? =some x)(hx:Loc X.env.scope x)(he:PE X e te)(ho:PIp X op ti)(hf:X.fn x=true∨X.env.scope.names.lookup x=some .local:=by first|exact .inl rfl|exact .inr rfl|assumption):
  PS X (.AugAssign (.Name x pos') op e pos) (b5J i te ti):=by
 intro pins s σ H D I h;obtain⟨v,e1,h⟩:=h;obtain⟨m,hn,hl⟩:=I.loc;have vis:Vis X.env.scope x:=by rcases hx with k|k;exact .inl k;exact .inr (.inl k)
 obtain⟨u,r,l⟩:=hl i x v hi e1 vis;refine wpAny_AugAssign_Name ?_
 have go:wpAny (model X.prog X.w) X.A (eval e X.env) (fun w s₂=>wpAny (model X.prog X.w) X.A (inplaceOp op u w) (fun r s₃=>wpAny (model X.prog X.w) X.A (storeName X.env x r) (fun _=>SP X pins D .next) X.xe s₃) X.xe s₂) X.xe s:=by
  refine thn (he pins s σ H _ I h) fun w s1 ⟨y,H1,I1,r1,q1⟩=>?_
  refine thn (ho pins s1 σ H1 v y u w _ I1 r r1 q1) fun z s2 ⟨zv,H2,I2,r2,q2⟩=>?_
  exact a4e I2 hN hi hx r2 (fun s3 I3=>⟨_,H2,I3,q2⟩) hf
 rcases l with⟨hk,hm⟩|⟨hk,c,hc,hcell⟩
 ·exact wpAny_loadName_local I.ok.kind hk hn hm go
 ·rcases hk with hk|hk
  ·exact wpAny_loadName_cell I.ok.kind hk hc hcell go
  ·rcases hx with k|k
   ·have:X.env.scope.names.lookup x=some .free:=hk
    rw[k]at this;cases this
   ·have:X.env.scope.names.lookup x=some .free:=hk
    rw[k]at this;cases this
end
section
variable{X:Cx}{pos:Pos}
def b5L(c:TT)(tb:TS):TS:=fun D σ H=>∃W:Nat->St->Hp->Prop,(∃m,W m σ H)/\∀m σ H,W m σ H->
 c σ H fun b H1=>if b=true then∃N:St->Hp->Prop,(∀σ' H',N σ' H'->∃m',m'<m/\W m' σ' H')/\tb {D with nx:=N,ct:=N,bk:=D.nx} σ H1 else D.nx σ H1
theorem b5M{c:Expr}{body:List Stmt}{tc:TT}{tb:TS}(hp:PassesOwn (model X.prog X.w) X.A X.env X.xe)(hc:PT X c tc)(hb:PSs X body tb):PS X (.While c body [] pos) (b5L tc tb):=by
 intro pins s σ H D I h;obtain⟨W,⟨m0,w0⟩,turn⟩:=h;refine wpAny_While (codeAny_whileLoop (fun n s'=>∃σ' H',Inv X pins σ' H' s'/\W n σ' H') ?_ m0 ⟨σ,H,I,w0⟩)
 rintro n s1 ⟨σ1,H1,I1,w1⟩;refine Jy hp (thn (hc pins s1 σ1 H1 _ I1 (turn n σ1 H1 w1)) fun b s2 ⟨H2,I2,q2⟩=>?_)
 cases b with
 |true=>
  obtain⟨N,hN,q2⟩:=q2;rw[Qg rfl];refine Jy hp (thn (hb pins s2 σ1 H2 _ I2 q2) fun f s3 q3=>?_)
  cases f with
  |next=>
   obtain⟨σ3,H3,I3,n3⟩:=q3;obtain⟨m',hm,w3⟩:=hN σ3 H3 n3;exact⟨m',hm,σ3,H3,I3,w3⟩
  |cont=>
   obtain⟨σ3,H3,I3,n3⟩:=q3;obtain⟨m',hm,w3⟩:=hN σ3 H3 n3;exact⟨m',hm,σ3,H3,I3,w3⟩
  |brk=>exact q3
  |ret v=>exact q3
 |false=>
  rw[Qt Zd];exact Vb ⟨σ1,H2,I2,q2⟩
end
structure It where
 go:Nat->Hp->Prop
 yld:Nat->Hp->V->Hp->Prop
 stop:Nat->Hp->Prop
def u1_(X:Cx)(pins:OX)(H:Hp)(b:Addr):Prop:=
 H b=none/\b≠X.env.locals/\b∉X.fs/\(b∈X.ex∨X.s₀.heap.objs.size≤b)/\(∀x c,X.env.cells.lookup x=some c->c≠b)/\∀p∈X.pn++pins,p.1≠b
theorem Inv.fpOk{X:Cx}{pins:OX}{σ:St}{H H':Hp}{s:Shared}{b:Addr}(I:Inv X pins σ H s)(hb:s.heap.objs.size≤b)(hn:H' b=none):u1_ X pins H' b:=by
 refine⟨hn,Jc (Qa I.lt hb),I.nofs hb,.inr (Yj I.sz hb),fun x c e z=>?_,fun p hp z=>?_⟩
 ·obtain⟨v,q⟩:=I.cell x c e
  exact absurd (Qa q.lt (by rw[z];exact hb)) (Yd _)
 ·exact absurd (Qa (Qh (I.pin p hp).1) (by rw[z];exact hb)) (Yd _)
structure Turn(P:Program)(w:World)(K:Qq)(tg:Expr)(J:It)(fp:List Addr)(it:Addr)(tn:Nat->Heap->Prop):Prop where
 mem:it∈fp
 obj:∀i h,tn i h->∀b∈fp,∃o,h.get? b=some o/\∀v,o.data≠.cell v
 keep:∀i h h',tn i h->(∀b∈fp,∀o,h.get? b=some o->h'.get? b=some o)->tn i h'
 item:∀(X:Cx),X.prog=P->X.w=w->X.K=K->X.calm=true->∀(i:Nat) (pins:OX) (s:Shared) (σ:St) (H:Hp) (E:OE),Inv X pins σ H s->(∀b∈fp,u1_ X pins H b)->tn i s.heap->J.go i H->
  wpAny (model P w) X.A (pyNext (.ref it)) (fun r s1=>∃u,r=some u/\
   wpAny (model P w) X.A (letOwnedTupleGo tg (.ref it) u) (fun _ s2=>∃x H',Inv X pins σ H' s2/\v6_ x u/\J.yld i H x H'/\tn (i+1) s2.heap/\∀b∈fp,H' b=none) E s1) E s
 done:∀(X:Cx),X.prog=P->X.w=w->X.K=K->X.calm=true->∀(i:Nat) (pins:OX) (s:Shared) (σ:St) (H:Hp) (E:OE),Inv X pins σ H s->(∀b∈fp,u1_ X pins H b)->tn i s.heap->J.stop i H->
  wpAny (model P w) X.A (pyNext (.ref it)) (fun r s1=>r=none/\Inv X pins σ H s1) E s
 self:∀(A:Around) (i:Nat) (s:Shared) (Q:OE) (E:OE),tn i s.heap->Q (.ref it) s->wpAny (model P w) A (pyIter (.ref it)) Q E s
abbrev TI:=St->Hp->(It->Hp->Prop)->Prop
def PIE(X:Cx)(pins:OX)(σ:St)(tg:Expr)(R:It->Hp->Prop)(itv:Value)(s2:Shared):Prop:=
 ∃(it:Addr) (fp:List Addr) (tn:Nat->Heap->Prop) (J:It) (H':Hp),itv=.ref it/\Inv X pins σ H' s2/\Turn X.prog X.w X.K tg J fp it tn/\tn 0 s2.heap/\(∀b∈fp,u1_ X pins H' b)/\R J H'
def PI(X:Cx)(tg iter:Expr)(wi:TI):Prop:=
 ∀(pins:OX) (s:Shared) (σ:St) (H:Hp) (R:It->Hp->Prop),Inv X pins σ H s->wi σ H R->
  wpAny (model X.prog X.w) X.A (eval iter X.env) (fun v s1=>wpAny (model X.prog X.w) X.A (pyIter v) (PIE X pins σ tg R) X.xe s1) X.xe s
theorem a7b{M:Model}{A:Around}{E:OE}{s:Shared}{tg:Expr}{it:Addr}{u:Value}{o:Obj}{n:String}{vs:Array Value}{Q:Unit->Shared->Prop}(ho:s.heap.get? it=some o)(hc:o.cls=.type n)(hd:o.data=.fields vs)
    (hn:["enumerate","zip","dict_itemiterator","dict_reverseitemiterator","odict_iterator","itertools.zip_longest","itertools.pairwise"].contains n=false)(hQ:Q () s):wpAny M A (letOwnedTupleGo tg (.ref it) u) Q E s:=by
  unfold letOwnedTupleGo;cases tg<;>first
    |exact Qv hQ
    | (cases u<;>first
        |exact Qv hQ
        | (refine Qz (wpAny_load ho ?_)
           rw[hc,hd];show wpAny M A (if(["enumerate","zip","dict_itemiterator","dict_reverseitemiterator","odict_iterator","itertools.zip_longest","itertools.pairwise"].contains n&&vs[0]? ==some (rawInt _))=true then _ else _) Q E s
           rw[Qt (by intro h;rw[hn,Bool.false_and]at h;cases h)]
           exact Qv hQ))
def Itl(K:Qq)(a:Addr):It:=
 ⟨fun i H=>∃xs x,SqL K H a xs/\xs[i]? =some x,fun i H x H'=>H'=H/\∀xs,SqL K H a xs->xs[i]? =some x,fun i H=>∃xs,SqL K H a xs/\xs.length≤i⟩
def Itt(K:Qq)(a:Addr):It:=
 ⟨fun i H=>∃xs x,SqT K H a xs/\xs[i]? =some x,fun i H x H'=>H'=H/\∀xs,SqT K H a xs->xs[i]? =some x,fun i H=>∃xs,SqT K H a xs/\xs.length≤i⟩
def Itr(lo:Int)(n:Nat):It:=⟨fun i _=>i<n,fun i H x H'=>H'=H/\x=.int (lo+i),fun i _=>n≤i⟩
theorem b5N{P:Program}{w:World}{K:Qq}{tg:Expr}(a it:Addr):Turn P w K tg (Itl K a) [it] it (fun i h=>h.IsListIter it a i)where
 mem:=by simp
 obj:=fun i h st b hb=>by
  have e:b=it:=by simpa using hb
  subst e;obtain⟨o,e,c,d⟩:=st;exact⟨o,e,fun v z=>by rw[d]at z;cases z⟩
 keep:=fun i h h' st k=>st.at fun o e=>k it (by simp) o e
 item:=by
  intro X hP hw hK hc i pins s σ H E I hf st hg;subst hP hw hK;obtain⟨xs,x,hq,hx⟩:=hg;obtain⟨its,rv,p,hz⟩:=I.list hq;obtain⟨u,hu,ru⟩:=rv.get hx;obtain⟨f0,f1,f2,f3,f4,f5⟩:=hf it (by simp)
  refine wpAny_pyNext_list_item st p.isList (x:=u) (by simpa using hu) fun h' st' sb=>?_
  have I1:Inv X pins σ H {s with heap:=h'}:=I.turned (t':=s.toks) (fun b o hb e=>(sb.2 b hb).trans e) f0 f1 f3 f4 f5
  obtain⟨o,e,c,d⟩:=id st';exact⟨u,rfl,a7b (s:={s with heap:=h'}) e c d (by decide) ⟨x,H,I1,ru,⟨rfl,fun ys hy=>by rw[I.list_inj hy hq];exact hx⟩,st',fun b hb=>(hf b hb).1⟩⟩
 done:=by
  intro X hP hw hK hc i pins s σ H E I hf st hg;subst hP hw hK;obtain⟨xs,hq,hx⟩:=hg;obtain⟨its,rv,p,hz⟩:=I.list hq;obtain⟨f0,f1,f2,f3,f4,f5⟩:=hf it (by simp)
  have hl:=rv.length
  exact wpAny_pyNext_list_end (I.ok.hd hc) st p.isList (by simp;omega) fun h' eb=>⟨rfl,I.turned (t':=s.toks) (fun b o hb e=>eb b o hb e) f0 f1 f3 f4 f5⟩
 self:=fun _ _ _ _ _ st h=>wpAny_pyIter_listiter st h
theorem b5O{P:Program}{w:World}{K:Qq}{tg:Expr}(a it:Addr):Turn P w K tg (Itt K a) [it] it (fun i h=>h.IsTupleIter it a i)where
 mem:=by simp
 obj:=fun i h st b hb=>by
  have e:b=it:=by simpa using hb
  subst e;obtain⟨o,e,c,d⟩:=st;exact⟨o,e,fun v z=>by rw[d]at z;cases z⟩
 keep:=fun i h h' st k=>st.at fun o e=>k it (by simp) o e
 item:=by
  intro X hP hw hK hc i pins s σ H E I hf st hg;subst hP hw hK;obtain⟨xs,x,hq,hx⟩:=hg;obtain⟨its,rv,p,hz⟩:=I.tuple hq;obtain⟨u,hu,ru⟩:=rv.get hx;obtain⟨f0,f1,f2,f3,f4,f5⟩:=hf it (by simp)
  refine wpAny_pyNext_tuple_item st (show s.heap.IsTuple a its.toArray from p) (x:=u) (by simpa using hu) fun h' st' sb=>?_
  have I1:Inv X pins σ H {s with heap:=h'}:=I.turned (t':=s.toks) (fun b o hb e=>(sb.2 b hb).trans e) f0 f1 f3 f4 f5
  obtain⟨o,e,c,d⟩:=id st';exact⟨u,rfl,a7b (s:={s with heap:=h'}) e c d (by decide) ⟨x,H,I1,ru,⟨rfl,fun ys hy=>by rw[I.tuple_inj hy hq];exact hx⟩,st',fun b hb=>(hf b hb).1⟩⟩
 done:=by
  intro X hP hw hK hc i pins s σ H E I hf st hg;subst hP hw hK;obtain⟨xs,hq,hx⟩:=hg;obtain⟨its,rv,p,hz⟩:=I.tuple hq;obtain⟨f0,f1,f2,f3,f4,f5⟩:=hf it (by simp)
  have hl:=rv.length
  exact wpAny_pyNext_tuple_end (I.ok.hd hc) st (show s.heap.IsTuple a its.toArray from p) (by simp;omega) fun h' eb=>⟨rfl,I.turned (t':=s.toks) (fun b o hb e=>eb b o hb e) f0 f1 f3 f4 f5⟩
 self:=fun _ _ _ _ _ st h=>wpAny_pyIter_tupleiter st h
theorem b5P{P:Program}{w:World}{K:Qq}{tg:Expr}(it:Addr)(lo:Int)(n:Nat):Turn P w K tg (Itr lo n) [it] it (fun i h=>IsRangeIter h it (lo+(i:Nat) * 1) ((n:Int)-(i:Nat)) 1)where
 mem:=by simp
 obj:=fun i h st b hb=>by
  have e:b=it:=by simpa using hb
  subst e;exact⟨_,st,fun v z=>by
   have z':Data.fields _=Data.cell v:=z
   cases z'⟩
 keep:=fun i h h' st k=>k it (by simp) _ st
 item:=by
  intro X hP hw hK hc i pins s σ H E I hf st hg;subst hP hw hK;obtain⟨f0,f1,f2,f3,f4,f5⟩:=hf it (by simp)
  have W:=Walks.range (prog:=X.prog) (w:=X.w) (I.ok.hd hc) it lo 1 n
  refine W.item i s _ _ hg st fun v h' tk hv st' kk=>?_
  obtain⟨t,rfl⟩:=hv;have I1:Inv X pins σ H {s with heap:=h',toks:=tk}:=I.turned (fun b o hb e=>kk b o (by simpa using hb) e) f0 f1 f3 f4 f5
  refine⟨_,rfl,a7b (s:={s with heap:=h',toks:=tk}) (n:="range_iterator") st' rfl rfl (by decide) ⟨.int (lo+i),H,I1,⟨t,?_⟩,⟨rfl,rfl⟩,st',fun b hb=>(hf b hb).1⟩⟩
  rw[Int.mul_one]
 done:=by
  intro X hP hw hK hc i pins s σ H E I hf st hg;subst hP hw hK;obtain⟨f0,f1,f2,f3,f4,f5⟩:=hf it (by simp)
  exact wpAny_pyNext_range_end (I.ok.hd hc) st (by have:n≤i:=hg;omega) fun h' eb=>⟨rfl,I.turned (t':=s.toks) (fun b o hb e=>eb b o hb e) f0 f1 f3 f4 f5⟩
 self:=fun _ _ _ _ _ st h=>wpAny_pyIter_rangeiter st h
section
variable{X:Cx}{tg:Expr}
theorem b0t{pins:OX}{σ:St}{H:Hp}{s:Shared}{R:It->Hp->Prop}{E:OE}{lo hi:Int}{t u v:Tok}{tk:Nat}(I:Inv X pins σ H s)(h1: -(2^62)≤lo)(h2:lo<2^62)(h3: -(2^62)≤hi)(h4:hi<2^62)
  (q:R (Itr lo (hi-lo).toNat) H):wpAny (model X.prog X.w) X.A (pyIter (.ref s.heap.objs.size)) (PIE X pins σ tg R) E {s with heap:=s.heap.push {cls:=.type "range",data:=.fields #[.int lo t,.int hi u,.int 1 v]},toks:=tk}:=by
 refine wpAny_pyIter_range (IsRange.new ..) (small_one h1 h2 h3 h4) ?_
 have I1:Inv X pins σ H {s with heap:=s.heap.push {cls:=.type "range",data:=.fields #[.int lo t,.int hi u,.int 1 v]},toks:=tk}:=I.kept fun b o e=>Qx _ e
 refine⟨(s.heap.push {cls:=.type "range",data:=.fields #[.int lo t,.int hi u,.int 1 v]}).objs.size,[(s.heap.push {cls:=.type "range",data:=.fields #[.int lo t,.int hi u,.int 1 v]}).objs.size],_,_,H,rfl,
  I1.kept (t':=tk) fun b o e=>Qx _ e,b5P _ lo (hi-lo).toNat,?_,fun b hb=>?_,q⟩
 ·have e1:lo+((0:Nat):Int) * 1=lo:=by simp
  have e2:(((hi-lo).toNat:Nat):Int)-((0:Nat):Int)=Builtin.Range.rangeSize lo hi 1:=by rw[rangeSize_one];split<;>omega
  show IsRangeIter _ _ (lo+((0:Nat):Int) * 1) ((((hi-lo).toNat:Nat):Int)-((0:Nat):Int)) 1;rw[e1,e2];exact Qn _ rfl
 ·have e:b=(s.heap.push {cls:=.type "range",data:=.fields #[.int lo t,.int hi u,.int 1 v]}).objs.size:=by simpa using hb
  subst e;exact I1.fpOk (Qp _) (I1.hok.fresh (Qp _))
def b5Q(ta:TA):TI:=fun σ H R=>ta σ H fun vs H1=>∃j:Int,vs=[.int j]/\ -(2^62)≤j/\j<2^62/\R (Itr 0 j.toNat) H1
def b5R(ta:TA):TI:=fun σ H R=>ta σ H fun vs H1=>∃i j:Int,vs=[.int i,.int j]/\(-(2^62)≤i/\i<2^62/\ -(2^62)≤j/\j<2^62)/\R (Itr i (j-i).toNat) H1
theorem b5S{a:Expr}{ta:TA}{p pos:Pos}(hg:Gl X "range")(hm:X.mg "range"=none)(ha:PA X [a] ta)(hs:starEach [a] X.env=[(false,eval a X.env)]:=by rfl):PI X tg (.Call (.Name "range" p) [a] [] pos) (b5Q ta):=by
 intro pins s σ H R I h;refine Call_ (a3f I hg hm boot_range (Jk (thn (ha pos pins s σ H _ I h) fun us s1 ⟨vs,H1,I1,r1,q1⟩=>?_) hs rfl))
 obtain⟨j,e,q1,q2,q⟩:=q1;subst e;cases r1 with
 |cons r rr=>
  cases rr;obtain⟨t,rfl⟩:=r;exact call_range_1 (b0t I1 (by omega) (by omega) q1 q2 (by simpa using q))
theorem b5T{a b:Expr}{ta:TA}{p pos:Pos}(hg:Gl X "range")(hm:X.mg "range"=none)(ha:PA X [a,b] ta)(hs:starEach [a,b] X.env=[(false,eval a X.env),(false,eval b X.env)]:=by rfl)(hs2:starEach [b] X.env=[(false,eval b X.env)]:=by rfl):
  PI X tg (.Call (.Name "range" p) [a,b] [] pos) (b5R ta):=by
 intro pins s σ H R I h;refine Call_ (a3f I hg hm boot_range (Jk (thn (ha pos pins s σ H _ I h) fun us s1 ⟨vs,H1,I1,r1,q1⟩=>?_) (by rw[hs,hs2]) (by rw[hs2];rfl)))
 obtain⟨i,j,e,⟨q1,q2,q3,q4⟩,q⟩:=q1;subst e;cases r1 with
 |cons r rr=>
  cases rr with
  |cons r' rr=>
   cases rr;obtain⟨t,rfl⟩:=r;obtain⟨t',rfl⟩:=r';exact call_range_2 (b0t I1 q1 q2 q3 q4 q)
def b5U(wi:TI)(g:TG)(tb:TS):TS:=fun D σ H=>wi σ H fun J H1=>∃W:Nat->Nat->St->Hp->Prop,(∃m,W 0 m σ H1)/\∀i m σ H,W i m σ H->
 (J.stop i H/\D.nx σ H)∨(J.go i H/\∃N:St->Hp->Prop,(∀σ' H',N σ' H'->∃m',m'<m/\W (i+1) m' σ' H')/\∀x H',J.yld i H x H'->g x σ H' fun σ2 H2=>tb {D with nx:=N,ct:=N,bk:=D.nx} σ2 H2)
def a3g(fp:List Addr)(h:Heap):OX:=fp.filterMap fun b=>(h.get? b).map fun o=>(b,o)
theorem a3h{fp:List Addr}{h:Heap}{b:Addr}{o:Obj}(hb:b∈fp)(e:h.get? b=some o):(b,o)∈a3g fp h:=List.mem_filterMap.mpr ⟨b,hb,by rw[e];rfl⟩
theorem b5V{fp:List Addr}{h:Heap}{p:Addr×Obj}(hp:p∈a3g fp h):p.1∈fp/\h.get? p.1=some p.2:=by
 obtain⟨b,hb,e⟩:=List.mem_filterMap.mp hp;cases q:h.get? b with
 |none=>rw[q]at e;cases e
 |some o=>
  rw[q]at e;have e':(b,o)=p:=Yw e;subst e';exact⟨hb,q⟩
theorem Inv.pinned{pins:OX}{σ:St}{H:Hp}{s:Shared}{fp:List Addr}(I:Inv X pins σ H s)(hf:∀b∈fp,u1_ X pins H b)(ho:∀b∈fp,∃o,s.heap.get? b=some o/\∀v,o.data≠.cell v):Inv X (pins++a3g fp s.heap) σ H s:=
 I.pins_of fun p hp=>(Yp.mp hp).elim (fun z=>I.pin p (Zq _ z)) fun z=>by
  obtain⟨hb,e⟩:=b5V z;obtain⟨f0,f1,f2,_⟩:=hf p.1 hb;obtain⟨o,e',d⟩:=ho p.1 hb;rw[e]at e';cases e';exact⟨e,f0,f1,f2,d⟩
theorem Inv.unpinned{pins pl:OX}{σ:St}{H:Hp}{s:Shared}(I:Inv X (pins++pl) σ H s):Inv X pins σ H s:=I.pins_of fun p hp=>I.pin p (Zq _ (List.mem_append_left _ hp))
theorem b5W{iter:Expr}{body:List Stmt}{wi:TI}{g:TG}{tb:TS}{pos:Pos}(hp:PassesOwn (model X.prog X.w) X.A X.env X.xe)(hc:X.calm=true)(hi:PI X tg iter wi)(hg:PG X tg g)(hb:PSs X body tb)
  (hs:∀x,foldedSetIterable iter X.env x=pure x:=by intro _;rfl):PS X (.For tg iter body [] pos) (b5U wi g tb):=by
 intro pins s σ H D I h;refine wpAny_For (thn (hi pins s σ H _ I h) fun v s1 h1=>thn h1 fun itv s2 h2=>?_) hs
 obtain⟨it,fp,tn,J,H2,e,I2,T,st2,f2,W,⟨m0,w0⟩,turn⟩:=h2;subst e;have stat:∀{H':Hp},(∀b∈fp,H' b=none)->∀b∈fp,u1_ X pins H' b:=fun hn b hb=>⟨hn b hb,(f2 b hb).2⟩
 refine codeAny_forLoop_any (fun n s'=>∃i σ' H',Inv X pins σ' H' s'/\tn i s'.heap/\(∀b∈fp,H' b=none)/\W i n σ' H') ?_ m0 ⟨0,σ,H2,I2,st2,fun b hb=>(f2 b hb).1,w0⟩
 rintro n s3 ⟨i,σ3,H3,I3,st3,fr3,w3⟩
 rcases turn i n σ3 H3 w3 with⟨stop,qn⟩|⟨go,N,hN,step⟩
 ·refine Jy hp (thn (T.done X rfl rfl rfl hc i pins s3 σ3 H3 X.xe I3 (stat fr3) st3 stop) fun r s4 ⟨hr,I4⟩=>?_)
  subst hr;exact Vb ⟨σ3,H3,I4,qn⟩
 ·refine Jy hp (thn (T.item X rfl rfl rfl hc i pins s3 σ3 H3 X.xe I3 (stat fr3) st3 go) fun r s4 ⟨u,hr,h4⟩=>?_)
  subst hr;refine Jy hp (thn h4 fun _ s5 ⟨x,H5,I5,r5,y5,st5,fr5⟩=>?_)
  have I5':=I5.pinned (stat fr5) (T.obj _ _ st5)
  refine Jy hp (thn (hg _ s5 σ3 H5 x u _ I5' r5 (step x H5 y5)) fun _ s6 ⟨σ6,H6,I6,q6⟩=>?_)
  refine Jy hp (thn (hb _ s6 σ6 H6 _ I6 q6) fun f s7 q7=>?_)
  have again:∀{σ7:St}{H7:Hp},Inv X (pins++a3g fp s5.heap) σ7 H7 s7->N σ7 H7->∃m,m<n/\∃i σ' H',Inv X pins σ' H' s7/\tn i s7.heap/\(∀b∈fp,H' b=none)/\W i m σ' H':=fun{σ7 H7} I7 n7=>by
   obtain⟨m',hm,w7⟩:=hN σ7 H7 n7;refine⟨m',hm,i+1,σ7,H7,I7.unpinned,T.keep _ _ _ st5 fun b hb o e=>(I7.pin (b,o) (Zq _ (Zq _ (a3h hb e)))).1,fun b hb=>?_,w7⟩
   obtain⟨o,e,d⟩:=T.obj _ _ st5 b hb;exact(I7.pin (b,o) (Zq _ (Zq _ (a3h hb e)))).2.1
  cases f with
  |next=>obtain⟨σ7,H7,I7,n7⟩:=q7;exact again I7 n7
  |cont=>obtain⟨σ7,H7,I7,n7⟩:=q7;exact again I7 n7
  |brk=>obtain⟨σ7,H7,I7,q7⟩:=q7;exact⟨σ7,H7,I7.unpinned,q7⟩
  |ret v=>obtain⟨x7,σ7,H7,I7,r7,q7⟩:=q7;exact⟨x7,σ7,H7,I7.unpinned,r7,q7⟩
end
abbrev R2:=V->V->Hp->VK->Prop
def OpR(X:Cx)(f:Value->Value->Sem Value)(r:R2):Prop:=
 ∀(pins:OX) (s:Shared) (σ:St) (H:Hp) (x y:V) (v u:Value) (Q:VK),Inv X pins σ H s->v6_ x v->v6_ y u->r x y H Q->
  wpAny (model X.prog X.w) X.A (f v u) (EP X pins σ Q) X.xe s
def UnR(X:Cx)(f:Value->Sem Value)(r:V->Hp->VK->Prop):Prop:=
 ∀(pins:OX) (s:Shared) (σ:St) (H:Hp) (x:V) (v:Value) (Q:VK),Inv X pins σ H s->v6_ x v->r x H Q->
  wpAny (model X.prog X.w) X.A (f v) (EP X pins σ Q) X.xe s
def a0E(X:Cx)(f:Value)(r:List V->Hp->VK->Prop):Prop:=
 ∀(pins:OX) (s:Shared) (σ:St) (H:Hp) (xs:List V) (us:List Value) (Q:VK),Inv X pins σ H s->v5_ xs us->r xs H Q->
  wpAny (model X.prog X.w) X.A (call f us) (EP X pins σ Q) X.xe s
def tOp(r:R2)(ta tb:TE):TE:=fun σ H Q=>ta σ H fun x H1=>tb σ H1 fun y H2=>r x y H2 Q
def tUn(r:V->Hp->VK->Prop)(ta:TE):TE:=fun σ H Q=>ta σ H fun x H1=>r x H1 Q
def rI(C:Int->Int->Prop)(g:Int->Int->V):R2:=fun x y H Q=>∃i j,x=.int i/\y=.int j/\C i j/\Q (g i j) H
def rI0(g:Int->Int->V):R2:=fun x y H Q=>∃i j,x=.int i/\y=.int j/\Q (g i j) H
def rU(g:Int->V):V->Hp->VK->Prop:=fun x H Q=>∃i,x=.int i/\Q (g i) H
section
variable{X:Cx}{a b c:Expr}{ta tb tc:TE}{pos:Pos}
theorem a7c(ha:PE X a ta)(hb:PE X b tb){pins:OX}{s:Shared}{σ:St}{H:Hp}{R:V->V->Hp->Prop}(I:Inv X pins σ H s)
  (h:ta σ H fun x H1=>tb σ H1 fun y H2=>R x y H2){Q:OE}{f:Value->Value->Sem Value}
  (hf:∀v u s2 x y H2,Inv X pins σ H2 s2->v6_ x v->v6_ y u->R x y H2->wpAny (model X.prog X.w) X.A (f v u) Q X.xe s2):
  wpAny (model X.prog X.w) X.A (eval a X.env) (fun v s₁=>wpAny (model X.prog X.w) X.A (eval b X.env) (fun u s₂=>wpAny (model X.prog X.w) X.A (f v u) Q X.xe s₂) X.xe s₁) X.xe s:=by
 refine thn (ha pins s σ H _ I h) fun v s1 ⟨x,H1,I1,r1,q1⟩=>?_
 refine thn (hb pins s1 σ H1 _ I1 q1) fun u s2 ⟨y,H2,I2,r2,q2⟩=>?_
 exact hf v u s2 x y H2 I2 r1 r2 q2
theorem b5X{op:Operator}{r:R2}(ho:OpR X (binaryOp op) r)(ha:PE X a ta)(hb:PE X b tb):PE X (.BinOp a op b pos) (tOp r ta tb):=by
 intro pins s σ H Q I h;exact wpAny_BinOp (a7c ha hb I h fun v u s2 x y H2 I2 rx ry q=>ho pins s2 σ H2 x y v u Q I2 rx ry q)
theorem b5Y{op:UnaryOp}{r:V->Hp->VK->Prop}(ho:UnR X (unaryOp op) r)(ha:PE X a ta):PE X (.UnaryOp op a pos) (tUn r ta):=by
 intro pins s σ H Q I h;exact UnaryOp_ (thn (ha pins s σ H _ I h) fun v s1 ⟨x,H1,I1,r1,q1⟩=>ho pins s1 σ H1 x v Q I1 r1 q1)
theorem opI{f:Value->Value->Sem Value}{C:Int->Int->Prop}{g:Int->Int->Int}
  (rule:∀(i j:Int) (t u:Tok) (s:Shared) (Q:OE) (E:OE),C i j->Q (.int (g i j) s.toks) {s with toks:=s.toks+1}->wpAny (model X.prog X.w) X.A (f (.int i t) (.int j u)) Q E s):
  OpR X f (rI C fun i j=>.int (g i j)):=by
 intro pins s σ H x y v u Q I rx ry h;obtain⟨i,j,rfl,rfl,hc,q⟩:=h;obtain⟨t,rfl⟩:=rx;obtain⟨t',rfl⟩:=ry;exact rule i j t t' s _ _ hc ⟨.int (g i j),H,I.tok _,⟨_,rfl⟩,q⟩
theorem a5m{f:Value->Value->Sem Value}{g:Int->Int->Int}
  (rule:∀(i j:Int) (t u:Tok) (s:Shared) (Q:OE) (E:OE),Q (.int (g i j) s.toks) {s with toks:=s.toks+1}->wpAny (model X.prog X.w) X.A (f (.int i t) (.int j u)) Q E s):
  OpR X f (rI0 fun i j=>.int (g i j)):=by
 intro pins s σ H x y v u Q I rx ry h;obtain⟨i,j,rfl,rfl,q⟩:=h;obtain⟨t,rfl⟩:=rx;obtain⟨t',rfl⟩:=ry;exact rule i j t t' s _ _ ⟨.int (g i j),H,I.tok _,⟨_,rfl⟩,q⟩
theorem a5n{f:Value->Value->Sem Value}{g:Int->Int->Bool}
  (rule:∀(i j:Int) (t u:Tok) (s:Shared) (Q:OE) (E:OE),Q (.bool (g i j)) s->wpAny (model X.prog X.w) X.A (f (.int i t) (.int j u)) Q E s):
  OpR X f (rI0 fun i j=>.bl (g i j)):=by
 intro pins s σ H x y v u Q I rx ry h;obtain⟨i,j,rfl,rfl,q⟩:=h;obtain⟨t,rfl⟩:=rx;obtain⟨t',rfl⟩:=ry;exact rule i j t t' s _ _ ⟨.bl (g i j),H,I,rfl,q⟩
def a7d(i j:Int):Prop:=0<j/\j<1073741824
def a7e(i j:Int):Prop:=0≤j/\j≤1000000/\i.natAbs<2^64
def a2w(i j:Int):Prop:=(-(2^64)<i/\i<2^64)∨(-(2^64)<j/\j<2^64)
theorem a2w.ok{i j:Int}(h:a2w i j):IntMulOk i j:=by
 rcases h with⟨h1,h2⟩|⟨h1,h2⟩
 ·exact .of_left (intBits_le_64 h1 h2)
 ·exact .of_right (intBits_le_64 h1 h2)
theorem b5Z:OpR X (binaryOp .Add) (rI0 fun i j=>.int (i+j)):=a5m fun _ _ _ _ _ _ _ q=>add_int q
theorem a0r:OpR X (binaryOp .Sub) (rI0 fun i j=>.int (i-j)):=a5m fun _ _ _ _ _ _ _ q=>sub_int q
theorem b6a:OpR X (binaryOp .Mult) (rI a2w fun i j=>.int (i * j)):=opI fun _ _ _ _ _ _ _ hc q=>mul_int q hc.ok
theorem a7f:OpR X (binaryOp .FloorDiv) (rI a7d fun i j=>.int (i/j)):=opI fun i j _ _ _ _ _ hc q=>by
 have h1:(0:Int)<j:=hc.1
 have h2:j<1073741824:=hc.2
 exact floordiv_int (by omega) (by rw[Int.fdiv_eq_ediv_of_nonneg i (by omega)];exact q) (.inl (PyProof.noPylong_small (by omega)))
theorem a1Y:OpR X (binaryOp .Mod) (rI (fun _ j=>0<j) fun i j=>.int (i%j)):=opI fun i j _ _ _ _ _ hc q=>by
 have h1:(0:Int)<j:=hc
 exact mod_int' (by omega) (by rw[Int.fmod_eq_emod_of_nonneg i (by omega)];exact q)
theorem b0u:OpR X (binaryOp .Pow) (rI a7e fun i j=>.int (i^j.toNat)):=opI fun _ _ _ _ _ _ _ hc q=>pow_int_small hc.1 hc.2.1 hc.2.2 q
theorem a7g:OpR X (inplaceOp .Add) (rI0 fun i j=>.int (i+j)):=a5m fun _ _ _ _ _ _ _ q=>iadd_int q
theorem b6b:OpR X (inplaceOp .Sub) (rI0 fun i j=>.int (i-j)):=a5m fun _ _ _ _ _ _ _ q=>isub_int q
theorem unI{f:Value->Sem Value}{g:Int->Int}
  (rule:∀(i:Int) (t:Tok) (s:Shared) (Q:OE) (E:OE),Q (.int (g i) s.toks) {s with toks:=s.toks+1}->wpAny (model X.prog X.w) X.A (f (.int i t)) Q E s):
  UnR X f (rU fun i=>.int (g i)):=by
 intro pins s σ H x v Q I rx h;obtain⟨i,rfl,q⟩:=h;obtain⟨t,rfl⟩:=rx;exact rule i t s _ _ ⟨.int (g i),H,I.tok _,⟨_,rfl⟩,q⟩
theorem b6c:UnR X (unaryOp .USub) (rU fun i=>.int (-i)):=unI fun _ _ _ _ _ q=>neg_int q
end
section
variable{X:Cx}{a b c:Expr}{ta tb tc:TE}{pos:Pos}
theorem a5o:OpR X (compareOp .Lt) (rI0 fun i j=>.bl (decide (i<j))):=a5n fun _ _ _ _ _ _ _ q=>lt_int q
theorem a5p:OpR X (compareOp .LtE) (rI0 fun i j=>.bl (decide (i≤j))):=a5n fun _ _ _ _ _ _ _ q=>le_int q
theorem a7h:OpR X (compareOp .Gt) (rI0 fun i j=>.bl (decide (j<i))):=a5n fun _ _ _ _ _ _ _ q=>gt_int q
theorem b0v:OpR X (compareOp .GtE) (rI0 fun i j=>.bl (decide (j≤i))):=a5n fun _ _ _ _ _ _ _ q=>ge_int q
theorem nomark(b:Expr){op:CmpOp}(h:op≠.In:=by decide)(h2:op≠.NotIn:=by decide):behindInMarks op b=false:=by
 have e1:(op==CmpOp.In)=false:=by cases op<;>first|rfl|exact absurd rfl h
 have e2:(op==CmpOp.NotIn)=false:=by cases op<;>first|rfl|exact absurd rfl h2
 cases b<;>simp[behindInMarks,e1,e2]
theorem b6d{op:CmpOp}{r:R2}(ho:OpR X (compareOp op) r)(ha:PE X a ta)(hb:PE X b tb)(hm:behindInMarks op b=false):PE X (.Compare a [op] [b] pos) (tOp r ta tb):=by
 intro pins s σ H Q I h;exact wpAny_Compare1 (a7c ha hb I h fun v u s2 x y H2 I2 rx ry q=>ho pins s2 σ H2 x y v u Q I2 rx ry q) hm
def b0w(t:TE):TT:=fun σ H Q=>t σ H fun x H'=>∃k,x=.bl k/\Q k H'
theorem b6e{op:CmpOp}{r:R2}(ho:OpR X (compareOp op) r)(ha:PE X a ta)(hb:PE X b tb)(hm:behindInMarks op b=false):PT X (.Compare a [op] [b] pos) (b0w (tOp r ta tb)):=by
 intro pins s σ H Q I h;refine wpAny_isTrue_Compare1 (thn (ha pins s σ H _ I h) fun v s1 ⟨x,H1,I1,r1,q1⟩=>thn (hb pins s1 σ H1 _ I1 q1) fun u s2 ⟨y,H2,I2,r2,q2⟩=>
  thn (ho pins s2 σ H2 x y v u _ I2 r1 r2 q2) fun c s3 ⟨z,H3,I3,r3,k,e,q3⟩=>?_) hm
 subst e;cases r3;exact Yz ⟨H3,I3,q3⟩
def a7i(r r':R2)(ta tb tc:TE):TE:=fun σ H Q=>ta σ H fun x H1=>tb σ H1 fun y H2=>r x y H2 fun z H3=>∃k,z=.bl k/\
 (if k=true then tc σ H3 fun w' H4=>r' y w' H4 Q else Q (.bl false) H3)
theorem b6f{op op':CmpOp}{r r':R2}(ho:OpR X (compareOp op) r)(ho':OpR X (compareOp op') r')(ha:PE X a ta)(hb:PE X b tb)(hc:PE X c tc)
  (hm:lastMarks [op,op'] [b,c]=false:=by with_unfolding_all rfl):PE X (.Compare a [op,op'] [b,c] pos) (a7i r r' ta tb tc):=by
 intro pins s σ H Q I h;refine Compare_chain (thn (ha pins s σ H _ I h) fun v s1 ⟨x,H1,I1,r1,q1⟩=>chain_link (thn (hb pins s1 σ H1 _ I1 q1) fun u s2 ⟨y,H2,I2,r2,q2⟩=>
  thn (ho pins s2 σ H2 x y v u _ I2 r1 r2 q2) fun d s3 ⟨z,H3,I3,r3,k,e,q3⟩=>?_)) hm
 subst e;cases r3;refine Yz ?_
 cases k with
 |false=>exact ite_ff ⟨.bl false,H3,I3,rfl,q3⟩
 |true=>exact ite_tt (chain_last (thn (hc pins s3 σ H3 _ I3 q3) fun w' s4 ⟨z',H4,I4,r4,q4⟩=>ho' pins s4 σ H4 y z' u w' Q I4 r2 r4 q4))
theorem b6g{op op':CmpOp}{r r':R2}(ho:OpR X (compareOp op) r)(ho':OpR X (compareOp op') r')(ha:PE X a ta)(hb:PE X b tb)(hc:PE X c tc)
  (hm:lastMarks [op,op'] [b,c]=false:=by with_unfolding_all rfl):PT X (.Compare a [op,op'] [b,c] pos) (b0w (a7i r r' ta tb tc)):=by
 intro pins s σ H Q I h;refine isTrue_chain (thn (ha pins s σ H _ I h) fun v s1 ⟨x,H1,I1,r1,q1⟩=>test_link (thn (hb pins s1 σ H1 _ I1 q1) fun u s2 ⟨y,H2,I2,r2,q2⟩=>
  thn (ho pins s2 σ H2 x y v u _ I2 r1 r2 q2) fun d s3 ⟨z,H3,I3,r3,k,e,q3⟩=>?_)) hm
 subst e;cases r3;refine Yz ?_
 cases k with
 |false=>
  obtain⟨k',e',q'⟩:=q3;cases e';exact ite_ff ⟨H3,I3,q'⟩
 |true=>
  refine ite_tt (test_last (thn (hc pins s3 σ H3 _ I3 q3) fun w' s4 ⟨z',H4,I4,r4,q4⟩=>thn (ho' pins s4 σ H4 y z' u w' _ I4 r2 r4 q4) fun d' s5 ⟨z2,H5,I5,r5,k2,e2,q5⟩=>?_))
  subst e2;cases r5;exact Yz ⟨H5,I5,q5⟩
theorem a4f:(sizeLine:Nat)<2^63:=by rw[sizeLine_eq];decide
theorem a4g{x:V}{us:List Value}(r:v5_ [x] us):∃u,us=[u]/\v6_ x u:=by
 cases r with
 |cons r1 r2=>cases r2;exact⟨_,rfl,r1⟩
theorem a5q{x y:V}{us:List Value}(r:v5_ [x,y] us):∃u w',us=[u,w']/\v6_ x u/\v6_ y w':=by
 cases r with
 |cons r1 r2=>
  cases r2 with
  |cons r3 r4=>cases r4;exact⟨_,_,rfl,r1,r3⟩
theorem b0x(hc:X.calm=true):a0E X (.builtin "max") (fun xs H Q=>∃i j,xs=[.int i,.int j]/\Q (.int (if j>i then j else i)) H):=by
 intro pins s σ H xs us Q I r h;obtain⟨i,j,rfl,q⟩:=h;obtain⟨u,w',rfl,⟨t,rfl⟩,⟨t',rfl⟩⟩:=a5q r;refine max_two_ints (I.ok.hd hc) fun h' tk k=>⟨_,H,I.kept k,?_,q⟩
 by_cases hj:j>i
 ·rw[Qg hj,Qg hj];exact⟨_,rfl⟩
 ·rw[Qt hj,Qt hj];exact⟨_,rfl⟩
theorem b0y(hc:X.calm=true):a0E X (.builtin "min") (fun xs H Q=>∃i j,xs=[.int i,.int j]/\Q (.int (if j<i then j else i)) H):=by
 intro pins s σ H xs us Q I r h;obtain⟨i,j,rfl,q⟩:=h;obtain⟨u,w',rfl,⟨t,rfl⟩,⟨t',rfl⟩⟩:=a5q r;refine min_two_ints (I.ok.hd hc) fun h' tk k=>⟨_,H,I.kept k,?_,q⟩
 by_cases hj:j<i
 ·rw[Qg hj,Qg hj];exact⟨_,rfl⟩
 ·rw[Qt hj,Qt hj];exact⟨_,rfl⟩
end
structure ObjM(h:Heap)(x dx C:Addr)(mA:OU):Prop where
 obj:h.get? x=some (PySem.W.instObj C dx)
 ns:h.Ns1 dx mA
 ne:dx≠x
theorem b6h{h:Heap}{dx:Addr}{mA:OU}(n:h.Ns1 dx mA):∃od,h.get? dx=some od/\∀name,PySem.W.lookIn name od=some (mA name):=by
 obtain⟨o,es,ep,ho,hd,hk,_,hm⟩:=n;refine⟨o,ho,fun name=>?_⟩
 have e:=hm name
 unfold nsFind findBy at e;rw[←Array.find?_toList]at e;unfold PySem.W.lookIn;rw[hd];dsimp only;split
 ·rename_i y q
  rw[q]at e;exact Yb some e
 ·rename_i q
  rw[q]at e;have a:es.toList.any (·.refKey)=false:=by
   rw[List.any_eq_false];intro y hy;obtain⟨z,t,hkey⟩:=hk y (Array.mem_toList_iff.mp hy)
   simp[DictEntry.refKey,hkey]
  have a':¬ es.toList.any (·.refKey)=true:=by rw[a];exact Zd
  rw[Qt a'];exact Yb some e
theorem ObjM.look{h:Heap}{x dx C:Addr}{mA:OU}(I:ObjM h x dx C mA):∃od,PySem.W.InstAt h x (PySem.W.instObj C dx) C (some od)/\∀name,PySem.W.lookIn name od=some (mA name):=
 let ⟨od,ho,hl⟩:=b6h I.ns
 ⟨od,⟨I.obj,rfl,rfl,ho⟩,hl⟩
section
variable{prog:Program}{w:World}{A:Around}{E:OE}{s:Shared}{K:Qq}{x dx C f:Addr}{mA:OU}{name:Str}{v:Value}
end
theorem a1q.some_of{v:V}{o:Option Value}(r:a1q (some v) o):∃u,o=some u/\v6_ v u:=by
 cases o with
 |none=>exact(show False from r).elim
 |some u=>exact⟨u,rfl,r⟩
section
variable{P:Program}{w:World}{H H':Hp}{h h':Heap}{a C dx:Addr}{fs fs':List (Str×V)}
theorem b6i(hok:HOk P w H h)(e:H a=some (.ins C dx fs)):∃mA,ObjM h a dx C mA/\(∀f,a1q (fs.lookup f) (mA f))/\PySem.Within mA (fs.map (·.1))/\fs.length≤1000/\H dx=some (.own a):=by
 obtain⟨d,z,ne,ob,mA,n,r,q⟩:=(show w3_ P w H h a (.ins C dx fs)from hok a _ e)
 exact⟨mA,⟨ob,n,ne⟩,r,q,z,d⟩
end
structure Cls(K:Qq)(C:Addr):Prop where
 pg:PySem.W.plainGet K C Str.empty=true
 hd:PySem.W.hasDictIn K C=true
 po:PySem.W.plainOver K C=true
 sa:PySem.W.findIn K (.ref C) "__setattr__"=some (some (.builtin "object.__setattr__"))
theorem Cls.get{K:Qq}{C:Addr}(c:Cls K C)(f:Str):PySem.W.plainGet K C f=true:=c.pg
structure Con(K:Qq)(C:Addr)(f:Str)(v:V)(u:Value):Prop where
 at_:PySem.W.findIn K (.ref C) f=some (some u)
 rel:v6_ v u
 get:PySem.W.specialIn K u "__get__"=some none
 cp:PySem.W.copiedNames.contains f=false
structure Meth(K:Qq)(C:Addr)(m:Str)(f:Addr):Prop where
 at_:PySem.W.findIn K (.ref C) m=some (some (.ref f))
 fn:PySem.W.isFn K (.ref f)=true
 kp:PySem.W.keepIn K (.ref f)=true
section
variable{X:Cx}{pins:OX}{σ:St}{H:Hp}{s:Shared}{a C dx:Addr}{fs:List (Str×V)}{f:Str}{v:V}{A:Around}{E:OE}
end
section
variable{X:Cx}{o e value:Expr}{f:Str}{pos pos' tpos:Pos}{ta tv:TE}
end
section
variable{X:Cx}{pins:OX}{σ:St}{H:Hp}{s:Shared}{A:Around}{E:OE}{Q:OE}{c:Value}{b:Bool}
inductive TyOf (K:Qq) (H:Hp):V->Value->Prop where
 |non:TyOf K H .non (.type "NoneType")
 |bl (x:Bool):TyOf K H (.bl x) (.type "bool")
 |int (i:Int):TyOf K H (.int i) (.type "int")
 |str (x:Str):TyOf K H (.str x) (.type "str")
 |flt (x:UInt64):TyOf K H (.flt x) (.type "float")
 |lst {a:Addr}{xs:List V}(e:H a=some (.lst xs)):TyOf K H (.ref a) (.type "list")
 |frz {a:Addr}{o:Obj}{xs:List V}(e:H a=some (.frz o (.lst xs))):TyOf K H (.ref a) (.type "list")
 |tup {a:Addr}{xs:List V}(e:H a=some (.tup xs)):TyOf K H (.ref a) (.type "tuple")
 |dK {a:Addr}{kvs:List (Key×V)}(e:H a=some (.dK kvs)):TyOf K H (.ref a) (.type "dict")
 |dT {a:Addr}{C:Addr->List Key->Prop}{kvs:List (List Key×V)}(e:H a=some (.dT C kvs)):TyOf K H (.ref a) (.type "dict")
 |dX {a:Addr}{es:Array DictEntry}{ep:Nat}(e:H a=some (.dX es ep)):TyOf K H (.ref a) (.type "dict")
 |ins {a C dx:Addr}{fs:List (Str×V)}(e:H a=some (.ins C dx fs)) (cl:Cls K C) (ha:PySem.W.findIn K (.ref C) "__class__"=some (some (.builtin "object.__class__")))
   (hn:PySem.W.specialIn K (.builtin "object.__class__") "__get__"=some (some (.builtin "getset_descriptor.__get__"))) (htk:PySem.W.takesIn K (.builtin "object.__class__")=some true)
   (hm:PySem.W.mroIn K C (.type "object")=some true):TyOf K H (.ref a) (.ref C)
theorem a2x{x:V}{u t:Value}(I:Inv X pins σ H s)(rx:v6_ x u)(ty:TyOf X.K H x t)(e:PySem.W.kitOne X.K t c=some b)(h:∀tk,Q (.bool b) {s with toks:=tk}):
  wpAny (model X.prog X.w) A (call (.builtin "isinstance") [u,c]) Q E s:=by
 cases ty with
 |non=>cases (show u=Value.none from rx);exact Zv PySem.W.kitx_none I.kIn True.intro e (fun z=>nomatch z) h
 |bl y=>cases (show u=Value.bool y from rx);exact Zv PySem.W.kitx_bool I.kIn True.intro e (fun z=>nomatch z) h
 |int i=>obtain⟨t,q⟩:=(show∃t,u=Value.int i t from rx);cases q;exact Zv PySem.W.kitx_int I.kIn True.intro e (fun z=>nomatch z) h
 |str y=>obtain⟨t,q⟩:=(show∃t,u=Value.str y t from rx);cases q;exact Zv PySem.W.kitx_str I.kIn True.intro e (fun z=>nomatch z) h
 |flt y=>obtain⟨t,q⟩:=(show∃t,u=Value.float y t from rx);cases q;exact Zv PySem.W.kitx_float I.kIn True.intro e (fun z=>nomatch z) h
 |@lst a xs ea=>
  cases (show u=Value.ref a from rx)
  obtain⟨_,_,n,_,h1⟩:=(show w3_ X.prog X.w H s.heap a (.lst xs)from I.hok a _ ea)
  exact Zv Xw I.kIn ⟨_,h1,rfl⟩ e (fun z=>nomatch z) h
 |@frz a ob xs ea=>
  cases (show u=Value.ref a from rx)
  obtain⟨_,_,_,n,_,h1⟩:=(show w3_ X.prog X.w H s.heap a (.frz ob (.lst xs))from I.hok a _ ea)
  exact Zv Xw I.kIn ⟨_,h1,rfl⟩ e (fun z=>nomatch z) h
 |@tup a xs ea=>
  cases (show u=Value.ref a from rx)
  obtain⟨_,_,_,p⟩:=(show w3_ X.prog X.w H s.heap a (.tup xs)from I.hok a _ ea)
  obtain⟨o,h1,h2,_⟩:=p;exact Zv PySem.W.kitx_tuple I.kIn ⟨o,h1,h2⟩ e (fun z=>nomatch z) h
 |@dK a kvs ea=>
  cases (show u=Value.ref a from rx)
  obtain⟨_,_,vs,_,p⟩:=(show w3_ X.prog X.w H s.heap a (.dK kvs)from I.hok a _ ea)
  obtain⟨o,es,ep,h1,h2,_⟩:=p;exact Zv Uj I.kIn ⟨o,h1,h2.1⟩ e (fun z=>nomatch z) h
 |@dT a C kvs ea=>
  cases (show u=Value.ref a from rx)
  obtain⟨_,_,xs,_,o,es,ep,h1,h2,_⟩:=(show w3_ X.prog X.w H s.heap a (.dT C kvs)from I.hok a _ ea)
  exact Zv Uj I.kIn ⟨o,h1,h2.1⟩ e (fun z=>nomatch z) h
 |@dX a es ep ea=>
  cases (show u=Value.ref a from rx)
  obtain⟨_,_,o,h1,h2,_⟩:=(show w3_ X.prog X.w H s.heap a (.dX es ep)from I.hok a _ ea)
  exact Zv Uj I.kIn ⟨o,h1,h2.1⟩ e (fun z=>nomatch z) h
 |@ins a C dx fs ea cl ha hn htk hm=>
  cases (show u=Value.ref a from rx)
  obtain⟨mA,O,_⟩:=b6i I.hok ea;obtain⟨od,J,_⟩:=O.look;exact Zv (PySem.W.kitx_own (cl.get _) cl.hd ha hn htk hm) I.kIn J e (fun z=>nomatch z) h
end
structure Room(k:Nat)(A:Around):Prop where
 hd:A.handled=none
 dp:A.depth+3 * k+5<recursionLimit
 un:A.units+16 * k+200<cLine
theorem Room.mono{j k:Nat}{A:Around}(r:Room k A)(h:j≤k):Room j A:=⟨r.hd,by have:=r.dp;omega,by have:=r.un;omega⟩
theorem Room.deeper{k:Nat}{A:Around}(r:Room (k+1) A)(env:Env):Room k (A.deeper env):=
 ⟨r.hd,by have:=r.dp;show A.depth+1+3 * k+5<_;omega,by have:=r.un;show A.units+3+16 * k+200<_;omega⟩
theorem Room.depth{k:Nat}{A:Around}(r:Room k A):A.depth<recursionLimit:=by have:=r.dp;omega
theorem Room.units{k:Nat}{A:Around}(r:Room k A):A.units+64<cLine:=by have:=r.un;omega
def b6j:TA:=fun _ H Q=>Q [] H
def b6k(ta:TE)(tr:TA):TA:=fun σ H Q=>ta σ H fun x H1=>tr σ H1 fun xs H2=>Q (x::xs) H2
section
variable{X:Cx}{e:Expr}{es:List Expr}{te:TE}{t:TA}{pos:Pos}
theorem a4h:PA X [] b6j:=fun _ _ _ _ H Q I h=>Calls.spliced_nil ⟨[],H,I,.nil,h⟩
theorem a1Z(ha:PE X e te)(hr:PA X es t)(hs:starEach (e::es) X.env=(false,eval e X.env)::starEach es X.env:=by rfl):PA X (e::es) (b6k te t):=by
 intro pos pins s σ H Q I h;rw[hs];show wpAny _ _ (spliced ((false,eval e X.env)::backTo pos (starEach es X.env))) _ _ s;refine Calls.spliced_cons (thn (ha pins s σ H _ I h) fun u s1 ⟨x,H1,I1,r1,q1⟩=>?_)
 exact thn (hr pos pins s1 σ H1 _ I1 q1) fun us s2 ⟨xs,H2,I2,r2,q2⟩=>⟨x::xs,H2,I2,.cons r1 r2,q2⟩
def b6l(t:TA):TE:=fun σ H Q=>t σ H fun xs H1=>xs.length≤sizeLine/\∀p,H1 p=none->Q (.ref p) (upd H1 p (.tup xs))
def b6m(t:TA):TE:=fun σ H Q=>t σ H fun xs H1=>xs.length≤sizeLine/\∀p,H1 p=none->Q (.ref p) (upd H1 p (.lst xs))
theorem b6n{x1}(h:PA X es t):PE X (.Tuple es x1 pos) (b6l t):=by
 intro pins s σ H Q I hq;refine wpAny_Tuple_spliced (thn (h pos pins s σ H _ I hq) fun us s1 ⟨xs,H1,I1,r,z,q⟩=>⟨by rw[←r.length];exact z,?_⟩)
 have hf:H1 s1.heap.objs.size=none:=I1.hok.fresh (Qp _)
 refine⟨.ref s1.heap.objs.size,upd H1 s1.heap.objs.size (.tup xs),I1.laid (t':=s1.toks) (fun b u e=>Qx _ e) (Qp _) ?_,rfl,q _ hf⟩
 exact⟨z,us,r,⟨_,Qn _ rfl,rfl,rfl,_,rfl⟩⟩
theorem b6o(h:PA X es t):PE X (.List es pos) (b6m t):=by
 intro pins s σ H Q I hq;refine wpAny_List_spliced (thn (h pos pins s σ H _ I hq) fun us s1 ⟨xs,H1,I1,r,z,q⟩=>⟨by rw[←r.length];exact z,?_⟩)
 have hf:H1 s1.heap.objs.size=none:=I1.hok.fresh (Qp _)
 refine⟨.ref s1.heap.objs.size,upd H1 s1.heap.objs.size (.lst xs),I1.laid (t':=s1.toks) (fun b u e=>Qx _ e) (Qp _) ?_,rfl,q _ hf⟩
 exact⟨z,us,0,r,Qn _ rfl⟩
end
abbrev Sp:=List V->Hp->VK->XK->Prop
abbrev CXT:=List Env->Hp->Shared->XK->OE
structure Env0(P:Program)(w:World)(K:Qq)(mg:OU)(base:Heap)(A:Around)(outer:List Env)(s:Shared)(H:Hp):Prop where
 frames:A.frames=some outer
 mod:Mod K mg base
 bs:∀b o,base.get? b=some o->s.heap.get? b=some o/\H b=none
 bsz:base.objs.size≤s.heap.objs.size
 funs:s.heap.FunFrames base outer
 frf:∀b∈frs outer,H b=none
 hok:HOk P w H s.heap
 bare:AllBare s.gens
def CE(outer:List Env)(P:Program)(w:World)(H:Hp)(s:Shared)(Q:VK)(u:Value)(s':Shared):Prop:=
 ∃v H',s'.os=s.os/\AllBare s'.gens/\Un (frs outer) [] H H' s.heap s'.heap/\HOk P w H' s'.heap/\v6_ v u/\Q v H'
def CR(CX:CXT)(outer:List Env)(P:Program)(w:World)(H:Hp)(s:Shared)(Q:VK)(E:XK)(r:Result)(s':Shared):Prop:=
 match r with
 |.ok (.ret u)=>CE outer P w H s Q u s'
 |.ok _=>False
 |.error e=>CX outer H s E e s'
structure FnOk(P:Program)(w:World)(K:Qq)(mg:OU)(base:Heap)(CX:CXT)(k:Nat)(f:Addr)(fd:FuncData)(ps:List Str)(sp:Sp):Prop where
 len:∀vs H Q E,sp vs H Q E->vs.length=ps.length
 run:∀(A:Around) (outer:List Env) (s:Shared) (H:Hp) (args:Args) (us:List Value) (vs:List V) (Q:VK) (E:XK),Room k A->Env0 P w K mg base A outer s H->BindsTo s fd args (ps.zip us)->v5_ vs us->sp vs H Q E->
  codeAny (model P w) A (.call (.ref f) args) (CR CX outer P w H s Q E) s
section
variable{X:Cx}{pins:OX}{σ:St}{H:Hp}{s s':Shared}
theorem Inv.env0(I:Inv X pins σ H s):Env0 X.prog X.w X.K X.mg X.base X.A X.stack s H:=
 ⟨I.ok.frames,I.ok.mod,I.bs,Yj I.ok.bsz I.sz,I.stack,I.stkFree,I.hok,I.bare⟩
theorem Inv.after{Q:VK}{u:Value}(I:Inv X pins σ H s)(h:CE X.stack X.prog X.w H s Q u s'):EP X pins σ Q u s':=by
 obtain⟨v,H',os,bare,un,hok,r,q⟩:=h;obtain⟨hh,g,d,t,os'⟩:=s';obtain rfl:os'=s.os:=os;exact⟨v,H',I.call (h':=hh) (g':=g) (d':=d) (t':=t) (ch:=[]) un hok bare (fun b z=>absurd z (by simp)),r,q⟩
end
def a7j(sp:Sp)(dvs:List V)(E:XK)(t:TA):TE:=fun σ H Q=>t σ H fun vs H1=>sp (vs++dvs) H1 Q E
def a0s(K:Qq)(fd:FuncData)(ps:List Str)(ds:List Value):Prop:=
 ∀(s:Shared) (us:List Value),K.In s.heap->(us++ds).length=ps.length->BindsTo s fd ⟨us,[]⟩ (ps.zip (us++ds))
theorem a0s.all{K:Qq}{fd:FuncData}{ps:List Str}(h:∀us:List Value,us.length=ps.length->bindArgs fd ⟨us,[]⟩=pure (ps.zip us)):a0s K fd ps []:=fun s us _ hl=>by
 rw[Jq]at hl ⊢;exact .of_eq (h us hl)
def a5r(CX:CXT)(X:Cx)(E:XK):Prop:=∀(pins:OX) (σ:St) (H:Hp) (s:Shared) (e:Value) (s':Shared),Inv X pins σ H s->CX X.stack H s E e s'->X.xe e s'
section
variable{X:Cx}{CX:CXT}{k:Nat}{f C:Addr}{fd:FuncData}{ps:List Str}{sp:Sp}{dvs:List V}{ds:List Value}{E:XK}{x m:Str}{p pos apos:Pos}{e o:Expr}{es:List Expr}{ta:TE}{t:TA}
theorem b6p{pins:OX}{σ:St}{H:Hp}{s:Shared}{Q:VK}{us:List Value}{vs:List V}(F:FnOk X.prog X.w X.K X.mg X.base CX k f fd ps sp)(hr:Room k X.A)(hb:a0s X.K fd ps ds)(hd:v5_ dvs ds)(hx:a5r CX X E)
  (I:Inv X pins σ H s)(r:v5_ vs us)(h:sp (vs++dvs) H Q E):wpAny (model X.prog X.w) X.A (call (.ref f) us) (EP X pins σ Q) X.xe s:=by
 have r2:v5_ (vs++dvs) (us++ds):=r.append hd
 have hl:(us++ds).length=ps.length:=by rw[←r2.length];exact F.len _ _ _ _ h
 refine wpAny_call (codeAny_mono (F.run X.A X.stack s H ⟨us,[]⟩ (us++ds) (vs++dvs) Q E hr I.env0 (hb s us I.kIn hl) r2 h) fun r s' hq=>?_)
 cases r with
 |error e=>exact hx pins σ H s e s' I hq
 |ok fl=>
  cases fl with
  |ret u=>exact I.after hq
  |next=>exact False.elim hq
  |brk=>exact False.elim hq
  |cont=>exact False.elim hq
theorem a7k(F:FnOk X.prog X.w X.K X.mg X.base CX k f fd ps sp)(hr:Room k X.A)(hg:Gl X x)(hm:X.mg x=some (.ref f))(hk:PySem.W.keepIn X.K (.ref f)=true)(hb:a0s X.K fd ps ds)(hd:v5_ dvs ds)(hx:a5r CX X E)
  (ha:PA X (e::es) t)(hdb:(x==("__debug__":Str))=false:=by decide)(he:starEach (e::es) X.env=(false,eval e X.env)::starEach es X.env:=by rfl)(hpl:(backTo pos (starEach es X.env)).any (·.1)=false:=by rfl):
  PE X (.Call (.Name x p) (e::es) [] pos) (a7j sp dvs E t):=by
 intro pins s σ H Q I h;refine Ve (b0n I hg hm ?_ hdb);refine PySem.W.callWith_K (h₀:=X.base) I.ok.mod.kin hk (thn (ha pos pins s σ H _ I h) fun us s1 ⟨vs,H1,I1,r,q⟩=>⟨I1.kIn,?_⟩) he hpl
 exact b6p F hr hb hd hx I1 r q
structure Mk(K:Qq)(C f:Addr):Prop where
 makes:PySem.W.makesIn K C=true
 init:PySem.W.findIn K (.ref C) "__init__"=some (some (.ref f))
 fn:PySem.W.isFn K (.ref f)=true
 kp:PySem.W.keepIn K (.ref C)=true
end
section
variable{X:Cx}{CX:CXT}{k:Nat}{f C:Addr}{fd:FuncData}{ps ks:List Str}{sp:Sp}{E:XK}{x m:Str}{p pos apos kpos:Pos}{e o:Expr}{es:List Expr}{kws:List Keyword}{te ta:TE}{t tk:TA}{nm:Option Str}
structure KBinds(K:Qq)(fd:FuncData)(ps ks:List Str)(g:List Value->List Value->List Value)(gV:List V->List V->List V):Prop where
 to:∀(s:Shared) (us ws:List Value),K.In s.heap->(g us ws).length=ps.length->BindsTo s fd ⟨us,ks.zip ws⟩ (ps.zip (g us ws))
 rel:∀{vs:List V}{us:List Value}{zs:List V}{ws:List Value},v5_ vs us->v5_ zs ws->v5_ (gV vs zs) (g us ws)
variable{g:List Value->List Value->List Value}{gV:List V->List V->List V}
end
structure FnScope(N P:List Str)(sc:Scope):Prop where
 kind:sc.kind=.function
 co:sc.isCoroutine=false
 gen:sc.isGenerator=false
 nd:N.Nodup
 pre:N.take P.length=P
 par:∀x∈P,sc.names.lookup x=some .local∨sc.names.lookup x=some .cell
 nofree:∀y∈sc.names,y.2≠.free
theorem b0z{kindOf:Str->Option NameKind}{x:Str}:∀{binds:List (Str×Value)}{m:OU},(∀v,(x,v)∉binds)->bindL kindOf binds m x=m x
 |[],_,_=>rfl
 |(n,v)::r,m,h=>by
  unfold bindL;rw[b0z fun w hw=>h w (Qm _ hw)]
  split
  ·have:x≠n:=by rintro rfl;exact h v Qd
   simp[this]
  ·rfl
theorem b0A{kindOf:Str->Option NameKind}{x:Str}:∀{binds:List (Str×Value)}{m:OU},(∀v,(x,v)∉binds)->bindC kindOf binds m x=m x
 |[],_,_=>rfl
 |(n,v)::r,m,h=>by
  unfold bindC;rw[b0A fun w hw=>h w (Qm _ hw)]
  split
  ·rfl
  ·have:x≠n:=by rintro rfl;exact h v Qd
   simp[this]
theorem b0B{kindOf:Str->Option NameKind}{x:Str}{v:Value}:∀{P:List Str}{vs:List Value}{i:Nat}{m:OU},P.Nodup->P[i]? =some x->vs[i]? =some v->kindOf x=some .local->
  bindL kindOf (P.zip vs) m x=some v
 |[],_,_,_,_,h,_,_=>by simp at h
 |_::_,[],_,_,_,_,h,_=>by simp at h
 |p::P,w::vs,0,m,nd,h1,h2,hk=>by
  simp at h1 h2;subst h1;subst h2
  show bindL kindOf ((p,w)::P.zip vs) m p=_;unfold bindL;rw[b0z fun v hv=>(Jt.mp nd).1 (Xh hv).1,Qg hk]
  simp
 |p::P,w::vs,i+1,m,nd,h1,h2,hk=>by
  show bindL kindOf ((p,w)::P.zip vs) m x=_;unfold bindL;exact b0B (i:=i) (Jt.mp nd).2 (by simpa using h1) (by simpa using h2) hk
theorem b0C{kindOf:Str->Option NameKind}{x:Str}{v:Value}:∀{P:List Str}{vs:List Value}{i:Nat}{m:OU},P.Nodup->P[i]? =some x->vs[i]? =some v->kindOf x≠some .local->
  bindC kindOf (P.zip vs) m x=some v
 |[],_,_,_,_,h,_,_=>by simp at h
 |_::_,[],_,_,_,_,h,_=>by simp at h
 |p::P,w::vs,0,m,nd,h1,h2,hk=>by
  simp at h1 h2;subst h1;subst h2
  show bindC kindOf ((p,w)::P.zip vs) m p=_;unfold bindC;rw[b0A fun v hv=>(Jt.mp nd).1 (Xh hv).1,Qt hk]
  simp
 |p::P,w::vs,i+1,m,nd,h1,h2,hk=>by
  show bindC kindOf ((p,w)::P.zip vs) m x=_;unfold bindC;exact b0C (i:=i) (Jt.mp nd).2 (by simpa using h1) (by simpa using h2) hk
def start(N:List Str)(vs:List V):St:=vs.map some++List.replicate (N.length-vs.length) none
def a2y(CX:CXT)(P:Program)(w:World)(K:Qq)(mg:OU)(base:Heap)(N:List Str)(qual:Str)(scope:Scope)(f:Addr)(cd:Value)(A:Around)(outer:List Env)(s:Shared)(H:Hp)(E:XK):Cx where
 prog:=P
 w:=w
 K:=K
 mg:=mg
 base:=base
 A:=A.deeper (envOfC qual scope s.heap.objs.size f cd)
 N:=N
 s₀:=s
 H₀:=H
 env:=envOfC qual scope s.heap.objs.size f cd
 outer:=outer
 stack:=envOfC qual scope s.heap.objs.size f cd::outer
 ex:=[]
 calm:=true
 fn:=fun _=>true
 pn:=[]
 xe:=fun e s'=>wpAny (model P w) (A.deeper (envOfC qual scope s.heap.objs.size f cd)) (leaving (envOfC qual scope s.heap.objs.size f cd) e) (fun _ s''=>CX outer H s E e s'') (fun e' s''=>CX outer H s E e' s'') s'
theorem b0D{sc:Scope}{n:Nat}{x:Str}(h:sc.names.lookup x=some .cell):∃c,(cellsFrom n sc.names []).lookup x=some c:=by
 have q:=Uq sc.names n [] (.inl h)
 exact Jl.mp q
theorem b6q{CX:CXT}{P:Program}{w:World}{K:Qq}{mg:OU}{base:Heap}{N ps:List Str}{qual:Str}{scope:Scope}{f:Addr}{cd:Value}{A:Around}{outer:List Env}{s s1:Shared}{H:Hp}{E:XK}{us:List Value}{vs:List V}
  (S:FnScope N ps scope)(hd:A.handled=none)(e0:Env0 P w K mg base A outer s H)(hl:vs.length=ps.length)(r:v5_ vs us)
  (x:InCallC s s.heap.objs.size (bindL (envOfC qual scope s.heap.objs.size f cd).kindOf (ps.zip us) fun _=>none) (cellsFrom (s.heap.objs.size+1) scope.names []) (bindC (envOfC qual scope s.heap.objs.size f cd).kindOf (ps.zip us) fun _=>none) s1):
  Inv (a2y CX P w K mg base N qual scope f cd A outer s H E) [] (start N vs) H s1:=by
 have hpl:ps.length≤N.length:=by have:=Yb List.length S.pre;rw[Vw]at this;omega
 obtain⟨h1,tk,rfl,hk⟩:=x.done;have noA:∀b:Addr,b∉(a2y CX P w K mg base N qual scope f cd A outer s H E).ex:=fun b z=>absurd (show b∈([]:List Addr)from z) (by simp)
 refine⟨⟨e0.mod,S.kind,rfl,rfl,Qp _,fun y z c h1 h2=>?_,fun y hy=>?_,fun y c _ h=>?_,fun _=>hd,Around.frames_deeper e0.frames,.inr ⟨rfl,rfl⟩,fun b z=>absurd z (noA b),e0.bs,e0.bsz,fun b _ _=>noA b,fun b z=>absurd z (noA b),e0.funs,e0.frf⟩,
  rfl,e0.bare,Un.kept hk,⟨_,x.toInCall.ns,fun i y v h1 h2 h3=>?_⟩,fun y c h=>⟨_,x.cell y c h⟩,e0.hok.fresh (Qp _),fun y c h=>?_,fun p hp=>absurd (show p∈([]:OX)from hp) (by simp),e0.hok.kept hk,?_⟩
 ·exact name_of_addr x.apart (Zn h1) (Zn h2)
 ·have hy:scope.names.lookup y=some .cell∨scope.names.lookup y=some .free:=hy
  rcases hy with hy|hy
  ·exact b0D hy
  ·exact absurd rfl (S.nofree _ (Zn hy))
 ·exact Uk (x.above y c (Zn h))
 ·have hi:i<vs.length:=by
   unfold start at h2
   by_cases hi:i<vs.length
   ·exact hi
   ·rw[Ys (by simpa using hi)]at h2
    rw[Ua]at h2;split at h2<;>cases h2
  have ha:vs[i]? =some v:=by
   unfold start at h2;rw[Yq (by simpa using hi),Zu]at h2
   cases e:vs[i]? with
   |none=>rw[e]at h2;cases h2
   |some a=>rw[e]at h2;cases h2;rfl
  obtain⟨u,hu,rv⟩:=r.get ha;have hp:ps[i]? =some y:=by
   rw[←S.pre,List.getElem?_take_of_lt (by omega)];exact h1
  have ndP:ps.Nodup:=by rw[←S.pre];exact S.nd.sublist (List.take_sublist _ _)
  refine⟨u,rv,?_⟩
  rcases S.par y (Jh hp)with k|k
  ·exact .inl ⟨k,b0B ndP hp hu k⟩
  ·obtain⟨c,e⟩:=b0D (n:=s.heap.objs.size+1) k
   refine .inr ⟨.inl k,c,e,?_⟩;have q:=x.cell y c e;rw[b0C ndP hp hu (by show scope.names.lookup y≠_;rw[k];decide)]at q
   exact q
 ·exact e0.hok.fresh (Uk (x.above y c (Zn h)))
 ·unfold start
  show _=N.length;rw[Zz,Qw,Yt]
  omega
theorem b6r{CX:CXT}{P:Program}{w:World}{K:Qq}{mg:OU}{base:Heap}{k:Nat}{f:Addr}{name qual:Str}{params:Arguments}{body:List Stmt}{scope:Scope}{dV kV doc pm cdv ct oc:Value}{an od:Option Addr}
  {osl:Array (Option Value)}{N ps:List Str}{sp:Sp}(lk:K.lookup f=some ⟨oc,od,.func (PySem.W.fnOf name qual params body scope dV kV doc pm an cdv ct),osl⟩)(hcd:PySem.W.codeIn K cdv qual=true)(S:FnScope N ps scope)
  (len:∀vs H Q E,sp vs H Q E->vs.length=ps.length)
  (hbody:∀(A:Around) (outer:List Env) (s:Shared) (H:Hp) (vs:List V) (Q:VK) (E:XK),Room k (A.deeper (envOfC qual scope s.heap.objs.size f cdv))->sp vs H Q E->
   ∃t,PSs (a2y CX P w K mg base N qual scope f cdv A outer s H E) body t/\t {nx:=fun _ H'=>Q .non H',rt:=Q} (start N vs) H):
  FnOk P w K mg base CX (k+1) f (PySem.W.fnOf name qual params body scope dV kV doc pm an cdv ct) ps sp:=by
 refine⟨len,fun A outer s H args us vs Q E hr e0 hb r hsp=>?_⟩
 have hl:=len _ _ _ _ hsp
 have KX:K.In s.heap:=e0.mod.kin.keeps fun b o e=>(e0.bs b o e).1
 have lim:s.heap.NoLimit:=e0.mod.nolimit.keeps fun b o e=>(e0.bs b o e).1
 have hkind:∀y∈ps.zip us,scope.names.lookup y.1=some .local∨(scope.names.lookup y.1=some .cell/\((cellsFrom (s.heap.objs.size+1) scope.names []).lookup y.1).isSome=true):=fun⟨n,v⟩ hy=>by
  rcases S.par n (Xh hy).1 with q|q
  ·exact .inl q
  ·exact .inr ⟨q,Uq _ _ _ (.inl q)⟩
 refine codeAny_call_function hr.depth (KX _ _ lk) rfl S.co S.gen rfl (PySem.W.codeRec_of KX hcd) (hb _ _ _ _ ?_);refine wpAny_newFunctionEnv_cells S.kind hkind fun env he s1 x=>?_
 subst he;refine⟨lim.keeps x.toInCall.keep,codeAny_func ?_⟩;obtain⟨t,ht,hq⟩:=hbody A outer s H vs Q E (hr.deeper _) hsp;have I:Inv (a2y CX P w K mg base N qual scope f cdv A outer s H E) [] (start N vs) H s1:=b6q S hr.hd e0 hl r x;refine Zy (ht [] s1 (start N vs) H _ I hq) (fun fl s' hs=>?_) fun e s' hs=>hs
 have fin:∀{σ':St}{H':Hp}{v:V}{u:Value},Inv (a2y CX P w K mg base N qual scope f cdv A outer s H E) [] σ' H' s'->v6_ v u->Q v H'->CE outer P w H s Q u s':=
  fun{σ' H' v u} J rv q=>⟨v,H',J.os,J.bare,J.base,J.hok,rv,q⟩
 cases fl with
 |ret u=>
  obtain⟨v,σ',H',J,rv,q⟩:=hs;exact fin J rv q
 |next=>
  obtain⟨σ',H',J,q⟩:=hs;exact fin (v:=V.non) (u:=Value.none) J rfl q
 |brk=>
  obtain⟨_,_,_,q⟩:=hs;exact False.elim q
 |cont=>
  obtain⟨_,_,_,q⟩:=hs;exact False.elim q
section
variable{X:Cx}{x:Str}{p pos:Pos}{e:Expr}{es:List Expr}{t:TA}{id T:String}{r:List V->Hp->VK->Prop}
def tCB(r:List V->Hp->VK->Prop)(t:TA):TE:=fun σ H Q=>t σ H fun vs H1=>r vs H1 Q
theorem b0E(hc:a0E X (.builtin id) r)(hg:Gl X x)(hm:X.mg x=none)(hv:bootBuiltins x=some (.builtin id))(ha:PA X (e::es) t)(hn:x≠"__name__":=by decide)(hdb:(x==("__debug__":Str))=false:=by decide)
  (he:starEach (e::es) X.env=(false,eval e X.env)::starEach es X.env:=by rfl)(hpl:(backTo pos (starEach es X.env)).any (·.1)=false:=by rfl):PE X (.Call (.Name x p) (e::es) [] pos) (tCB r t):=by
 intro pins s σ H Q I h;refine Ve (a3f I hg hm hv ?_ hn hdb);exact PyProof.Rows.callWith_builtin1 (thn (ha pos pins s σ H _ I h) fun us s1 ⟨vs,H1,I1,r1,q1⟩=>hc pins s1 σ H1 vs us Q I1 r1 q1) he hpl
theorem b6s(hc:a0E X (.type T) r)(hg:Gl X x)(hm:X.mg x=none)(hv:bootBuiltins x=some (.type T))(ha:PA X (e::es) t)(hn:x≠"__name__":=by decide)(hdb:(x==("__debug__":Str))=false:=by decide)
  (he:starEach (e::es) X.env=(false,eval e X.env)::starEach es X.env:=by rfl)(hpl:(backTo pos (starEach es X.env)).any (·.1)=false:=by rfl):PE X (.Call (.Name x p) (e::es) [] pos) (tCB r t):=by
 intro pins s σ H Q I h;refine Ve (a3f I hg hm hv ?_ hn hdb);exact Jk (thn (ha pos pins s σ H _ I h) fun us s1 ⟨vs,H1,I1,r1,q1⟩=>hc pins s1 σ H1 vs us Q I1 r1 q1) he hpl
end
end L2
namespace HT
open PySem PyProof.Rows
def lexLt:List Int->List Int->Bool
 |[],[]=>false
 |[],_::_=>true
 |_::_,[]=>false
 |x::xs,y::ys=>if x=y then lexLt xs ys else decide (x<y)
theorem lexLt_cons(x y:Int)(xs ys:List Int):lexLt (x::xs) (y::ys)=if x=y then lexLt xs ys else decide (x<y):=rfl
theorem lexLt_nil_nil:lexLt [] []=false:=rfl
theorem lexLt_nil_cons(y:Int)(ys:List Int):lexLt [] (y::ys)=true:=rfl
theorem lexLt_cons_nil(x:Int)(xs:List Int):lexLt (x::xs) []=false:=rfl
theorem eqAt_int(A:Around)(s:Shared)(a:Int)(t:Tok)(c:Int)(u:Tok):∃e,SeqAt.EqAt A s (.int a t) (.int c u) e/\(e=true↔a=c):=
 ⟨(a==c),SeqAt.EqAt.int_int a t c u,by simp⟩
theorem rcLt_int(A:Around)(s:Shared)(a:Int)(t:Tok)(c:Int)(u:Tok)(prog:Program)(w:World)(E:OE)(Q:OE)(h:Q (.bool (decide (a<c))) s):
  wpAny (model prog w) A (richCompare .Lt (.int a t) (.int c u)) Q E s:=
 (PyProof.Rows.lt_int h:wpAny (model prog w) A (compareOp .Lt (.int a t) (.int c u)) Q E s)
section
open PySem.SeqAt
open PySem.AutoSeq1 (wpAny_loadPart')
open PySem.MeetsSeq PySem.MeetsSeq2 PySem.MeetsSeq3
theorem tuple_lt_ints(l b:Addr)(items items2:Array Value)(n n2:Nat)(dd dd2:Option Addr)(sl sl2:Array (Option Value))(ns ms:List Int)(hi:IntsAre items.toList ns)(hj:IntsAre items2.toList ms):
  Meets (Builtin.«tuple.__lt__» ⟨[.ref l,.ref b],[]⟩)
   (fun _ R s=>s.heap.get? l=some {cls:=.type "tuple",dict:=dd,data:=.seq items n,slots:=sl}/\s.heap.get? b=some {cls:=.type "tuple",dict:=dd2,data:=.seq items2 n2,slots:=sl2}/\
    R (.ok (.ret (.bool (lexLt ns ms)))) s):=
 .of_wp fun prog w A R s h=>by
  obtain⟨hp,g,d,tk,os⟩:=s;obtain⟨hl,hb,h⟩:=h;have f2:=AutoSeq1.sub_tuple_tuple;have z1:items.size=ns.length:=by rw[←hi.length];simp
  have z2:items2.size=ms.length:=by rw[←hj.length];simp
  wp_walk using Zr hl,Zr hb,wpAny_forIn_list _ (fun rest b s'=>b.1=none/\s'=⟨hp,g,d,tk,os⟩/\∃(vs ws:List Value) (ns' ms':List Int),rest=vs.zip ws/\
   IntsAre vs ns'/\IntsAre ws ms'/\ns'.length+items2.size=ms'.length+items.size/\R (.ok (.ret (.bool (lexLt ns' ms')))) ⟨hp,g,d,tk,os⟩) _
  case turn=>
   rintro⟨y,x⟩ rest b s' ⟨hb',rfl,vs,ws,ns',ms',hz,hvi,hwi,hlen,hR⟩;cases hvi with
   |nil=>rw[List.zip_nil_left]at hz;cases hz
   |cons a t hvi'=>
    cases hwi with
    |nil=>rw[List.zip_nil_right]at hz;cases hz
    |cons c u hwi'=>
     rw[Jv]at hz;injection hz with hyx hrest
     injection hyx with hy hx
     subst hy hx;rw[lexLt_cons]at hR;simp only[Zk]at hlen;obtain⟨e,he,hiff⟩:=eqAt_int A.in1 ⟨hp,g,d,tk,os⟩ a t c u;refine Qz (he prog w _ _ ?_);cases e with
     |true=>
      rw[Qg (hiff.mp rfl)]at hR
      wp_walk
      exact⟨rfl,rfl,_,_,_,_,hrest,hvi',hwi',by omega,hR⟩
     |false=>
      rw[Qt (fun q=>absurd (hiff.mpr q) Zd)]at hR
      have hri:=rcLt_int A.in1 ⟨hp,g,d,tk,os⟩ a t c u prog w
      wp_walk using hri
      exact⟨_,rfl,by simpa using hR⟩
  case fin=>
   rintro⟨b1,b2⟩ s' ⟨hb',rfl,vs,ws,ns',ms',hz,hvi,hwi,hlen,hR⟩;simp only at hb';subst hb';have hv:lexLt ns' ms'=decide (items.size<items2.size):=by
    cases hvi with
    |nil=>
     cases hwi with
     |nil=>
      simp only[Ju]at hlen;rw[lexLt_nil_nil];exact(Qs (by omega)).symm
     |cons c u hw=>
      simp only[Ju,Zk]at hlen;rw[lexLt_nil_cons];exact(Qe (by omega)).symm
    |cons a t hv=>
     cases hwi with
     |nil=>
      simp only[Ju,Zk]at hlen;rw[lexLt_cons_nil];exact(Qs (by omega)).symm
     |cons c u hw=>
      rw[Jv]at hz;cases hz
   rw[hv]at hR
   wp_walk
   exact⟨_,rfl,by simpa [Builtin.Tuple.tupleCompareSizes]using hR⟩
  case h=>
   exact⟨rfl,rfl,items.toList,items2.toList,ns,ms,rfl,hi,hj,by omega,h⟩
end
section
variable{prog:Program}{w:World}{A:Around}{E:OE}{s:Shared}
theorem lt_tupInts{l b:Addr}{items items2:Array Value}{ns ms:List Int}{Q:OE}(hl:IsTup s.heap l items)(hb:IsTup s.heap b items2)(hi:IntsAre items.toList ns)(hj:IntsAre items2.toList ms)
  (hu:A.units<cLine)(h:Q (.bool (lexLt ns ms)) s):wpAny (model prog w) A (compareOp .Lt (.ref l) (.ref b)) Q E s:=by
 obtain⟨⟨cls,dd,data,sl⟩,ho,hc,n,hd⟩:=id hl;obtain⟨⟨cls2,dd2,data2,sl2⟩,ho2,hc2,n2,hd2⟩:=id hb;simp only at hc hd hc2 hd2;subst hc hd hc2 hd2;exact richCompare_meets_room (op:=.Lt) ⟨_,ho,rfl⟩ ⟨_,ho2,rfl⟩ PySem.F.slot_tuple_lt PySem.F.entry_tuple_lt (PySem.F.args_tuple_lt_2 _ _) (tuple_lt_ints l b items items2 n n2 dd dd2 sl sl2 ns ms hi hj)
  ⟨ho,ho2,show Value.bool (lexLt ns ms)≠Value.notImplemented/\Q (.bool (lexLt ns ms)) s from⟨(fun x=>nomatch x),h⟩⟩ hu
def sIx(n d:Nat):Option Int->Nat
 |none=>d
 |some v=>if v<0 then(v+(n:Int)).toNat else min v.toNat n
theorem sIx_none(n d:Nat):sIx n d none=d:=rfl
theorem sIx_nat(n d k:Nat):sIx n d (some (k:Int))=min k n:=by
 show(if(k:Int)<0 then((k:Int)+(n:Int)).toNat else min (k:Int).toNat n)=min k n
 rw[Qt (by omega),Yn]
theorem sIx_le(n d:Nat)(hd:d≤n)(o:Option Int):sIx n d o≤n:=by
 cases o with
 |none=>exact hd
 |some v=>
  show(if v<0 then(v+(n:Int)).toNat else min v.toNat n)≤n
  by_cases hv:v<0
  ·rw[Qg hv];omega
  ·rw[Qt hv];exact Nat.min_le_right _ _
theorem clip_eq(v:Int)(n d:Nat):(if v<0 then max (v+(n:Int)) 0 else min v (n:Int))=((sIx n d (some v):Nat):Int):=by
 show(if v<0 then max (v+(n:Int)) 0 else min v (n:Int))=(((if v<0 then(v+(n:Int)).toNat else min v.toNat n):Nat):Int)
 by_cases hv:v<0
 ·simp only[Qg hv];omega
 ·simp only[Qt hv];omega
theorem adjust_gen(lo hi:Option Int)(n:Nat):Builtin.Slice.sliceAdjust lo hi 1 (n:Int)=(((sIx n 0 lo:Nat):Int),((sIx n n hi:Nat):Int)):=by
 have h1:¬ ((1:Int)<0):=by omega
 unfold Builtin.Slice.sliceAdjust;simp only[h1,Yc];refine Jn ?_ ?_
 ·cases lo with
  |none=>rfl
  |some v=>exact clip_eq v n 0
 ·cases hi with
  |none=>rfl
  |some v=>exact clip_eq v n n
theorem places_gen(i j:Nat):Builtin.Slice.slicePlaces (i:Int) (j:Int) 1=j-i:=by
 unfold Builtin.Slice.slicePlaces;have h1:(1:Int)>0:=by omega
 simp only[h1,Zm,Int.ediv_one];split<;>omega
theorem slicePart_{v:Value}{o:Option Int}{Q:Option Int->Shared->Prop}(p:IsPart v o)(h:Q o s):wpAny (model prog w) A (Builtin.Slice.slicePartIndex v) Q E s:=by
 cases p with
 |none=>exact slicePart_none h
 |int i t=>exact slicePart_int h
theorem sliceApplied_gen{sl:Addr}{vl vu:Value}{lo hi:Option Int}{n:Nat}{Q:Int×Int×Nat->Shared->Prop}(hs:s.heap.IsSliceOf sl vl vu .none)(pl:IsPart vl lo)(pu:IsPart vu hi)
  (h:Q (((sIx n 0 lo:Nat):Int),1,sIx n n hi-sIx n 0 lo) s):wpAny (model prog w) A (Builtin.Slice.sliceApplied (.ref sl) (pure (n:Int))) Q E s:=by
 obtain⟨os,hos,hcs,hds⟩:=id hs;unfold Builtin.Slice.sliceApplied Builtin.Slice.sliceFields;refine Qz (Qz (Yy hos hds (x:=vl) rfl (Qz (Yy hos hds (x:=vu) rfl (Qz (Yy hos hds (x:=.none) rfl (Qv ?_)))))));refine Qz (slicePart_none ?_);show wpAny _ _ (if((1:Int)==0)=true then _ else _) _ _ s
 rw[Qt (by decide)]
 refine Qz (slicePart_ pl (Qz (slicePart_ pu (Qz (Qv ?_)))));show wpAny _ _ (match Builtin.Slice.sliceAdjust lo hi 1 (n:Int)with|(lo,hi)=>pure (lo,(1:Int),Builtin.Slice.slicePlaces lo hi 1)) _ _ s
 rw[adjust_gen lo hi n];show wpAny _ _ (pure (((sIx n 0 lo:Nat):Int),(1:Int),Builtin.Slice.slicePlaces ((sIx n 0 lo:Nat):Int) ((sIx n n hi:Nat):Int) 1)) _ _ s;rw[places_gen];exact Qv h
theorem pick_gen(xs:Array Value)(i k:Nat):((List.range k).filterMap fun(m:Nat)=>xs[((i:Int)+(m:Int) * 1).toNat]?).toArray=((xs.toList.drop i).take k).toArray:=by
 have e:(fun(m:Nat)=>xs[((i:Int)+(m:Int) * 1).toNat]?)=fun m=>xs[i+m]?:=by
  funext m
  have:((i:Int)+(m:Int) * 1).toNat=i+m:=by omega
  rw[this]
 rw[e];have:=pick_run xs i k;rw[List.filterMap_map]at this;have e2:((fun x=>xs[x]?)∘fun x=>i+x)=fun m=>xs[i+m]?:=rfl
 rw[e2]at this;rw[this]
theorem getItem_tuple_cut{t sl:Addr}{items:Array Value}{vl vu:Value}{lo hi:Option Int}{Q:OE}(ht:IsTup s.heap t items)(hs:s.heap.IsSliceOf sl vl vu .none)(pl:IsPart vl lo)(pu:IsPart vu hi)
  (hw:¬ (sIx items.size 0 lo=0/\sIx items.size items.size hi=items.size))
  (h:Q (.ref s.heap.objs.size) {s with heap:=s.heap.push {cls:=.type "tuple",data:=.seq ((items.toList.drop (sIx items.size 0 lo)).take (sIx items.size items.size hi-sIx items.size 0 lo)).toArray}})
  (hsz:items.size≤sizeLine):wpAny (model prog w) A (getItem (.ref t) (.ref sl)) Q E s:=by
 have htake:sizeOk (.seq ((items.toList.drop (sIx items.size 0 lo)).take (sIx items.size items.size hi-sIx items.size 0 lo)).toArray):=by
  show((items.toList.drop (sIx items.size 0 lo)).take (sIx items.size items.size hi-sIx items.size 0 lo)).toArray.size≤sizeLine;rw[Ql,Vw,Xb,Vi]
  omega
 have hj:sIx items.size items.size hi≤items.size:=sIx_le _ _ (Qp _) hi
 obtain⟨os,hos,hcs,hds⟩:=id hs;have hTs:s.TypeIs (.ref sl) "slice":=⟨os,hos,hcs⟩;unfold getItem
 try with_reducible refine Yr ?_
 first|refine Qz (Qv ?_)|skip
 refine Qz (wpAny_sequenceKey ht.typeIs (by decide) ?_)
 refine Qz (Yh (name:=Str.ofString "__getitem__") ht.typeIs Zi
  (Jd Zi ht.typeIs entry_tuple_getitem ?_ (args_tuple_getitem _ _)))
 show wpAny _ _ (Builtin.Tuple.tupleItemsOf (.ref t)>>=_) _ _ s;refine Qz (tupleItemsOf_ ht ?_);refine Qz (Um hTs ?_);rw[Qg (by decide)]
 refine Qz (sliceApplied_gen hs pl pu ?_);have hno:¬ ((((sIx items.size 0 lo:Nat):Int)==0&&(1:Int)==1&&(sIx items.size items.size hi-sIx items.size 0 lo)==items.size)=true):=by
  intro q;rw[Qk,Qk]at q;have q1:((sIx items.size 0 lo:Nat):Int)=0:=eq_of_beq q.1.1;have q2:sIx items.size items.size hi-sIx items.size 0 lo=items.size:=eq_of_beq q.2;exact hw ⟨by omega,by omega⟩
 show wpAny _ _ (if(((sIx items.size 0 lo:Nat):Int)==0&&(1:Int)==1&&(sIx items.size items.size hi-sIx items.size 0 lo)==items.size)=true then _ else _) _ _ s
 rw[Qt hno,pick_gen]
 first
  |exact Qz (m:=Builtin.Tuple.tupleExact _) (Ym (Qv ⟨_,rfl,Qv h⟩) htake)
  |exact Qz (m:=Builtin.Tuple.tupleExact _) (Ym (Qz (Qv (Qv ⟨_,rfl,Qv h⟩))) htake)
  |exact Qz (Qz (m:=Builtin.Tuple.tupleExact _) (Ym (Qv (Qv ⟨_,rfl,Qv h⟩)) htake))
  |exact Qz (Qz (m:=Builtin.Tuple.tupleExact _) (Ym (Qv ⟨_,rfl,Qv h⟩) htake))
end
end HT
namespace L2
open PySem PySem.Spec PyProof.Rows
abbrev TO:=St->Hp->(Option Int->Hp->Prop)->Prop
def PO(X:Cx)(e:Option Expr)(t:TO):Prop:=
 ∀(pins:OX) (s:Shared) (σ:St) (H:Hp) (Q:Option Int->Hp->Prop),Inv X pins σ H s->t σ H Q->
  wpAny (model X.prog X.w) X.A (evalPart e X.env) (fun u s'=>∃o H',Inv X pins σ H' s'/\IsPart u o/\Q o H') X.xe s
def b6t:TO:=fun _ H Q=>Q none H
def b6u(t:TE):TO:=fun σ H Q=>t σ H fun x H1=>∃i,x=.int i/\Q (some i) H1
theorem a2z{ns:List Int}:∀{us:List Value},v5_ (ns.map V.int) us->IntsAre us ns:=by
 induction ns with
 |nil=>intro us r;rw[Uc]at r;cases r;exact .nil
 |cons n ns ih=>
  intro us r;rw[Qy]at r;cases r with
  |cons r1 r2=>
   obtain⟨t,e⟩:=r1;subst e;exact .cons n t (ih r2)
section
variable{X:Cx}{e:Expr}{te:TE}{lo hi:Option Expr}{tl th:TO}{pos p2:Pos}
theorem b6v:PO X none b6t:=by
 intro pins s σ H Q I h;rw[evalPart_none];exact Qv ⟨none,H,I,.none,h⟩
theorem b6w(h:PE X e te):PO X (some e) (b6u te):=by
 intro pins s σ H Q I hw;rw[evalPart_some];refine thn (h pins s σ H _ I hw) fun u s1 ⟨x,H1,I1,r1,q1⟩=>?_
 obtain⟨i,rfl,q⟩:=q1;obtain⟨t,rfl⟩:=r1;exact⟨some i,H1,I1,.int i t,q⟩
def SlR(X:Cx)(r:V->Option Int->Option Int->Hp->VK->Prop):Prop:=
 ∀(pins:OX) (s:Shared) (σ:St) (H:Hp) (x:V) (v vl vu:Value) (lo hi:Option Int) (sl:Addr) (Q:VK),Inv X pins σ H s->v6_ x v->s.heap.IsSliceOf sl vl vu .none->IsPart vl lo->IsPart vu hi->r x lo hi H Q->
  ∃T id,typeLookup (.type T) "__getitem__"=pure (some (.builtin id))/\s.TypeIs v T/\wpAny (model X.prog X.w) X.A (getItem v (.ref sl)) (EP X pins σ Q) X.xe s
def tSl(r:V->Option Int->Option Int->Hp->VK->Prop)(te:TE)(tl th:TO):TE:=fun σ H Q=>te σ H fun x H1=>tl σ H1 fun l H2=>th σ H2 fun u H3=>r x l u H3 Q
theorem b6x{r:V->Option Int->Option Int->Hp->VK->Prop}(hr:SlR X r)(he:PE X e te)(hl:PO X lo tl)(hu:PO X hi th):PE X (.Subscript e (.Slice lo hi none p2) pos) (tSl r te tl th):=by
 intro pins s σ H Q I h;refine Subscript_ (thn (he pins s σ H _ I h) fun v s1 ⟨x,H1,I1,r1,q1⟩=>?_)
 refine wpAny_Slice (thn (hl pins s1 σ H1 _ I1 q1) fun vl s2 ⟨l,H2,I2,pl,q2⟩=>thn (hu pins s2 σ H2 _ I2 q2) fun vu s3 ⟨u,H3,I3,pu,q3⟩=>?_)
 rw[evalPart_none];refine Qv ?_
 have I4:Inv X pins σ H3 {s3 with heap:=s3.heap.push {cls:=.type "slice",data:=.fields #[vl,vu,.none]}}:=I3.kept (t':=s3.toks) fun b ob q=>Qx _ q
 obtain⟨T,id,hT,ht,hg⟩:=hr pins {s3 with heap:=s3.heap.push {cls:=.type "slice",data:=.fields #[vl,vu,.none]}} σ H3 x v vl vu l u s3.heap.objs.size Q I4 r1 (Heap.IsSliceOf.new ..) pl pu q3
 show wpAny (model X.prog X.w) X.A (subscriptTail e (.Slice lo hi none p2) v (.ref s3.heap.objs.size)) (EP X pins σ Q) X.xe {s3 with heap:=s3.heap.push {cls:=.type "slice",data:=.fields #[vl,vu,.none]}}
 exact tail_any (ops:=[.ref s3.heap.objs.size,v]) ht hT hg (by with_unfolding_all rfl)
def a2A(xs:List V)(lo hi:Option Int):List V:=(xs.drop (HT.sIx xs.length 0 lo)).take (HT.sIx xs.length xs.length hi-HT.sIx xs.length 0 lo)
theorem b6y(xs:List V)(lo hi:Option Int):(a2A xs lo hi).length≤xs.length:=by
 unfold a2A;rw[Vw,Xb]
 omega
def b6z(K:Qq):V->Option Int->Option Int->Hp->VK->Prop:=fun x lo hi H Q=>∃a xs,x=.ref a/\SqT K H a xs/\
 ¬ (HT.sIx xs.length 0 lo=0/\HT.sIx xs.length xs.length hi=xs.length)/\∀p,H p=none->Q (.ref p) (upd H p (.tup (a2A xs lo hi)))
theorem a5s:SlR X (b6z X.K):=by
 intro pins s σ H x v vl vu lo hi sl Q I rx hs pl pu h;obtain⟨a,xs,rfl,hx,hw,q⟩:=h;cases rx;obtain⟨its,r,ht,hz⟩:=I.tuple hx;have hlen:its.toArray.size=xs.length:=by rw[Ql];exact r.length.symm
 refine⟨"tuple",_,Zi.lookup,ht.typeIs,?_⟩;refine HT.getItem_tuple_cut ht hs pl pu (by rw[hlen];exact hw) ?_ (by rw[hlen];exact hz)
 rw[hlen];refine⟨.ref s.heap.objs.size,_,I.laid (t':=s.toks) (o:=.tup (a2A xs lo hi)) (fun b ob q=>Qx _ q) (Qp _) ?_,rfl,q _ (I.hok.fresh (Qp _))⟩
 exact⟨Yj (b6y xs lo hi) hz,_,(r.drop (HT.sIx xs.length 0 lo)).take (HT.sIx xs.length xs.length hi-HT.sIx xs.length 0 lo),a0O.new _ _⟩
def a5t(K:Qq):R2:=fun x y H Q=>∃a b ns ms,x=.ref a/\y=.ref b/\SqT K H a (ns.map V.int)/\SqT K H b (ms.map V.int)/\Q (.bl (HT.lexLt ns ms)) H
theorem b6A(hu:X.A.units<cLine):OpR X (compareOp .Lt) (a5t X.K):=by
 intro pins s σ H x y v u Q I rx ry h;obtain⟨a,b,ns,ms,rfl,rfl,ha,hb,q⟩:=h;cases rx;cases ry;obtain⟨its,r1,p1,_⟩:=I.tuple ha;obtain⟨its2,r2,p2,_⟩:=I.tuple hb;have i1:IntsAre its.toArray.toList ns:=a2z r1;have i2:IntsAre its2.toArray.toList ms:=a2z r2;exact HT.lt_tupInts p1 p2 i1 i2 hu ⟨.bl (HT.lexLt ns ms),H,I,rfl,q⟩
theorem v5_.nil_iff{xs:List V}{us:List Value}(r:v5_ xs us):us=[]↔xs=[]:=by
 cases r with
 |nil=>simp
 |cons _ _=>simp
end
def ixN(n:Nat)(i:Int):Option Nat:=if 0≤i then(if i<n then some i.toNat else none)else if-(n:Int)≤i then some (i+n).toNat else none
def atI{α:Type}(xs:List α)(i:Int):Option α:=(ixN xs.length i).bind fun j=>xs[j]?
theorem b0F{n:Nat}{i:Int}{j:Nat}(h:ixN n i=some j):seqIndex? i n=some j/\j<n/\ -(n:Int)≤i/\i<n:=by
 unfold ixN at h
 by_cases h0:0≤i
 ·rw[Qg h0]at h
  by_cases h1:i<n
  ·rw[Qg h1]at h
   have e:i.toNat=j:=Yw h
   exact⟨by rw[seqIndex_of h0 h1,e],by omega,by omega,h1⟩
  ·rw[Qt h1]at h;cases h
 ·rw[Qt h0]at h
  by_cases h1: -(n:Int)≤i
  ·rw[Qg h1]at h
   have e:(i+n).toNat=j:=Yw h
   exact⟨by rw[seqIndex_neg (by omega) h1,e],by omega,h1,by omega⟩
  ·rw[Qt h1]at h;cases h
theorem a7l{α:Type}{xs:List α}{i:Int}{v:α}(h:atI xs i=some v):∃j,seqIndex? i xs.length=some j/\xs[j]? =some v/\j<xs.length/\ -(xs.length:Int)≤i/\i<xs.length:=by
 unfold atI at h;cases e:ixN xs.length i with
 |none=>rw[e]at h;cases h
 |some j=>
  rw[e]at h;obtain⟨h1,h2,h3,h4⟩:=b0F e;exact⟨j,h1,h,h2,h3,h4⟩
def a4i(b:Expr):Prop:=∀o i,subscripted b false o i=operate [o,i] (getItem o i)
def IxR(X:Cx)(r:R2):Prop:=
 ∀(value slice:Expr) (pins:OX) (s:Shared) (σ:St) (H:Hp) (x y:V) (v u:Value) (Q:VK),Inv X pins σ H s->v6_ x v->v6_ y u->r x y H Q->
  subscripted slice false v u=operate [v,u] (getItem v u)->wpAny (model X.prog X.w) X.A (subscriptTail value slice v u) (EP X pins σ Q) X.xe s
def MtR(X:Cx)(id:String)(r:V->List V->Hp->VK->Prop):Prop:=
 ∀(pins:OX) (s:Shared) (σ:St) (H:Hp) (x:V) (xs:List V) (v:Value) (us:List Value) (Q:VK),Inv X pins σ H s->v6_ x v->v5_ xs us->r x xs H Q->
  wpAny (model X.prog X.w) X.A (call (.builtin id) (v::us)) (EP X pins σ Q) X.xe s
section
variable{X:Cx}{a b:Expr}{ta tb:TE}{pos:Pos}
theorem IxR.or{r r':R2}(h:IxR X r)(h':IxR X r'):IxR X (fun x y H Q=>r x y H Q∨r' x y H Q):=by
 intro value slice pins s σ H x y v u Q I rx ry q hs
 rcases q with q|q
 ·exact h value slice pins s σ H x y v u Q I rx ry q hs
 ·exact h' value slice pins s σ H x y v u Q I rx ry q hs
theorem b0G{r:R2}(hr:IxR X r)(ha:PE X a ta)(hb:PE X b tb)(hs:a4i b):PE X (.Subscript a b pos) (tOp r ta tb):=by
 intro pins s σ H Q I h;exact Subscript_ (a7c ha hb I h fun v u s2 x y H2 I2 rx ry q=>hr a b pins s2 σ H2 x y v u Q I2 rx ry q (hs _ _))
def b0H(K:Qq):R2:=fun x y H Q=>∃p xs i v,x=.ref p/\y=.int i/\SqL K H p xs/\atI xs i=some v/\Q v H
def b0I(K:Qq):R2:=fun x y H Q=>∃p xs i v,x=.ref p/\y=.int i/\SqT K H p xs/\atI xs i=some v/\Q v H
def b0J:R2:=fun x y H Q=>∃z i c,x=.str z/\y=.int i/\z.length≤sizeLine/\atI z.cps.toList i=some c/\Q (.str ⟨#[c]⟩) H
theorem b0K:IxR X (b0H X.K):=by
 intro value slice pins s σ H x y v u Q I rx ry h hs;obtain⟨p,xs,i,z,rfl,rfl,hq,he,q⟩:=h;cases rx;obtain⟨t,rfl⟩:=ry;obtain⟨its,r,pl,hz⟩:=I.list hq;obtain⟨j,h1,h2,h3,h4,h5⟩:=a7l he;obtain⟨w,ew,rw'⟩:=r.get h2;have hl:=r.length;have hn:=a4f;have fin:EP X pins σ Q w s:=⟨z,H,I,rw',q⟩
 by_cases h0:0≤i
 ·have hj:i.toNat=j:=by
   rw[seqIndex_of h0 h5]at h1;exact Yw h1
  exact item_listR pl.isList h0 (by omega) (by rw[hj];simpa using ew) fin hs
 ·have hj:(i+(its.toArray.size:Int)).toNat=j:=by
   rw[seqIndex_neg (by omega) h4]at h1
   rw[Ql,←hl];exact Yw h1
  exact subscriptTail_builtinR (x:=w) pl.isList.typeIs slot_list_getitem.lookup
   (wpAny_getItem_list_neg (Q:=fun r s'=>r=w/\EP X pins σ Q r s') pl.isList (by omega) (by rw[Ql]<;>omega) (by omega) (by rw[hj];simpa using ew) ⟨rfl,fin⟩) hs
theorem b6B:IxR X (b0I X.K):=by
 intro value slice pins s σ H x y v u Q I rx ry h hs;obtain⟨p,xs,i,z,rfl,rfl,hq,he,q⟩:=h;cases rx;obtain⟨t,rfl⟩:=ry;obtain⟨its,r,pl,hz⟩:=I.tuple hq;obtain⟨j,h1,h2,h3,h4,h5⟩:=a7l he;obtain⟨w,ew,rw'⟩:=r.get h2;have hl:=r.length;have hn:=a4f;have fin:EP X pins σ Q w s:=⟨z,H,I,rw',q⟩;exact subscriptTail_builtinR (x:=w) pl.typeIs slot_tuple_getitem.lookup
  (getItem_tuple (j:=j) (Q:=fun r s'=>r=w/\EP X pins σ Q r s') pl (by omega) (by omega) (by rw[Ql,←hl];exact h1) (by simpa using ew) ⟨rfl,fin⟩) hs
theorem b6C:IxR X b0J:=by
 intro value slice pins s σ H x y v u Q I rx ry h hs;obtain⟨z,i,c,rfl,rfl,hz,he,q⟩:=h;obtain⟨t,rfl⟩:=rx;obtain⟨t',rfl⟩:=ry;obtain⟨j,h1,h2,h3,h4,h5⟩:=a7l he;have hl:z.cps.toList.length=z.length:=by simp[Str.length]
 rw[hl]at h1 h4 h5;have hn:=a4f;exact tail_any (typeIs_str s z t) slot_str_getitem.lookup (getItem_str (c:=c) (by
  have e1:decide (i< -(2^63:Int))=false:=Qs (by omega)
  have e2:decide (i ≥ 2^63)=false:=Qs (by omega)
  rw[e1,e2,Bool.or_false]) (by rw[h1];simpa using h2) ⟨.str ⟨#[c]⟩,H,I.tok _,⟨_,rfl⟩,q⟩) hs
def rIx(K:Qq):R2:=fun x y H Q=>b0H K x y H Q∨b0I K x y H Q∨b0J x y H Q
theorem b6D:IxR X (rIx X.K):=b0K.or (b6B.or b6C)
theorem b6E(its:List Value)(n j:Nat)(u:Value):Obj.mapSeq (·.setIfInBounds j u) {cls:=.type "list",data:=.seq its.toArray n}={cls:=.type "list",data:=.seq (its.set j u).toArray n}:=by
 simp[Obj.mapSeq]
theorem Inv.lst{pins:OX}{σ:St}{H:Hp}{s:Shared}{p:Addr}{xs:List V}(I:Inv X pins σ H s)(h:H p=some (.lst xs)):
  ∃(its:List Value) (n:Nat),v5_ xs its/\s.heap.get? p=some {cls:=.type "list",data:=.seq its.toArray n}/\xs.length≤sizeLine:=by
 obtain⟨z,its,n,r,e⟩:=I.hok p _ h;exact⟨its,n,r,e,z⟩
theorem Inv.lstUpd{pins:OX}{σ:St}{H:Hp}{s:Shared}{p:Addr}{xs ys:List V}{its its':List Value}{n n':Nat}{f:Obj->Obj}(I:Inv X pins σ H s)(h:H p=some (.lst xs))
  (ho:s.heap.get? p=some {cls:=.type "list",data:=.seq its.toArray n})(hf:f {cls:=.type "list",data:=.seq its.toArray n}={cls:=.type "list",data:=.seq its'.toArray n'})(r:v5_ ys its')(hz:ys.length≤sizeLine)(t:Nat):
  Inv X pins σ (upd H p (.lst ys)) {s with heap:=s.heap.update p f,toks:=t}:=by
 have e:(s.heap.update p f).get? p=some {cls:=.type "list",data:=.seq its'.toArray n'}:=by
  rw[Heap.get?_update_self f ho (by rw[hf]<;>rfl),hf]
 refine I.write (x:=p) (e:=p) (by rw[h];trivial) (.inl rfl) (fun b u hb q=>(Heap.get?_update_other _ _ (Za hb)).trans q) ⟨_,e⟩ ?_
 exact⟨hz,its',n',r,e⟩
def b6F:V->V->V->Hp->(Hp->Prop)->Prop:=fun o i v H Q=>∃p xs k j,o=.ref p/\i=.int k/\H p=some (.lst xs)/\ixN xs.length k=some j/\Q (upd H p (.lst (xs.set j v)))
theorem b6G:a6X X b6F:=by
 intro pins s σ H o i v ov iv u Q I ro ri rv h;obtain⟨p,xs,k,j,rfl,rfl,hp,hj,q⟩:=h;cases ro;obtain⟨t,rfl⟩:=ri;obtain⟨its,n,r,ho,hz⟩:=I.lst hp;obtain⟨h1,h2,h3,h4⟩:=b0F hj;have hl:=r.length;have hn:=a4f;have I':Inv X pins σ (upd H p (.lst (xs.set j v))) {s with heap:=s.heap.update p (Obj.mapSeq (·.setIfInBounds j u))}:=
  I.lstUpd hp ho (b6E its n j u) (r.set rv j) (by rw[Zo];exact hz) s.toks
 by_cases h0:0≤k
 ·have hk:k.toNat=j:=by
   rw[seqIndex_of h0 h4]at h1;exact Yw h1
  exact PySem.W.ki_setAt ho h0 (by omega) (by rw[Ql,←hl];exact h4) (by rw[hk];exact⟨_,I',q⟩)
 ·have hk:(k+(its.toArray.size:Int)).toNat=j:=by
   rw[seqIndex_neg (by omega) h3]at h1
   rw[Ql,←hl];exact Yw h1
  exact PySem.W.ki_setBack ho (by omega) (by rw[Ql,←hl];exact h3) (by omega) (by rw[hk];exact⟨_,I',q⟩)
def a1r:V->Bool
 |.non=>true
 |.bl _=>true
 |.int _=>true
 |.str _=>true
 |_=>false
def eqV:V->V->Bool
 |.non,.non=>true
 |.bl a,.bl b=>a==b
 |.bl a,.int b=>(if a then 1 else 0)==b
 |.int a,.bl b=>a==(if b then 1 else 0)
 |.int a,.int b=>a==b
 |.str a,.str b=>a==b
 |_,_=>false
theorem b6H{A:Around}{s:Shared}{y x:V}{u v:Value}(ry:v6_ y u)(rx:v6_ x v)(fy:a1r y=true)(fx:a1r x=true):SeqAt.EqAt A s u v (eqV y x):=by
 cases y with
 |non=>
  cases ry;cases x with
  |non=>cases rx;exact SeqAt.EqAt.same _
  |bl b=>cases rx;exact SeqAt.EqAt.none_bool b
  |int b=>obtain⟨t,rfl⟩:=rx;exact SeqAt.EqAt.none_int b t
  |str b=>obtain⟨t,rfl⟩:=rx;exact SeqAt.EqAt.none_str b t
  |_=>exact absurd (show false=true from fx) Zd
 |bl a=>
  cases ry;cases x with
  |non=>cases rx;exact SeqAt.EqAt.bool_none a
  |bl b=>cases rx;exact SeqAt.EqAt.bool_bool a b
  |int b=>obtain⟨t,rfl⟩:=rx;exact SeqAt.EqAt.bool_int a b t
  |str b=>obtain⟨t,rfl⟩:=rx;exact SeqAt.EqAt.bool_str a b t
  |_=>exact absurd (show false=true from fx) Zd
 |int a=>
  obtain⟨t',rfl⟩:=ry;cases x with
  |non=>cases rx;exact SeqAt.EqAt.int_none a t'
  |bl b=>cases rx;exact SeqAt.EqAt.int_bool a t' b
  |int b=>obtain⟨t,rfl⟩:=rx;exact SeqAt.EqAt.int_int a t' b t
  |str b=>obtain⟨t,rfl⟩:=rx;exact SeqAt.EqAt.int_str a t' b t
  |_=>exact absurd (show false=true from fx) Zd
 |str a=>
  obtain⟨t',rfl⟩:=ry;cases x with
  |non=>cases rx;exact SeqAt.EqAt.str_none a t'
  |bl b=>cases rx;exact SeqAt.EqAt.str_bool a t' b
  |int b=>obtain⟨t,rfl⟩:=rx;exact SeqAt.EqAt.str_int a t' b t
  |str b=>obtain⟨t,rfl⟩:=rx;exact SeqAt.EqAt.str_str a t' b t
  |_=>exact absurd (show false=true from fx) Zd
 |_=>exact absurd (show false=true from fy) Zd
def eqU(x:V)(u:Value):Bool:=match u with
 |.none=>eqV .non x
 |.bool b=>eqV (.bl b) x
 |.int i _=>eqV (.int i) x
 |.str z _=>eqV (.str z) x
 |_=>false
theorem b0L{x y:V}{u:Value}(r:v6_ y u)(f:a1r y=true):eqU x u=eqV y x:=by
 cases y with
 |non=>cases r;rfl
 |bl b=>cases r;rfl
 |int i=>obtain⟨t,rfl⟩:=r;rfl
 |str z=>obtain⟨t,rfl⟩:=r;rfl
 |_=>exact absurd (show false=true from f) Zd
theorem a4j{x:V}:∀{xs:List V}{us:List Value},v5_ xs us->xs.all a1r=true->us.any (eqU x)=xs.any fun y=>eqV y x
 |_,_,.nil,_=>rfl
 |y::xs,u::us,.cons r t,f=>by
  rw[Xq,Qk]at f;rw[Xz,Xz,b0L r f.1,a4j t f.2]
theorem a3i{A:Around}{s:Shared}{x:V}{v:Value}(rx:v6_ x v)(fx:a1r x=true):∀{xs:List V}{us:List Value},v5_ xs us->xs.all a1r=true->∀u∈us,SeqAt.EqAt A s u v (eqU x u)
 |_,_,.nil,_=>fun u hu=>by cases hu
 |y::xs,u::us,.cons r t,f=>fun u' hu=>by
  rw[Xq,Qk]at f
  rcases Qi.mp hu with rfl|hu
  ·rw[b0L r f.1];exact b6H r rx f.1 fx
  ·exact a3i rx fx t f.2 u' hu
def inV(x:V)(xs:List V):Bool:=xs.any fun y=>eqV y x
def rIn(K:Qq)(neg:Bool):R2:=fun x y H Q=>∃p xs,y=.ref p/\(SqL K H p xs∨SqT K H p xs)/\a1r x=true/\xs.all a1r=true/\Q (.bl (if neg then !inV x xs else inV x xs)) H
theorem a7m:OpR X (compareOp .In) (rIn X.K false):=by
 intro pins s σ H x y v u Q I rx ry h;obtain⟨p,xs,rfl,hq,fx,fs,q⟩:=h;cases ry
 rcases hq with hq|hq
 ·obtain⟨its,r,pl,hz⟩:=I.list hq
  refine SeqAt.in_listAt (eqU x) pl.isList (fun w hw=>a3i rx fx r fs w (by simpa using hw)) ⟨.bl _,H,I,rfl,?_⟩
  rw[show its.toArray.any (eqU x)=its.any (eqU x) by simp,a4j r fs]
  exact q
 ·obtain⟨its,r,pl,hz⟩:=I.tuple hq
  refine SeqAt.in_tupleAt (eqU x) pl (fun w hw=>a3i rx fx r fs w (by simpa using hw)) ⟨.bl _,H,I,rfl,?_⟩
  rw[show its.toArray.any (eqU x)=its.any (eqU x) by simp,a4j r fs]
  exact q
theorem b0M:OpR X (compareOp .NotIn) (rIn X.K true):=by
 intro pins s σ H x y v u Q I rx ry h;obtain⟨p,xs,rfl,hq,fx,fs,q⟩:=h;cases ry
 rcases hq with hq|hq
 ·obtain⟨its,r,pl,hz⟩:=I.list hq
  refine SeqAt.notIn_listAt (eqU x) pl.isList (fun w hw=>a3i rx fx r fs w (by simpa using hw)) ⟨.bl _,H,I,rfl,?_⟩
  rw[show its.toArray.any (eqU x)=its.any (eqU x) by simp,a4j r fs]
  exact q
 ·obtain⟨its,r,pl,hz⟩:=I.tuple hq
  refine SeqAt.notIn_tupleAt (eqU x) pl (fun w hw=>a3i rx fx r fs w (by simpa using hw)) ⟨.bl _,H,I,rfl,?_⟩
  rw[show its.toArray.any (eqU x)=its.any (eqU x) by simp,a4j r fs]
  exact q
theorem a0P:a0E X (.builtin "len") (fun xs H Q=>∃p ys,xs=[.ref p]/\(SqL X.K H p ys∨SqT X.K H p ys)/\Q (.int ys.length) H):=by
 intro pins s σ H xs us Q I r h;obtain⟨p,ys,rfl,hq,q⟩:=h;obtain⟨u,rfl,rx⟩:=a4g r;cases rx;have hn:=a4f
 rcases hq with hq|hq
 ·obtain⟨its,r',pl,hz⟩:=I.list hq
  have hlen:=r'.length
  exact Calls.call_len_list pl.isList (by simp only[Ql]<;>omega) ⟨.int ys.length,H,I.tok _,⟨s.toks+1,by rw[Ql,hlen]⟩,q⟩
 ·obtain⟨its,r',pl,hz⟩:=I.tuple hq
  have hlen:=r'.length
  exact len_tuple pl (by simp only[Ql]<;>omega) ⟨.int ys.length,H,I.tok _,⟨s.toks+1,by rw[Ql,hlen]⟩,q⟩
theorem a2B:a0E X (.type "tuple") (fun xs H Q=>∃p ys,xs=[.ref p]/\((SqL X.K H p ys/\∀l,H l=none->Q (.ref l) (upd H l (.tup ys)))∨(SqT X.K H p ys/\Q (.ref p) H))):=by
 intro pins s σ H xs us Q I r h;obtain⟨p,ys,rfl,h⟩:=h;obtain⟨u,rfl,rx⟩:=a4g r;cases rx
 rcases h with⟨hq,q⟩|⟨hq,q⟩
 ·obtain⟨its,r',pl,hz⟩:=I.list hq
  have hlen:=r'.length
  refine call_tuple_list pl.isList (fun h' kp=>?_) (by simp only[Ql]<;>omega)
  have I1:Inv X pins σ H {s with heap:=h'}:=I.kept (t':=s.toks) kp
  have I2:Inv X pins σ (upd H h'.objs.size (.tup ys)) {s with heap:=h'.push {cls:=.type "tuple",data:=.seq its.toArray}}:=
   I1.laid (t':=s.toks) (fun b o e=>Qx _ e) (Qp _) (show w3_ X.prog X.w _ _ _ (.tup ys)from⟨hz,its,r',a0O.new _ _⟩)
  exact⟨.ref h'.objs.size,_,I2,rfl,q _ (I1.hok.fresh (Qp _))⟩
 ·obtain⟨its,r',pl,hz⟩:=I.tuple hq
  exact call_tuple_same pl ⟨.ref p,H,I,rfl,q⟩
def tyV(K:Qq)(T:String)(x:V)(H:Hp):Prop:=match x with
 |.str _=>T="str"
 |.int _=>T="int"
 |.ref p=>(T="list"/\ ∃xs,SqL K H p xs)∨(T="tuple"/\ ∃o,K.lookup p=some o/\o.cls=.type "tuple"/\o.dict=none)∨
   (T="dict"/\((∃kvs,H p=some (.dK kvs))∨ ∃C kvs,H p=some (.dT C kvs)))∨(T="set"/\ ∃S n,H p=some (.set S n))∨(T="dict"/\ ∃es ep,H p=some (.dX es ep))
 |_=>False
theorem b6I{pins:OX}{σ:St}{H:Hp}{s:Shared}{T:String}{x:V}{v:Value}(I:Inv X pins σ H s)(r:v6_ x v)(ty:tyV X.K T x H):
  s.TypeIs v T/\∀a,v=.ref a->∃ob,s.heap.get? a=some ob/\ob.dict=none:=by
 cases x with
 |str z=>
  obtain⟨t,rfl⟩:=r;cases (show T="str" from ty)
  exact⟨typeIs_str s z t,fun _ e=>nomatch e⟩
 |int i=>
  obtain⟨t,rfl⟩:=r;cases (show T="int" from ty)
  exact⟨typeIs_int s i t,fun _ e=>nomatch e⟩
 |ref p=>
  cases r
  rcases ty with⟨rfl,xs,hq⟩|⟨rfl,o,hk,hc,hd⟩|⟨rfl,hk⟩|⟨rfl,S,n,hk⟩|⟨rfl,es,ep,hk⟩
  ·obtain⟨its,_,pl,_⟩:=I.list hq
   refine⟨pl.isList.typeIs,fun a e=>?_⟩
   cases e;obtain⟨o,n,e,c,hd,_⟩:=pl;exact⟨o,e,hd⟩
  ·refine⟨⟨o,I.kIn p o hk,hc⟩,fun a e=>?_⟩
   cases e;exact⟨o,I.kIn _ o hk,hd⟩
  ·have z:∃o,s.heap.get? p=some o/\o.ExactDict:=by
    rcases hk with⟨kvs,hk⟩|⟨C,kvs,hk⟩
    ·obtain⟨_,_,_,_,o,_,_,e,ex,_⟩:=I.hok p _ hk
     exact⟨o,e,ex⟩
    ·obtain⟨_,_,_,_,o,_,_,e,ex,_⟩:=I.hok p _ hk
     exact⟨o,e,ex⟩
   obtain⟨o,e,ex⟩:=z;refine⟨⟨o,e,ex.1⟩,fun a e2=>?_⟩
   cases e2;exact⟨o,e,ex.2.1⟩
  ·obtain⟨o,_,_,_,e,ex,_⟩:=I.hok p _ hk
   refine⟨⟨o,e,ex.1⟩,fun a e2=>?_⟩
   cases e2;exact⟨o,e,ex.2.1⟩
  ·obtain⟨_,_,o,e,ex,_⟩:=I.hok p _ hk
   refine⟨⟨o,e,ex.1⟩,fun a e2=>?_⟩
   cases e2;exact⟨o,e,ex.2.1⟩
 |_=>exact False.elim ty
def tBM(K:Qq)(T:String)(r:V->List V->Hp->VK->Prop)(to:TE)(t:TA):TE:=fun σ H Q=>to σ H fun x H1=>tyV K T x H1/\t σ H1 fun xs H2=>r x xs H2 Q
variable{o e:Expr}{es:List Expr}{to:TE}{t:TA}{name:Str}{apos cpos:Pos}{T id:String}{r:V->List V->Hp->VK->Prop}
theorem b6J(pa:PlainAttrs T)(slot:Slot T name id)(hty:typeOf (.builtin id)=pure (.type "method_descriptor"))(hm:MtR X id r)(ho:PE X o to)(ha:PA X (e::es) t)
  (hbase:attributeBase o name X.env (eval o X.env)=eval o X.env:=by rfl)
  (hfew:((backTo cpos (starEach (e::es) X.env)).all (fun x=>!x.1)&&(backToKw cpos (keywordEach [] X.env)).all (fun x=>x.1.isSome)
   &&decide ((e::es).length+([]:List Keyword).length+(if([]:List Keyword).isEmpty then 0 else 1)<30))=true:=by rfl)
  (hline:(apos.endLine==cpos.line)=true:=by rfl)(hs:starEach (e::es) X.env=(false,eval e X.env)::starEach es X.env:=by rfl)(hplain:(backTo cpos (starEach es X.env)).any (·.1)=false:=by rfl):
  PE X (.Call (.Attribute o name apos) (e::es) [] cpos) (tBM X.K T r to t):=by
 intro pins s σ H Q I h;refine wpAny_Call_method_late hbase hfew hline rfl (thn (ho pins s σ H _ I h) fun v s1 ⟨x,H1,I1,r1,ty,q1⟩=>?_)
 obtain⟨h1,h2⟩:=b6I I1 r1 ty;refine⟨T,id,pa,slot,hty,h1,h2,?_⟩;have hA:=ha cpos pins s1 σ H1 _ I1 q1;rw[hs]at hA ⊢;refine Calls.callWith_builtin (by show(false||(backTo cpos (starEach es X.env)).any (·.1))=false;rw[hplain]<;>rfl) (Calls.evalArgs_plain ?_)
 exact thn hA fun us s2 ⟨vs,H2,I2,r2,q2⟩=>hm pins s2 σ H2 x vs v us Q I2 r1 r2 q2
end
def MtM(X:Cx)(id:String)(r:V->List V->Hp->VK->Prop):Prop:=
 ∀(pins:OX) (s:Shared) (σ:St) (H:Hp) (x:V) (xs:List V) (v:Value) (us:List Value) (Q:VK),Inv X pins σ H s->v6_ x v->v5_ xs us->r x xs H Q->
  wpAny (model X.prog X.w) X.A (call (.builtin id) (v::us)) (EP X pins σ Q) X.xe s
theorem v5_.one:∀{x:V}{us:List Value},v5_ [x] us->∃u,us=[u]/\v6_ x u
 |_,_,.cons r .nil=>⟨_,rfl,r⟩
theorem v5_.rep{xs:List V}{us:List Value}(h:v5_ xs us):∀k:Nat,v5_ (List.replicate k xs).flatten (List.replicate k us).flatten
 |0=>.nil
 |k+1=>by
  rw[Zs,Zs,Ux,Ux];exact v5_.append h (v5_.rep h k)
theorem b0N(its:List Value):∀(k:Nat) (acc:List Value),
  List.foldl (fun x1 x2=>x1++x2) acc.toArray (List.replicate k its.toArray)=(acc++(List.replicate k its).flatten).toArray
 |0,acc=>by simp
 |k+1,acc=>by
  have e:acc.toArray++its.toArray=(acc++its).toArray:=by simp
  have e2:(acc++its)++(List.replicate k its).flatten=acc++(List.replicate (k+1) its).flatten:=by
   rw[Zs,Ux,Uo]
  rw[←e2,←b0N its k (acc++its),←e,Zs,List.foldl_cons]
section
variable{X:Cx}{pins:OX}{σ:St}{H:Hp}{s:Shared}{l b:Addr}{xs ys zs:List V}
theorem Inv.lset{its its':List Value}{n:Nat}{f:Array Value->Array Value}{t':Nat}(I:Inv X pins σ H s)(hH:H l=some (.lst xs))
  (e:s.heap.get? l=some {cls:=.type "list",data:=.seq its.toArray n})(hf:f its.toArray=its'.toArray)(hv:v5_ ys its')(hz:ys.length≤sizeLine):
  Inv X pins σ (upd H l (.lst ys)) {s with heap:=s.heap.update l (Obj.mapSeq f),toks:=t'}:=by
 have q:=PySem.IsL.update e f
 rw[hf]at q;refine I.write (x:=l) (e:=l) (by rw[hH];exact trivial) (.inl rfl) (fun b' u hb hu=>(Heap.get?_update_other s.heap (Obj.mapSeq f) (Za hb)).trans hu) ⟨_,q⟩ ?_
 exact⟨hz,its',_,hv,q⟩
theorem Inv.fresh(I:Inv X pins σ H s):H s.heap.objs.size=none:=I.hok.fresh (Qp _)
theorem Inv.lstM(I:Inv X pins σ H s)(hH:H l=some (.lst xs)):xs.length≤sizeLine/\∃(its:List Value) (n:Nat),v5_ xs its/\xs.length=its.length/\s.heap.get? l=some {cls:=.type "list",data:=.seq its.toArray n}:=by
 obtain⟨z,its,n,r,e⟩:=I.hok l _ hH;exact⟨z,its,n,r,r.length,e⟩
end
section
variable{X:Cx}
def b6K:V->List V->Hp->VK->Prop:=fun x vs H Q=>∃l xs y,x=.ref l/\vs=[y]/\H l=some (.lst xs)/\xs.length<sizeLine/\Q .non (upd H l (.lst (xs++[y])))
theorem b0O:MtM X "list.append" b6K:=by
 intro pins s σ H x vs v us Q I rx rv h;obtain⟨l,xs,y,rfl,rfl,hH,hz,q⟩:=h;cases rx;obtain⟨u,rfl,ru⟩:=rv.one;obtain⟨z,its,n,r,hl,e⟩:=I.lstM hH;refine Vg F.slot_list_append ⟨_,e,rfl⟩ F.entry_list_append (F.args_list_append_2 _ _) (PySem.list_append l its.toArray n u (by rw[Ql];omega)) ⟨e,?_⟩
 refine⟨.non,_,I.lset (its':=its++[u]) hH e (by simp) (r.append (.cons ru .nil)) ?_,rfl,q⟩
 rw[Zz,List.length_singleton]
 omega
theorem b0P{α:Type}(xs:List α)(k:Nat):(List.replicate k xs).flatten.length=k * xs.length:=by
 induction k with
 |zero=>simp
 |succ k ih=>rw[Zs,Ux,Zz,ih,Nat.succ_mul,Nat.add_comm]
end
section
variable{prog:Program}{w:World}{A:Around}{E:OE}{s:Shared}
set_option maxRecDepth 100000 in
end
section
variable{X:Cx}
end
end L2
namespace Att
open PySem PySem.W PySem.Calls PyProof.Rows
theorem ints_of_wellAll{P:Params}{h:Heap}:∀(ns:List Int) (vs:List Value),WellAll P h vs (ns.map WData.int)->IntsAre vs ns:=by
 intro ns
 induction ns with
 |nil=>
  intro vs w;rw[Uc]at w;cases w;exact .nil
 |cons n ns ih=>
  intro vs w;rw[Qy]at w;cases w with
  |cons a b=>
   cases a;exact .cons _ _ (ih _ b)
theorem script_of{l:OpenLaw}{n:Nat}(hn:l.most=some n){P:Params}{h:Heap}{args:List WData}{vals:List Value}
  (hpre:l.row.toRowW.claim.pre args=true)(hwl:WellAll P h vals args):
  ∃a vs ns,vals=[Value.ref a]/\args=[WData.list (ns.map WData.int)]/\h.get? a=some {cls:=.type "list",data:=.seq vs.toArray}/\IntsAre vs ns/\ns.length≤n:=by
 have hsh:WShape.hasAll [] args [.list .int]=true:=(pre_splitW hpre).1
 have hc:l.pre.holds [] {args:=args}=true:=(pre_splitW hpre).2
 obtain⟨d,r,rfl,h1,h2⟩:=hasAllW_cons hsh;obtain rfl:=hasAllW_nil h2;obtain⟨xs,rfl,h3⟩:=hasW_list h1;obtain⟨ns,rfl⟩:=items_int h3;have hlen:ns.length≤n:=by
  unfold OpenLaw.pre at hc;have h4:(WTm.not (.lt (.lit (.int (n:Int))) (.len (.arg 0)))).holds [] {args:=[.list (ns.map .int)]}=true:=by
   have h4:=(holds_andW hc).1
   rw[hn]at h4;exact h4
  have h5:=condW_of h4 (w_not (w_lt w_lit (w_len_list (w_arg rfl))))
  rw[Qw]at h5;refine Nat.le_of_not_lt fun q=>?_
  have q':(n:Int)<((ns.length:Nat):Int):=by omega
  first
   |(rw[Qe q']at h5;exact absurd h5 (by decide))
   |(simp at h5;omega)
 cases hwl with
 |cons w1 w2=>
  cases w2;cases w1 with
  |list ho hall=>exact⟨_,_,ns,rfl,rfl,ho,ints_of_wellAll ns _ hall,hlen⟩
theorem post_true(l:OpenLaw)(args:List WData):l.row.toRowW.claim.post args (.bool true) args=true:=
 postW_of (r:=l.row.toRowW) (X:=(true==true))
  (show WShape.has [] (.bool true) .bool=true by first|rfl|decide|simp[WShape.has,WShape.arms,WShape.armsAll])
  (show(WTm.eq .res (.lit (.bool true))).value [] {args:=args,res:=some (.bool true),after:=args}=some (.bool (true==true))from w_eq_bool (w_res rfl) w_lit) rfl
theorem attach_call{l:OpenLaw}{n:Nat}{q:Program}{loose:List Str}{XP:(OU)->Heap->Prop}{YP:World->Heap->Prop}{d:DefRec}
  (hn:l.most=some n)(hdf:d.params.defaults=[])
  (call:∀(w:World) (s₀ s₁:Shared) (mg mb:OU) (fa:Addr) (o:Obj) (pm cd doc:Value) (a:Addr) (vs:List Value) (ns:List Int),
   Ground q loose [] XP w s₀ mg mb s₁.heap->YP w s₁.heap->
   s₁.heap.get? fa=some o->o.data=.func (docDef d.name d.params d.body d.scope pm cd doc)->s₁.heap.CodeRec cd d.name->mg d.name=some (.ref fa)->
   s₁.heap.get? a=some {cls:=.type "list",data:=.seq vs.toArray}->IntsAre vs ns->ns.length≤n->s₁.gens= #[]->
   codeAny (model l.prog w) callerA (.call (.ref fa) ⟨[.ref a],[]⟩) (fun r s'=>r=.ok (.ret (.bool true))/\OldK s₁.heap s'.heap/\s'.os=s₁.os/\AllBare s'.gens) s₁):
  WalkO q loose XP YP l.row.toRowW d [] (fun f vs=>PySem.call f vs):=by
 intro w s₀ s₁ mg mb G Y fa o pm cd doc dV kV ho hd hcd hD hmg hg args vals as hpre hlay hrd hwl hlo;obtain rfl:dV=.none:=Dflts.none hD hdf;obtain rfl:kV=.none:=Dflts.noKw hD;obtain⟨a,vs,ns,rfl,rfl,hobj,hints,hlen⟩:=script_of hn hpre hwl;refine enter_call (codeAny_mono (call w s₀ s₁ mg mb fa o pm cd doc a vs ns G Y ho (fd_plain hd) hcd hmg hobj hints hlen hg) fun r s' hq=>?_)
 obtain⟨rfl,h2,h3,h4⟩:=hq;exact⟨.inl ⟨.bool true,.bool true,[],rfl,fun _=>rfl,.bool true,post_true l _,fun _=>⟨List.Pairwise.nil,fun _ hm=>(nomatch hm)⟩⟩,h2,h3,h4⟩
section
variable{prog:Program}{w:World}{A:Around}{E:OE}{s:Shared}{K:Frag}
end
end Att
namespace L2
open PySem PySem.Spec PyProof.Rows
theorem b0Q:∀{vs:List Value}{ns:List Int},IntsAre vs ns->v5_ (ns.map V.int) vs
 |_,_,.nil=>.nil
 |_,_,.cons n t h=>.cons ⟨t,rfl⟩ (b0Q h)
def a7n(H:Hp):Prop:=∀b,H b=none∨ ∃o xs,H b=some (.frz o (.lst xs))
theorem b6L{P:Program}{w:World}{K:Qq}{mg mb:OU}{CX:CXT}{k:Nat}{fa a:Addr}{fd:FuncData}{x:Str}{sp:Sp}{s₁:Shared}{vs:List Value}{ns:List Int}
  (KX:K.In s₁.heap)(hns:s₁.heap.Ns mainGlobals mg)(hb:s₁.heap.Ns builtinsNs mb)(hbb:∀x:Str,x≠"__name__"->mb x=bootBuiltins x)(hlim:s₁.heap.NoLimit)(hg:s₁.gens= #[])
  (ha:s₁.heap.get? a=some {cls:=.type "list",data:=.seq vs.toArray})(hi:IntsAre vs ns)(hl:ns.length≤sizeLine)(hr:Room k callerA)
  (F:∀base:Heap,K.In base->base.Ns mainGlobals mg->FnOk P w K mg base CX k fa fd [x] sp)(hbind:∀(s:Shared) (u:Value),BindsTo s fd ⟨[u],[]⟩ [(x,u)])
  (hsp:∀H:Hp,a7n H->SqL K H a (ns.map V.int)->sp [.ref a] H (fun v _=>v=.bl true) fun _ _ _=>False)
  (hCX:∀H e s',CX [] H s₁ (fun _ _ _=>False) e s'->False):
  codeAny (model P w) callerA (.call (.ref fa) ⟨[.ref a],[]⟩) (fun r s'=>r=.ok (.ret (.bool true))/\OldK s₁.heap s'.heap/\s'.os=s₁.os/\AllBare s'.gens) s₁:=by
 have rv:=b0Q hi
 have lenV:=hi.length
 have core:∀H:Hp,a7n H->SqL K H a (ns.map V.int)->HOk P w H s₁.heap->(∀b,H b≠none->b=a)->(H a≠none->K.lookup a=none)->
   codeAny (model P w) callerA (.call (.ref fa) ⟨[.ref a],[]⟩) (fun r s'=>r=.ok (.ret (.bool true))/\OldK s₁.heap s'.heap/\s'.os=s₁.os/\AllBare s'.gens) s₁:=by
  intro H hO hS hok hA hK;have base_of:∀{b:Addr}{o:Obj},s₁.heap.get? b=some o->H b=none->(a1G s₁.heap H).get? b=some o:=fun e n=>b4O e n
  have noA:∀{b:Addr}{o:Obj}{es:Array DictEntry}{ep:Nat},s₁.heap.get? b=some o->o.data=.dict es ep->H b=none:=fun{b o es ep} e d=>by
   cases q:H b with
   |none=>rfl
   |some u=>
    have e':b=a:=hA b (by rw[q];simp)
    subst e';rw[ha]at e;cases e;have d':Data.seq vs.toArray _=Data.dict es ep:=d;cases d'
  have nsK:∀{b:Addr}{m:OU},s₁.heap.Ns b m->(a1G s₁.heap H).Ns b m:=fun{b m} ⟨o,es,ep,e,d,r⟩=>⟨o,es,ep,base_of e (noA e d),d,r⟩
  have hKb:K.In (a1G s₁.heap H):=fun b o e=>base_of (KX b o e) (by
   cases q:H b with
   |none=>rfl
   |some u=>
    have e':b=a:=hA b (by rw[q];simp)
    subst e';rw[hK (by rw[q];simp)]at e;cases e)
  have hM:Mod K mg (a1G s₁.heap H):=⟨hKb,nsK hns,⟨mb,nsK hb,hbb⟩,let ⟨mc,h1,h2⟩:=hlim;⟨mc,nsK h1,h2⟩⟩
  have e0:Env0 P w K mg (a1G s₁.heap H) callerA [] s₁ H:=⟨rfl,hM,fun b o e=>b4P e,Nat.le_of_eq (b4N _ _),trivial,fun b hb=>absurd (show b∈([]:List Addr)from hb) (by simp),hok,.of_eq hg⟩
  refine codeAny_mono ((F _ hKb (nsK hns)).run callerA [] s₁ H ⟨[.ref a],[]⟩ [.ref a] [.ref a] _ _ hr e0 (hbind s₁ (.ref a)) (.cons rfl .nil) (hsp H hO hS)) fun r s' h=>?_
  cases r with
  |error e=>exact(hCX H e s' h).elim
  |ok fl=>
   cases fl with
   |next=>exact False.elim h
   |brk=>exact False.elim h
   |cont=>exact False.elim h
   |ret u=>
    obtain⟨v,H',os,bare,un,hok',r',q⟩:=h;have q':v=.bl true:=q;subst q';obtain rfl:u=Value.bool true:=r';refine⟨rfl,OldK.of_keep fun b o e=>?_,os,bare⟩
    cases q:H b with
    |none=>exact un.keep b o e q (by intro z;exact absurd (show b∈([]:List Addr)from z) (by simp)) (by simp)
    |some u=>
     rcases hO b with z|⟨ob,xs,z⟩
     ·rw[q]at z;cases z
     ·have z2:=un.frzs b ob _ z
      obtain⟨e1,_⟩:=hok b _ z;obtain⟨e2,_⟩:=hok' b _ z2;rw[e]at e1;cases e1;exact e2
 cases hk:K.lookup a with
 |some o=>
  have e:=KX a o hk
  rw[ha]at e;cases e;refine core (fun _=>none) (fun _=>.inl rfl) (.inr ⟨_,vs.toArray,_,hk,rfl,rfl,rfl,by rw[Ql,lenV];exact hl,by simpa using rv⟩) (fun b u z=>by have z':(none:Option HO)=some u:=z;cases z') (fun b z=>absurd rfl z) fun z=>absurd rfl z
 |none=>
  refine core (fun b=>if b=a then some (.frz {cls:=.type "list",data:=.seq vs.toArray} (.lst (ns.map V.int)))else none) (fun b=>?_) (.inl (.inr ⟨{cls:=.type "list",data:=.seq vs.toArray},Qg rfl⟩)) (fun b u z=>?_) (fun b z=>?_) fun _=>hk
  ·by_cases hb:b=a
   ·exact .inr ⟨_,_,Qg hb⟩
   ·exact .inl (Qt hb)
  ·by_cases hb:b=a
   ·have z':=(Qg hb).symm.trans z
    cases z';subst hb;exact⟨ha,by rw[Qw];exact hl,vs,_,rv,ha⟩
   ·have z':=(Qt hb).symm.trans z
    cases z'
  ·by_cases hb:b=a
   ·exact hb
   ·exact absurd (Qt hb) z
theorem b6M{l:PySem.W.OpenLaw}{n k:Nat}{q:Program}{loose:List Str}{XP:(OU)->Heap->Prop}{YP:World->Heap->Prop}{d:DefRec}{K:Params->Qq}{CX:World->CXT}{sp:World->Sp}{x:Str}
  (hn:l.most=some n)(hn2:n≤sizeLine)(hdf:d.params.defaults=[])(hr:Room k callerA)
  (hY:∀(w:World) (h:Heap),YP w h->(K w.params).In h)
  (F:∀(w:World) (mg:OU) (fa:Addr) (h:Heap),(K w.params).In h->h.Ns mainGlobals mg->mg d.name=some (.ref fa)->
   ∃fd:FuncData,(∀(s:Shared) (u:Value),BindsTo s fd ⟨[u],[]⟩ [(x,u)])/\
    ∀base:Heap,(K w.params).In base->base.Ns mainGlobals mg->FnOk l.prog w (K w.params) mg base (CX w) k fa fd [x] (sp w))
  (hsp:∀(w:World) (H:Hp) (a:Addr) (ns:List Int),ns.length≤n->a7n H->SqL (K w.params) H a (ns.map V.int)->sp w [.ref a] H (fun v _=>v=.bl true) fun _ _ _=>False)
  (hCX:∀(w:World) (H:Hp) (s:Shared) (e:Value) (s':Shared),CX w [] H s (fun _ _ _=>False) e s'->False):
  PySem.W.WalkO q loose XP YP l.row.toRowW d [] (fun f vs=>PySem.call f vs):=by
 refine Att.attach_call hn hdf fun w s₀ s₁ mg mb fa o pm cd doc a vs ns G Y ho hd hcd hmg hobj hints hlen hg=>?_
 have KX:=hY w _ Y
 obtain⟨fd,hb,hF⟩:=F w mg fa _ KX G.T.g hmg;exact b6L KX G.T.g G.T.b G.T.builtins G.T.nolimit hg hobj hints (Yj hlen hn2) hr hF hb (fun H hO hS=>hsp w H a ns hlen hO hS) fun H e s'=>hCX w H s₁ e s'
def a2C(s:Stmt):Arguments:=match s with
 |.FunctionDef _ a _ _ _ _ _ _ _ _=>a
 |_=>{posonlyargs:=[],args:=[],vararg:=none,kwonlyargs:=[],kw_defaults:=[],kwarg:=none,defaults:=[]}
def a1H(s:Stmt):List Stmt:=match s with
 |.FunctionDef _ _ b _ _ _ _ _ _ _=>b
 |_=>[]
def y1_(s:Stmt):Scope:=match s with
 |.FunctionDef _ _ _ _ _ _ sc _ _ _=>sc
 |_=>{kind:=.function,names:=[],isGenerator:=false,isCoroutine:=false}
abbrev CX0:CXT:=fun _ _ _ _ _ _=>False
abbrev E0:XK:=fun _ _ _=>False
theorem a7o{X:Cx}:a5r CX0 X E0:=fun _ _ _ _ _ _ _ h=>h.elim
structure Fun(K:Qq)(x qual:Str)(st:Stmt)(f:Addr)(fd:FuncData):Prop where
 ex:∃(oc:Value) (od:Option Addr) (kV doc pm:Value) (an:Option Addr) (cdv ct:Value) (osl:Array (Option Value)),
  fd=PySem.W.fnOf x qual (a2C st) (a1H st) (y1_ st) .none kV doc pm an cdv ct/\K.lookup f=some ⟨oc,od,.func fd,osl⟩/\PySem.W.codeIn K cdv qual=true
 kp:PySem.W.keepIn K (.ref f)=true
section
variable{P:Program}{w:World}{K:Qq}{mg:OU}{base:Heap}
theorem Fun.ok{x qual:Str}{st:Stmt}{f:Addr}{fd:FuncData}{N ps:List Str}{k:Nat}{sp:Sp}(F:Fun K x qual st f fd)(S:FnScope N ps (y1_ st))(len:∀vs H Q E,sp vs H Q E->vs.length=ps.length)
  (hbody:∀(cdv:Value) (A:Around) (outer:List Env) (s:Shared) (H:Hp) (vs:List V) (Q:VK) (E:XK),Room k (A.deeper (envOfC qual (y1_ st) s.heap.objs.size f cdv))->sp vs H Q E->
   ∃t,PSs (a2y CX0 P w K mg base N qual (y1_ st) f cdv A outer s H E).nox (a1H st) t/\t {nx:=fun _ H'=>Q .non H',rt:=Q} (start N vs) H):FnOk P w K mg base CX0 (k+1) f fd ps sp:=by
 obtain⟨oc,od,kV,doc,pm,an,cdv,ct,osl,rfl,lk,hcd⟩:=F.ex;refine b6r lk hcd S len fun A outer s H vs Q E hr hsp=>?_
 obtain⟨t,h,q⟩:=hbody cdv A outer s H vs Q E hr hsp;exact⟨t,h.nox,q⟩
theorem Fun.binds{x qual:Str}{st:Stmt}{f:Addr}{fd:FuncData}{ps:List Str}(F:Fun K x qual st f fd)
  (h:∀(kV doc pm:Value) (an:Option Addr) (cdv ct:Value) (us:List Value),us.length=ps.length->bindArgs (PySem.W.fnOf x qual (a2C st) (a1H st) (y1_ st) .none kV doc pm an cdv ct) ⟨us,[]⟩=pure (ps.zip us)):a0s K fd ps []:=by
 obtain⟨oc,od,kV,doc,pm,an,cdv,ct,osl,rfl,lk,hcd⟩:=F.ex;exact .all (h kV doc pm an cdv ct)
theorem b6N{x qual:Str}{st:Stmt}{f:Addr}{oc:Value}{od an:Option Addr}{osl:Array (Option Value)}{kV doc pm cdv ct:Value}(l:K.lookup f=some ⟨oc,od,.func (PySem.W.fnOf x qual (a2C st) (a1H st) (y1_ st) .none kV doc pm an cdv ct),osl⟩)
  (c:PySem.W.codeIn K cdv qual=true)(k:PySem.W.keepIn K (.ref f)=true):Fun K x qual st f (PySem.W.fnOf x qual (a2C st) (a1H st) (y1_ st) .none kV doc pm an cdv ct):=⟨⟨oc,od,kV,doc,pm,an,cdv,ct,osl,rfl,l,c⟩,k⟩
end
theorem a7p{n:Nat}(h:n≤1000):n<sizeLine:=Vo h (by decide)
section
variable{X:Cx}
theorem pv(i:Nat){x:Str}{pos:Pos}(hN:X.N[i]? =some x:=by rfl)(hv:Vis X.env.scope x:=by first|exact Or.inl rfl|exact Or.inr (Or.inl rfl)|exact Or.inr (Or.inr rfl))(hd:(x==("__debug__":Str))=false:=by decide)
  (hcd:(x==("__classdict__":Str))=false:=by decide):PE X (.Name x pos) (a0D i):=b4S hN hv hd hcd
end
section
variable{κ:Type}[DecidableEq κ]
def a0Q(kvs:List (κ×V))(k:κ):Option V:=(kvs.find? fun kv=>decide (kv.1=k)).map (·.2)
def a0F(kvs:List (κ×V))(k:κ)(v:V):List (κ×V):=
 if(kvs.any fun kv=>decide (kv.1=k))=true then kvs.map (fun kv=>if kv.1=k then(kv.1,v)else kv)else kvs++[(k,v)]
theorem a5u{p:κ×V}{r:List (κ×V)}{k:κ}(e:p.1=k):a0Q (p::r) k=some p.2:=by simp[a0Q,Vf,e]
theorem a5v{p:κ×V}{r:List (κ×V)}{k:κ}(e:¬ p.1=k):a0Q (p::r) k=a0Q r k:=by simp[a0Q,Vf,e]
theorem a7q(k:κ):∀kvs:List (κ×V),(kvs.any fun kv=>decide (kv.1=k))=(a0Q kvs k).isSome
 |[]=>rfl
 |p::r=>by
  rw[Xz]
  by_cases e:p.1=k
  ·simp only[a5u e,Qe e,Bool.true_or,Option.isSome_some]
  ·rw[a5v e,Qs e,Xj];exact a7q k r
theorem a7r(kvs:List (κ×V))(k:κ)(v:V):(a0F kvs k v).length≤kvs.length+1:=by
 unfold a0F;split
 ·rw[Qw];omega
 ·rw[Zz,Zk,Ju];omega
end
theorem a1q.isSome_eq{o:Option V}{u:Option Value}(r:a1q o u):o.isSome=u.isSome:=by
 cases o with
 |none=>cases u with
  |none=>rfl
  |some _=>exact(show False from r).elim
 |some _=>cases u with
  |none=>exact(show False from r).elim
  |some _=>rfl
theorem b6O{P:Program}{w:World}{k:Key}{u:Value}(r:v6_ (kV k) u):(a0j P w).is k u=true:=by
 cases k with
 |inl i=>obtain⟨t,e⟩:=(show∃t,u=Value.int i t from r);subst e;exact b4L P w i t
 |inr x=>obtain⟨t,e⟩:=(show∃t,u=Value.str x t from r);subst e;exact b4M P w x t
theorem a7s{P:Program}{w:World}:∀{ks:List Key}{us:List Value},v5_ (ks.map kV) us->ItemsAre (a0j P w) ks us
 |[],_,r=>by rw[Uc]at r;cases r;exact .nil
 |k::ks,_,r=>by
  rw[Qy]at r;cases r with
  |cons h t=>exact .cons (b6O h) (a7s t)
abbrev KT(C:Addr->List Key->Prop)(H:Hp):List (List Key×V)->List (List Key×Addr×Value)->Prop:=Paired fun p q=>p.1=q.1/\(H q.2.1=some (.tup (p.1.map kV))∨C q.2.1 p.1)/\v6_ p.2 q.2.2
theorem KT.val{C:Addr->List Key->Prop}{H:Hp}{kvs:List (List Key×V)}{xs:List (List Key×Addr×Value)}(r:KT C H kvs xs)(k:List Key):a1q (a0Q kvs k) ((atKey xs k).map (·.2)):=by
 induction r with
 |nil=>exact True.intro
 |@cons p q ps qs h t ih=>
  obtain⟨h1,_,h2⟩:=h
  by_cases e:p.1=k
  ·have e':q.1=k:=h1.symm.trans e
   have b:atKey (q::qs) k=some q.2:=by simp[atKey,Vf,e']
   rw[a5u e,b];exact h2
  ·have e':¬ q.1=k:=fun z=>e (h1.trans z)
   have b:atKey (q::qs) k=atKey qs k:=by simp[atKey,Vf,e']
   rw[a5v e,b];exact ih
theorem KT.repl{C:Addr->List Key->Prop}{H:Hp}{kvs:List (List Key×V)}{xs:List (List Key×Addr×Value)}(r:KT C H kvs xs)(k:List Key){y:V}{u:Value}(ry:v6_ y u):
  KT C H (kvs.map fun kv=>if kv.1=k then(kv.1,y)else kv) (xs.map (putAt k u)):=by
 induction r with
 |nil=>exact .nil
 |@cons p q ps qs h t ih=>
  rw[Qy,Qy];refine .cons ?_ ih;obtain⟨h1,h2,h3⟩:=h;unfold putAt
  by_cases e:p.1=k
  ·rw[Qg e,Qg (h1.symm.trans e)];exact⟨h1,h2,ry⟩
  ·rw[Qt e,Qt (fun z=>e (h1.trans z))];exact⟨h1,h2,h3⟩
theorem KT.put{C:Addr->List Key->Prop}{H:Hp}{kvs:List (List Key×V)}{xs:List (List Key×Addr×Value)}(r:KT C H kvs xs)(k:List Key){b:Addr}{y:V}{u:Value}(hb:H b=some (.tup (k.map kV))∨C b k)(ry:v6_ y u):
  KT C H (a0F kvs k y) (storedH xs k b u):=by
 have e:(kvs.any fun kv=>decide (kv.1=k))=(atKey xs k).isSome:=by
  rw[a7q,(r.val k).isSome_eq,Xy]
 unfold a0F storedH;rw[e]
 by_cases q:(atKey xs k).isSome=true
 ·rw[Qg q,Qg q];exact r.repl k ry
 ·rw[Qt q,Qt q];exact Paired.snoc r ⟨rfl,hb,ry⟩
theorem KT.keeps{C:Addr->List Key->Prop}{H H':Hp}{kvs:List (List Key×V)}{xs:List (List Key×Addr×Value)}(r:KT C H kvs xs)(ht:∀b ys,H b=some (.tup ys)->H' b=some (.tup ys)):KT C H' kvs xs:=
 Paired.mapP r fun _ _ z=>⟨z.1,z.2.1.imp (ht _ _) id,z.2.2⟩
section
variable{P:Program}{w:World}{H:Hp}{h:Heap}{a:Addr}
theorem b6P{ks:List Key}(ok:HOk P w H h)(e:H a=some (.tup (ks.map kV))):(tupleKind (a0j P w)).is h ks a:=by
 obtain⟨_,its,r,o,h1,h2,_,n,h3⟩:=(show w3_ P w H h a (.tup (ks.map kV))from ok a _ e)
 exact⟨o,its.toArray,n,h1,h2,h3,by simpa using a7s r⟩
end
section
variable{X:Cx}{pins:OX}{σ:St}{H:Hp}{s:Shared}{a:Addr}{y v:V}{u r:Value}{o:Option V}{A:Around}{E:OE}
theorem b0R{h':Heap}{t':Nat}{ob:HO}(I:Inv X pins σ H s)(mu:Mut (H a))(hs:Heap.SameBut a s.heap h')(he:∃q,h'.get? a=some q)(new:w3_ X.prog X.w (upd H a ob) h' a ob):
  Inv X pins σ (upd H a ob) {s with heap:=h',toks:=t'}:=
 I.write (x:=a) (e:=a) mu (.inl rfl) (fun b q hb z=>(hs.2 b hb).trans z) he new
end
def b6Q(i:Expr):Prop:=∀ov iv,subscripted i false ov iv=operate [ov,iv] (getItem ov iv)
theorem b0S{prog:Program}{w:World}{A:Around}{E:OE}{s:Shared}{env:Env}{value slice:Expr}{pos:Pos}{T id:String}{Q:OE}
  (hl:typeLookup (.type T) "__getitem__"=pure (some (.builtin id)))(hs:b6Q slice)
  (h:wpAny (model prog w) A (eval value env) (fun o s₁=>wpAny (model prog w) A (eval slice env) (fun i s₂=>s₂.TypeIs o T/\wpAny (model prog w) A (getItem o i) Q E s₂) E s₁) E s):
  wpAny (model prog w) A (eval (.Subscript value slice pos) env) Q E s:=by
 refine Subscript_ (Zy h (fun o s₁ h₁=>Zy h₁ (fun i s₂ h₂=>?_) fun _ _ x=>x) fun _ _ x=>x)
 obtain⟨hT,h₂⟩:=h₂;unfold subscriptTail;refine Qz ?_
 rw[getitemInPython_of_ne hT.not_modules];refine Qz (wpAny_specialOf hT hl ?_);have fin:wpAny (model prog w) A (subscripted slice false o i) (fun r s₃=>wpAny (model prog w) A (letTemporaryGo value o r>>=fun _=>pure r) Q E s₃) E s₂:=by
  rw[hs o i];exact wpAny_operating (Zy h₂ (fun r s₃ h₃=>Qz (wpAny_letTemporaryGo (Qv h₃))) fun _ _ x=>x)
 first
  |exact Qv (Qz fin)
  |exact Qz (Qv (Qz fin))
  |exact Qz fin
theorem Inv.big(I:Inv X pins σ H s):sysModules<s.heap.objs.size:=by
 have h:mainGlobals<s.heap.objs.size:=(I.mod.glob.keeps I.bk).lt
 exact Ul (by decide) h
end L2
namespace L2.Mir
open PySem PySem.Spec PyProof.Rows
inductive KX where
 |t (ns:List Int)|p (ns:List Int) (m:Int)
 deriving Inhabited,DecidableEq
def KX.kind:KX->Bool
 |.t _=>false
 |.p _ _=>true
def b0T(ns:List Int):Int:=reduceHash (Builtin.Tuple.tupleHashOf (ns.map hashInt))
def b6R:KX->Int
 |.t ns=>b0T ns
 |.p ns m=>reduceHash (Builtin.Tuple.tupleHashOf [b0T ns,hashInt m])
inductive Ob where
 |exc (n:Str)|fn (n:Str)|dk (kvs:List (Key×Key))|dt (kvs:List (Str×List Int))
 deriving Inhabited
inductive D where
 |non|bl (b:Bool)|int (i:Int)|str (x:Str)|tup (ds:List D)|lst (ds:List D)|emp|obj (o:Ob)|dct (ks:OI) (vs:List D)|dcx (ks:List KX) (vs:List D)
 deriving Inhabited
def b6S(K:Qq)(t:Value):Prop:=∀T∈(["tuple","list","int","bool","str"]:List String),PySem.W.kitOne K t (.type T)=some false
def SqU(K:Qq)(G:Hp)(a:Addr)(xs:List V):Prop:=G a=some (.tup xs)∨ ∃(o:Obj) (its:Array Value) (n:Nat),K.lookup a=some o/\o.cls=.type "tuple"/\o.dict=none/\o.data=.seq its n/\its.size≤sizeLine/\v5_ xs its.toList
theorem SqU.t{K:Qq}{G:Hp}{a:Addr}{xs:List V}(h:SqU K G a xs):SqT K G a xs:=h.imp (fun e=>.inl e) id
def a3j(K:Qq)(G:Hp):List (Key×V)->List (Str×List Int)->Prop
 |[],[]=>True
 |p::ps,q::qs=>p.1=.inr q.1/\(∃a,p.2=.ref a/\SqU K G a (q.2.map V.int))/\a3j K G ps qs
 |_,_=>False
def a5w(K:Qq)(G:Hp)(v:V):Ob->Prop
 |.exc n=>∃a C HP,v=.ref a/\PySem.W.nsIn K mainGlobals n=some (some (.ref C))/\G a=some (.ext HP)/\PySem.W.KitX K (.ref a) (.ref C) HP/\b6S K (.ref C)
 |.fn n=>∃f,v=.ref f/\PySem.W.nsIn K mainGlobals n=some (some (.ref f))/\PySem.W.KitX K (.ref f) (.type "function") (fun _=>True)
 |.dk kvs=>∃a,v=.ref a/\G a=some (.dK (kvs.map fun p=>(p.1,kV p.2)))
 |.dt kvs=>∃a ps,v=.ref a/\G a=some (.dK ps)/\a3j K G ps kvs
abbrev k7_(k:List Int):List Key:=k.map Sum.inl
def x5_(K:Qq):Addr->List Key->Prop:=fun b k=>SqU K (fun _=>none) b (k.map kV)
def a4k(K:Qq)(G:Hp)(v:Value):KX->Prop
 |.t ns=>∃b,v=.ref b/\SqU K G b (ns.map V.int)
 |.p ns m=>∃b c,v=.ref b/\SqU K G b [.ref c,.int m]/\SqU K G c (ns.map V.int)
inductive EsK (K:Qq) (G:Hp):List DictEntry->List KX->List V->Prop
 |nil:EsK K G [] [] []
 |cons {e:DictEntry}{es:List DictEntry}{k:KX}{ks:List KX}{x:V}{xs:List V}(h1:e.hash=b6R k) (h2:a4k K G e.key k) (h3:v6_ x e.val) (t:EsK K G es ks xs):EsK K G (e::es) (k::ks) (x::xs)
def b0U(ks:List KX):Prop:=(∃n,∀k∈ks,k.kind=n)/\ks.Nodup
mutual
def Rep(K:Qq)(G:Hp):V->D->Prop
 |v,.non=>v=.non
 |v,.bl b=>v=.bl b
 |v,.int i=>v=.int i
 |v,.str x=>v=.str x/\x.length≤sizeLine
 |v,.tup ds=>∃a xs,v=.ref a/\SqU K G a xs/\z8_ K G xs ds
 |v,.lst ds=>∃a xs,v=.ref a/\SqL K G a xs/\z8_ K G xs ds
 |v,.emp=>∃a kvs,v=.ref a/\G a=some (.dK kvs)
 |v,.obj o=>a5w K G v o
 |v,.dct ks vs=>∃a kvs,v=.ref a/\G a=some (.dT (x5_ K) kvs)/\kvs.map (·.1)=ks.map k7_/\z8_ K G (kvs.map (·.2)) vs
 |v,.dcx ks vs=>∃a es ep xs,v=.ref a/\G a=some (.dX es ep)/\EsK K G es.toList ks xs/\b0U ks/\z8_ K G xs vs
def z8_(K:Qq)(G:Hp):List V->List D->Prop
 |xs,[]=>xs=[]
 |xs,d::ds=>∃x r,xs=x::r/\Rep K G x d/\z8_ K G r ds
end
def Le(G G':Hp):Prop:=∀b o,G b=some o->G' b=some o
theorem Le.refl{G:Hp}:Le G G:=fun _ _ e=>e
theorem Le.trans{G G1 G2:Hp}(a:Le G G1)(b:Le G1 G2):Le G G2:=fun x o e=>b x o (a x o e)
theorem Le.upd{G:Hp}{a:Addr}{o:HO}(h:G a=none):Le G (upd G a o):=fun b u e=>by rw[v9_ (a0a e h)];exact e
theorem Le.sqU{K:Qq}{G G':Hp}(l:Le G G'){a:Addr}{xs:List V}(h:SqU K G a xs):SqU K G' a xs:=h.imp (fun e=>l _ _ e) id
theorem Le.sqT{K:Qq}{G G':Hp}(l:Le G G'){a:Addr}{xs:List V}(h:SqU K G a xs):SqT K G' a xs:=(l.sqU h).t
theorem Le.sqT'{K:Qq}{G G':Hp}(l:Le G G'){a:Addr}{xs:List V}(h:SqT K G a xs):SqT K G' a xs:=by
 rcases h with h|h
 ·rcases h with h|⟨o,h⟩
  ·exact .inl (.inl (l _ _ h))
  ·exact .inl (.inr ⟨o,l _ _ h⟩)
 ·exact .inr h
theorem Le.sqL{K:Qq}{G G':Hp}(l:Le G G'){a:Addr}{xs:List V}(h:SqL K G a xs):SqL K G' a xs:=by
 rcases h with h|h
 ·rcases h with h|⟨o,h⟩
  ·exact .inl (.inl (l _ _ h))
  ·exact .inl (.inr ⟨o,l _ _ h⟩)
 ·exact .inr h
theorem a3j.mono{K:Qq}{G G':Hp}(l:Le G G'):∀{ps:List (Key×V)}{qs:List (Str×List Int)},a3j K G ps qs->a3j K G' ps qs
 |[],[],_=>trivial
 |_::_,_::_,⟨h1,⟨a,h2,h3⟩,h4⟩=>⟨h1,⟨a,h2,l.sqU h3⟩,a3j.mono l h4⟩
theorem a5w.mono{K:Qq}{G G':Hp}(l:Le G G'){v:V}:∀{o:Ob},a5w K G v o->a5w K G' v o
 |.exc n,⟨a,C,HP,h1,h2,h3,h4⟩=>⟨a,C,HP,h1,h2,l _ _ h3,h4⟩
 |.fn n,h=>h
 |.dk kvs,⟨a,h1,h2⟩=>⟨a,h1,l _ _ h2⟩
 |.dt kvs,⟨a,ps,h1,h2,h3⟩=>⟨a,ps,h1,l _ _ h2,h3.mono l⟩
theorem a4k.mono{K:Qq}{G G':Hp}(l:Le G G'){v:Value}:∀{k:KX},a4k K G v k->a4k K G' v k
 |.t ns,⟨b,e,h⟩=>⟨b,e,l.sqU h⟩
 |.p ns m,⟨b,c,e,h,g⟩=>⟨b,c,e,l.sqU h,l.sqU g⟩
theorem EsK.mono{K:Qq}{G G':Hp}(l:Le G G'){es:List DictEntry}{ks:List KX}{xs:List V}(h:EsK K G es ks xs):EsK K G' es ks xs:=by
 induction h with
 |nil=>exact .nil
 |cons h1 h2 h3 _ ih=>exact .cons h1 (h2.mono l) h3 ih
mutual
theorem Rep.mono{K:Qq}{G G':Hp}(l:Le G G'):∀(d:D) {v:V},Rep K G v d->Rep K G' v d
 |.non,_,h=>by simpa only[Rep]using h
 |.bl b,_,h=>by simpa only[Rep]using h
 |.int i,_,h=>by simpa only[Rep]using h
 |.str x,_,h=>by simpa only[Rep]using h
 |.tup ds,_,h=>by
  simp only[Rep]at h ⊢;obtain⟨a,xs,e,q,r⟩:=h;exact⟨a,xs,e,l.sqU q,z8_.mono l ds r⟩
 |.lst ds,_,h=>by
  simp only[Rep]at h ⊢;obtain⟨a,xs,e,q,r⟩:=h;exact⟨a,xs,e,l.sqL q,z8_.mono l ds r⟩
 |.emp,_,h=>by
  simp only[Rep]at h ⊢;obtain⟨a,kvs,e,q⟩:=h;exact⟨a,kvs,e,l _ _ q⟩
 |.obj o,_,h=>by
  simp only[Rep]at h ⊢;exact h.mono l
 |.dct ks vs,_,h=>by
  simp only[Rep]at h ⊢;obtain⟨a,kvs,e,q,k,r⟩:=h;exact⟨a,kvs,e,l _ _ q,k,z8_.mono l vs r⟩
 |.dcx ks vs,_,h=>by
  simp only[Rep]at h ⊢;obtain⟨a,es,ep,xs,e,q,k,o,r⟩:=h;exact⟨a,es,ep,xs,e,l _ _ q,k.mono l,o,z8_.mono l vs r⟩
theorem z8_.mono{K:Qq}{G G':Hp}(l:Le G G'):∀(ds:List D) {xs:List V},z8_ K G xs ds->z8_ K G' xs ds
 |[],_,h=>by simpa only[z8_]using h
 |d::ds,_,h=>by
  simp only[z8_]at h ⊢;obtain⟨x,r,e,q,t⟩:=h;exact⟨x,r,e,Rep.mono l d q,z8_.mono l ds t⟩
end
theorem repL_nil{K:Qq}{G:Hp}:z8_ K G [] []:=by simp only[z8_]
theorem repL_cons{K:Qq}{G:Hp}{x:V}{xs:List V}{d:D}{ds:List D}(h:Rep K G x d)(t:z8_ K G xs ds):z8_ K G (x::xs) (d::ds):=by
 simp only[z8_];exact⟨x,xs,rfl,h,t⟩
theorem z8_.length{K:Qq}{G:Hp}:∀{ds:List D}{xs:List V},z8_ K G xs ds->xs.length=ds.length
 |[],_,h=>by simp only[z8_]at h;subst h;rfl
 |d::ds,_,h=>by
  simp only[z8_]at h;obtain⟨x,r,e,q,t⟩:=h;subst e
  simp[z8_.length t]
theorem z8_.append{K:Qq}{G:Hp}:∀{ds es:List D}{xs ys:List V},z8_ K G xs ds->z8_ K G ys es->z8_ K G (xs++ys) (ds++es)
 |[],_,_,_,h,t=>by simp only[z8_]at h;subst h;exact t
 |d::ds,_,_,_,h,t=>by
  simp only[z8_]at h;obtain⟨x,r,e,q,u⟩:=h;subst e;exact repL_cons q (z8_.append u t)
theorem z8_.get{K:Qq}{G:Hp}:∀{ds:List D}{xs:List V}{i:Nat}{d:D},z8_ K G xs ds->ds[i]? =some d->∃x,xs[i]? =some x/\Rep K G x d
 |[],_,i,d,h,e=>by simp at e
 |d::ds,_,i,d',h,e=>by
  simp only[z8_]at h;obtain⟨x,r,e1,q,t⟩:=h;subst e1;cases i with
  |zero=>simp at e;subst e;exact⟨x,rfl,q⟩
  |succ i=>simpa using z8_.get (i:=i) t (by simpa using e)
theorem z8_.get'{K:Qq}{G:Hp}{ds:List D}{xs:List V}{i:Nat}{x:V}(h:z8_ K G xs ds)(e:xs[i]? =some x):∃d,ds[i]? =some d/\Rep K G x d:=by
 have hl:=h.length
 have hi:i<xs.length:=(Qb.mp e).1
 obtain⟨x',e',r⟩:=h.get (i:=i) (d:=ds[i]'(by omega)) (by simp)
 rw[e]at e';cases e';exact⟨_,by simp,r⟩
theorem z8_.take{K:Qq}{G:Hp}:∀{ds:List D}{xs:List V}(n:Nat),z8_ K G xs ds->z8_ K G (xs.take n) (ds.take n)
 |_,_,0,_=>by simp[repL_nil]
 |[],_,n+1,h=>by simp only[z8_]at h;subst h;simp[repL_nil]
 |d::ds,_,n+1,h=>by
  simp only[z8_]at h;obtain⟨x,r,e,q,t⟩:=h;subst e;exact repL_cons q (t.take n)
theorem z8_.drop{K:Qq}{G:Hp}:∀{ds:List D}{xs:List V}(n:Nat),z8_ K G xs ds->z8_ K G (xs.drop n) (ds.drop n)
 |_,_,0,h=>h
 |[],_,n+1,h=>by simp only[z8_]at h;subst h;simp[repL_nil]
 |d::ds,_,n+1,h=>by
  simp only[z8_]at h;obtain⟨x,r,e,q,t⟩:=h;subst e;exact t.drop n
theorem z8_.set{K:Qq}{G:Hp}:∀{ds:List D}{xs:List V}{x:V}{d:D}(n:Nat),z8_ K G xs ds->Rep K G x d->z8_ K G (xs.set n x) (ds.set n d)
 |[],_,_,_,n,h,_=>by simp only[z8_]at h;subst h;simp[repL_nil]
 |d::ds,_,_,_,0,h,q'=>by
  simp only[z8_]at h;obtain⟨x,r,e,q,t⟩:=h;subst e;exact repL_cons q' t
 |d::ds,_,_,_,n+1,h,q'=>by
  simp only[z8_]at h;obtain⟨x,r,e,q,t⟩:=h;subst e;exact repL_cons q (t.set n q')
inductive Mu where
 |l (ds:List D)|d (ks:OI) (vs:List D)|x (ks:List KX) (vs:List D)
 deriving Inhabited
inductive W where
 |nil|dat (d:D)|own (ds:List D)|par (ds:List D)|ownD (ks:OI) (vs:List D)|parD (ks:OI) (vs:List D)|ownX (ks:List KX) (vs:List D)|parX (ks:List KX) (vs:List D)
 deriving Inhabited
abbrev Env':=List W
abbrev OZ:=D->Env'->Option Env'
def W.mut:W->Option Mu
 |.own ds=>some (.l ds)
 |.par ds=>some (.l ds)
 |.ownD ks vs=>some (.d ks vs)
 |.parD ks vs=>some (.d ks vs)
 |.ownX ks vs=>some (.x ks vs)
 |.parX ks vs=>some (.x ks vs)
 |_=>none
def W.mutL:W->Option (List D)
 |.own ds=>some ds
 |.par ds=>some ds
 |_=>none
def W.mutD:W->Option (OI×List D)
 |.ownD ks vs=>some (ks,vs)
 |.parD ks vs=>some (ks,vs)
 |_=>none
def W.put:W->List D->W
 |.own _,ds=>.own ds
 |.par _,ds=>.par ds
 |w,_=>w
def W.isOwn:W->Bool
 |.own _=>true
 |.ownD _ _=>true
 |.ownX _ _=>true
 |_=>false
def W.isPar:W->Bool
 |.par _=>true
 |.parD _ _=>true
 |.parX _ _=>true
 |_=>false
def W.putM(w:W):Mu->W
 |.l ds=>if w.isOwn then .own ds else if w.isPar then .par ds else w
 |.d ks vs=>if w.isOwn then .ownD ks vs else if w.isPar then .parD ks vs else w
 |.x ks vs=>if w.isOwn then .ownX ks vs else if w.isPar then .parX ks vs else w
theorem W.mutL_of{w:W}{ds:List D}(h:w.mutL=some ds):w.mut=some (.l ds):=by cases w<;>first|(cases h;rfl)|cases h
theorem W.mutD_of{w:W}{ks:OI}{vs:List D}(h:w.mutD=some (ks,vs)):w.mut=some (.d ks vs):=by cases w<;>first|(cases h;rfl)|cases h
theorem W.put_eq{w:W}{ds:List D}(h:w.mutL=some ds)(ds':List D):w.put ds'=w.putM (.l ds'):=by cases w<;>first|rfl|cases h
theorem W.putM_mut{w:W}{m:Mu}(h:w.mut=some m)(m':Mu):(w.putM m').mut=some m':=by
 cases w<;>cases m'<;>first|rfl|cases h
theorem W.putM_own{w:W}{m:Mu}(h:w.mut=some m)(m':Mu):(w.putM m').isOwn=w.isOwn:=by
 cases w<;>cases m'<;>first|rfl|cases h
theorem W.putM_par{w:W}{m:Mu}(h:w.mut=some m)(m':Mu):(w.putM m').isPar=w.isPar:=by
 cases w<;>cases m'<;>first|rfl|cases h
def Owned(σ:St)(env:Env')(a:Addr):Prop:=∃(i:Nat) (w:W) (m:Mu),env[i]? =some w/\w.mut=some m/\σ[i]? =some (some (V.ref a))
theorem own_mut{w:W}(h:w.isOwn=true):∃m,w.mut=some m:=by cases w<;>first|exact⟨_,rfl⟩|cases h
theorem par_mut{w:W}(h:w.isPar=true):∃m,w.mut=some m:=by cases w<;>first|exact⟨_,rfl⟩|cases h
def NT(o:HO):Prop:=∀ps,o≠.tbl ps
theorem nt_lst{xs:List V}:NT (.lst xs):=fun _ z=>by cases z
theorem nt_tup{xs:List V}:NT (.tup xs):=fun _ z=>by cases z
def lamQ(q:Str):Str:=(q++".<locals>.")++"<lambda>"
def tabQ(K:Qq)(P:Addr)(q:Str):Bool:=K.all fun p=>match p.2 with
 |⟨.type "code",_,.fields vs,_⟩=>(match (vs[11]? :Option Value)with|some (.ref P')=>P' !=P|_=>true)||(match vs.toList with|_::.str n _::_=>n==q|_=>false)
 |_=>true
def LamC(K:Qq)(P a:Addr):HO:=.ext fun h=>∀q,tabQ K P q=true->h.CodeRec (.ref a) (lamQ q)
def TabsOk(K:Qq)(H:Hp):Prop:=∀P ps,H P=some (.tbl ps)->TriplesOk ps.toList/\∀pos v,codeAmong pos ps.toList=some v->∃a,v=.ref a/\H a=some (LamC K P a)
theorem TabsOk.mono{K:Qq}{H H':Hp}(t:TabsOk K H)(h1:∀P ps,H' P=some (.tbl ps)->H P=some (.tbl ps))(h2:∀a φ,H a=some (.ext φ)->H' a=some (.ext φ)):TabsOk K H':=fun P ps e=>by
 obtain⟨q1,q2⟩:=t P ps (h1 P ps e);refine⟨q1,fun pos v e=>?_⟩
 obtain⟨a,e1,e2⟩:=q2 pos v e;exact⟨a,e1,h2 _ _ e2⟩
theorem TabsOk.upd{K:Qq}{H:Hp}(t:TabsOk K H){a:Addr}{o:HO}(no:NT o)(h:∀φ,H a≠some (.ext φ)):TabsOk K (upd H a o):=
 t.mono (fun P ps e=>by
  by_cases hb:P=a
  ·subst hb;rw[x8_]at e;cases e;exact absurd rfl (no ps)
  ·rw[v9_ hb]at e;exact e) fun b φ e=>by
  by_cases hb:b=a
  ·subst hb;exact absurd e (h φ)
  ·rw[v9_ hb];exact e
def RepM(K:Qq)(G:Hp)(o:HO):Mu->Prop
 |.l ds=>∃xs,o=.lst xs/\z8_ K G xs ds
 |.d ks vs=>∃kvs,o=.dT (x5_ K) kvs/\kvs.map (·.1)=ks.map k7_/\z8_ K G (kvs.map (·.2)) vs
 |.x ks vs=>∃es ep xs,o=.dX es ep/\EsK K G es.toList ks xs/\b0U ks/\z8_ K G xs vs
theorem RepM.mono{K:Qq}{G G':Hp}(l:Le G G'){o:HO}:∀{m:Mu},RepM K G o m->RepM K G' o m
 |.l ds,⟨xs,e,r⟩=>⟨xs,e,z8_.mono l ds r⟩
 |.d ks vs,⟨kvs,e,k,r⟩=>⟨kvs,e,k,z8_.mono l vs r⟩
 |.x ks vs,⟨es,ep,xs,e,k,o,r⟩=>⟨es,ep,xs,e,k.mono l,o,z8_.mono l vs r⟩
theorem RepM.nt{K:Qq}{G:Hp}{o:HO}:∀{m:Mu},RepM K G o m->NT o
 |.l ds,⟨xs,e,r⟩=>by subst e;exact nt_lst
 |.d ks vs,⟨kvs,e,k,r⟩=>by subst e;exact fun _ z=>by cases z
 |.x ks vs,⟨es,ep,xs,e,k,r⟩=>by subst e;exact fun _ z=>by cases z
theorem RepM.ne{K:Qq}{G:Hp}{o:HO}{m:Mu}(r:RepM K G o m):∀φ,o≠.ext φ:=by
 cases m with
 |l ds=>obtain⟨xs,e,_⟩:=r;subst e;exact fun _ z=>by cases z
 |d ks vs=>obtain⟨xs,e,_⟩:=r;subst e;exact fun _ z=>by cases z
 |x ks vs=>obtain⟨es,ep,xs,e,_⟩:=r;subst e;exact fun _ z=>by cases z
structure Rel(K:Qq)(B:OA)(G:Hp)(σ:St)(env:Env')(H:Hp):Prop where
 sub:Le G H
 len:env.length=σ.length
 dat:∀(i:Nat) (d:D),env[i]? =some (.dat d)->∃v,σ[i]? =some (some v)/\Rep K G v d
 own:∀(i:Nat) (w:W) (m:Mu),env[i]? =some w->w.mut=some m->∃a o,σ[i]? =some (some (V.ref a))/\H a=some o/\RepM K G o m/\G a=none
 inj:∀(i j:Nat) (w w':W) (ds es:Mu) (a:Addr),env[i]? =some w->w.mut=some ds->env[j]? =some w'->w'.mut=some es->σ[i]? =some (some (V.ref a))->σ[j]? =some (some (V.ref a))->i=j
 fresh:∀(i:Nat) (w:W) (a:Addr),env[i]? =some w->w.isOwn=true->σ[i]? =some (some (V.ref a))-> ¬ B a
 old:∀b,B b->H b≠none
 tabs:TabsOk K H
 gnt:∀b o,G b=some o->NT o
structure Ev(K:Qq)(B:OA)(G:Hp)(σ:St)(env:Env')(H:Hp)(G':Hp)(σ':St)(env':Env')(H':Hp):Prop where
 rel:Rel K B G' σ' env' H'
 same:Le G G'
 keep:∀b o,¬ Owned σ env b->NT o->H b=some o->H' b=some o
 live:∀b,H b≠none->H' b≠none
 stay:∀b,H b≠none-> ¬ Owned σ env b->G b=none->G' b=none
 sub:∀a,Owned σ' env' a->Owned σ env a∨H a=none
 par:∀(i:Nat) (w:W),env'[i]? =some w->w.isPar=true->σ'[i]? =σ[i]? /\ ∃w0,env[i]? =some w0/\w0.isPar=true
 slen:σ'.length=σ.length
theorem Ev.refl{K:Qq}{B:OA}{G:Hp}{σ:St}{env:Env'}{H:Hp}(r:Rel K B G σ env H):Ev K B G σ env H G σ env H:=
 ⟨r,Le.refl,fun _ _ _ _ e=>e,fun _ e=>e,fun _ _ _ e=>e,fun _ e=>.inl e,fun _ w e h=>⟨rfl,w,e,h⟩,rfl⟩
theorem Ev.trans{K:Qq}{B:OA}{G G1 G2:Hp}{σ σ1 σ2:St}{env env1 env2:Env'}{H H1 H2:Hp}(a:Ev K B G σ env H G1 σ1 env1 H1)(b:Ev K B G1 σ1 env1 H1 G2 σ2 env2 H2):Ev K B G σ env H G2 σ2 env2 H2 where
 rel:=b.rel
 same:=a.same.trans b.same
 keep:=fun x o n t e=>b.keep x o (fun z=>(a.sub x z).elim n fun q=>by rw[e]at q;cases q) t (a.keep x o n t e)
 live:=fun x e=>b.live x (a.live x e)
 stay:=fun x e n g=>b.stay x (a.live x e) (fun z=>(a.sub x z).elim n fun q=>e q) (a.stay x e n g)
 sub:=fun x z=>(b.sub x z).elim (fun q=>a.sub x q) fun q=>.inr (by
  cases h:H x with
  |none=>rfl
  |some o=>exact absurd q (a.live x (by rw[h];simp)))
 par:=fun i w e h=>by
  obtain⟨h1,d1,e1,p1⟩:=b.par i w e h;obtain⟨h2,d2,e2,p2⟩:=a.par i d1 e1 p1;exact⟨h1.trans h2,d2,e2,p2⟩
 slen:=b.slen.trans a.slen
theorem Rel.ownL{K:Qq}{B:OA}{G:Hp}{σ:St}{env:Env'}{H:Hp}(r:Rel K B G σ env H)(i:Nat)(w:W)(ds:List D)(e1:env[i]? =some w)(e2:w.mutL=some ds):∃a xs,σ[i]? =some (some (V.ref a))/\H a=some (.lst xs)/\z8_ K G xs ds/\G a=none:=by
 obtain⟨a,o,h1,h2,⟨xs,rfl,h3⟩,h4⟩:=r.own i w (.l ds) e1 (W.mutL_of e2);exact⟨a,xs,h1,h2,h3,h4⟩
theorem Rel.ownD{K:Qq}{B:OA}{G:Hp}{σ:St}{env:Env'}{H:Hp}(r:Rel K B G σ env H)(i:Nat)(w:W)(ks:OI)(vs:List D)(e1:env[i]? =some w)(e2:w.mutD=some (ks,vs)):∃a kvs,σ[i]? =some (some (V.ref a))/\H a=some (.dT (x5_ K) kvs)/\kvs.map (·.1)=ks.map k7_/\z8_ K G (kvs.map (·.2)) vs/\G a=none:=by
 obtain⟨a,o,h1,h2,⟨kvs,rfl,h3,h4⟩,h5⟩:=r.own i w (.d ks vs) e1 (W.mutD_of e2);exact⟨a,kvs,h1,h2,h3,h4,h5⟩
abbrev Mo(α:Type):=Env'->Option (α×Env')
section
variable(K:Qq)(B:OA)
def TD(m:Mo D):TE:=fun σ H Q=>∃G env d env',Rel K B G σ env H/\m env=some (d,env')/\∀v G' H',Ev K B G σ env H G' σ env' H'->Rep K G' v d->Q v H'
def TL(m:Mo (List D)):TE:=fun σ H Q=>∃G env ds env',Rel K B G σ env H/\m env=some (ds,env')/\∀a xs G' H',Ev K B G σ env H G' σ env' H'->H a=none-> ¬ Owned σ env' a->H' a=some (.lst xs)->G' a=none->z8_ K G' xs ds->Q (.ref a) H'
def TTm(m:Mo Bool):TT:=fun σ H Q=>∃G env b env',Rel K B G σ env H/\m env=some (b,env')/\∀G' H',Ev K B G σ env H G' σ env' H'->Q b H'
inductive Ar where
 |d (d:D)|sl (i:Nat)
 deriving Inhabited
def RepA(G:Hp)(σ:St):List V->List Ar->Prop
 |xs,[]=>xs=[]
 |xs,.d d::as=>∃x r,xs=x::r/\Rep K G x d/\RepA G σ r as
 |xs,.sl i::as=>∃x r,xs=x::r/\σ[i]? =some (some x)/\RepA G σ r as
def TAm(m:Mo (List Ar)):TA:=fun σ H Q=>∃G env as env',Rel K B G σ env H/\m env=some (as,env')/\∀vs G' H',Ev K B G σ env H G' σ env' H'->RepA K G' σ vs as->Q vs H'
def TDs(m:Mo (List D)):TA:=fun σ H Q=>∃G env ds env',Rel K B G σ env H/\m env=some (ds,env')/\∀vs G' H',Ev K B G σ env H G' σ env' H'->z8_ K G' vs ds->Q vs H'
inductive Fl where
 |nx|bk|ct|ret (d:D)|retL (ds:List D)
def Post(G:Hp)(σ:St)(env:Env')(H:Hp)(env':Env')(D:Ends):Fl->Prop
 |.nx=>∀σ' G' H',Ev K B G σ env H G' σ' env' H'->D.nx σ' H'
 |.bk=>∀σ' G' H',Ev K B G σ env H G' σ' env' H'->D.bk σ' H'
 |.ct=>∀σ' G' H',Ev K B G σ env H G' σ' env' H'->D.ct σ' H'
 |.ret d=>∀v σ' G' H',Ev K B G σ env H G' σ' env' H'->Rep K G' v d->D.rt v H'
 |.retL ds=>∀a xs σ' G' H',Ev K B G σ env H G' σ' env' H'-> ¬ B a-> ¬ Owned σ' env' a->H' a=some (.lst xs)->G' a=none->z8_ K G' xs ds->D.rt (.ref a) H'
def TSm(m:Mo Fl):TS:=fun D σ H=>∃G env fl env',Rel K B G σ env H/\m env=some (fl,env')/\Post K B G σ env H env' D fl
theorem Post.after{G G1:Hp}{σ σ1:St}{env env1 env':Env'}{H H1:Hp}{D:Ends}{fl:Fl}(k:Post K B G σ env H env' D fl)(ev:Ev K B G σ env H G1 σ1 env1 H1):Post K B G1 σ1 env1 H1 env' D fl:=by
 cases fl with
 |nx=>exact fun σ2 G2 H2 ev2=>k σ2 G2 H2 (ev.trans ev2)
 |bk=>exact fun σ2 G2 H2 ev2=>k σ2 G2 H2 (ev.trans ev2)
 |ct=>exact fun σ2 G2 H2 ev2=>k σ2 G2 H2 (ev.trans ev2)
 |ret d=>exact fun v σ2 G2 H2 ev2=>k v σ2 G2 H2 (ev.trans ev2)
 |retL d=>exact fun a xs σ2 G2 H2 ev2=>k a xs σ2 G2 H2 (ev.trans ev2)
end
abbrev ED(X:Cx)(B:OA)(e:Expr)(m:Mo D):Prop:=PE X e (TD X.K B m)
abbrev EL(X:Cx)(B:OA)(e:Expr)(m:Mo (List D)):Prop:=PE X e (TL X.K B m)
abbrev ET(X:Cx)(B:OA)(e:Expr)(m:Mo Bool):Prop:=PT X e (TTm X.K B m)
abbrev EAr(X:Cx)(B:OA)(es:List Expr)(m:Mo (List Ar)):Prop:=PA X es (TAm X.K B m)
abbrev EDs(X:Cx)(B:OA)(es:List Expr)(m:Mo (List D)):Prop:=PA X es (TDs X.K B m)
abbrev ES(X:Cx)(B:OA)(s:Stmt)(m:Mo Fl):Prop:=PS X s (TSm X.K B m)
abbrev ESs(X:Cx)(B:OA)(s:List Stmt)(m:Mo Fl):Prop:=PSs X s (TSm X.K B m)
theorem pe_imp{X:Cx}{e:Expr}{t t':TE}(h:PE X e t)(i:∀σ H Q,t' σ H Q->t σ H Q):PE X e t':=fun pins s σ H Q I q=>h pins s σ H Q I (i σ H Q q)
theorem pt_imp{X:Cx}{e:Expr}{t t':TT}(h:PT X e t)(i:∀σ H Q,t' σ H Q->t σ H Q):PT X e t':=fun pins s σ H Q I q=>h pins s σ H Q I (i σ H Q q)
theorem pw_imp{X:Cx}{e:Expr}{t t':TT}(h:PW X e t)(i:∀σ H Q,t' σ H Q->t σ H Q):PW X e t':=fun wh pins s σ H Q I q=>h wh pins s σ H Q I (i σ H Q q)
theorem pa_imp{X:Cx}{e:List Expr}{t t':TA}(h:PA X e t)(i:∀σ H Q,t' σ H Q->t σ H Q):PA X e t':=fun pos pins s σ H Q I q=>h pos pins s σ H Q I (i σ H Q q)
theorem ps_imp{X:Cx}{e:Stmt}{t t':TS}(h:PS X e t)(i:∀D σ H,t' D σ H->t D σ H):PS X e t':=fun pins s σ H D I q=>h pins s σ H D I (i D σ H q)
theorem pss_imp{X:Cx}{e:List Stmt}{t t':TS}(h:PSs X e t)(i:∀D σ H,t' D σ H->t D σ H):PSs X e t':=fun pins s σ H D I q=>h pins s σ H D I (i D σ H q)
section
variable{K:Qq}{B:OA}{G G':Hp}{σ σ':St}{env env':Env'}{H H':Hp}
theorem Rel.gnone(r:Rel K B G σ env H){p:Addr}(h:H p=none):G p=none:=by
 cases e:G p with
 |none=>rfl
 |some o=>rw[r.sub p o e]at h;cases h
theorem Rel.unowned(r:Rel K B G σ env H){p:Addr}(h:H p=none):¬ Owned σ env p:=by
 rintro⟨i,w,ds,e1,e2,e3⟩;obtain⟨a,xs,e4,e5,_⟩:=r.own i w ds e1 e2;rw[e3]at e4;cases e4;rw[h]at e5;cases e5
theorem a7t{G:Hp}{p:Addr}{o:HO}(h:∀b o,G b=some o->NT o)(no:NT o):∀b u,upd G p o b=some u->NT u:=fun b u e=>by
 by_cases hb:b=p
 ·subst hb;rw[x8_]at e;cases e;exact no
 ·rw[v9_ hb]at e;exact h b u e
theorem Rel.alloc(r:Rel K B G σ env H){p:Addr}{o:HO}(h:H p=none)(no:NT o:=by intro _ z;cases z):Ev K B G σ env H (upd G p o) σ env (upd H p o):=by
 have gp:=r.gnone h
 refine⟨⟨fun b u e=>?_,r.len,fun i d e=>?_,fun i w ds e1 e2=>?_,r.inj,r.fresh,fun b e=>?_,r.tabs.upd no (fun φ z=>by rw[h]at z;cases z),a7t r.gnt no⟩,Le.upd gp,fun b u _ _ e=>?_,fun b e=>?_,fun b e _ g=>?_,fun a z=>.inl z,fun i w e hp=>⟨rfl,w,e,hp⟩,rfl⟩
 ·by_cases hb:b=p
  ·subst hb;rw[x8_]at e ⊢;exact e
  ·rw[v9_ hb]at e ⊢;exact r.sub b u e
 ·obtain⟨v,e1,e2⟩:=r.dat i d e
  exact⟨v,e1,Rep.mono (Le.upd gp) d e2⟩
 ·obtain⟨a,xs,e3,e4,e5,e6⟩:=r.own i w ds e1 e2
  have ha:a≠p:=a0a e4 h
  exact⟨a,xs,e3,by rw[v9_ ha];exact e4,e5.mono (Le.upd gp),by rw[v9_ ha];exact e6⟩
 ·by_cases hb:b=p
  ·subst hb;rw[x8_];simp
  ·rw[v9_ hb];exact r.old b e
 ·rw[v9_ (a0a e h)];exact e
 ·by_cases hb:b=p
  ·subst hb;rw[x8_];simp
  ·rw[v9_ hb];exact e
 ·have hb:b≠p:=fun z=>e (z ▸ h)
  rw[v9_ hb];exact g
theorem Rel.allocM(r:Rel K B G σ env H){p:Addr}{o:HO}(h:H p=none)(no:NT o:=by intro _ z;cases z):Ev K B G σ env H G σ env (upd H p o):=by
 refine⟨⟨fun b u e=>?_,r.len,r.dat,fun i w ds e1 e2=>?_,r.inj,r.fresh,fun b e=>?_,r.tabs.upd no (fun φ z=>by rw[h]at z;cases z),r.gnt⟩,Le.refl,fun b u _ _ e=>?_,fun b e=>?_,fun b e _ g=>g,fun a z=>.inl z,fun i w e hp=>⟨rfl,w,e,hp⟩,rfl⟩
 ·rw[v9_ (a0a (r.sub b u e) h)];exact r.sub b u e
 ·obtain⟨a,xs,e3,e4,e5,e6⟩:=r.own i w ds e1 e2
  exact⟨a,xs,e3,by rw[v9_ (a0a e4 h)];exact e4,e5,e6⟩
 ·by_cases hb:b=p
  ·subst hb;rw[x8_];simp
  ·rw[v9_ hb];exact r.old b e
 ·rw[v9_ (a0a e h)];exact e
 ·by_cases hb:b=p
  ·subst hb;rw[x8_];simp
  ·rw[v9_ hb];exact e
theorem Ev.frz{a:Addr}{xs:List V}(v:Ev K B G σ env H G' σ' env' H')(ha:H a=none)(no:¬ Owned σ' env' a)(h':H' a=some (.lst xs))(g':G' a=none):
  Ev K B G σ env H (upd G' a (.lst xs)) σ' env' H':=by
 refine⟨⟨fun b u e=>?_,v.rel.len,fun i d e=>?_,fun i w ds e1 e2=>?_,v.rel.inj,v.rel.fresh,v.rel.old,v.rel.tabs,a7t v.rel.gnt nt_lst⟩,v.same.trans (Le.upd g'),v.keep,v.live,fun b e n g=>?_,v.sub,v.par,v.slen⟩
 ·by_cases hb:b=a
  ·subst hb;rw[x8_]at e;cases e;exact h'
  ·rw[v9_ hb]at e;exact v.rel.sub b u e
 ·obtain⟨x,e1,e2⟩:=v.rel.dat i d e
  exact⟨x,e1,Rep.mono (Le.upd g') d e2⟩
 ·obtain⟨p,ys,e3,e4,e5,e6⟩:=v.rel.own i w ds e1 e2
  have hp:p≠a:=fun z=>no ⟨i,w,ds,e1,e2,by rw[←z];exact e3⟩
  exact⟨p,ys,e3,e4,e5.mono (Le.upd g'),by rw[v9_ hp];exact e6⟩
 ·have hb:b≠a:=fun z=>e (z ▸ ha)
  rw[v9_ hb];exact v.stay b e n g
theorem b0V{a:Addr}{xs:List V}{ds:List D}(h:G a=some (.lst xs))(r:z8_ K G xs ds):Rep K G (.ref a) (.lst ds):=by
 simp only[Rep];exact⟨a,xs,rfl,.inl (.inl h),r⟩
theorem a3k{a:Addr}{xs:List V}{ds:List D}(h:G a=some (.tup xs))(r:z8_ K G xs ds):Rep K G (.ref a) (.tup ds):=by
 simp only[Rep];exact⟨a,xs,rfl,.inl h,r⟩
theorem Rel.frzSlotM{i:Nat}{w0:W}{m:Mu}{d:D}(r:Rel K B G σ env H)(e:env[i]? =some w0)(em:w0.mut=some m)(hrep:∀G1 a o,G1 a=some o->RepM K G1 o m->Rep K G1 (.ref a) d):
  ∃a o,σ[i]? =some (some (.ref a))/\Rep K (upd G a o) (.ref a) d/\Ev K B G σ env H (upd G a o) σ (env.set i (.dat d)) H:=by
 obtain⟨a,o,e1,e2,e3,e4⟩:=r.own i _ m e em;have rp:Rep K (upd G a o) (.ref a) d:=hrep _ a o x8_ (e3.mono (Le.upd e4));have ow:Owned σ env a:=⟨i,_,m,e,em,e1⟩;have hi:i<env.length:=(Qb.mp e).1;have ne:∀j w es,(env.set i (.dat d))[j]? =some w->w.mut=some es->j≠i/\env[j]? =some w:=fun j w es q1 q2=>by
  by_cases hj:j=i
  ·subst hj;rw[Yl hi]at q1;cases q1;cases q2
  ·rw[Qc (Za hj)]at q1;exact⟨hj,q1⟩
 refine⟨a,o,e1,rp,⟨⟨fun b u q=>?_,by rw[Zo];exact r.len,fun j d q=>?_,fun j w es q1 q2=>?_,fun j k w w' es fs b q1 q2 q3 q4 q5 q6=>?_,fun j w b q1 qo q2=>?_,r.old,r.tabs,a7t r.gnt e3.nt⟩,Le.upd e4,fun b o _ _ q=>q,fun b q=>q,fun b q n g=>?_,fun b z=>?_,fun j w q qp=>?_,rfl⟩⟩
 ·by_cases hb:b=a
  ·subst hb;rw[x8_]at q;cases q;exact e2
  ·rw[v9_ hb]at q;exact r.sub b u q
 ·by_cases hj:j=i
  ·subst hj;rw[Yl hi]at q;cases q;exact⟨_,e1,rp⟩
  ·rw[Qc (Za hj)]at q
   obtain⟨x,q1,q2⟩:=r.dat j d q;exact⟨x,q1,Rep.mono (Le.upd e4) d q2⟩
 ·obtain⟨hj,q⟩:=ne j w es q1 q2
  obtain⟨p,ys,e3',e4',e5',e6'⟩:=r.own j w es q q2;have hp:p≠a:=fun z=>hj (r.inj j i w _ es m a q q2 e em (by rw[e3',z]) e1)
  exact⟨p,ys,e3',e4',e5'.mono (Le.upd e4),by rw[v9_ hp];exact e6'⟩
 ·exact r.inj j k w w' es fs b (ne j w es q1 q2).2 q2 (ne k w' fs q3 q4).2 q4 q5 q6
 ·obtain⟨es,hm⟩:=own_mut qo
  exact r.fresh j w b (ne j _ es q1 hm).2 qo q2
 ·have hb:b≠a:=fun z=>n (z ▸ ow)
  rw[v9_ hb];exact g
 ·obtain⟨j,w,es,q1,q2,q3⟩:=z
  exact .inl ⟨j,w,es,(ne j w es q1 q2).2,q2,q3⟩
 ·obtain⟨es,hm⟩:=par_mut qp
  exact⟨rfl,w,(ne j _ es q hm).2,qp⟩
theorem Rel.frzSlot{i:Nat}{ds:List D}(r:Rel K B G σ env H)(e:env[i]? =some (.own ds)):
  ∃a o,σ[i]? =some (some (.ref a))/\Rep K (upd G a o) (.ref a) (.lst ds)/\Ev K B G σ env H (upd G a o) σ (env.set i (.dat (.lst ds))) H:=
 r.frzSlotM (m:=.l ds) e rfl fun G1 a o h ⟨xs,z,q⟩=>by subst z;exact b0V h q
theorem Rel.frzSlotD{i:Nat}{ks:OI}{vs:List D}(r:Rel K B G σ env H)(e:env[i]? =some (.ownD ks vs)):
  ∃a o,σ[i]? =some (some (.ref a))/\Rep K (upd G a o) (.ref a) (.dct ks vs)/\Ev K B G σ env H (upd G a o) σ (env.set i (.dat (.dct ks vs))) H:=
 r.frzSlotM (m:=.d ks vs) e rfl fun G1 a o h ⟨kvs,z,q1,q2⟩=>by subst z;simp only[Rep];exact⟨a,kvs,rfl,h,q1,q2⟩
theorem Rel.frzSlotX{i:Nat}{ks:List KX}{vs:List D}(r:Rel K B G σ env H)(e:env[i]? =some (.ownX ks vs)):
  ∃a o,σ[i]? =some (some (.ref a))/\Rep K (upd G a o) (.ref a) (.dcx ks vs)/\Ev K B G σ env H (upd G a o) σ (env.set i (.dat (.dcx ks vs))) H:=
 r.frzSlotM (m:=.x ks vs) e rfl fun G1 a o h ⟨es,ep,xs,z,q1,q2,q3⟩=>by subst z;simp only[Rep];exact⟨a,es,ep,xs,rfl,h,q1,q2,q3⟩
end
def z0_(i:Nat):Mo D:=fun env=>match env[i]? with
 |some (.dat d)=>some (d,env)
 |some (.own ds)=>some (.lst ds,env.set i (.dat (.lst ds)))
 |some (.ownD ks vs)=>some (.dct ks vs,env.set i (.dat (.dct ks vs)))
 |some (.ownX ks vs)=>some (.dcx ks vs,env.set i (.dat (.dcx ks vs)))
 |_=>none
def mC(d:D):Mo D:=fun env=>some (d,env)
section
variable{X:Cx}{B:OA}{pos:Pos}
theorem z3_{i:Nat}{x:Str}(h:PE X (.Name x pos) (a0D i)):ED X B (.Name x pos) (z0_ i):=by
 refine pe_imp h fun σ H Q q=>?_
 obtain⟨G,env,d,env',r,e,k⟩:=q;unfold z0_ at e;split at e
 ·rename_i d' e1
  cases e;obtain⟨v,e2,e3⟩:=r.dat i _ e1;exact⟨v,e2,k v G H (.refl r) e3⟩
 ·rename_i ds e1
  cases e;obtain⟨a,xs,e2,e3,e4⟩:=r.frzSlot e1;exact⟨_,e2,k _ _ H e4 e3⟩
 ·rename_i ks vs e1
  cases e;obtain⟨a,xs,e2,e3,e4⟩:=r.frzSlotD e1;exact⟨_,e2,k _ _ H e4 e3⟩
 ·rename_i ks vs e1
  cases e;obtain⟨a,xs,e2,e3,e4⟩:=r.frzSlotX e1;exact⟨_,e2,k _ _ H e4 e3⟩
 ·cases e
theorem a5x{e:Expr}{v:V}{d:D}(h:PE X e (tC v))(hd:∀K G,Rep K G v d):ED X B e (mC d):=by
 refine pe_imp h fun σ H Q q=>?_
 obtain⟨G,env,d',env',r,e,k⟩:=q;cases e;exact k v G H (.refl r) (hd _ _)
theorem q2_{i:Int}{j:Nat}:ED X B (.Constant (.int i) j pos) (mC (.int i)):=a5x b4T fun _ _=>by simp only[Rep]
theorem a0k{b:Bool}{j:Nat}:ED X B (.Constant (.bool b) j pos) (mC (.bl b)):=a5x b4U fun _ _=>by simp only[Rep]
theorem a3l{x:Str}{j:Nat}(hx:x.length≤1000):ED X B (.Constant (.str x) j pos) (mC (.str x)):=a5x b4V fun _ _=>by simp only[Rep];exact⟨trivial,Uk (a7p hx)⟩
theorem b6T{x:Str}{i:Int}{t:Tok}(hg:Gl X x)(hm:X.mg x=some (.int i t))(hd:(x==("__debug__":Str))=false:=by decide):ED X B (.Name x pos) (mC (.int i)):=
 a5x (b4W (v:=.int i) hg hm ⟨t,rfl⟩ hd) fun _ _=>by simp only[Rep]
def z2_(f:D->D->Option D)(ma mb:Mo D):Mo D:=fun env=>(ma env).bind fun p=>(mb p.2).bind fun q=>(f p.1 q.1).map fun d=>(d,q.2)
def OpD(X:Cx)(B:OA)(r:R2)(f:D->D->Option D):Prop:=
 ∀(G:Hp) (σ:St) (env:Env') (H:Hp) (x y:V) (a b c:D) (Q:VK),Rel X.K B G σ env H->Rep X.K G x a->Rep X.K G y b->f a b=some c->
  (∀v G' H',Ev X.K B G σ env H G' σ env H'->Rep X.K G' v c->Q v H')->r x y H Q
theorem a5y{r:R2}{f:D->D->Option D}{ma mb:Mo D}(o:OpD X B r f):∀σ H Q,TD X.K B (z2_ f ma mb) σ H Q->tOp r (TD X.K B ma) (TD X.K B mb) σ H Q:=by
 rintro σ H Q ⟨G,env,d,env',rl,e,k⟩;unfold z2_ at e;cases ea:ma env with
 |none=>rw[ea]at e;cases e
 |some p=>
  obtain⟨d1,env1⟩:=p;rw[ea]at e;simp only[Qj]at e;cases eb:mb env1 with
  |none=>rw[eb]at e;cases e
  |some p=>
   obtain⟨d2,env2⟩:=p;rw[eb]at e;simp only[Qj]at e;cases ef:f d1 d2 with
   |none=>rw[ef]at e;cases e
   |some c=>
    rw[ef]at e;cases e;refine⟨G,env,d1,env1,rl,ea,fun v1 G1 H1 v r1=>⟨G1,env1,d2,_,v.rel,eb,fun v2 G2 H2 v' r2=>?_⟩⟩
    exact o G2 σ _ H2 v1 v2 d1 d2 _ Q v'.rel (Rep.mono v'.same _ r1) r2 ef fun v3 G3 H3 v3' r3=>k v3 G3 H3 ((v.trans v').trans v3') r3
theorem v1_{op:Operator}{r:R2}{f:D->D->Option D}{a b:Expr}{ma mb:Mo D}(ho:OpR X (binaryOp op) r)(o:OpD X B r f)(ha:ED X B a ma)(hb:ED X B b mb):ED X B (.BinOp a op b pos) (z2_ f ma mb):=
 pe_imp (b5X ho ha hb) (a5y o)
theorem a3m{op:CmpOp}{r:R2}{f:D->D->Option D}{a b:Expr}{ma mb:Mo D}(ho:OpR X (compareOp op) r)(o:OpD X B r f)(ha:ED X B a ma)(hb:ED X B b mb)(hm:behindInMarks op b=false):ED X B (.Compare a [op] [b] pos) (z2_ f ma mb):=
 pe_imp (b6d ho ha hb hm) (a5y o)
def fI(C:Int->Int->Bool)(g:Int->Int->D):D->D->Option D
 |.int i,.int j=>if C i j then some (g i j)else none
 |_,_=>none
theorem a3n{C:Int->Int->Prop}{c:Int->Int->Bool}{g:Int->Int->V}{g':Int->Int->D}(hc:∀i j,c i j=true->C i j)(hg:∀K G i j,Rep K G (g i j) (g' i j)):OpD X B (rI C g) (fI c g'):=by
 intro G σ env H x y a b d Q rl ra rb e k;cases a<;>cases b<;>first|(exact absurd (show(none:Option D)=some d from e) (by simp))|skip
 rename_i i j;simp only[Rep]at ra rb;subst ra rb;simp only[fI]at e;split at e
 ·rename_i h
  cases e;exact⟨i,j,rfl,rfl,hc i j h,k _ G H (.refl rl) (hg _ _ i j)⟩
 ·cases e
theorem a3o{g:Int->Int->V}{g':Int->Int->D}(hg:∀K G i j,Rep K G (g i j) (g' i j)):OpD X B (rI0 g) (fI (fun _ _=>true) g'):=by
 intro G σ env H x y a b d Q rl ra rb e k;cases a<;>cases b<;>first|(exact absurd (show(none:Option D)=some d from e) (by simp))|skip
 rename_i i j;simp only[Rep]at ra rb;subst ra rb;simp only[fI,Zm]at e;cases e;exact⟨i,j,rfl,rfl,k _ G H (.refl rl) (hg _ _ i j)⟩
theorem OpR.or{f:Value->Value->Sem Value}{r r':R2}(h:OpR X f r)(h':OpR X f r'):OpR X f (fun x y H Q=>r x y H Q∨r' x y H Q):=by
 intro pins s σ H x y v u Q I rx ry q
 rcases q with q|q
 ·exact h pins s σ H x y v u Q I rx ry q
 ·exact h' pins s σ H x y v u Q I rx ry q
def fOr(f g:D->D->Option D):D->D->Option D:=fun a b=>match f a b with
 |some c=>some c
 |none=>g a b
theorem OpD.or{r r':R2}{f g:D->D->Option D}(h:OpD X B r f)(h':OpD X B r' g):OpD X B (fun x y H Q=>r x y H Q∨r' x y H Q) (fOr f g):=by
 intro G σ env H x y a b d Q rl ra rb e k;unfold fOr at e;split at e
 ·rename_i c ec
  cases e;exact .inl (h G σ env H x y a b _ Q rl ra rb ec k)
 ·exact .inr (h' G σ env H x y a b d Q rl ra rb e k)
def a1d(i j:Int):Bool:=(decide (-(2^64)<i)&&decide (i<2^64))||(decide (-(2^64)<j)&&decide (j<2^64))
def a3p(_ j:Int):Bool:=decide (0<j)&&decide (j<1073741824)
def a5z(i j:Int):Bool:=decide (0≤j)&&decide (j≤1000000)&&decide (i.natAbs<2^64)
def k4_:=fI (fun _ _=>true) fun i j=>.int (i-j)
def a5A:=fI a1d fun i j=>.int (i * j)
def a1I:=fI a3p fun i j=>.int (i/j)
def a0b:=fI (fun _ j=>decide (0<j)) fun i j=>.int (i%j)
def a2a:=fI a5z fun i j=>.int (i^j.toNat)
def a1J:=fI (fun _ _=>true) fun i j=>.int (i+j)
def dLt:=fI (fun _ _=>true) fun i j=>.bl (decide (i<j))
def dLe:=fI (fun _ _=>true) fun i j=>.bl (decide (i≤j))
def dGt:=fI (fun _ _=>true) fun i j=>.bl (decide (j<i))
def dGe:=fI (fun _ _=>true) fun i j=>.bl (decide (j≤i))
theorem a0l:OpD X B (rI0 fun i j=>.int (i-j)) k4_:=a3o fun _ _ _ _=>by simp only[Rep]
theorem a5B:OpD X B (rI0 fun i j=>.int (i+j)) a1J:=a3o fun _ _ _ _=>by simp only[Rep]
theorem b6U:OpD X B (rI a2w fun i j=>.int (i * j)) a5A:=a3n (fun i j h=>by simpa [a2w,a1d]using h) fun _ _ _ _=>by simp only[Rep]
theorem a7u:OpD X B (rI a7d fun i j=>.int (i/j)) a1I:=a3n (fun i j h=>by simpa [a7d,a3p]using h) fun _ _ _ _=>by simp only[Rep]
theorem a2b:OpD X B (rI (fun _ j=>0<j) fun i j=>.int (i%j)) a0b:=a3n (fun i j h=>by simpa using h) fun _ _ _ _=>by simp only[Rep]
theorem b0W:OpD X B (rI a7e fun i j=>.int (i^j.toNat)) a2a:=a3n (fun i j h=>by simpa [a7e,a5z,and_assoc]using h) fun _ _ _ _=>by simp only[Rep]
theorem a5C:OpD X B (rI0 fun i j=>.bl (decide (i<j))) dLt:=a3o fun _ _ _ _=>by simp only[Rep]
theorem a5D:OpD X B (rI0 fun i j=>.bl (decide (i≤j))) dLe:=a3o fun _ _ _ _=>by simp only[Rep]
theorem a7v:OpD X B (rI0 fun i j=>.bl (decide (j<i))) dGt:=a3o fun _ _ _ _=>by simp only[Rep]
theorem b0X:OpD X B (rI0 fun i j=>.bl (decide (j≤i))) dGe:=a3o fun _ _ _ _=>by simp only[Rep]
end
section
variable{X:Cx}{B:OA}{pos:Pos}{a b c e:Expr}{ma mb mc:Mo D}{ta tb:Mo Bool}
theorem TD.bind{K:Qq}{m:Mo D}{σ:St}{H:Hp}{Q:VK}{G:Hp}{env env':Env'}{d:D}(r:Rel K B G σ env H)(e:m env=some (d,env'))
  (k:∀v G' H',Ev K B G σ env H G' σ env' H'->Rep K G' v d->Q v H'):TD K B m σ H Q:=⟨G,env,d,env',r,e,k⟩
def asB:D×Env'->Option (Bool×Env')
 |(.bl b,e)=>some (b,e)
 |_=>none
def mT(m:Mo D):Mo Bool:=fun env=>(m env).bind asB
theorem a7w{t:TE}{m:Mo D}(i:∀σ H Q,TD X.K B m σ H Q->t σ H Q)(mono:True):∀σ H Q,TTm X.K B (mT m) σ H Q->(fun σ H (Q:Bool->Hp->Prop)=>t σ H fun x H'=>∃k,x=.bl k/\Q k H') σ H Q:=by
 rintro σ H Q ⟨G,env,b,env',rl,e,k⟩;unfold mT at e;cases em:m env with
 |none=>rw[em]at e;cases e
 |some p=>
  obtain⟨d,env1⟩:=p;rw[em]at e;simp only[Qj]at e;cases d<;>first|(exact absurd (show(none:Option (Bool×Env'))=some (b,env')from e) (by simp))|skip
  cases e;refine i σ H _ (.bind rl em fun v G' H' ev r=>?_)
  simp only[Rep]at r;exact⟨_,r,k G' H' ev⟩
theorem a1s(h:ED X B e ma)(he:∀whole,isTrue e X.env whole=(do let v←whole;standAt e.pos;holding [v] (truthy v)):=by intro _;rfl):ET X B e (mT ma):=
 pt_imp (b4Z h he) (a7w (fun _ _ _ q=>q) trivial)
theorem k0_{op:CmpOp}{r:R2}{f:D->D->Option D}(ho:OpR X (compareOp op) r)(o:OpD X B r f)(ha:ED X B a ma)(hb:ED X B b mb)(hm:behindInMarks op b=false):ET X B (.Compare a [op] [b] pos) (mT (z2_ f ma mb)):=
 pt_imp (b6e ho ha hb hm) (a7w (a5y o) trivial)
def w4_(t:Mo Bool):Mo Bool:=fun env=>(t env).map fun p=>(!p.1,p.2)
theorem a1t(h:ET X B a ta):ET X B (.UnaryOp .Not a pos) (w4_ ta):=by
 refine pt_imp (b5f h) ?_
 rintro σ H Q ⟨G,env,b,env',rl,e,k⟩;unfold w4_ at e;cases em:ta env with
 |none=>rw[em]at e;cases e
 |some p=>rw[em]at e;cases e;exact⟨G,env,_,_,rl,em,k⟩
def a0t(t u:Mo Bool):Mo Bool:=fun env=>(t env).bind fun p=>if p.1 then u p.2 else some (false,p.2)
def a0c(t u:Mo Bool):Mo Bool:=fun env=>(t env).bind fun p=>if p.1 then some (true,p.2)else u p.2
theorem b6V:∀σ H Q,TTm X.K B (a0t ta tb) σ H Q->b0o (TTm X.K B ta) (TTm X.K B tb) σ H Q:=by
 rintro σ H Q ⟨G,env,b,env',rl,e,k⟩;unfold a0t at e;cases em:ta env with
 |none=>rw[em]at e;cases e
 |some p=>
  obtain⟨b1,env1⟩:=p;rw[em]at e;simp only[Qj]at e;refine⟨G,env,b1,env1,rl,em,fun G1 H1 ev=>?_⟩
  cases b1 with
  |true=>
   simp only[Zm]at e ⊢;exact⟨G1,env1,b,env',ev.rel,e,fun G2 H2 ev2=>k G2 H2 (ev.trans ev2)⟩
  |false=>
   simp only[Zj,Yc]at e ⊢;cases e;exact k G1 H1 ev
theorem b6W:∀σ H Q,TTm X.K B (a0c ta tb) σ H Q->tOr (TTm X.K B ta) (TTm X.K B tb) σ H Q:=by
 rintro σ H Q ⟨G,env,b,env',rl,e,k⟩;unfold a0c at e;cases em:ta env with
 |none=>rw[em]at e;cases e
 |some p=>
  obtain⟨b1,env1⟩:=p;rw[em]at e;simp only[Qj]at e;refine⟨G,env,b1,env1,rl,em,fun G1 H1 ev=>?_⟩
  cases b1 with
  |false=>
   simp only[Zj,Yc]at e ⊢;exact⟨G1,env1,b,env',ev.rel,e,fun G2 H2 ev2=>k G2 H2 (ev.trans ev2)⟩
  |true=>
   simp only[Zm]at e ⊢;cases e;exact k G1 H1 ev
abbrev EW(X:Cx)(B:OA)(e:Expr)(m:Mo Bool):Prop:=PW X e (TTm X.K B m)
variable{rest:List Expr}
theorem a4l(h:ET X B a ta):EW X B (.BoolOp .And [a] pos) ta:=b5b h
theorem a5E(h:ET X B a ta):EW X B (.BoolOp .Or [a] pos) ta:=b5c h
theorem a4m(h:ET X B a ta)(h2:EW X B (.BoolOp .And (b::rest) pos) tb):EW X B (.BoolOp .And (a::b::rest) pos) (a0t ta tb):=pw_imp (b5d h h2) b6V
theorem a5F(h:ET X B a ta)(h2:EW X B (.BoolOp .Or (b::rest) pos) tb):EW X B (.BoolOp .Or (a::b::rest) pos) (a0c ta tb):=pw_imp (b5e h h2) b6W
theorem a1K(h:EW X B e ta):ET X B e ta:=h.pt
def a1u(m n:Mo D):Mo D:=fun env=>(m env).bind fun p=>match p.1 with
 |.bl true=>n p.2
 |.bl false=>some (.bl false,p.2)
 |_=>none
def a2c(m n:Mo D):Mo D:=fun env=>(m env).bind fun p=>match p.1 with
 |.bl false=>n p.2
 |.bl true=>some (.bl true,p.2)
 |_=>none
theorem a3q{op}(h:ED X B a ma):ED X B (.BoolOp op [a] pos) ma:=b5j h
theorem a5G(ha:ED X B a ma)(hb:ED X B (.BoolOp .And (b::rest) pos) mb):ED X B (.BoolOp .And (a::b::rest) pos) (a1u ma mb):=by
 refine pe_imp (b5k ha hb) ?_
 rintro σ H Q ⟨G,env,d,env',rl,e,k⟩;unfold a1u at e;cases em:ma env with
 |none=>rw[em]at e;cases e
 |some p=>
  obtain⟨d1,env1⟩:=p;rw[em]at e;simp only[Qj]at e;refine .bind rl em fun v G1 H1 ev r1=>?_
  split at e
  ·simp only[Rep]at r1
   exact⟨true,r1,by simp only[Zm];exact .bind ev.rel e fun v2 G2 H2 ev2 r2=>k v2 G2 H2 (ev.trans ev2) r2⟩
  ·simp only[Rep]at r1
   cases e;exact⟨false,r1,by simp only[Zj,Yc];exact k _ G1 H1 ev (by simp only[Rep])⟩
  ·cases e
theorem b0Y(ha:ED X B a ma)(hb:ED X B (.BoolOp .Or (b::rest) pos) mb):ED X B (.BoolOp .Or (a::b::rest) pos) (a2c ma mb):=by
 refine pe_imp (b0p ha hb) ?_
 rintro σ H Q ⟨G,env,d,env',rl,e,k⟩;unfold a2c at e;cases em:ma env with
 |none=>rw[em]at e;cases e
 |some p=>
  obtain⟨d1,env1⟩:=p;rw[em]at e;simp only[Qj]at e;refine .bind rl em fun v G1 H1 ev r1=>?_
  split at e
  ·simp only[Rep]at r1
   exact⟨false,r1,by simp only[Zj,Yc];exact .bind ev.rel e fun v2 G2 H2 ev2 r2=>k v2 G2 H2 (ev.trans ev2) r2⟩
  ·simp only[Rep]at r1
   cases e;exact⟨true,r1,by simp only[Zm];exact k _ G1 H1 ev (by simp only[Rep])⟩
  ·cases e
def a7x(m:Mo D):Mo D:=fun env=>(m env).bind fun p=>match p.1 with
 |.bl b=>some (.bl (!b),p.2)
 |_=>none
theorem b6X(ha:ED X B a ma):ED X B (.UnaryOp .Not a pos) (a7x ma):=by
 refine pe_imp (b5l ha) ?_
 rintro σ H Q ⟨G,env,d,env',rl,e,k⟩;unfold a7x at e;cases em:ma env with
 |none=>rw[em]at e;cases e
 |some p=>
  obtain⟨d1,env1⟩:=p;rw[em]at e;simp only[Qj]at e;refine .bind rl em fun v G1 H1 ev r1=>?_
  split at e
  ·rename_i b1
   simp only[Rep]at r1;cases e;exact⟨b1,r1,k _ G1 H1 ev (by simp only[Rep])⟩
  ·cases e
def a1L(m:Mo D):Mo D:=fun env=>(m env).bind fun p=>match p.1 with
 |.int b=>some (.int (-b),p.2)
 |_=>none
theorem a7y(ha:ED X B a ma):ED X B (.UnaryOp .USub a pos) (a1L ma):=by
 refine pe_imp (b5Y b6c ha) ?_
 rintro σ H Q ⟨G,env,d,env',rl,e,k⟩;unfold a1L at e;cases em:ma env with
 |none=>rw[em]at e;cases e
 |some p=>
  obtain⟨d1,env1⟩:=p;rw[em]at e;simp only[Qj]at e;refine .bind rl em fun v G1 H1 ev r1=>?_
  split at e
  ·rename_i b1
   simp only[Rep]at r1;cases e;exact⟨b1,r1,k _ G1 H1 ev (by simp only[Rep])⟩
  ·cases e
def a1M(f g:D->D->Option D)(ma mb mc:Mo D):Mo D:=fun env=>(ma env).bind fun p=>(mb p.2).bind fun q=>match f p.1 q.1 with
 |some (.bl true)=>(mc q.2).bind fun r=>(g q.1 r.1).map fun d=>(d,r.2)
 |some (.bl false)=>some (.bl false,q.2)
 |_=>none
theorem b0Z{r r':R2}{f g:D->D->Option D}(o:OpD X B r f)(o':OpD X B r' g):∀σ H Q,TD X.K B (a1M f g ma mb mc) σ H Q->a7i r r' (TD X.K B ma) (TD X.K B mb) (TD X.K B mc) σ H Q:=by
 rintro σ H Q ⟨G,env,d,env',rl,e,k⟩;unfold a1M at e;cases ea:ma env with
 |none=>rw[ea]at e;cases e
 |some p=>
  obtain⟨d1,env1⟩:=p;rw[ea]at e;simp only[Qj]at e;cases eb:mb env1 with
  |none=>rw[eb]at e;cases e
  |some p=>
   obtain⟨d2,env2⟩:=p;rw[eb]at e;simp only[Qj]at e;refine .bind rl ea fun v1 G1 H1 ev1 r1=>.bind ev1.rel eb fun v2 G2 H2 ev2 r2=>?_
   split at e
   ·rename_i ef
    refine o G2 σ _ H2 v1 v2 d1 d2 _ _ ev2.rel (Rep.mono ev2.same _ r1) r2 ef fun v3 G3 H3 ev3 r3=>?_
    simp only[Rep]at r3;refine⟨true,r3,?_⟩;simp only[Zm];cases ec:mc env2 with
    |none=>rw[ec]at e;cases e
    |some p=>
     obtain⟨d3,env3⟩:=p;rw[ec]at e;simp only[Qj]at e;cases eg:g d2 d3 with
     |none=>rw[eg]at e;cases e
     |some d4=>
      rw[eg]at e;cases e;refine .bind ev3.rel ec fun v4 G4 H4 ev4 r4=>?_
      exact o' G4 σ _ H4 v2 v4 d2 d3 _ Q ev4.rel (Rep.mono ev4.same _ (Rep.mono ev3.same _ r2)) r4 eg fun v5 G5 H5 ev5 r5=>k v5 G5 H5 ((((ev1.trans ev2).trans ev3).trans ev4).trans ev5) r5
   ·rename_i ef
    cases e;refine o G2 σ _ H2 v1 v2 d1 d2 _ _ ev2.rel (Rep.mono ev2.same _ r1) r2 ef fun v3 G3 H3 ev3 r3=>?_
    simp only[Rep]at r3;refine⟨false,r3,?_⟩;simp only[Zj,Yc];exact k _ G3 H3 ((ev1.trans ev2).trans ev3) (by simp only[Rep])
   ·cases e
theorem b6Y{op op':CmpOp}{r r':R2}{f g:D->D->Option D}(ho:OpR X (compareOp op) r)(ho':OpR X (compareOp op') r')(o:OpD X B r f)(o':OpD X B r' g)(ha:ED X B a ma)(hb:ED X B b mb)(hc:ED X B c mc)
  (hm:lastMarks [op,op'] [b,c]=false:=by with_unfolding_all rfl):ED X B (.Compare a [op,op'] [b,c] pos) (a1M f g ma mb mc):=pe_imp (b6f ho ho' ha hb hc hm) (b0Z o o')
theorem b6Z{op op':CmpOp}{r r':R2}{f g:D->D->Option D}(ho:OpR X (compareOp op) r)(ho':OpR X (compareOp op') r')(o:OpD X B r f)(o':OpD X B r' g)(ha:ED X B a ma)(hb:ED X B b mb)(hc:ED X B c mc)
  (hm:lastMarks [op,op'] [b,c]=false:=by with_unfolding_all rfl):ET X B (.Compare a [op,op'] [b,c] pos) (mT (a1M f g ma mb mc)):=pt_imp (b6g ho ho' ha hb hc hm) (a7w (b0Z o o') trivial)
variable{es:List Expr}{ms:Mo (List D)}{as:Mo (List Ar)}
def z7_:Mo (List D):=fun env=>some ([],env)
def z5_(m:Mo D)(ms:Mo (List D)):Mo (List D):=fun env=>(m env).bind fun p=>(ms p.2).map fun q=>(p.1::q.1,q.2)
theorem q7_:EDs X B [] z7_:=by
 refine pa_imp a4h ?_
 rintro σ H Q ⟨G,env,d,env',rl,e,k⟩;cases e;exact k [] G H (.refl rl) repL_nil
theorem q3_(ha:ED X B e ma)(hr:EDs X B es ms)(hs:starEach (e::es) X.env=(false,eval e X.env)::starEach es X.env:=by rfl):EDs X B (e::es) (z5_ ma ms):=by
 refine pa_imp (a1Z ha hr hs) ?_
 rintro σ H Q ⟨G,env,d,env',rl,e,k⟩;unfold z5_ at e;cases ea:ma env with
 |none=>rw[ea]at e;cases e
 |some p=>
  obtain⟨d1,env1⟩:=p;rw[ea]at e;simp only[Qj]at e;cases eb:ms env1 with
  |none=>rw[eb]at e;cases e
  |some p=>
   obtain⟨d2,env2⟩:=p;rw[eb]at e;cases e;exact .bind rl ea fun v1 G1 H1 ev1 r1=>⟨G1,env1,d2,_,ev1.rel,eb,fun vs G2 H2 ev2 r2=>k _ G2 H2 (ev1.trans ev2) (repL_cons (Rep.mono ev2.same _ r1) r2)⟩
def z6_:Mo (List Ar):=fun env=>some ([],env)
def z4_(m:Mo D)(ms:Mo (List Ar)):Mo (List Ar):=fun env=>(m env).bind fun p=>(ms p.2).map fun q=>(.d p.1::q.1,q.2)
def k1_(i:Nat)(ms:Mo (List Ar)):Mo (List Ar):=fun env=>((env[i]?).bind W.mut).bind fun _=>(ms env).map fun q=>(.sl i::q.1,q.2)
theorem v0_:EAr X B [] z6_:=by
 refine pa_imp a4h ?_
 rintro σ H Q ⟨G,env,d,env',rl,e,k⟩;cases e;exact k [] G H (.refl rl) (by simp only[RepA])
theorem q0_(ha:ED X B e ma)(hr:EAr X B es as)(hs:starEach (e::es) X.env=(false,eval e X.env)::starEach es X.env:=by rfl):EAr X B (e::es) (z4_ ma as):=by
 refine pa_imp (a1Z ha hr hs) ?_
 rintro σ H Q ⟨G,env,d,env',rl,e,k⟩;unfold z4_ at e;cases ea:ma env with
 |none=>rw[ea]at e;cases e
 |some p=>
  obtain⟨d1,env1⟩:=p;rw[ea]at e;simp only[Qj]at e;cases eb:as env1 with
  |none=>rw[eb]at e;cases e
  |some p=>
   obtain⟨d2,env2⟩:=p;rw[eb]at e;cases e;exact .bind rl ea fun v1 G1 H1 ev1 r1=>⟨G1,env1,d2,_,ev1.rel,eb,fun vs G2 H2 ev2 r2=>k _ G2 H2 (ev1.trans ev2) (by simp only[RepA];exact⟨_,_,rfl,Rep.mono ev2.same _ r1,r2⟩)⟩
theorem a1e{i:Nat}{x:Str}{p:Pos}(ha:PE X (.Name x p) (a0D i))(hr:EAr X B es as)(hs:starEach (.Name x p::es) X.env=(false,eval (.Name x p) X.env)::starEach es X.env:=by rfl):EAr X B (.Name x p::es) (k1_ i as):=by
 refine pa_imp (a1Z ha hr hs) ?_
 rintro σ H Q ⟨G,env,d,env',rl,e,k⟩;unfold k1_ at e;cases ew:env[i]? with
 |none=>rw[ew]at e;cases e
 |some w=>
  rw[ew]at e;simp only[Qj]at e;cases em:w.mut with
  |none=>rw[em]at e;cases e
  |some ds=>
   rw[em]at e;simp only[Qj]at e;cases eb:as env with
   |none=>rw[eb]at e;cases e
   |some p=>
    obtain⟨d2,env2⟩:=p;rw[eb]at e;cases e;obtain⟨a',xs,hv,_⟩:=rl.own i w ds ew em;exact⟨_,hv,G,env,d2,_,rl,eb,fun vs G2 H2 ev2 r2=>k _ G2 H2 ev2 (by simp only[RepA];exact⟨_,_,rfl,hv,r2⟩)⟩
end
section
variable{X:Cx}{B:OA}{pos:Pos}{a b c e:Expr}{ma mb mc:Mo D}{ms:Mo (List D)}{es:List Expr}
theorem q8_{α β:Type}{o:Option α}{f:α->Option β}{y:β}(h:o.bind f=some y):∃x,o=some x/\f x=some y:=by
 cases o with
 |none=>cases h
 |some x=>exact⟨x,rfl,h⟩
theorem y8_{α β:Type}{o:Option α}{f:α->β}{y:β}(h:o.map f=some y):∃x,o=some x/\f x=y:=by
 cases o with
 |none=>cases h
 |some x=>exact⟨x,rfl,Yw h⟩
def y4_(ms:Mo (List D)):Mo D:=fun env=>(ms env).bind fun p=>if p.1.length≤1000 then some (.tup p.1,p.2)else none
theorem k5_{x1:Nat}(h:EDs X B es ms):ED X B (.Tuple es x1 pos) (y4_ ms):=by
 refine pe_imp (b6n h) ?_
 rintro σ H Q ⟨G,env,d,env',rl,e,k⟩;obtain⟨⟨ds,env1⟩,e1,e2⟩:=q8_ e;dsimp only at e2;split at e2
 ·rename_i hl
  cases e2;refine⟨G,env,ds,_,rl,e1,fun vs G1 H1 ev r1=>⟨by rw[r1.length];exact Uk (a7p hl),fun p hp=>?_⟩⟩
  exact k _ _ _ (ev.trans (ev.rel.alloc hp)) (a3k x8_ (z8_.mono (Le.upd (ev.rel.gnone hp)) _ r1))
 ·cases e2
def a1v(ms:Mo (List D)):Mo (List D):=fun env=>(ms env).bind fun p=>if p.1.length≤1000 then some p else none
theorem b7a{K:Qq}{G G1:Hp}{σ:St}{env env1:Env'}{H H1:Hp}{p:Addr}{xs:List V}{ds:List D}{Q:VK}(ev:Ev K B G σ env H G1 σ env1 H1)(hp:H1 p=none)(r:z8_ K G1 xs ds)
  (k:∀a xs G' H',Ev K B G σ env H G' σ env1 H'->H a=none-> ¬ Owned σ env1 a->H' a=some (.lst xs)->G' a=none->z8_ K G' xs ds->Q (.ref a) H'):Q (.ref p) (upd H1 p (.lst xs)):=by
 refine k p xs G1 _ (ev.trans (ev.rel.allocM hp)) ?_ (ev.rel.unowned hp) x8_ (ev.rel.gnone hp) r;cases h:H p with
 |none=>rfl
 |some o=>exact absurd hp (ev.live p (by rw[h];simp))
theorem a2D(h:EDs X B es ms):EL X B (.List es pos) (a1v ms):=by
 refine pe_imp (b6o h) ?_
 rintro σ H Q ⟨G,env,d,env',rl,e,k⟩;obtain⟨⟨ds,env1⟩,e1,e2⟩:=q8_ e;dsimp only at e2;split at e2
 ·rename_i hl
  cases e2;exact⟨G,env,_,_,rl,e1,fun vs G1 H1 ev r1=>⟨by rw[r1.length];exact Uk (a7p hl),fun p hp=>b7a ev hp r1 k⟩⟩
 ·cases e2
def mF(m:Mo (List D)):Mo D:=fun env=>(m env).map fun p=>(.lst p.1,p.2)
theorem j4_(h:EL X B e ms):ED X B e (mF ms):=by
 refine pe_imp h ?_
 rintro σ H Q ⟨G,env,d,env',rl,e,k⟩;obtain⟨⟨ds,env1⟩,e1,e2⟩:=y8_ e;cases e2;exact⟨G,env,ds,_,rl,e1,fun a xs G' H' ev ha no h' g' r=>k (.ref a) _ H' (ev.frz ha no h' g') (b0V x8_ (z8_.mono (Le.upd g') ds r))⟩
theorem a7z{K:Qq}{G:Hp}{xs:List V}{ds:List D}{k:Int}{d:D}(r:z8_ K G xs ds)(h:atI ds k=some d):∃x,atI xs k=some x/\Rep K G x d:=by
 unfold atI at h ⊢;rw[r.length];obtain⟨j,e1,e2⟩:=q8_ h;rw[e1];exact r.get e2
def dIx:D->D->Option D
 |.lst ds,.int k=>atI ds k
 |.tup ds,.int k=>atI ds k
 |_,_=>none
theorem b7b:OpD X B (rIx X.K) dIx:=by
 intro G σ env H x y a b d Q rl ra rb e k;cases a<;>cases b<;>first|(exact absurd (show(none:Option D)=some d from e) (by simp))|skip
 ·simp only[Rep]at ra rb
  obtain⟨p,xs,e1,q,r⟩:=ra;subst e1 rb;obtain⟨v,e3,e4⟩:=a7z r e;exact .inr (.inl ⟨p,xs,_,v,rfl,rfl,rl.sub.sqT q,e3,k v G H (.refl rl) e4⟩)
 ·simp only[Rep]at ra rb
  obtain⟨p,xs,e1,q,r⟩:=ra;subst e1 rb;obtain⟨v,e3,e4⟩:=a7z r e;exact .inl ⟨p,xs,_,v,rfl,rfl,rl.sub.sqL q,e3,k v G H (.refl rl) e4⟩
theorem u2_(ha:ED X B a ma)(hb:ED X B b mb)(hs:a4i b):ED X B (.Subscript a b pos) (z2_ dIx ma mb):=pe_imp (b0G b6D ha hb hs) (a5y b7b)
def j9_(i:Nat)(mb:Mo D):Mo D:=fun env=>(mb env).bind fun p=>((p.2[i]?).bind W.mutL).bind fun ds=>(dIx (.lst ds) p.1).map fun d=>(d,p.2)
theorem a2d{i:Nat}{x:Str}{p:Pos}(ha:PE X (.Name x p) (a0D i))(hb:ED X B b mb)(hs:a4i b)(hr:∀env d env' w ds,mb env=some (d,env')->env'[i]? =some w->w.mut=some ds->∃w0 ds0,env[i]? =some w0/\w0.mut=some ds0):
  ED X B (.Subscript (.Name x p) b pos) (j9_ i mb):=by
 refine pe_imp (b0G b0K ha hb hs) ?_
 rintro σ H Q ⟨G,env,d,env',rl,e,k⟩;obtain⟨⟨d1,env1⟩,e1,e2⟩:=q8_ e;obtain⟨ds,e3,e4⟩:=q8_ e2;obtain⟨w,e5,e6⟩:=q8_ e3;obtain⟨d2,e7,e8⟩:=y8_ e4;cases e8;obtain⟨w0,ds0,e9,e10⟩:=hr env d1 _ w (.l ds) e1 e5 (W.mutL_of e6);obtain⟨q,xs,h1,_⟩:=rl.own i w0 ds0 e9 e10;refine⟨_,h1,.bind rl e1 fun v G1 H1 ev r1=>?_⟩
 obtain⟨q',ys,h2,h3,h4,h5⟩:=ev.rel.ownL i w ds e5 e6;rw[h1]at h2;cases h2;dsimp only at e7;cases d1<;>first|(exact absurd (show(none:Option D)=some _ from e7) (by simp))|skip
 simp only[Rep]at r1;obtain⟨z,h6,h7⟩:=a7z h4 e7;exact⟨q,ys,_,z,rfl,r1,.inl (.inl h3),h6,k z G1 H1 ev h7⟩
def a1f(X:Cx)(B:OA)(r:List V->Hp->VK->Prop)(f:List D->Option D):Prop:=
 ∀(G:Hp) (σ:St) (env:Env') (H:Hp) (xs:List V) (ds:List D) (c:D) (Q:VK),Rel X.K B G σ env H->z8_ X.K G xs ds->f ds=some c->
  (∀v G' H',Ev X.K B G σ env H G' σ env H'->Rep X.K G' v c->Q v H')->r xs H Q
def mCB(f:List D->Option D)(ms:Mo (List D)):Mo D:=fun env=>(ms env).bind fun p=>(f p.1).map fun d=>(d,p.2)
theorem b1a{r:List V->Hp->VK->Prop}{f:List D->Option D}(o:a1f X B r f):∀σ H Q,TD X.K B (mCB f ms) σ H Q->tCB r (TDs X.K B ms) σ H Q:=by
 rintro σ H Q ⟨G,env,d,env',rl,e,k⟩;obtain⟨⟨ds,env1⟩,e1,e2⟩:=q8_ e;obtain⟨d1,e3,e4⟩:=y8_ e2;cases e4;exact⟨G,env,ds,_,rl,e1,fun vs G1 H1 ev r1=>o G1 σ _ H1 vs ds _ Q ev.rel r1 e3 fun v G2 H2 ev2 r2=>k v G2 H2 (ev.trans ev2) r2⟩
variable{r:List V->Hp->VK->Prop}{f:List D->Option D}{g:List D->Option (List D)}{id T:String}{x:Str}{p:Pos}
theorem w5_(hc:a0E X (.builtin id) r)(o:a1f X B r f)(hg:Gl X x)(hm:X.mg x=none)(hv:bootBuiltins x=some (.builtin id))(ha:EDs X B (e::es) ms)(hn:x≠"__name__":=by decide)(hdb:(x==("__debug__":Str))=false:=by decide)
  (he:starEach (e::es) X.env=(false,eval e X.env)::starEach es X.env:=by rfl)(hpl:(backTo pos (starEach es X.env)).any (·.1)=false:=by rfl):ED X B (.Call (.Name x p) (e::es) [] pos) (mCB f ms):=
 pe_imp (b0E hc hg hm hv ha hn hdb he hpl) (b1a o)
theorem a2e(hc:a0E X (.type T) r)(o:a1f X B r f)(hg:Gl X x)(hm:X.mg x=none)(hv:bootBuiltins x=some (.type T))(ha:EDs X B (e::es) ms)(hn:x≠"__name__":=by decide)(hdb:(x==("__debug__":Str))=false:=by decide)
  (he:starEach (e::es) X.env=(false,eval e X.env)::starEach es X.env:=by rfl)(hpl:(backTo pos (starEach es X.env)).any (·.1)=false:=by rfl):ED X B (.Call (.Name x p) (e::es) [] pos) (mCB f ms):=
 pe_imp (b6s hc hg hm hv ha hn hdb he hpl) (b1a o)
theorem a1g{K:Qq}{G:Hp}{xs:List V}{d:D}(h:z8_ K G xs [d]):∃x,xs=[x]/\Rep K G x d:=by
 simp only[z8_]at h;obtain⟨x,r,e,q,t⟩:=h;subst t;exact⟨x,e,q⟩
theorem a4n{K:Qq}{G:Hp}{xs:List V}{d d':D}(h:z8_ K G xs [d,d']):∃x y,xs=[x,y]/\Rep K G x d/\Rep K G y d':=by
 simp only[z8_]at h;obtain⟨x,r,e,q,y,r2,e2,q2,t⟩:=h;subst t e2;exact⟨x,y,e,q,q2⟩
def D.items:D->Option (List D)
 |.lst ds=>some ds
 |.tup ds=>some ds
 |_=>none
theorem b1b{K:Qq}{G H:Hp}{v:V}{d:D}{ds:List D}(l:Le G H)(r:Rep K G v d)(h:d.items=some ds):∃a xs,v=.ref a/\(SqL K H a xs∨SqT K H a xs)/\z8_ K G xs ds:=by
 cases d<;>first|(exact absurd (show(none:Option (List D))=some ds from h) (by simp))|skip
 ·cases h;simp only[Rep]at r;obtain⟨a,xs,e,q,t⟩:=r;exact⟨a,xs,e,.inr (l.sqT q),t⟩
 ·cases h;simp only[Rep]at r;obtain⟨a,xs,e,q,t⟩:=r;exact⟨a,xs,e,.inl (l.sqL q),t⟩
def k2_:List D->Option D
 |[d]=>d.items.map fun ds=>.int ds.length
 |_=>none
theorem a0R:a1f X B (fun xs H Q=>∃p ys,xs=[.ref p]/\(SqL X.K H p ys∨SqT X.K H p ys)/\Q (.int ys.length) H) k2_:=by
 intro G σ env H xs ds c Q rl r e k
 match ds,e with
 |[d],e=>
  obtain⟨x,rfl,q⟩:=a1g r;obtain⟨ds,e1,e2⟩:=y8_ e;obtain⟨a,ys,rfl,h1,h2⟩:=b1b rl.sub q e1;exact⟨a,ys,rfl,h1,k _ G H (.refl rl) (by rw[←e2,h2.length];simp only[Rep])⟩
def a0S:List D->Option D
 |[d]=>d.items.map fun ds=>.tup ds
 |_=>none
theorem a2E:a1f X B (fun xs H Q=>∃p ys,xs=[.ref p]/\((SqL X.K H p ys/\∀l,H l=none->Q (.ref l) (upd H l (.tup ys)))∨(SqT X.K H p ys/\Q (.ref p) H))) a0S:=by
 intro G σ env H xs ds c Q rl r e k
 match ds,e with
 |[d],e=>
  obtain⟨x,rfl,q⟩:=a1g r;obtain⟨ds,e1,e2⟩:=y8_ e;subst e2;cases d<;>first|(exact absurd (show(none:Option (List D))=some ds from e1) (by simp))|skip
  ·cases e1
   have q0:=q
   simp only[Rep]at q;obtain⟨a,ys,rfl,h1,h2⟩:=q;exact⟨a,ys,rfl,.inr ⟨rl.sub.sqT h1,k _ G H (.refl rl) q0⟩⟩
  ·cases e1
   simp only[Rep]at q;obtain⟨a,ys,rfl,h1,h2⟩:=q;exact⟨a,ys,rfl,.inl ⟨rl.sub.sqL h1,fun l hl=>k _ _ _ (rl.alloc hl) (a3k x8_ (z8_.mono (Le.upd (rl.gnone hl)) _ h2))⟩⟩
end
section
variable{K:Qq}{B:OA}{G G1:Hp}{σ σ1:St}{env env1:Env'}{H H1:Hp}{i:Nat}
theorem j2_{α:Type}{l:List α}{i j:Nat}{a b:α}(h:(l.set i a)[j]? =some b):(j=i/\b=a)∨(j≠i/\l[j]? =some b):=by
 by_cases hj:j=i
 ·subst hj
  have hl:j<l.length:=by
   have:=(Qb.mp h).1;rwa [Zo]at this
  rw[Yl hl]at h;cases h;exact .inl ⟨rfl,rfl⟩
 ·rw[Qc (Za hj)]at h
  exact .inr ⟨hj,h⟩
theorem a3r{α β:Type}{l:List α}{m:List β}{i:Nat}{a b:α}{c:β}(h:(l.set i a)[i]? =some b)(hl:l.length=m.length):(m.set i c)[i]? =some c:=by
 have:=(Qb.mp h).1;rw[Zo]at this;exact Yl (by omega)
theorem Ev.setDat{v:V}{d:D}(ev:Ev K B G σ env H G1 σ1 env1 H1)(r:Rep K G1 v d):Ev K B G σ env H G1 (σ1.set i (some v)) (env1.set i (.dat d)) H1:=by
 have rl:=ev.rel
 have ne:∀(j:Nat) (w:W) (es:Mu),(env1.set i (.dat d))[j]? =some w->w.mut=some es->j≠i/\env1[j]? =some w:=fun j w es q1 q2=>by
  rcases j2_ q1 with⟨_,z⟩|z
  ·rw[z]at q2;cases q2
  ·exact z
 refine⟨⟨rl.sub,by rw[Zo,Zo];exact rl.len,fun j d' q=>?_,fun j w es q1 q2=>?_,fun j k w w' es fs b q1 q2 q3 q4 q5 q6=>?_,fun j w b q1 qo q2=>?_,rl.old,rl.tabs,rl.gnt⟩,ev.same,ev.keep,ev.live,ev.stay,fun b z=>?_,fun j w q qp=>?_,by rw[Zo];exact ev.slen⟩
 ·rcases j2_ q with⟨z1,z2⟩|⟨z1,z2⟩
  ·subst z1;cases z2
   exact⟨v,a3r q rl.len,r⟩
  ·obtain⟨x,q1,q2⟩:=rl.dat j d' z2
   exact⟨x,by rw[Qc (Za z1)];exact q1,q2⟩
 ·obtain⟨hj,q⟩:=ne j w es q1 q2
  obtain⟨p,ys,e3,e4⟩:=rl.own j w es q q2;exact⟨p,ys,by rw[Qc (Za hj)];exact e3,e4⟩
 ·obtain⟨h1,h2⟩:=ne j w es q1 q2
  obtain⟨h3,h4⟩:=ne k w' fs q3 q4;rw[Qc (Za h1)]at q5;rw[Qc (Za h3)]at q6;exact rl.inj j k w w' es fs b h2 q2 h4 q4 q5 q6
 ·obtain⟨es,hm⟩:=own_mut qo
  obtain⟨h1,h2⟩:=ne j _ es q1 hm;rw[Qc (Za h1)]at q2;exact rl.fresh j w b h2 qo q2
 ·obtain⟨j,w,es,q1,q2,q3⟩:=z
  obtain⟨h1,h2⟩:=ne j w es q1 q2;rw[Qc (Za h1)]at q3;exact ev.sub b ⟨j,w,es,h2,q2,q3⟩
 ·obtain⟨es,hm⟩:=par_mut qp
  obtain⟨h1,h2⟩:=ne j _ es q hm;obtain⟨h3,h4⟩:=ev.par j w h2 qp;exact⟨by rw[Qc (Za h1)];exact h3,h4⟩
theorem Ev.setOwnM{a:Addr}{o:HO}{m:Mu}{wn:W}(ev:Ev K B G σ env H G1 σ1 env1 H1)(nb:¬ B a)(ha:H a=none)(no:¬ Owned σ1 env1 a)(h1:H1 a=some o)(g1:G1 a=none)(r:RepM K G1 o m)(wm:wn.mut=some m)(wo:wn.isPar=false):
  Ev K B G σ env H G1 (σ1.set i (some (.ref a))) (env1.set i wn) H1:=by
 have rl:=ev.rel
 refine⟨⟨rl.sub,by rw[Zo,Zo];exact rl.len,fun j d' q=>?_,fun j w es q1 q2=>?_,fun j k w w' es fs b q1 q2 q3 q4 q5 q6=>?_,fun j w b q1 qo q2=>?_,rl.old,rl.tabs,rl.gnt⟩,ev.same,ev.keep,ev.live,ev.stay,fun b z=>?_,fun j w q qp=>?_,by rw[Zo];exact ev.slen⟩
 ·rcases j2_ q with⟨z1,z2⟩|⟨z1,z2⟩
  ·rw[←z2]at wm;cases wm
  ·obtain⟨x,q1,q2⟩:=rl.dat j d' z2
   exact⟨x,by rw[Qc (Za z1)];exact q1,q2⟩
 ·rcases j2_ q1 with⟨z1,z2⟩|⟨z1,z2⟩
  ·subst z1 z2;rw[wm]at q2;cases q2
   exact⟨a,o,a3r q1 rl.len,h1,r,g1⟩
  ·obtain⟨p,ys,e3,e4⟩:=rl.own j w es z2 q2
   exact⟨p,ys,by rw[Qc (Za z1)];exact e3,e4⟩
 ·rcases j2_ q1 with⟨z1,z2⟩|⟨z1,z2⟩
  ·rcases j2_ q3 with⟨y1,y2⟩|⟨y1,y2⟩
   ·rw[z1,y1]
   ·subst z1
    rw[a3r q1 rl.len]at q5;cases q5;rw[Qc (Za y1)]at q6;exact absurd ⟨k,w',fs,y2,q4,q6⟩ no
  ·rw[Qc (Za z1)]at q5
   rcases j2_ q3 with⟨y1,y2⟩|⟨y1,y2⟩
   ·subst y1
    rw[a3r q3 rl.len]at q6;cases q6;exact absurd ⟨j,w,es,z2,q2,q5⟩ no
   ·rw[Qc (Za y1)]at q6
    exact rl.inj j k w w' es fs b z2 q2 y2 q4 q5 q6
 ·rcases j2_ q1 with⟨z1,z2⟩|⟨z1,z2⟩
  ·subst z1
   rw[a3r q1 rl.len]at q2;cases q2;exact nb
  ·rw[Qc (Za z1)]at q2
   exact rl.fresh j w b z2 qo q2
 ·obtain⟨j,w,es,q1,q2,q3⟩:=z
  rcases j2_ q1 with⟨z1,z2⟩|⟨z1,z2⟩
  ·subst z1
   rw[a3r q1 rl.len]at q3;cases q3;exact .inr ha
  ·rw[Qc (Za z1)]at q3
   exact ev.sub b ⟨j,w,es,z2,q2,q3⟩
 ·rcases j2_ q with⟨z1,z2⟩|⟨z1,z2⟩
  ·rw[z2,wo]at qp;cases qp
  ·obtain⟨h3,h4⟩:=ev.par j w z2 qp
   exact⟨by rw[Qc (Za z1)];exact h3,h4⟩
theorem Ev.setOwn{a:Addr}{xs:List V}{ds:List D}(ev:Ev K B G σ env H G1 σ1 env1 H1)(nb:¬ B a)(ha:H a=none)(no:¬ Owned σ1 env1 a)(h1:H1 a=some (.lst xs))(g1:G1 a=none)(r:z8_ K G1 xs ds):
  Ev K B G σ env H G1 (σ1.set i (some (.ref a))) (env1.set i (.own ds)) H1:=ev.setOwnM (m:=.l ds) nb ha no h1 g1 ⟨xs,rfl,r⟩ rfl rfl
theorem Ev.writeM{a:Addr}{o':HO}{w:W}{m m':Mu}(ev:Ev K B G σ env H G1 σ1 env1 H1)(e1:env1[i]? =some w)(e2:w.mut=some m)(e3:σ1[i]? =some (some (.ref a)))(r:RepM K G1 o' m'):
  Ev K B G σ env H G1 σ1 (env1.set i (w.putM m')) (upd H1 a o'):=by
 have rl:=ev.rel
 obtain⟨a',o0,h1,h2,h3,h4⟩:=rl.own i w m e1 e2;rw[e3]at h1;cases h1;have ow:Owned σ1 env1 a:=⟨i,w,m,e1,e2,e3⟩;have wp:(w.putM m').mut=some m':=W.putM_mut e2 m';have nd:∀d,w.putM m'≠.dat d:=fun d z=>by rw[z]at wp;cases wp
 have oo:Owned σ env a∨H a=none:=ev.sub a ow
 refine⟨⟨fun b u e=>?_,by rw[Zo];exact rl.len,fun j d' q=>?_,fun j v es q1 q2=>?_,fun j k v v' es fs b q1 q2 q3 q4 q5 q6=>?_,fun j v b q1 qo q2=>?_,fun b hb=>?_,rl.tabs.upd r.nt (fun φ z=>by rw[h2]at z;cases z;exact h3.ne φ rfl),rl.gnt⟩,ev.same,fun b o n t e=>?_,fun b e=>?_,ev.stay,fun b z=>?_,fun j v q qp=>?_,ev.slen⟩
 ·have hb:b≠a:=fun z=>by rw[z,h4]at e;cases e
  rw[v9_ hb];exact rl.sub b u e
 ·rcases j2_ q with⟨z1,z2⟩|⟨z1,z2⟩
  ·exact absurd z2.symm (nd d')
  ·exact rl.dat j d' z2
 ·rcases j2_ q1 with⟨z1,z2⟩|⟨z1,z2⟩
  ·subst z1 z2
   rw[wp]at q2;cases q2;exact⟨a,o',e3,x8_,r,h4⟩
  ·obtain⟨p,ys,f1,f2,f3,f4⟩:=rl.own j v es z2 q2
   have hp:p≠a:=fun z=>z1 (rl.inj j i v w es m a z2 q2 e1 e2 (by rw[f1,z]) e3)
   exact⟨p,ys,f1,by rw[v9_ hp];exact f2,f3,f4⟩
 ·have g:∀(n:Nat) (v:W) (es:Mu),(env1.set i (w.putM m'))[n]? =some v->v.mut=some es->∃v0 es0,env1[n]? =some v0/\v0.mut=some es0:=fun n v es y1 y2=>by
   rcases j2_ y1 with⟨z1,z2⟩|⟨z1,z2⟩
   ·rw[z1];exact⟨w,m,e1,e2⟩
   ·exact⟨v,es,z2,y2⟩
  obtain⟨v0,es0,y1,y2⟩:=g j v es q1 q2;obtain⟨v1,es1,y3,y4⟩:=g k v' fs q3 q4;exact rl.inj j k v0 v1 es0 es1 b y1 y2 y3 y4 q5 q6
 ·rcases j2_ q1 with⟨z1,z2⟩|⟨z1,z2⟩
  ·subst z1
   exact rl.fresh j w b e1 (by rw[z2,W.putM_own e2]at qo;exact qo) q2
  ·exact rl.fresh j v b z2 qo q2
 ·by_cases h:b=a
  ·subst h;rw[x8_];simp
  ·rw[v9_ h];exact rl.old b hb
 ·have hb:b≠a:=fun z=>by
   rcases oo with q|q
   ·exact n (z ▸ q)
   ·rw[z,q]at e;cases e
  rw[v9_ hb];exact ev.keep b o n t e
 ·by_cases h:b=a
  ·subst h;rw[x8_];simp
  ·rw[v9_ h];exact ev.live b e
 ·obtain⟨j,v,es,q1,q2,q3⟩:=z
  rcases j2_ q1 with⟨z1,z2⟩|⟨z1,z2⟩
  ·rw[z1,e3]at q3;cases q3
   exact oo
  ·exact ev.sub b ⟨j,v,es,z2,q2,q3⟩
 ·rcases j2_ q with⟨z1,z2⟩|⟨z1,z2⟩
  ·subst z1
   exact ev.par j w e1 (by rw[z2,W.putM_par e2]at qp;exact qp)
  ·exact ev.par j v z2 qp
theorem Ev.write{a:Addr}{xs':List V}{w:W}{ds ds':List D}(ev:Ev K B G σ env H G1 σ1 env1 H1)(e1:env1[i]? =some w)(e2:w.mutL=some ds)(e3:σ1[i]? =some (some (.ref a)))(r:z8_ K G1 xs' ds'):
  Ev K B G σ env H G1 σ1 (env1.set i (w.put ds')) (upd H1 a (.lst xs')):=by
 rw[W.put_eq e2];exact ev.writeM e1 (W.mutL_of e2) e3 ⟨xs',rfl,r⟩
end
section
variable{X:Cx}{B:OA}{pos:Pos}{a b c e:Expr}{ma mb mc:Mo D}{ms:Mo (List D)}{es:List Expr}{st:Stmt}{rest:List Stmt}{s1 s2:Mo Fl}
def mNx:Mo Fl:=fun env=>some (.nx,env)
def z9_(m n:Mo Fl):Mo Fl:=fun env=>(m env).bind fun p=>match p.1 with
 |.nx=>n p.2
 |fl=>some (fl,p.2)
theorem w6_:ESs X B [] mNx:=by
 refine pss_imp b5p ?_
 rintro D σ H ⟨G,env,fl,env',rl,e,k⟩;cases e;exact k σ G H (.refl rl)
theorem q6_(h1:ES X B st s1)(h2:ESs X B rest s2):ESs X B (st::rest) (z9_ s1 s2):=by
 refine pss_imp (b5q h1 h2) ?_
 rintro D σ H ⟨G,env,fl,env',rl,e,k⟩;obtain⟨⟨fl1,env1⟩,e1,e2⟩:=q8_ e;dsimp only at e2;cases fl1 with
 |nx=>
  dsimp only at e2;exact⟨G,env,.nx,env1,rl,e1,fun σ1 G1 H1 ev=>⟨G1,env1,fl,env',ev.rel,e2,Post.after _ _ k ev⟩⟩
 |bk=>cases e2;exact⟨G,env,.bk,_,rl,e1,k⟩
 |ct=>cases e2;exact⟨G,env,.ct,_,rl,e1,k⟩
 |ret d=>cases e2;exact⟨G,env,.ret d,_,rl,e1,k⟩
 |retL d=>cases e2;exact⟨G,env,.retL d,_,rl,e1,k⟩
theorem q9_(h1:ES X B st s1):ESs X B [st] s1:=b5r h1
def y2_(t:Mo Bool)(m n:Mo Fl):Mo Fl:=fun env=>(t env).bind fun p=>if p.1 then m p.2 else n p.2
theorem w7_{c:Expr}{s t:List Stmt}{tc:Mo Bool}(hc:ET X B c tc)(h1:ESs X B s s1)(h2:ESs X B t s2):ES X B (.If c s t pos) (y2_ tc s1 s2):=by
 refine ps_imp (b5v hc h1 h2) ?_
 rintro D σ H ⟨G,env,fl,env',rl,e,k⟩;obtain⟨⟨b1,env1⟩,e1,e2⟩:=q8_ e;dsimp only at e2;refine⟨G,env,b1,env1,rl,e1,fun G1 H1 ev=>?_⟩
 cases b1 with
 |true=>simp only[Zm]at e2 ⊢;exact⟨G1,env1,fl,env',ev.rel,e2,Post.after _ _ k ev⟩
 |false=>simp only[Zj,Yc]at e2 ⊢;exact⟨G1,env1,fl,env',ev.rel,e2,Post.after _ _ k ev⟩
def a3s:Mo Fl:=fun _=>none
theorem a5H:ES X B st a3s:=by
 refine ps_imp b5x ?_
 rintro D σ H ⟨G,env,fl,env',rl,e,k⟩;cases e
def v3_(m:Mo D):Mo Fl:=fun env=>(m env).map fun p=>(.ret p.1,p.2)
theorem y5_(h:ED X B e ma):ES X B (.Return (some e) pos) (v3_ ma):=by
 refine ps_imp (b0r h) ?_
 rintro D σ H ⟨G,env,fl,env',rl,e,k⟩;obtain⟨⟨d,env1⟩,e1,e2⟩:=y8_ e;cases e2;exact⟨G,env,d,_,rl,e1,fun v G' H' ev r=>k v σ G' H' ev r⟩
def a1w(m:Mo (List D)):Mo Fl:=fun env=>(m env).map fun p=>(.retL p.1,p.2)
theorem a3t(h:EL X B e ms):ES X B (.Return (some e) pos) (a1w ms):=by
 refine ps_imp (b0r h) ?_
 rintro D σ H ⟨G,env,fl,env',rl,e,k⟩;obtain⟨⟨d,env1⟩,e1,e2⟩:=y8_ e;cases e2;exact⟨G,env,d,_,rl,e1,fun a xs G' H' ev ha no h' g' r=>k a xs σ G' H' ev (fun z=>rl.old a z ha) no h' g' r⟩
def c2T(i:Nat):Mo Fl:=fun env=>match env[i]? with
 |some (.own ds)=>some (.retL ds,env.set i .nil)
 |_=>none
def v2_(i:Nat)(m:Mo D):Mo Fl:=fun env=>(m env).map fun p=>(.nx,p.2.set i (.dat p.1))
def a0d(i:Nat)(m:Mo (List D)):Mo Fl:=fun env=>(m env).map fun p=>(.nx,p.2.set i (.own p.1))
section
variable{i:Nat}{x:Str}{pos':Pos}
theorem x2_(hN:X.N.Nodup)(hi:X.N[i]? =some x)(hx:Loc X.env.scope x)(he:ED X B e ma)(hs:swapsWith e (some (.Name x pos')) pos.line X.env=pure false:=by rfl)(hf:X.fn x=true∨X.env.scope.names.lookup x=some .local:=by first|exact .inl rfl|exact .inr rfl|assumption):
  ES X B (.Assign [.Name x pos'] e pos) (v2_ i ma):=by
 refine ps_imp (a7a hN hi hx he hs hf) ?_
 rintro D σ H ⟨G,env,fl,env',rl,e,k⟩;obtain⟨⟨d,env1⟩,e1,e2⟩:=y8_ e;cases e2;exact⟨G,env,d,_,rl,e1,fun v G' H' ev r=>k _ G' H' (ev.setDat r)⟩
theorem a5I(hN:X.N.Nodup)(hi:X.N[i]? =some x)(hx:Loc X.env.scope x)(he:EL X B e ms)(hs:swapsWith e (some (.Name x pos')) pos.line X.env=pure false:=by rfl)(hf:X.fn x=true∨X.env.scope.names.lookup x=some .local:=by first|exact .inl rfl|exact .inr rfl|assumption):
  ES X B (.Assign [.Name x pos'] e pos) (a0d i ms):=by
 refine ps_imp (a7a hN hi hx he hs hf) ?_
 rintro D σ H ⟨G,env,fl,env',rl,e,k⟩;obtain⟨⟨d,env1⟩,e1,e2⟩:=y8_ e;cases e2;exact⟨G,env,d,_,rl,e1,fun a xs G' H' ev ha no h' g' r=>k _ G' H' (ev.setOwn (fun z=>rl.old a z ha) ha no h' g' r)⟩
def g1_(i:Nat)(f:D->D->Option D)(m:Mo D):Mo Fl:=fun env=>match env[i]? with
 |some (.dat d0)=>(m env).bind fun p=>(f d0 p.1).map fun d=>(.nx,p.2.set i (.dat d))
 |_=>none
theorem a2F{op:Operator}{r:R2}{f:D->D->Option D}(hN:X.N.Nodup)(hi:X.N[i]? =some x)(hx:Loc X.env.scope x)(he:ED X B e ma)(ho:OpR X (inplaceOp op) r)(o:OpD X B r f)
  (hf:X.fn x=true∨X.env.scope.names.lookup x=some .local:=by first|exact .inl rfl|exact .inr rfl|assumption):ES X B (.AugAssign (.Name x pos') op e pos) (g1_ i f ma):=by
 refine ps_imp (b5K hN hi hx he (ti:=r) (fun pins s σ H x y v u Q I rx ry q=>ho pins s σ H x y v u Q I rx ry q) hf) ?_
 rintro D σ H ⟨G,env,fl,env',rl,e,k⟩;unfold g1_ at e;split at e
 ·rename_i d0 e0
  obtain⟨⟨d,env1⟩,e1,e2⟩:=q8_ e;obtain⟨d2,e3,e4⟩:=y8_ e2;cases e4;obtain⟨v0,h0,r0⟩:=rl.dat i d0 e0;exact⟨v0,h0,.bind rl e1 fun v G' H' ev r1=>o G' σ _ H' v0 v d0 d _ _ ev.rel (Rep.mono ev.same _ r0) r1 e3 fun v2 G2 H2 ev2 r2=>k _ G2 H2 ((ev.trans ev2).setDat r2)⟩
 ·cases e
end
def a1N(i:Nat)(m:Mo D):Mo Fl:=fun env=>((env[i]?).bind W.mutL).bind fun _=>(m env).bind fun p=>(p.2[i]?).bind fun w=>w.mutL.bind fun ds=>if ds.length<100000 then some (.nx,p.2.set i (w.put (ds++[p.1])))else none
theorem a4o{i:Nat}{x:Str}{p apos cpos:Pos}(ho:PE X (.Name x p) (a0D i))(ha:EDs X B [e] (z5_ ma z7_))
  (hbase:attributeBase (.Name x p) "append" X.env (eval (.Name x p) X.env)=eval (.Name x p) X.env:=by rfl)
  (hfew:((backTo cpos (starEach [e] X.env)).all (fun x=>!x.1)&&(backToKw cpos (keywordEach [] X.env)).all (fun x=>x.1.isSome)
   &&decide ([e].length+([]:List Keyword).length+(if([]:List Keyword).isEmpty then 0 else 1)<30))=true:=by rfl)
  (hline:(apos.endLine==cpos.line)=true:=by rfl)(hs:starEach [e] X.env=(false,eval e X.env)::starEach [] X.env:=by rfl)(hplain:(backTo cpos (starEach [] X.env)).any (·.1)=false:=by rfl)
  (hsw:swapsWith (.Call (.Attribute (.Name x p) "append" apos) [e] [] cpos) none pos.line X.env=pure false:=by rfl):
  ES X B (.Expr (.Call (.Attribute (.Name x p) "append" apos) [e] [] cpos) pos) (a1N i ma):=by
 refine ps_imp (b0q (b6J PySem.F.plainAttrs_list PySem.F.slot_list_append PySem.F.type_list_append b0O ho ha hbase hfew hline hs hplain) hsw) ?_
 rintro D σ H ⟨G,env,fl,env',rl,e,k⟩;obtain⟨ds0,e0,e⟩:=q8_ e;obtain⟨w0,e00,em0⟩:=q8_ e0;obtain⟨⟨d,env1⟩,e1,e2⟩:=q8_ e;obtain⟨w,e3,e4⟩:=q8_ e2;obtain⟨ds,e5,e6⟩:=q8_ e4;dsimp only at e3 e6;split at e6
 ·rename_i hl
  cases e6;obtain⟨q,xs0,h1,h2,h3,h4⟩:=rl.ownL i w0 ds0 e00 em0;refine⟨_,h1,.inl ⟨rfl,xs0,.inl (.inl h2)⟩,G,env,[d],env1,rl,by show(ma env).bind _=_;rw[e1];rfl,fun vs G1 H1 ev r1=>?_⟩
  obtain⟨v,rfl,rv⟩:=a1g r1;obtain⟨q',xs,g1,g2,g3,g4⟩:=ev.rel.ownL i w ds e3 e5;rw[h1]at g1;cases g1;have hz:xs.length<sizeLine:=by rw[g3.length];exact Ul hl (by decide)
  exact⟨q,xs,v,rfl,rfl,g2,hz,k _ G1 _ (ev.write e3 e5 h1 (g3.append (repL_cons rv repL_nil)))⟩
 ·cases e6
end
section
variable(K:Qq)(B:OA)
def TGm(n:Nat)(g:OZ):TG:=fun v σ H Q=>∃G env d env',Rel K B G σ env H/\Rep K G v d/\g d env=some env'/\∀σ' G' H',Ev K B G σ env H G' σ' env' H'->(∀j,j<n->σ'[j]? =σ[j]?)->Q σ' H'
def b7c(n:Nat)(g:List D->Env'->Option Env'):TGs:=fun vs σ H Q=>∃G env ds env',Rel K B G σ env H/\z8_ K G vs ds/\g ds env=some env'/\∀σ' G' H',Ev K B G σ env H G' σ' env' H'->(∀j,j<n->σ'[j]? =σ[j]?)->Q σ' H'
end
abbrev EG(X:Cx)(B:OA)(n:Nat)(e:Expr)(g:OZ):Prop:=PG X e (TGm X.K B n g)
abbrev EGs(X:Cx)(B:OA)(n:Nat)(es:List Expr)(g:List D->Env'->Option Env'):Prop:=PGs X es (b7c X.K B n g)
theorem a5J{X:Cx}{e:Expr}{t t':TG}(h:PG X e t)(i:∀v σ H Q,t' v σ H Q->t v σ H Q):PG X e t':=fun pins s σ H v u Q I r q=>h pins s σ H v u Q I r (i v σ H Q q)
theorem b1c{X:Cx}{e:List Expr}{t t':TGs}(h:PGs X e t)(i:∀v σ H Q,t' v σ H Q->t v σ H Q):PGs X e t':=fun pins s σ H v u Q I r q=>h pins s σ H v u Q I r (i v σ H Q q)
def gN(i:Nat):OZ:=fun d env=>some (env.set i (.dat d))
def gNl:List D->Env'->Option Env':=fun ds env=>match ds with
 |[]=>some env
 |_=>none
def gCn(g:OZ)(gs:List D->Env'->Option Env'):List D->Env'->Option Env':=fun ds env=>match ds with
 |d::ds=>(g d env).bind (gs ds)
 |[]=>none
def gT(n:Nat)(gs:List D->Env'->Option Env'):OZ:=fun d env=>match d with
 |.tup ds=>if ds.length=n then gs ds env else none
 |_=>none
section
variable{X:Cx}{B:OA}{pos:Pos}{a b c e tg:Expr}{ma mb mc:Mo D}{ms:Mo (List D)}{es:List Expr}{g:OZ}{gs:List D->Env'->Option Env'}
theorem y3_{n i:Nat}{x:Str}(hn:n≤i)(hN:X.N.Nodup)(hi:X.N[i]? =some x)(hx:Loc X.env.scope x)(hf:X.fn x=true∨X.env.scope.names.lookup x=some .local:=by first|exact .inl rfl|exact .inr rfl|assumption):EG X B n (.Name x pos) (gN i):=by
 refine a5J (b5y hN hi hx hf) ?_
 rintro v σ H Q ⟨G,env,d,env',rl,r,e,k⟩;cases e;exact k _ G H ((Ev.refl rl).setDat r) fun j hj=>Qc (by omega)
theorem a0u{n:Nat}:EGs X B n [] gNl:=by
 refine b1c b5B ?_
 rintro vs σ H Q ⟨G,env,ds,env',rl,r,e,k⟩;unfold gNl at e;split at e
 ·cases e
  simp only[z8_]at r;exact⟨r,k _ G H (.refl rl) fun _ _=>rfl⟩
 ·cases e
theorem k9_{n:Nat}(h1:EG X B n e g)(h2:EGs X B n es gs)(hs:(assignEach (e::es) X.env).map (·.2)=assign e X.env::(assignEach es X.env).map (·.2):=by rfl):EGs X B n (e::es) (gCn g gs):=by
 refine b1c (b5C h1 h2 hs) ?_
 rintro vs σ H Q ⟨G,env,ds,env',rl,r,e,k⟩;unfold gCn at e;split at e
 ·rename_i d ds
  obtain⟨env1,e1,e2⟩:=q8_ e;simp only[z8_]at r;obtain⟨x,xs,e3,r1,r2⟩:=r;exact⟨x,xs,e3,G,env,d,env1,rl,r1,e1,fun σ1 G1 H1 ev y1=>⟨G1,env1,ds,env',ev.rel,z8_.mono ev.same _ r2,e2,fun σ2 G2 H2 ev2 y2=>k σ2 G2 H2 (ev.trans ev2) fun j hj=>(y2 j hj).trans (y1 j hj)⟩⟩
 ·cases e
theorem a0v{nb n k':Nat}(hc:X.calm=true)(h:EGs X B nb es gs)(hn:(assignEach es X.env).length=n:=by rfl)(hst:(assignEach es X.env).findIdx? (·.1)=none:=by rfl):EG X B nb (.Tuple es k' pos) (gT n gs):=by
 refine a5J (b5E hc h hn hst) ?_
 rintro v σ H Q ⟨G,env,d,env',rl,r,e,k⟩;unfold gT at e;split at e
 ·rename_i ds
  split at e
  ·rename_i hl
   simp only[Rep]at r;obtain⟨p,xs,e1,q,t⟩:=r;exact⟨p,xs,e1,rl.sub.sqT q,t.length.trans hl,G,env,ds,env',rl,t,e,k⟩
  ·cases e
 ·cases e
def gS(s:Nat)(mi:Mo D):OZ:=fun d env=>((env[s]?).bind W.mutL).bind fun _=>(mi env).bind fun p=>match p.1 with
 |.int k=>(p.2[s]?).bind fun w=>w.mutL.bind fun ds=>(ixN ds.length k).map fun j=>p.2.set s (w.put (ds.set j d))
 |_=>none
theorem b1d{n s:Nat}{x:Str}{p:Pos}(ho:PE X (.Name x p) (a0D s))(hi:ED X B b mb)
  (ha:∀v,assign (.Subscript (.Name x p) b pos) X.env v=(do
   let ov←holding [v] (eval (.Name x p) X.env)
   let iv←holding [v,ov] (eval b X.env)
   standAt pos
   holding [v,ov,iv] (setItem ov iv v)
   release [v,ov,iv] []):=by intro _;rfl):EG X B n (.Subscript (.Name x p) b pos) (gS s mb):=by
 refine a5J (b0s ho hi b6G ha) ?_
 rintro v σ H Q ⟨G,env,d,env',rl,r,e,k⟩;obtain⟨ds0,e0,e⟩:=q8_ e;obtain⟨w0,e00,em0⟩:=q8_ e0;obtain⟨⟨d1,env1⟩,e1,e2⟩:=q8_ e;dsimp only at e2;split at e2
 ·rename_i kk
  obtain⟨w,e3,e4⟩:=q8_ e2;obtain⟨ds,e5,e6⟩:=q8_ e4;obtain⟨j,e7,e8⟩:=y8_ e6;cases e8;obtain⟨q,xs0,h1,h2,h3,h4⟩:=rl.ownL s w0 ds0 e00 em0;refine⟨_,h1,.bind rl e1 fun iv G1 H1 ev r1=>?_⟩
  simp only[Rep]at r1;obtain⟨q',xs,g1,g2,g3,g4⟩:=ev.rel.ownL s w ds e3 e5;rw[h1]at g1;cases g1;exact⟨q,xs,kk,j,rfl,r1,g2,by rw[g3.length];exact e7,k _ G1 _ (ev.write e3 e5 h1 (g3.set j (Rep.mono ev.same _ r))) fun _ _=>rfl⟩
 ·cases e2
def w8_(m:Mo D)(g:OZ):Mo Fl:=fun env=>(m env).bind fun p=>(g p.1 p.2).map fun e=>(.nx,e)
theorem a2f(he:ED X B e ma)(hg:EG X B 0 tg g)(hs:swapsWithSole [tg] e pos.line X.env=pure false:=by rfl)(hw:swappedStores [tg] e X.env=pure none:=by rfl)
  (h1:(assignEach [tg] X.env).map (·.2)=[assign tg X.env]:=by rfl):ES X B (.Assign [tg] e pos) (w8_ ma g):=by
 refine ps_imp (b5G he hg hs hw h1) ?_
 rintro D σ H ⟨G,env,fl,env',rl,e,k⟩;obtain⟨⟨d1,env1⟩,e1,e2⟩:=q8_ e;obtain⟨env2,e3,e4⟩:=y8_ e2;cases e4;exact .bind rl e1 fun v G1 H1 ev r=>⟨G1,env1,d1,_,ev.rel,r,e3,fun σ2 G2 H2 ev2 _=>k σ2 G2 H2 (ev.trans ev2)⟩
def a2g(i j:Nat)(ms:Mo (List D)):Mo Fl:=fun env=>(ms env).bind fun p=>match p.1 with
 |[d,d']=>some (.nx,(p.2.set i (.dat d)).set j (.dat d'))
 |_=>none
theorem a5K{i j:Nat}{x y:Str}{px py pt pt2:Pos}{kt k2}(hc:X.calm=true)(hN:X.N.Nodup)(hi:X.N[i]? =some x)(hj:X.N[j]? =some y)(hij:i≠j)
  (hx:X.env.scope.names.lookup x=some .local)(hy:X.env.scope.names.lookup y=some .local)(ha:EDs X B [a,b] ms)
  (hw:swappedStores [.Tuple [.Name x px,.Name y py] kt pt] (.Tuple [a,b] k2 pt2) X.env=pure (some [x,y]))
  (hs:swapsWithSole [.Tuple [.Name x px,.Name y py] kt pt] (.Tuple [a,b] k2 pt2) pos.line X.env=pure false:=by rfl):
  ES X B (.Assign [.Tuple [.Name x px,.Name y py] kt pt] (.Tuple [a,b] k2 pt2) pos) (a2g i j ms):=by
 refine ps_imp (b5I hc hN hi hj hij hx hy ha hw hs) ?_
 rintro D σ H ⟨G,env,fl,env',rl,e,k⟩;obtain⟨⟨ds,env1⟩,e1,e2⟩:=q8_ e;dsimp only at e2;split at e2
 ·cases e2
  refine⟨G,env,_,env1,rl,e1,fun vs G1 H1 ev r=>?_⟩
  obtain⟨v,w,rfl,r1,r2⟩:=a4n r;exact⟨v,w,rfl,k _ G1 H1 ((ev.setDat r1).setDat r2)⟩
 ·cases e2
structure ItD(K:Qq)(J:It)(G:Hp)(ds:List D):Prop where
 go:∀i H,Le G H->i<ds.length->J.go i H
 stop:∀i H,Le G H->ds.length≤i->J.stop i H
 yld:∀i H x H' d,Le G H->J.yld i H x H'->ds[i]? =some d->(H'=H/\Rep K G x d)∨ ∃p o,NT o/\H p=none/\H'=upd H p o/\Rep K (upd G p o) x d
end
section
variable(K:Qq)(B:OA)
def TIm(m:Mo (List D)):TI:=fun σ H R=>∃G env ds env',Rel K B G σ env H/\m env=some (ds,env')/\∀J G' H',Ev K B G σ env H G' σ env' H'->ItD K J G' ds->R J H'
end
abbrev EI(X:Cx)(B:OA)(tg e:Expr)(m:Mo (List D)):Prop:=PI X tg e (TIm X.K B m)
theorem a5L{X:Cx}{tg e:Expr}{t t':TI}(h:PI X tg e t)(i:∀σ H R,t' σ H R->t σ H R):PI X tg e t':=fun pins s σ H R I q=>h pins s σ H R I (i σ H R q)
section
variable{X:Cx}{B:OA}{pos:Pos}{a b c e tg:Expr}{ma mb mc:Mo D}{ms:Mo (List D)}{es:List Expr}{g:OZ}{gs:List D->Env'->Option Env'}
def b7d(K:Qq)(tl:TE):TI:=fun σ H R=>tl σ H fun x H1=>∃a,x=.ref a/\(((∃xs,SqL K H1 a xs)/\R (Itl K a) H1)∨((∃xs,SqT K H1 a xs)/\R (Itt K a) H1))
theorem b7e{l:Expr}{tl:TE}(hl:PE X l tl):PI X tg l (b7d X.K tl):=by
 intro pins s σ H R I h;refine thn (hl pins s σ H _ I h) fun v s1 ⟨x,H1,I1,r1,q1⟩=>?_
 obtain⟨a,e,q⟩:=q1;subst e;cases r1
 rcases q with⟨⟨xs,hq⟩,q⟩|⟨⟨xs,hq⟩,q⟩
 ·obtain⟨its,rv,p,hz⟩:=I1.list hq
  refine Jg p.isList ?_
  refine⟨s1.heap.objs.size,[s1.heap.objs.size],_,_,H1,rfl,I1.kept (t':=s1.toks) fun b o e=>Qx _ e,b5N a _,⟨_,Qn _ rfl,rfl,rfl⟩,fun b hb=>?_,q⟩
  have e:b=s1.heap.objs.size:=by simpa using hb
  subst e;exact I1.fpOk (Qp _) (I1.hok.fresh (Qp _))
 ·obtain⟨its,rv,p,hz⟩:=I1.tuple hq
  refine Ud (show s1.heap.IsTuple a its.toArray from p) ?_
  refine⟨s1.heap.objs.size,[s1.heap.objs.size],_,_,H1,rfl,I1.kept (t':=s1.toks) fun b o e=>Qx _ e,b5O a _,⟨_,Qn _ rfl,rfl,rfl⟩,fun b hb=>?_,q⟩
  have e:b=s1.heap.objs.size:=by simpa using hb
  subst e;exact I1.fpOk (Qp _) (I1.hok.fresh (Qp _))
def y6_(m:Mo D):Mo (List D):=fun env=>(m env).bind fun p=>p.1.items.map fun ds=>(ds,p.2)
theorem b7f{K:Qq}{G:Hp}{p:Addr}{xs:List V}{ds:List D}(q:SqL K G p xs)(r:z8_ K G xs ds):ItD K (Itl K p) G ds where
 go:=fun i H l hi=>⟨xs,xs[i]'(by rw[r.length];exact hi),l.sqL q,by simp⟩
 stop:=fun i H l hi=>⟨xs,l.sqL q,by rw[r.length];exact hi⟩
 yld:=fun i H x H' d l y e=>by
  obtain⟨rfl,y⟩:=y;obtain⟨x',e1,e2⟩:=r.get e;have:=y xs (l.sqL q);rw[e1]at this;cases this;exact .inl ⟨rfl,e2⟩
theorem b7g{K:Qq}{G:Hp}{p:Addr}{xs:List V}{ds:List D}(q:SqU K G p xs)(r:z8_ K G xs ds):ItD K (Itt K p) G ds where
 go:=fun i H l hi=>⟨xs,xs[i]'(by rw[r.length];exact hi),l.sqT q,by simp⟩
 stop:=fun i H l hi=>⟨xs,l.sqT q,by rw[r.length];exact hi⟩
 yld:=fun i H x H' d l y e=>by
  obtain⟨rfl,y⟩:=y;obtain⟨x',e1,e2⟩:=r.get e;have:=y xs (l.sqT q);rw[e1]at this;cases this;exact .inl ⟨rfl,e2⟩
theorem j5_(h:ED X B e ma):EI X B tg e (y6_ ma):=by
 refine a5L (b7e h) ?_
 rintro σ H R ⟨G,env,ds,env',rl,e,k⟩;obtain⟨⟨d,env1⟩,e1,e2⟩:=q8_ e;obtain⟨ds',e3,e4⟩:=y8_ e2;cases e4;refine .bind rl e1 fun v G1 H1 ev r=>?_
 cases d<;>first|(exact absurd (show(none:Option (List D))=some _ from e3) (by simp))|skip
 ·cases e3
  simp only[Rep]at r;obtain⟨p,xs,e5,q,t⟩:=r;exact⟨p,e5,.inr ⟨⟨xs,ev.rel.sub.sqT q⟩,k _ G1 H1 ev (b7g q t)⟩⟩
 ·cases e3
  simp only[Rep]at r;obtain⟨p,xs,e5,q,t⟩:=r;exact⟨p,e5,.inl ⟨⟨xs,ev.rel.sub.sqL q⟩,k _ G1 H1 ev (b7f q t)⟩⟩
def a0e(lo:Int)(n:Nat):List D:=(List.range n).map fun(i:Nat)=>D.int (lo+i)
theorem b1e{K:Qq}{G:Hp}{lo:Int}{n:Nat}:ItD K (Itr lo n) G (a0e lo n)where
 go:=fun i H l hi=>by
  have h:i<n:=by simpa [a0e]using hi
  exact h
 stop:=fun i H l hi=>by
  have h:n≤i:=by simpa [a0e]using hi
  exact h
 yld:=fun i H x H' d l y e=>by
  obtain⟨rfl,rfl⟩:=y;refine .inl ⟨rfl,?_⟩;unfold a0e at e;rw[Zu]at e;cases hr:(List.range n)[i]? with
  |none=>rw[hr]at e;cases e
  |some j=>
   rw[hr]at e;cases e;obtain⟨h1,h2⟩:=Qb.mp hr
   simp at h2
   subst h2;simp only[Rep]
def a0m(ms:Mo (List D)):Mo (List D):=fun env=>(ms env).bind fun p=>match p.1 with
 |[.int j]=>if-1000000<j/\j<1000000 then some (a0e 0 j.toNat,p.2)else none
 |_=>none
def a4p(ms:Mo (List D)):Mo (List D):=fun env=>(ms env).bind fun p=>match p.1 with
 |[.int i,.int j]=>if-1000000<i/\i<1000000/\ -1000000<j/\j<1000000 then some (a0e i (j-i).toNat,p.2)else none
 |_=>none
theorem a4q{p:Pos}(hg:Gl X "range")(hm:X.mg "range"=none)(ha:EDs X B [a] ms)(hs:starEach [a] X.env=[(false,eval a X.env)]:=by rfl):EI X B tg (.Call (.Name "range" p) [a] [] pos) (a0m ms):=by
 have h0:=b5S (tg:=tg) (p:=p) (pos:=pos) hg hm ha hs
 refine a5L h0 ?_
 rintro σ H R ⟨G,env,ds,env',rl,e,k⟩;obtain⟨⟨ds',env1⟩,e1,e2⟩:=q8_ e;dsimp only at e2;split at e2
 ·rename_i j
  split at e2
  ·rename_i hj
   cases e2;refine⟨G,env,_,_,rl,e1,fun vs G1 H1 ev r=>?_⟩
   obtain⟨v,rfl,r1⟩:=a1g r;simp only[Rep]at r1;subst r1;exact⟨j,rfl,by omega,by omega,k _ G1 H1 ev b1e⟩
  ·cases e2
 ·cases e2
theorem b1f{p:Pos}(hg:Gl X "range")(hm:X.mg "range"=none)(ha:EDs X B [a,b] ms)(hs:starEach [a,b] X.env=[(false,eval a X.env),(false,eval b X.env)]:=by rfl)(hs2:starEach [b] X.env=[(false,eval b X.env)]:=by rfl):EI X B tg (.Call (.Name "range" p) [a,b] [] pos) (a4p ms):=by
 have h0:=b5T (tg:=tg) (p:=p) (pos:=pos) hg hm ha hs hs2
 refine a5L h0 ?_
 rintro σ H R ⟨G,env,ds,env',rl,e,k⟩;obtain⟨⟨ds',env1⟩,e1,e2⟩:=q8_ e;dsimp only at e2;split at e2
 ·rename_i i j
  split at e2
  ·rename_i hj
   cases e2;refine⟨G,env,_,_,rl,e1,fun vs G1 H1 ev r=>?_⟩
   obtain⟨v,w,rfl,r1,r2⟩:=a4n r;simp only[Rep]at r1 r2;subst r1 r2;exact⟨i,j,rfl,⟨by omega,by omega,by omega,by omega⟩,k _ G1 H1 ev b1e⟩
  ·cases e2
 ·cases e2
def loop(g:OZ)(body:Mo Fl):List D->Mo Fl
 |[],env=>some (.nx,env)
 |d::ds,env=>(g d env).bind fun e1=>(body e1).bind fun p=>match p.1 with
  |.nx=>loop g body ds p.2
  |.ct=>loop g body ds p.2
  |.bk=>some (.nx,p.2)
  |.ret d=>some (.ret d,p.2)
  |.retL d=>some (.retL d,p.2)
def j8_(mi:Mo (List D))(g:OZ)(body:Mo Fl):Mo Fl:=fun env=>(mi env).bind fun p=>loop g body p.1 p.2
theorem a0w{iter:Expr}{body:List Stmt}{mi:Mo (List D)}{mbd:Mo Fl}(hp:PassesOwn (model X.prog X.w) X.A X.env X.xe)(hc:X.calm=true)(hi:EI X B tg iter mi)(hg:EG X B 0 tg g)(hb:ESs X B body mbd)
  (hs:∀x,foldedSetIterable iter X.env x=pure x:=by intro _;rfl):ES X B (.For tg iter body [] pos) (j8_ mi g mbd):=by
 refine ps_imp (b5W hp hc hi hg hb hs) ?_
 rintro D σ H ⟨G,env,fl,env',rl,e,k⟩;obtain⟨⟨ds,env1⟩,e1,e2⟩:=q8_ e;dsimp only at e2;refine⟨G,env,ds,env1,rl,e1,fun J G1 H1 ev1 it=>?_⟩
 refine⟨fun i m σ2 H2=>m=ds.length-i/\i≤ds.length/\∃G2 env2,Ev X.K B G σ env H G2 σ2 env2 H2/\Le G1 G2/\loop g mbd (ds.drop i) env2=some (fl,env'),⟨_,rfl,Va _,G1,env1,ev1,Le.refl,by simpa using e2⟩,?_⟩
 rintro i m σ2 H2 ⟨rfl,hi2,G2,env2,ev2,l2,e3⟩;have lH:Le G1 H2:=l2.trans ev2.rel.sub
 by_cases hlt:i<ds.length
 ·refine .inr ⟨it.go i H2 lH hlt,fun σ' H'=>∃G3 env3,Ev X.K B G σ env H G3 σ' env3 H'/\Le G1 G3/\loop g mbd (ds.drop (i+1)) env3=some (fl,env'),?_,fun x H3 y=>?_⟩
  ·rintro σ' H' ⟨G3,env3,ev3,l3,e4⟩
   exact⟨ds.length-(i+1),by omega,rfl,hlt,G3,env3,ev3,l3,e4⟩
  ·have ed:ds.drop i=ds[i]::ds.drop (i+1):=List.drop_eq_getElem_cons hlt
   rw[ed]at e3;obtain⟨env4,e4,e5⟩:=q8_ e3;obtain⟨⟨fl5,env5⟩,e6,e7⟩:=q8_ e5;have hget:ds[i]? =some ds[i]:=by simp[hlt]
   have st:∃G3,Ev X.K B G σ env H G3 σ2 env2 H3/\Le G1 G3/\Rep X.K G3 x ds[i]:=by
    rcases it.yld i H2 x H3 ds[i] lH y hget with⟨rfl,r⟩|⟨p,o,hno,hp2,rfl,r⟩
    ·exact⟨G2,ev2,l2,Rep.mono l2 _ r⟩
    ·have gp:=ev2.rel.gnone hp2
     refine⟨upd G2 p o,ev2.trans (ev2.rel.alloc hp2 hno),l2.trans (Le.upd gp),Rep.mono (fun b u q=>?_) _ r⟩
     by_cases hb2:b=p
     ·subst hb2;rw[x8_]at q ⊢;exact q
     ·rw[v9_ hb2]at q ⊢;exact l2 b u q
   obtain⟨G3,ev3,l3,r3⟩:=st;refine⟨G3,env2,ds[i],env4,ev3.rel,r3,e4,fun σ4 G4 H4 ev4 _=>?_⟩
   have ev5:=ev3.trans ev4
   refine⟨G4,env4,fl5,env5,ev4.rel,e6,?_⟩;cases fl5 with
   |nx=>exact fun σ6 G6 H6 ev6=>⟨G6,env5,ev5.trans ev6,(l3.trans ev4.same).trans ev6.same,e7⟩
   |ct=>exact fun σ6 G6 H6 ev6=>⟨G6,env5,ev5.trans ev6,(l3.trans ev4.same).trans ev6.same,e7⟩
   |bk=>cases e7;exact fun σ6 G6 H6 ev6=>k σ6 G6 H6 (ev5.trans ev6)
   |ret d=>cases e7;exact fun v σ6 G6 H6 ev6=>k v σ6 G6 H6 (ev5.trans ev6)
   |retL d=>cases e7;exact fun a xs σ6 G6 H6 ev6=>k a xs σ6 G6 H6 (ev5.trans ev6)
 ·have ei:i=ds.length:=by omega
  subst ei;rw[List.drop_length]at e3;cases e3;exact .inl ⟨it.stop _ H2 lH (Qp _),k σ2 G2 H2 ev2⟩
end
inductive Rr where
 |d (d:D)|l (ds:List D)
abbrev Fn:=List W->Option (Rr×List W)
def u3_:OA:=fun _=>False
def a3u(ws:List W):Prop:=∀w∈ws,(∃d,w=.dat d)∨w.isPar=true
def b7h(K:Qq)(G:Hp)(vs:List V)(ws:List W)(H:Hp)(ws':List W)(Q:VK):Rr->Prop
 |.d d=>∀v G' H',Ev K u3_ G (vs.map some) ws H G' (vs.map some) ws' H'->Rep K G' v d->Q v H'
 |.l ds=>∀a xs G' H',Ev K u3_ G (vs.map some) ws H G' (vs.map some) ws' H'->H a=none-> ¬ Owned (vs.map some) ws' a->H' a=some (.lst xs)->G' a=none->z8_ K G' xs ds->Q (.ref a) H'
def SpF(K:Qq)(n:Nat)(f:Fn):Sp:=fun vs H Q _=>∃G ws r ws',ws.length=n/\a3u ws/\Rel K u3_ G (vs.map some) ws H/\f ws=some (r,ws')/\b7h K G vs ws H ws' Q r
def a4r:W->W->W
 |.par _,.par ds=>.par ds
 |.par _,.parD ks vs=>.parD ks vs
 |.parD _ _,.par ds=>.par ds
 |.parD _ _,.parD ks vs=>.parD ks vs
 |.par _,.parX ks vs=>.parX ks vs
 |.parD _ _,.parX ks vs=>.parX ks vs
 |.parX _ _,.par ds=>.par ds
 |.parX _ _,.parD ks vs=>.parD ks vs
 |.parX _ _,.parX ks vs=>.parX ks vs
 |.parX _ _,_=>.nil
 |.par _,_=>.nil
 |.parD _ _,_=>.nil
 |w,_=>w
def a0G(ws env:List W):List W:=List.zipWith a4r ws env
def fnM(N:Nat)(mb:Mo Fl):Fn:=fun ws=>match mb (ws++List.replicate (N-ws.length) .nil)with
 |some (.ret d,env)=>some (.d d,a0G ws env)
 |some (.retL ds,env)=>some (.l ds,a0G ws env)
 |some (.nx,env)=>some (.d .non,a0G ws env)
 |_=>none
theorem a2G{N:List Str}{vs:List V}{i:Nat}(hi:i<vs.length):(start N vs)[i]? =(vs.map some)[i]?:=by
 unfold start;rw[Yq (by simpa using hi)]
theorem a2h{α:Type}{l:List α}{n i:Nat}{a b:α}(h:(l++List.replicate n a)[i]? =some b):(i<l.length/\l[i]? =some b)∨(l.length≤i/\b=a):=by
 by_cases hi:i<l.length
 ·rw[Yq hi]at h;exact .inl ⟨hi,h⟩
 ·rw[Ys (by omega),Ua]at h
  split at h
  ·cases h;exact .inr ⟨by omega,rfl⟩
  ·cases h
section
variable{K:Qq}{G:Hp}{vs:List V}{ws:List W}{H:Hp}{N:List Str}
theorem b1g(hl:ws.length=vs.length){n:Nat}{a:Addr}:Owned (start N vs) (ws++List.replicate n .nil) a↔Owned (vs.map some) ws a:=by
 constructor
 ·rintro⟨i,w,ds,e1,e2,e3⟩
  rcases a2h e1 with⟨h1,h2⟩|⟨h1,h2⟩
  ·rw[a2G (by omega)]at e3;exact⟨i,w,ds,h2,e2,e3⟩
  ·rw[h2]at e2;cases e2
 ·rintro⟨i,w,ds,e1,e2,e3⟩
  have hi:i<ws.length:=(Qb.mp e1).1
  exact⟨i,w,ds,by rw[Yq hi];exact e1,e2,by rw[a2G (by omega)];exact e3⟩
theorem b7i(r:Rel K u3_ G (vs.map some) ws H)(ok:a3u ws)(hN:vs.length≤N.length):Rel K (fun b=>H b≠none) G (start N vs) (ws++List.replicate (N.length-ws.length) .nil) H:=by
 have hl:ws.length=vs.length:=by have:=r.len;rwa [Qw]at this
 have noOwn:∀(i:Nat) (w:W),ws[i]? =some w->w.isOwn=true->False:=fun i w e h=>by
  rcases ok _ (Jh e)with⟨d,z⟩|z
  ·subst z;cases h
  ·cases w<;>first|(cases h;done)|(cases z;done)
 refine⟨r.sub,?_,fun i d e=>?_,fun i w ds e1 e2=>?_,fun i j w w' ds es a q1 q2 q3 q4 q5 q6=>?_,fun i w a q1 qo q2=>?_,fun b h=>h,r.tabs,r.gnt⟩
 ·unfold start
  simp only[Zz,Yt,Qw]
  omega
 ·rcases a2h e with⟨h1,h2⟩|⟨h1,h2⟩
  ·obtain⟨v,e1,e2⟩:=r.dat i d h2
   exact⟨v,by rw[a2G (by omega)];exact e1,e2⟩
  ·cases h2
 ·rcases a2h e1 with⟨h1,h2⟩|⟨h1,h2⟩
  ·obtain⟨a,xs,e3,e4⟩:=r.own i w ds h2 e2
   exact⟨a,xs,by rw[a2G (by omega)];exact e3,e4⟩
  ·rw[h2]at e2;cases e2
 ·rcases a2h q1 with⟨h1,h2⟩|⟨h1,h2⟩
  ·rcases a2h q3 with⟨h3,h4⟩|⟨h3,h4⟩
   ·rw[a2G (by omega)]at q5 q6
    exact r.inj i j w w' ds es a h2 q2 h4 q4 q5 q6
   ·rw[h4]at q4;cases q4
  ·rw[h2]at q2;cases q2
 ·rcases a2h q1 with⟨h1,h2⟩|⟨h1,h2⟩
  ·exact(noOwn i w h2 qo).elim
  ·subst h2;cases qo
theorem a7A{ws env:List W}{i:Nat}{w:W}(h:(a0G ws env)[i]? =some w):∃w1 w2,ws[i]? =some w1/\env[i]? =some w2/\w=a4r w1 w2:=by
 unfold a0G at h;rw[Jp]at h;cases e1:ws[i]? with
 |none=>rw[e1]at h;cases h
 |some w1=>
  cases e2:env[i]? with
  |none=>rw[e1,e2]at h;cases h
  |some w2=>rw[e1,e2]at h;cases h;exact⟨w1,w2,rfl,rfl,rfl⟩
theorem b1h{w1 w2:W}{m:Mu}(ok:(∃d,w1=.dat d)∨w1.isPar=true)(h:(a4r w1 w2).mut=some m):w2.mut=some m/\w2.isPar=true/\a4r w1 w2=w2/\w1.isPar=true:=by
 rcases ok with⟨d,z⟩|z
 ·subst z;cases h
 ·cases w1<;>cases w2<;>first|exact⟨h,rfl,rfl,rfl⟩|(cases z;done)|(cases h;done)
theorem a7B{G':Hp}{σ':St}{env':Env'}{H':Hp}(r:Rel K u3_ G (vs.map some) ws H)(ok:a3u ws)(hN:vs.length≤N.length)
  (ev:Ev K (fun b=>H b≠none) G (start N vs) (ws++List.replicate (N.length-ws.length) .nil) H G' σ' env' H'):Ev K u3_ G (vs.map some) ws H G' (vs.map some) (a0G ws env') H':=by
 have hl:ws.length=vs.length:=by have:=r.len;rwa [Qw]at this
 have okg:∀{i:Nat}{w:W},ws[i]? =some w->(∃d,w=.dat d)∨w.isPar=true:=fun e=>ok _ (Jh e)
 have hle:ws.length≤env'.length:=by
  have h1:=ev.rel.len
  have h2:=ev.slen
  have h3:(start N vs).length=N.length:=by unfold start;simp only[Zz,Yt,Qw];omega
  omega
 have par:∀(i:Nat) (w:W) (m:Mu),(a0G ws env')[i]? =some w->w.mut=some m->∃w0,ws[i]? =some w0/\w0.isPar=true/\env'[i]? =some w/\w.isPar=true/\σ'[i]? =(vs.map some)[i]?:=fun i w m e1 e2=>by
  obtain⟨w1,w2,h1,h2,h3⟩:=a7A e1;subst h3;obtain⟨h4,h5,h6,h7⟩:=b1h (okg h1) e2;have hi:i<vs.length:=by have:=(Qb.mp h1).1;omega
  rw[h6];exact⟨w1,h1,h7,h2,h5,(ev.par i w2 h2 h5).1.trans (a2G hi)⟩
 refine⟨⟨ev.rel.sub,?_,fun i d e=>?_,fun i w ds e1 e2=>?_,fun i j w w' ds es a q1 q2 q3 q4 q5 q6=>?_,fun i w a q1 qo q2 h=>h,fun b h=>h.elim,ev.rel.tabs,ev.rel.gnt⟩,ev.same,fun b o n t e=>ev.keep b o (fun z=>n ((b1g hl).mp z)) t e,ev.live,fun b e n g=>ev.stay b e (fun z=>n ((b1g hl).mp z)) g,fun a z=>?_,fun i w e hp=>?_,rfl⟩
 ·unfold a0G
  rw[Jr,Qw];omega
 ·obtain⟨w1,w2,h1,h2,h3⟩:=a7A e
  rcases okg h1 with⟨d1,z⟩|z
  ·subst z
   cases h3;obtain⟨v,e1,e2⟩:=r.dat i d h1;exact⟨v,e1,Rep.mono ev.same d e2⟩
  ·cases w1<;>cases w2<;>first|(cases h3;done)|(cases z;done)
 ·obtain⟨d0,h1,hp,h2,h3,h4⟩:=par i w ds e1 e2
  obtain⟨a,xs,e3,e4⟩:=ev.rel.own i _ ds h2 e2;exact⟨a,xs,by rw[←h4];exact e3,e4⟩
 ·obtain⟨d0,h1,hp,h2,h3,h4⟩:=par i w ds q1 q2
  obtain⟨d1,h5,hp',h6,h7,h8⟩:=par j w' es q3 q4;exact ev.rel.inj i j _ _ ds es a h2 q2 h6 q4 (by rw[h4];exact q5) (by rw[h8];exact q6)
 ·obtain⟨i,w,ds,e1,e2,e3⟩:=z
  obtain⟨d0,h1,hp,h2,h3,h4⟩:=par i w ds e1 e2;obtain⟨m0,hm0⟩:=par_mut hp;exact .inl ⟨i,_,m0,h1,hm0,e3⟩
 ·obtain⟨m,hm⟩:=par_mut hp
  obtain⟨d0,h1,hp',h2,h3,h4⟩:=par i _ m e hm;exact⟨rfl,d0,h1,hp'⟩
end
theorem x3_{P:Program}{w:World}{K:Qq}{mg:OU}{base:Heap}{x qual:Str}{st:Stmt}{f:Addr}{fd:FuncData}{N ps:List Str}{k:Nat}{mb:Mo Fl}(F:Fun K x qual st f fd)(S:FnScope N ps (y1_ st))
  (hb:∀(cdv:Value) (A:Around) (outer:List Env) (s:Shared) (H:Hp) (E:XK),Room k (A.deeper (envOfC qual (y1_ st) s.heap.objs.size f cdv))->
   ESs (a2y CX0 P w K mg base N qual (y1_ st) f cdv A outer s H E).nox (fun b=>H b≠none) (a1H st) mb):FnOk P w K mg base CX0 (k+1) f fd ps (SpF K ps.length (fnM N.length mb)):=by
 have hpl:ps.length≤N.length:=by have:=Yb List.length S.pre;rw[Vw]at this;omega
 refine F.ok S (fun vs H Q E h=>?_) (fun cdv A outer s H vs Q E hr h=>?_)
 ·obtain⟨G,ws,r,ws',hl,ok,rl,_⟩:=h
  have:=rl.len;rw[Qw]at this;omega
 ·obtain⟨G,ws,r,ws',hl,ok,rl,e,k⟩:=h
  have hv:ws.length=vs.length:=by have:=rl.len;rwa [Qw]at this
  refine⟨_,hb cdv A outer s H E hr,?_⟩;have rl':=b7i (N:=N) rl ok (by omega)
  unfold fnM at e;split at e
  ·rename_i d env em
   cases e;refine⟨G,_,_,env,rl',em,?_⟩;exact fun v σ' G' H' ev rp=>k v G' H' (a7B rl ok (by omega) ev) rp
  ·rename_i ds env em
   cases e;refine⟨G,_,_,env,rl',em,?_⟩;intro a xs σ' G' H' ev nb no h' g' rp;refine k a xs G' H' (a7B rl ok (by omega) ev) (Uh nb) ?_ h' g' rp
   rintro⟨i,w',es,e1,e2,e3⟩;obtain⟨w1,w2,q1,q2,q3⟩:=a7A e1;subst q3;obtain⟨q4,q5,q6,q7⟩:=b1h (ok _ (Jh q1)) e2;have hi:i<vs.length:=by have:=(Qb.mp q1).1;omega
   exact no ⟨i,_,es,q2,q4,by rw[(ev.par i w2 q2 q5).1,a2G hi];exact e3⟩
  ·rename_i env em
   cases e;refine⟨G,_,_,env,rl',em,?_⟩;exact fun σ' G' H' ev=>k .non G' H' (a7B rl ok (by omega) ev) (by simp only[Rep])
  ·cases e
def slots:List Ar->List Nat
 |[]=>[]
 |.d _::r=>slots r
 |.sl i::r=>i::slots r
def a2i:Mu->W
 |.l ds=>.par ds
 |.d ks vs=>.parD ks vs
 |.x ks vs=>.parX ks vs
theorem b1i(c:Mu):(a2i c).mut=some c:=by cases c<;>rfl
theorem b1j(c:Mu):(a2i c).isPar=true:=by cases c<;>rfl
def u4_(c:Mu):Ar->W
 |.d d=>.dat d
 |.sl _=>a2i c
def a1x:List W->Option Mu
 |[]=>none
 |.par ds::_=>some (.l ds)
 |.parD ks vs::_=>some (.d ks vs)
 |.parX ks vs::_=>some (.x ks vs)
 |_::r=>a1x r
def a1h(n:Nat)(f:Fn)(as:Mo (List Ar)):Mo Rr:=fun env=>(as env).bind fun p=>if p.1.length=n then
 match slots p.1 with
 |[]=>(f (p.1.map (u4_ (.l [])))).map fun q=>(q.1,p.2)
 |[i]=>(p.2[i]?).bind fun w=>w.mut.bind fun c=>(f (p.1.map (u4_ c))).bind fun q=>(a1x q.2).map fun c'=>(q.1,p.2.set i (w.putM c'))
 |_=>none
 else none
theorem a3v:∀{as:List Ar},slots as=[]->∀(k j:Nat),as[k]? ≠some (.sl j)
 |[],_,k,j,e=>by simp at e
 |.d _::r,h,k,j,e=>by
  cases k with
  |zero=>simp at e
  |succ k=>exact a3v (as:=r) h k j (by simpa using e)
 |.sl i::r,h,k,j,e=>by simp[slots]at h
theorem a7C:∀{as:List Ar}{i:Nat},slots as=[i]->∃k:Nat,as[k]? =some (.sl i)/\∀(k' j:Nat),as[k']? =some (.sl j)->k'=k/\j=i
 |[],_,h=>by simp[slots]at h
 |.d _::r,i,h=>by
  obtain⟨k,h1,h2⟩:=a7C (as:=r) h;refine⟨k+1,by simpa using h1,fun k' j e=>?_⟩
  cases k' with
  |zero=>simp at e
  |succ k'=>
   obtain⟨a,b⟩:=h2 k' j (by simpa using e)
   exact⟨by omega,b⟩
 |.sl i'::r,i,h=>by
  simp only[slots,Vh]at h;obtain⟨rfl,h⟩:=h;refine⟨0,by simp,fun k' j e=>?_⟩
  cases k' with
  |zero=>simp at e;exact⟨rfl,e.symm⟩
  |succ k'=>exact absurd (by simpa using e) (a3v h k' j)
theorem a3w:∀{ws:List W}{c:Mu},a1x ws=some c->∃k:Nat,ws[k]? =some (a2i c)
 |[],_,h=>by simp[a1x]at h
 |.par ds::r,c,h=>by simp only[a1x,Zf]at h;subst h;exact⟨0,by simp[a2i]⟩
 |.parD ks vs::r,c,h=>by simp only[a1x,Zf]at h;subst h;exact⟨0,by simp[a2i]⟩
 |.parX ks vs::r,c,h=>by simp only[a1x,Zf]at h;subst h;exact⟨0,by simp[a2i]⟩
 |.ownX _ _::r,c,h=>by obtain⟨k,e⟩:=a3w (ws:=r) h;exact⟨k+1,by simpa using e⟩
 |.nil::r,c,h=>by obtain⟨k,e⟩:=a3w (ws:=r) h;exact⟨k+1,by simpa using e⟩
 |.dat _::r,c,h=>by obtain⟨k,e⟩:=a3w (ws:=r) h;exact⟨k+1,by simpa using e⟩
 |.own _::r,c,h=>by obtain⟨k,e⟩:=a3w (ws:=r) h;exact⟨k+1,by simpa using e⟩
 |.ownD _ _::r,c,h=>by obtain⟨k,e⟩:=a3w (ws:=r) h;exact⟨k+1,by simpa using e⟩
section
variable{K:Qq}{G:Hp}{σ:St}
theorem RepA.length:∀{as:List Ar}{vs:List V},RepA K G σ vs as->vs.length=as.length
 |[],_,h=>by simp only[RepA]at h;subst h;rfl
 |.d d::as,_,h=>by
  simp only[RepA]at h;obtain⟨x,r,rfl,_,t⟩:=h
  simp[RepA.length t]
 |.sl i::as,_,h=>by
  simp only[RepA]at h;obtain⟨x,r,rfl,_,t⟩:=h
  simp[RepA.length t]
theorem RepA.getD:∀{as:List Ar}{vs:List V}{k:Nat}{d:D},RepA K G σ vs as->as[k]? =some (.d d)->∃v,vs[k]? =some v/\Rep K G v d
 |[],_,k,d,h,e=>by simp at e
 |.d d'::as,_,k,d,h,e=>by
  simp only[RepA]at h;obtain⟨x,r,rfl,q,t⟩:=h;cases k with
  |zero=>simp at e;subst e;exact⟨x,by simp,q⟩
  |succ k=>simpa using RepA.getD (k:=k) t (by simpa using e)
 |.sl i::as,_,k,d,h,e=>by
  simp only[RepA]at h;obtain⟨x,r,rfl,q,t⟩:=h;cases k with
  |zero=>simp at e
  |succ k=>simpa using RepA.getD (k:=k) t (by simpa using e)
theorem RepA.getS:∀{as:List Ar}{vs:List V}{k i:Nat},RepA K G σ vs as->as[k]? =some (.sl i)->∃v,vs[k]? =some v/\σ[i]? =some (some v)
 |[],_,k,i,h,e=>by simp at e
 |.d d'::as,_,k,i,h,e=>by
  simp only[RepA]at h;obtain⟨x,r,rfl,q,t⟩:=h;cases k with
  |zero=>simp at e
  |succ k=>simpa using RepA.getS (k:=k) t (by simpa using e)
 |.sl i'::as,_,k,i,h,e=>by
  simp only[RepA]at h;obtain⟨x,r,rfl,q,t⟩:=h;cases k with
  |zero=>simp at e;subst e;exact⟨x,by simp,q⟩
  |succ k=>simpa using RepA.getS (k:=k) t (by simpa using e)
end
section
variable{K:Qq}{B:OA}{G:Hp}{σ:St}{env:Env'}{H:Hp}{as:List Ar}{vs:List V}{c:Mu}
theorem b1k:a3u (as.map (u4_ c)):=fun w hw=>by
 obtain⟨a,_,rfl⟩:=Zx.mp hw;cases a with
 |d d=>exact .inl ⟨d,rfl⟩
 |sl i=>exact .inr (b1j c)
theorem a3x{k:Nat}{w:W}(e:(as.map (u4_ c))[k]? =some w):(∃d,as[k]? =some (.d d)/\w=.dat d)∨ ∃j,as[k]? =some (.sl j)/\w=a2i c:=by
 rw[Zu]at e;cases h:as[k]? with
 |none=>rw[h]at e;cases e
 |some a=>
  rw[h]at e;cases a with
  |d d=>cases e;exact .inl ⟨d,rfl,rfl⟩
  |sl j=>cases e;exact .inr ⟨j,rfl,rfl⟩
theorem b1l{k:Nat}{v:V}(h:vs[k]? =some v):(vs.map some)[k]? =some (some v):=by rw[Zu,h];rfl
theorem b1m{k:Nat}{v:V}(h:(vs.map some)[k]? =some (some v)):vs[k]? =some v:=by
 rw[Zu]at h;cases e:vs[k]? with
 |none=>rw[e]at h;cases h
 |some u=>rw[e]at h;cases h;rfl
theorem b1n{i:Nat}{w:W}(rl:Rel K B G σ env H)(ra:RepA K G σ vs as)(u:∀(k j:Nat),as[k]? =some (.sl j)->j=i/\env[i]? =some w/\w.mut=some c)(un:∀(k k' j j':Nat),as[k]? =some (.sl j)->as[k']? =some (.sl j')->k=k'):
  Rel K u3_ G (vs.map some) (as.map (u4_ c)) H:=by
 refine⟨rl.sub,by rw[Qw,Qw,ra.length],fun k d e=>?_,fun k v ds e1 e2=>?_,fun k k' v v' ds es a q1 q2 q3 q4 q5 q6=>?_,fun k w a e _ _ h=>h,fun b h=>h.elim,rl.tabs,rl.gnt⟩
 ·rcases a3x e with⟨d',h1,h2⟩|⟨j,h1,h2⟩
  ·cases h2
   obtain⟨v,q1,q2⟩:=ra.getD h1;exact⟨v,b1l q1,q2⟩
  ·cases c<;>cases h2
 ·rcases a3x e1 with⟨d',h1,h2⟩|⟨j,h1,h2⟩
  ·subst h2;cases e2
  ·subst h2;rw[b1i]at e2;cases e2
   obtain⟨v,q1,q2⟩:=ra.getS h1;obtain⟨rfl,q3,q4⟩:=u k j h1;obtain⟨a,xs,q5,q6,q7,q8⟩:=rl.own j w c q3 q4;rw[q2]at q5;cases q5;exact⟨a,xs,b1l q1,q6,q7,q8⟩
 ·rcases a3x q1 with⟨d',h1,h2⟩|⟨j,h1,h2⟩
  ·subst h2;cases q2
  ·rcases a3x q3 with⟨d',h3,h4⟩|⟨j',h3,h4⟩
   ·subst h4;cases q4
   ·exact un k k' j j' h1 h3
theorem b1o{i:Nat}(ra:RepA K G σ vs as)(u:∀(k j:Nat),as[k]? =some (.sl j)->j=i){a:Addr}(h:Owned (vs.map some) (as.map (u4_ c)) a):σ[i]? =some (some (V.ref a))/\∃k:Nat,as[k]? =some (Ar.sl i):=by
 obtain⟨k,v,ds,e1,e2,e3⟩:=h
 rcases a3x e1 with⟨d',h1,h2⟩|⟨j,h1,h2⟩
 ·subst h2;cases e2
 ·obtain⟨v',q1,q2⟩:=ra.getS h1
  have:=u k j h1;subst this;have e4:=b1m e3;rw[q1]at e4;cases e4;exact⟨q2,k,h1⟩
theorem b1p{G2 H2:Hp}{ws':List W}(rl:Rel K B G σ env H)(ra:RepA K G σ vs as)(hs:slots as=[])(ev:Ev K u3_ G (vs.map some) (as.map (u4_ c)) H G2 (vs.map some) ws' H2):Ev K B G σ env H G2 σ env H2:=by
 have no:∀a,¬ Owned (vs.map some) (as.map (u4_ c)) a:=fun a z=>by
  obtain⟨_,k,e⟩:=b1o (i:=0) ra (fun k j e=>absurd e (a3v hs k j)) z
  exact a3v hs k 0 e
 refine⟨⟨ev.rel.sub,rl.len,fun i d e=>?_,fun i w ds e1 e2=>?_,rl.inj,rl.fresh,fun b h=>ev.live b (rl.old b h),ev.rel.tabs,ev.rel.gnt⟩,ev.same,fun b o _ t e=>ev.keep b o (no b) t e,ev.live,fun b e _ g=>ev.stay b e (no b) g,fun a z=>.inl z,fun i w e hp=>⟨rfl,w,e,hp⟩,rfl⟩
 ·obtain⟨v,q1,q2⟩:=rl.dat i d e
  exact⟨v,q1,Rep.mono ev.same d q2⟩
 ·obtain⟨a,xs,q1,q2,q3,q4⟩:=rl.own i w ds e1 e2
  exact⟨a,xs,q1,ev.keep a _ (no a) q3.nt q2,q3.mono ev.same,ev.stay a (by rw[q2];simp) (no a) q4⟩
theorem b1q{G2 H2:Hp}{ws':List W}{i:Nat}{w:W}{c':Mu}(rl:Rel K B G σ env H)(ra:RepA K G σ vs as)(hs:slots as=[i])(e1:env[i]? =some w)(e2:w.mut=some c)(hp:a1x ws'=some c')
  (ev:Ev K u3_ G (vs.map some) (as.map (u4_ c)) H G2 (vs.map some) ws' H2):Ev K B G σ env H G2 σ (env.set i (w.putM c')) H2:=by
 obtain⟨k,hk,uk⟩:=a7C hs;obtain⟨a,xs,h1,h2,h3,h4⟩:=rl.own i w c e1 e2;have ow:Owned σ env a:=⟨i,w,c,e1,e2,h1⟩;have isA:∀b,Owned (vs.map some) (as.map (u4_ c)) b->b=a:=fun b z=>by
  obtain⟨q,_⟩:=b1o ra (fun k j e=>(uk k j e).2) z
  rw[h1]at q;cases q;rfl
 obtain⟨k',hk'⟩:=a3w hp;have ek:k'=k:=by
  obtain⟨_,d0,q,qp⟩:=ev.par k' _ hk' (b1j c')
  rcases a3x q with⟨d',z1,z2⟩|⟨j,z1,z2⟩
  ·subst z2;cases qp
  ·exact(uk k' j z1).1
 subst ek;obtain⟨a2,ys,g1,g2,g3,g4⟩:=ev.rel.own k' _ c' hk' (b1i c');obtain⟨v,q1,q2⟩:=ra.getS hk;have g5:=b1m g1;rw[q1]at g5;cases g5;rw[h1]at q2;cases q2;have wp:(w.putM c').mut=some c':=W.putM_mut e2 c';have nd:∀d,w.putM c'≠.dat d:=fun d z=>by rw[z]at wp;cases wp
 refine⟨⟨ev.rel.sub,by rw[Zo];exact rl.len,fun j d' q=>?_,fun j v es y1 y2=>?_,fun j m v v' es fs b y1 y2 y3 y4 y5 y6=>?_,fun j v b y1 yo y2=>?_,fun b h=>ev.live b (rl.old b h),ev.rel.tabs,ev.rel.gnt⟩,ev.same,fun b o n t e=>ev.keep b o (fun z=>n (isA b z ▸ ow)) t e,ev.live,fun b e n g=>ev.stay b e (fun z=>n (isA b z ▸ ow)) g,fun b z=>.inl ?_,fun j v q qp=>⟨rfl,?_⟩,rfl⟩
 ·rcases j2_ q with⟨z1,z2⟩|⟨z1,z2⟩
  ·exact absurd z2.symm (nd d')
  ·obtain⟨v,q1,q2⟩:=rl.dat j d' z2
   exact⟨v,q1,Rep.mono ev.same d' q2⟩
 ·rcases j2_ y1 with⟨z1,z2⟩|⟨z1,z2⟩
  ·subst z1 z2
   rw[wp]at y2;cases y2;exact⟨a,ys,h1,g2,g3,g4⟩
  ·obtain⟨p,zs,f1,f2,f3,f4⟩:=rl.own j v es z2 y2
   have hp:p≠a:=fun z=>z1 (rl.inj j i v w es c a z2 y2 e1 e2 (by rw[f1,z]) h1)
   have np:¬ Owned (vs.map some) (as.map (u4_ c)) p:=fun z=>hp (isA p z)
   exact⟨p,zs,f1,ev.keep p _ np f3.nt f2,f3.mono ev.same,ev.stay p (by rw[f2];simp) np f4⟩
 ·have g:∀(m:Nat) (v:W) (es:Mu),(env.set i (w.putM c'))[m]? =some v->v.mut=some es->∃v0 es0,env[m]? =some v0/\v0.mut=some es0:=fun m v es y1 y2=>by
   rcases j2_ y1 with⟨z1,z2⟩|⟨z1,z2⟩
   ·rw[z1];exact⟨w,c,e1,e2⟩
   ·exact⟨v,es,z2,y2⟩
  obtain⟨v0,es0,x1,x2⟩:=g j v es y1 y2;obtain⟨v1,es1,x3,x4⟩:=g m v' fs y3 y4;exact rl.inj j m v0 v1 es0 es1 b x1 x2 x3 x4 y5 y6
 ·rcases j2_ y1 with⟨z1,z2⟩|⟨z1,z2⟩
  ·subst z1
   exact rl.fresh j w b e1 (by rw[z2,W.putM_own e2]at yo;exact yo) y2
  ·exact rl.fresh j v b z2 yo y2
 ·obtain⟨j,v,es,y1,y2,y3⟩:=z
  rcases j2_ y1 with⟨z1,z2⟩|⟨z1,z2⟩
  ·rw[z1,h1]at y3;cases y3;exact ow
  ·exact⟨j,v,es,z2,y2,y3⟩
 ·rcases j2_ q with⟨z1,z2⟩|⟨z1,z2⟩
  ·subst z1
   exact⟨w,e1,by rw[z2,W.putM_par e2]at qp;exact qp⟩
  ·exact⟨v,z2,qp⟩
end
def asD:Rr×Env'->Option (D×Env')
 |(.d d,e)=>some (d,e)
 |_=>none
def asL:Rr×Env'->Option (List D×Env')
 |(.l d,e)=>some (d,e)
 |_=>none
def mCD(n:Nat)(f:Fn)(as:Mo (List Ar)):Mo D:=fun env=>(a1h n f as env).bind asD
def k8_(n:Nat)(f:Fn)(as:Mo (List Ar)):Mo (List D):=fun env=>(a1h n f as env).bind asL
def b1r(K:Qq)(B:OA)(G:Hp)(σ:St)(env:Env')(H:Hp)(env':Env')(Q:VK):Rr->Prop
 |.d d=>∀v G' H',Ev K B G σ env H G' σ env' H'->Rep K G' v d->Q v H'
 |.l ds=>∀a xs G' H',Ev K B G σ env H G' σ env' H'->H a=none-> ¬ Owned σ env' a->H' a=some (.lst xs)->G' a=none->z8_ K G' xs ds->Q (.ref a) H'
theorem b1s{K:Qq}{B:OA}{n:Nat}{f:Fn}{as:Mo (List Ar)}{σ:St}{H:Hp}{G:Hp}{env env':Env'}{r:Rr}{Q:VK}{E:XK}(rl:Rel K B G σ env H)(e:a1h n f as env=some (r,env'))
  (k:b1r K B G σ env H env' Q r):
  a7j (SpF K n f) [] E (TAm K B as) σ H Q:=by
 obtain⟨⟨av,env1⟩,e1,e2⟩:=q8_ e;dsimp only at e2;split at e2
 ·rename_i hn
  refine⟨G,env,av,env1,rl,e1,fun vs G1 H1 ev ra=>?_⟩
  show SpF K n f (vs++[]) H1 Q E;rw[Jq];have hnone:∀a,H1 a=none->H a=none:=fun a h=>by
   cases q:H a with
   |none=>rfl
   |some o=>exact absurd h (ev.live a (by rw[q];simp))
  split at e2
  ·rename_i hs
   obtain⟨⟨r',ws'⟩,e3,e4⟩:=y8_ e2;cases e4;refine⟨G1,av.map (u4_ (.l [])),r',ws',by rw[Qw];exact hn,b1k,b1n (i:=0) (w:=.nil) ev.rel ra (fun k j e=>absurd e (a3v hs k j)) (fun k k' j j' e=>absurd e (a3v hs k j)),e3,?_⟩
   cases r' with
   |d d=>exact fun v G2 H2 ev2 rp=>k v G2 H2 (ev.trans (b1p ev.rel ra hs ev2)) rp
   |l ds=>
    intro a xs G2 H2 ev2 ha no h' g' rp;exact k a xs G2 H2 (ev.trans (b1p ev.rel ra hs ev2)) (hnone a ha) (ev.rel.unowned ha) h' g' rp
  ·rename_i i hs
   obtain⟨w,e3,e4⟩:=q8_ e2;obtain⟨c,e5,e6⟩:=q8_ e4;obtain⟨⟨r',ws'⟩,e7,e8⟩:=q8_ e6;obtain⟨c',e9,e10⟩:=y8_ e8;cases e10;obtain⟨kk,hk,uk⟩:=a7C hs;refine⟨G1,av.map (u4_ c),r',ws',by rw[Qw];exact hn,b1k,b1n (i:=i) (w:=w) ev.rel ra (fun k j e=>⟨(uk k j e).2,e3,e5⟩) (fun k k' j j' h1 h2=>(uk k j h1).1.trans (uk k' j' h2).1.symm),e7,?_⟩
   cases r' with
   |d d=>exact fun v G2 H2 ev2 rp=>k v G2 H2 (ev.trans (b1q ev.rel ra hs e3 e5 e9 ev2)) rp
   |l ds=>
    intro a xs G2 H2 ev2 ha no h' g' rp;have evc:=b1q ev.rel ra hs e3 e5 e9 ev2;refine k a xs G2 H2 (ev.trans evc) (hnone a ha) (fun z=>?_) h' g' rp
    rcases evc.sub a z with q|q
    ·exact ev.rel.unowned ha q
    ·obtain⟨j,v,es,y1,y2,y3⟩:=z
     rcases j2_ y1 with⟨z1,z2⟩|⟨z1,z2⟩
     ·subst z1
      exact ev.rel.unowned ha ⟨j,w,c,e3,e5,y3⟩
     ·exact ev.rel.unowned ha ⟨j,v,es,z2,y2,y3⟩
  ·cases e2
 ·cases e2
section
variable{X:Cx}{B:OA}{pos p:Pos}{e:Expr}{es:List Expr}{as:Mo (List Ar)}{fn:Fn}{k:Nat}{f:Addr}{fd:FuncData}{ps:List Str}{x:Str}
theorem b7j(F:FnOk X.prog X.w X.K X.mg X.base CX0 k f fd ps (SpF X.K ps.length fn))(hr:Room k X.A)(hg:Gl X x)(hm:X.mg x=some (.ref f))(hk:PySem.W.keepIn X.K (.ref f)=true)(hb:a0s X.K fd ps [])
  (ha:EAr X B (e::es) as)(hdb:(x==("__debug__":Str))=false:=by decide)(he:starEach (e::es) X.env=(false,eval e X.env)::starEach es X.env:=by rfl)(hpl:(backTo pos (starEach es X.env)).any (·.1)=false:=by rfl):
  ED X B (.Call (.Name x p) (e::es) [] pos) (mCD ps.length fn as):=by
 refine pe_imp (a7k F hr hg hm hk hb .nil a7o ha hdb he hpl) ?_
 rintro σ H Q ⟨G,env,d,env',rl,e,k⟩;obtain⟨⟨r,env1⟩,e1,e2⟩:=q8_ e;cases r with
 |d d'=>cases e2;exact b1s rl e1 k
 |l ds=>cases e2
theorem b7k(F:FnOk X.prog X.w X.K X.mg X.base CX0 k f fd ps (SpF X.K ps.length fn))(hr:Room k X.A)(hg:Gl X x)(hm:X.mg x=some (.ref f))(hk:PySem.W.keepIn X.K (.ref f)=true)(hb:a0s X.K fd ps [])
  (ha:EAr X B (e::es) as)(hdb:(x==("__debug__":Str))=false:=by decide)(he:starEach (e::es) X.env=(false,eval e X.env)::starEach es X.env:=by rfl)(hpl:(backTo pos (starEach es X.env)).any (·.1)=false:=by rfl):
  EL X B (.Call (.Name x p) (e::es) [] pos) (k8_ ps.length fn as):=by
 refine pe_imp (a7k F hr hg hm hk hb .nil a7o ha hdb he hpl) ?_
 rintro σ H Q ⟨G,env,d,env',rl,e,k⟩;obtain⟨⟨r,env1⟩,e1,e2⟩:=q8_ e;cases r with
 |d d'=>cases e2
 |l ds=>cases e2;exact b1s rl e1 k
end
def g6_(cells:List (Str×Addr)):List (Str×NameKind)->List (Str×Addr)->List (Str×Addr)
 |[],acc=>acc
 |(n,k)::r,acc=>if k==.free then(match cells.lookup n with
  |some c=>g6_ cells r ((n,c)::acc)
  |none=>g6_ cells r acc)else g6_ cells r acc
theorem a0n{α:Type}{n x:Str}{a:α}{r:List (Str×α)}:((n,a)::r).lookup x=if x=n then some a else r.lookup x:=by
 rw[List.lookup_cons]
 by_cases h:x=n
 ·subst h;simp
 ·have:(x==n)=false:=by simpa using h
  rw[this,Qt h]
theorem a2H{cells:List (Str×Addr)}:∀{names:List (Str×NameKind)}{acc:List (Str×Addr)}{x:Str}{c:Addr},(g6_ cells names acc).lookup x=some c->acc.lookup x=some c∨cells.lookup x=some c
 |[],acc,x,c,h=>.inl h
 |(n,k)::r,acc,x,c,h=>by
  unfold g6_ at h;split at h
  ·split at h
   ·rename_i c' hc
    rcases a2H h with q|q
    ·rw[a0n]at q
     split at q
     ·rename_i e;subst e;cases q;exact .inr hc
     ·exact .inl q
    ·exact .inr q
   ·exact a2H h
  ·exact a2H h
theorem a5M{cells:List (Str×Addr)}:∀{names:List (Str×NameKind)}{acc:List (Str×Addr)}{x:Str},(acc.lookup x).isSome=true->((g6_ cells names acc).lookup x).isSome=true
 |[],acc,x,h=>h
 |(n,k)::r,acc,x,h=>by
  unfold g6_;split
  ·split
   ·refine a5M ?_
    rw[a0n];split<;>simp[h]
   ·exact a5M h
  ·exact a5M h
theorem a4s{cells:List (Str×Addr)}:∀{names:List (Str×NameKind)}{acc:List (Str×Addr)}{x:Str},(x,NameKind.free)∈names->(cells.lookup x).isSome=true->((g6_ cells names acc).lookup x).isSome=true
 |[],acc,x,h,_=>by cases h
 |(n,k)::r,acc,x,h,hc=>by
  unfold g6_
  rcases Qi.mp h with e|h
  ·cases e
   rw[Qg (by decide)]
   split
   ·refine a5M ?_
    rw[a0n];simp
   ·rename_i hn;rw[hn]at hc;cases hc
  ·split
   ·split
    ·exact a4s h hc
    ·exact a4s h hc
   ·exact a4s h hc
theorem a7D:∀{names:List (Str×NameKind)}{h:Heap}{acc:List (Str×Addr)}{x:Str}{c:Addr},(cellsFrom h.objs.size names acc).lookup x=some c->
  acc.lookup x=some c∨((pushCells h names).IsCell c none/\h.objs.size≤c/\(x,NameKind.cell)∈names)
 |[],h,acc,x,c,q=>.inl q
 |(n,k)::r,h,acc,x,c,q=>by
  unfold cellsFrom at q;unfold pushCells;split at q
  ·rename_i hk
   rw[Qg hk];have hk':k=.cell:=by simpa using hk
   have ih:=a7D (names:=r) (h:=h.push {cls:=.type "cell",data:=.cell none}) (acc:=(n,h.objs.size)::acc) (x:=x) (c:=c) (by rw[Yx];exact q)
   rcases ih with z|⟨z1,z2,z3⟩
   ·rw[a0n]at z
    split at z
    ·rename_i e;subst e;cases z
     exact .inr ⟨⟨_,Vm _ _ _ _ (Qn _ rfl),rfl⟩,Qp _,by rw[hk'];exact Qd⟩
    ·exact .inl z
   ·rw[Yx]at z2
    exact .inr ⟨z1,by omega,Qm _ z3⟩
  ·rename_i hk
   rw[Qt hk]
   rcases a7D q with z|⟨z1,z2,z3⟩
   ·exact .inl z
   ·exact .inr ⟨z1,z2,Qm _ z3⟩
theorem a7E:∀{names:List (Str×NameKind)}{n:Nat}{acc:List (Str×Addr)},(∀x y c,acc.lookup x=some c->acc.lookup y=some c->x=y)->(∀x c,acc.lookup x=some c->c<n)->
  ∀x y c,(cellsFrom n names acc).lookup x=some c->(cellsFrom n names acc).lookup y=some c->x=y
 |[],n,acc,h1,h2=>h1
 |(m,k)::r,n,acc,h1,h2=>by
  unfold cellsFrom;split
  ·refine a7E (names:=r) (fun x y c q1 q2=>?_) (fun x c q=>?_)
   ·rw[a0n]at q1 q2
    split at q1<;>split at q2
    ·rename_i e1 e2;rw[e1,e2]
    ·cases q1;exact absurd (h2 _ _ q2) (Yd _)
    ·cases q2;exact absurd (h2 _ _ q1) (Yd _)
    ·exact h1 x y c q1 q2
   ·rw[a0n]at q
    split at q
    ·cases q;exact Xg _
    ·exact Xu (h2 _ _ q)
  ·exact a7E (names:=r) h1 h2
theorem a5N{env:Env}{x:Str}:∀{names:List (Str×NameKind)},((names.map fun(n,k)=>if(k==NameKind.free&&env.scope.kind==.function&&env.kindOf n==some .cell)then(n,NameKind.cell)else(n,k)).lookup x)=
  (names.lookup x).map fun k=>if(k==NameKind.free&&env.scope.kind==.function&&env.kindOf x==some .cell)then NameKind.cell else k
 |[]=>rfl
 |(n,k)::r=>by
  have ih:=a5N (env:=env) (x:=x) (names:=r)
  show List.lookup x ((if(k==NameKind.free&&env.scope.kind==.function&&env.kindOf n==some .cell)=true then(n,NameKind.cell)else(n,k))::_)=_
  by_cases hx:x=n
  ·subst hx
   rw[a0n (a:=k),Qg rfl]
   by_cases hc:(k==NameKind.free&&env.scope.kind==.function&&env.kindOf x==some .cell)=true
   ·rw[Qg hc,a0n,Qg rfl]
    show _=some (if(k==NameKind.free&&env.scope.kind==.function&&env.kindOf x==some .cell)=true then NameKind.cell else k)
    rw[Qg hc]
   ·rw[Qt hc,a0n,Qg rfl]
    show _=some (if(k==NameKind.free&&env.scope.kind==.function&&env.kindOf x==some .cell)=true then NameKind.cell else k)
    rw[Qt hc]
  ·rw[a0n (a:=k),Qt hx]
   by_cases hc:(k==NameKind.free&&env.scope.kind==.function&&env.kindOf n==some .cell)=true
   ·rw[Qg hc,a0n,Qt hx];exact ih
   ·rw[Qt hc,a0n,Qt hx];exact ih
theorem a5O:∀{names:List (Str×NameKind)}{n:Nat}{acc:List (Str×Addr)}{x:Str}{c0:Addr},acc.lookup x=some c0->∃c,(cellsFrom n names acc).lookup x=some c/\(c=c0∨n≤c)
 |[],n,acc,x,c0,h=>⟨c0,h,.inl rfl⟩
 |(m,k)::r,n,acc,x,c0,h=>by
  unfold cellsFrom;split
  ·by_cases hx:x=m
   ·obtain⟨c,h1,h2⟩:=a5O (names:=r) (n:=n+1) (acc:=(m,n)::acc) (x:=x) (c0:=n) (by rw[a0n,Qg hx])
    exact⟨c,h1,.inr (h2.elim (fun z=>Nat.le_of_eq z.symm) fun z=>Jf z)⟩
   ·obtain⟨c,h1,h2⟩:=a5O (names:=r) (n:=n+1) (acc:=(m,n)::acc) (x:=x) (c0:=c0) (by rw[a0n,Qt hx];exact h)
    exact⟨c,h1,h2.elim .inl fun z=>.inr (Jf z)⟩
  ·exact a5O h
theorem a7F:∀{names:List (Str×NameKind)}{n:Nat}{acc:List (Str×Addr)}{x:Str},(x,NameKind.cell)∈names->∃c,(cellsFrom n names acc).lookup x=some c/\n≤c
 |[],n,acc,x,h=>by cases h
 |(m,k)::r,n,acc,x,h=>by
  unfold cellsFrom
  rcases Qi.mp h with e|h
  ·cases e
   rw[Qg (by decide)]
   obtain⟨c,h1,h2⟩:=a5O (names:=r) (n:=n+1) (acc:=(m,n)::acc) (x:=m) (c0:=n) (by rw[a0n,Qg rfl])
   exact⟨c,h1,h2.elim (fun z=>Nat.le_of_eq z.symm) fun z=>Jf z⟩
  ·split
   ·obtain⟨c,h1,h2⟩:=a7F (names:=r) (n:=n+1) (acc:=(m,n)::acc) h
    exact⟨c,h1,Jf h2⟩
   ·exact a7F h
def a3y(scope:Scope)(env:Env)(C:Addr):Env:=
 {scope:=relabel scope env,locals:=C,globals:=env.globals,cells:=cellsFrom (C+1) scope.names (g6_ env.cells scope.names []),qual:=env.qual,func:=none,code:=env.code,frame:=env.frame,builtins:=env.builtins}
def x6_(X:Cx)(N':List Str)(scope:Scope)(s:Shared)(H:Hp)(fp:List Addr):Cx where
 prog:=X.prog
 w:=X.w
 K:=X.K
 mg:=X.mg
 base:=X.base
 A:=X.A
 N:=N'
 s₀:=s
 H₀:=H
 env:=a3y scope X.env s.heap.objs.size
 outer:=X.stack
 stack:=X.stack
 ex:=fp
 fn:=fun x=>scope.names.lookup x==some .cell
 calm:=X.calm
 pn:=[]
 xe:=fun _ _=>False
structure CompOk(X:Cx)(N':List Str)(scope:Scope)(keep:List Bool)(more:Nat):Prop where
 kind:scope.kind=.function
 uniq:∀y∈scope.names,scope.names.lookup y.1=some y.2
 clos:closureFor scope X.env=pure (g6_ X.env.cells scope.names [])
 free:∀y∈scope.names,y.2=.free->(X.env.cells.lookup y.1).isSome=true
 klen:keep.length=X.N.length
 len:N'.length=X.N.length+more
 kept:∀(i:Nat) (x:Str),keep[i]? =some true->N'[i]? =some x->X.N[i]? =some x/\scope.names.lookup x≠some .local/\scope.names.lookup x≠some .cell
 outVis:∀(i:Nat) (x:Str),keep[i]? =some true->X.N[i]? =some x->scope.names.lookup x=some .free->X.env.scope.names.lookup x=some .cell∨X.env.scope.names.lookup x=some .free
def a0f(keep:List Bool)(more:Nat)(σ:St):St:=List.zipWith (fun k v=>if k then v else none) keep σ++List.replicate more none
theorem a3z{keep:List Bool}{more:Nat}{σ:St}{i:Nat}{v:V}(h:(a0f keep more σ)[i]? =some (some v)):keep[i]? =some true/\σ[i]? =some (some v):=by
 unfold a0f at h
 rcases a2h h with⟨_,h⟩|⟨_,h⟩
 ·rw[Jp]at h
  cases e1:keep[i]? with
  |none=>rw[e1]at h;cases h
  |some k=>
   cases e2:σ[i]? with
   |none=>rw[e1,e2]at h;cases h
   |some u=>
    rw[e1,e2]at h;cases k with
    |true=>simp at h;exact⟨rfl,by rw[h]⟩
    |false=>simp at h
 ·cases h
theorem b7l{X:Cx}{N':List Str}{scope:Scope}{keep:List Bool}{more:Nat}{pins:OX}{σ:St}{H:Hp}{s:Shared}{fp:List Addr}(ok:CompOk X N' scope keep more)(I:Inv X pins σ H s)
  (hf:∀b∈fp,u1_ X pins H b/\b<s.heap.objs.size):
  Inv (x6_ X N' scope s H fp) [] (a0f keep more σ) H {s with heap:=pushCells (s.heap.push {cls:=.type "dict",data:=.dict #[]}) scope.names}:=by
 have hsz:(s.heap.push {cls:=.type "dict",data:=.dict #[]}).objs.size=s.heap.objs.size+1:=Yx ..
 have keepAll:∀b u,s.heap.get? b=some u->(pushCells (s.heap.push {cls:=.type "dict",data:=.dict #[]}) scope.names).get? b=some u:=fun b u e=>Vm _ _ _ _ (Qx _ e)
 have cases':∀x c,(a3y scope X.env s.heap.objs.size).cells.lookup x=some c->X.env.cells.lookup x=some c∨((pushCells (s.heap.push {cls:=.type "dict",data:=.dict #[]}) scope.names).IsCell c none/\s.heap.objs.size+1≤c/\(x,NameKind.cell)∈scope.names):=fun x c e=>by
  have e':(cellsFrom ((s.heap.push {cls:=.type "dict",data:=.dict #[]}).objs.size) scope.names (g6_ X.env.cells scope.names [])).lookup x=some c:=by rw[hsz];exact e
  rcases a7D e' with z|⟨z1,z2,z3⟩
  ·rcases a2H z with y|y
   ·cases y
   ·exact .inl y
  ·rw[hsz]at z2;exact .inr ⟨z1,z2,z3⟩
 have cellLt:∀x c,X.env.cells.lookup x=some c->c<s.heap.objs.size:=fun x c e=>by
  obtain⟨v,q⟩:=I.cell x c e;exact q.lt
 have fsSub:∀b∈frs X.stack,b<s.heap.objs.size:=fun b hb=>by
  obtain⟨_,o,ho,_⟩:=I.stack.mem hb;exact Qh ho
 refine⟨⟨I.ok.mod,?_,I.ok.glob,I.ok.blt,Qp _,fun x y c e1 e2=>?_,fun x hx=>?_,fun x c e1 e2=>?_,I.ok.hd,I.ok.frames,.inl rfl,fun b hb=>?_,I.bs,Yj I.ok.bsz I.sz,fun b o e hb=>?_,fun b hb hb2=>?_,I.stack,I.stkFree⟩,
  rfl,I.bare,Un.kept keepAll,⟨fun _=>none,(Heap.Ns.new s.heap (.type "dict")).keeps (Vm _ _),fun i x v e1 e2 e3=>?_⟩,fun x c e=>?_,I.hok.fresh (Qp _),fun x c e=>?_,fun p hp=>absurd (show p∈([]:OX)from hp) (by simp),I.hok.kept keepAll,?_⟩
 ·show(relabel scope X.env).kind=.function
  exact ok.kind
 ·refine a7E (names:=scope.names) (n:=s.heap.objs.size+1) (acc:=g6_ X.env.cells scope.names []) (fun x y c q1 q2=>?_) (fun x c q=>?_) x y c e1 e2
  ·rcases a2H q1 with z1|z1
   ·cases z1
   ·rcases a2H q2 with z2|z2
    ·cases z2
    ·exact I.ok.inj x y c z1 z2
  ·rcases a2H q with z1|z1
   ·cases z1
   ·exact Xu (cellLt x c z1)
 ·have hx':(relabel scope X.env).names.lookup x=some .cell∨(relabel scope X.env).names.lookup x=some .free:=hx
  have h1:scope.names.lookup x=some .cell∨scope.names.lookup x=some .free:=by
   unfold relabel at hx';rw[a5N]at hx';cases q:scope.names.lookup x with
   |none=>rw[q]at hx';simp at hx'
   |some k=>
    rw[q]at hx';cases k<;>simp at hx'<;>first|exact .inl rfl|exact .inr rfl
  refine Jl.mp (Uq scope.names _ _ ?_)
  rcases h1 with h1|h1
  ·exact .inl h1
  ·exact .inr (a4s (Zn h1) (ok.free _ (Zn h1) rfl))
 ·have e1':scope.names.lookup x=some .cell:=by simpa [x6_]using e1
  obtain⟨c',q1,q2⟩:=a7F (names:=scope.names) (n:=s.heap.objs.size+1) (acc:=g6_ X.env.cells scope.names []) (Zn e1');have e2':(cellsFrom (s.heap.objs.size+1) scope.names (g6_ X.env.cells scope.names [])).lookup x=some c:=e2;rw[q1]at e2';cases e2';exact Jf q2
 ·refine⟨Zw (hf b hb).2,fun x c e z=>?_⟩
  rcases cases' x c e with y|⟨_,y,_⟩
  ·exact(hf b hb).1.2.2.2.2.1 x c y z
  ·exact absurd (Qa (hf b hb).2 (Jf y)) (by rw[z];exact Yd _)
 ·have:=(I.bs b o e).1
  rcases(hf b hb).1.2.2.2.1 with z|z
  ·exact I.ok.noex b o e z
  ·exact absurd (Qa (Qh e) (Yj I.ok.bsz z)) (Yd _)
 ·rcases Qi.mp (I.stkSub b hb2)with z|z
  ·exact(hf b hb).1.2.1 z
  ·exact(hf b hb).1.2.2.1 z
 ·obtain⟨k1,k2⟩:=a3z e2
  obtain⟨h1,h2,h3⟩:=ok.kept i x k1 e1;have e3':(relabel scope X.env).names.lookup x=some .local∨(relabel scope X.env).names.lookup x=some .cell∨(relabel scope X.env).names.lookup x=some .free:=e3;have hfree:scope.names.lookup x=some .free:=by
   unfold relabel at e3';rw[a5N]at e3';cases q:scope.names.lookup x with
   |none=>rw[q]at e3';simp at e3'
   |some k=>
    rw[q]at e3' h2 h3;cases k<;>simp at e3' h2 h3<;>rfl
  obtain⟨m,hn,hl⟩:=I.loc;have ov:=ok.outVis i x k1 h1 hfree;obtain⟨u,r,l⟩:=hl i x v h1 k2 (.inr ov);refine⟨u,r,.inr ?_⟩;obtain⟨c0,hc0⟩:=Jl.mp (ok.free _ (Zn hfree) rfl);have hcell:s.heap.IsCell c0 (some u):=by
   rcases l with⟨kl,_⟩|⟨_,c,hc,hz⟩
   ·have kl':X.env.scope.names.lookup x=some .local:=kl
    rcases ov with z|z<;>(rw[z]at kl';cases kl')
   ·have hc':X.env.cells.lookup x=some c:=hc
    have hc0':X.env.cells.lookup x=some c0:=hc0
    rw[hc']at hc0';cases hc0';exact hz
  have hk:(a3y scope X.env s.heap.objs.size).kindOf x=some .cell∨(a3y scope X.env s.heap.objs.size).kindOf x=some .free:=by
   show(relabel scope X.env).names.lookup x=some .cell∨(relabel scope X.env).names.lookup x=some .free
   rcases e3' with z|z
   ·exfalso
    unfold relabel at z;rw[a5N,hfree]at z;simp only[Option.map_some,Zf]at z;split at z<;>cases z
   ·exact z
  refine⟨hk,c0,?_,hcell.keeps keepAll⟩;obtain⟨c1,hc1⟩:=Jl.mp (Uq (x:=x) scope.names (s.heap.objs.size+1) (g6_ X.env.cells scope.names []) (.inr (a4s (Zn hfree) (ok.free _ (Zn hfree) rfl))));have hc1':(a3y scope X.env s.heap.objs.size).cells.lookup x=some c1:=hc1
  rcases cases' x c1 hc1' with z|⟨_,_,z⟩
  ·have hc0':X.env.cells.lookup x=some c0:=hc0
   rw[hc0']at z;cases z;exact hc1'
  ·have:=ok.uniq _ z
   rw[hfree]at this;cases this
 ·rcases cases' x c e with y|⟨y,_,_⟩
  ·obtain⟨v,q⟩:=I.cell x c y
   exact⟨v,q.keeps keepAll⟩
  ·exact⟨none,y⟩
 ·rcases cases' x c e with y|⟨_,y,_⟩
  ·exact I.freeC x c y
  ·exact I.hok.fresh (by omega)
 ·show(a0f keep more σ).length=N'.length
  unfold a0f;rw[Zz,Jr,Yt,ok.len,ok.klen,I.len]
  omega
section
variable{prog:Program}{w:World}{A:Around}{R:Result->Shared->Prop}{s:Shared}
theorem b7m{M:Model}{E:OE}{scope:Scope}{env:Env}{Q:Env->Shared->Prop}(cl:List (Str×Addr))
  (h:Q {scope:=scope,locals:=s.heap.objs.size,globals:=env.globals,cells:=cellsFrom (s.heap.objs.size+1) scope.names cl,qual:=env.qual,func:=none,code:=env.code,frame:=env.frame,builtins:=env.builtins}
   {s with heap:=pushCells (s.heap.push {cls:=.type "dict",data:=.dict #[]}) scope.names}):
  wpAny M A (newFunctionEnv scope env.globals cl [] env.qual none .none (some env)) Q E s:=by
 simp only[newFunctionEnv,Option.isSome_some,Zm];refine Qz (wpAny_alloc ?_);refine Qz (wpAny_layCells _ (fun name kind cells=>by cases hkc:kind==NameKind.cell<;>simp[hkc]) _ _ _ _ ?_)
 rw[show({s with heap:=s.heap.push {cls:=.type "dict",data:=.dict #[]}}:Shared).heap.objs.size=s.heap.objs.size+1 from Yx ..]
 exact Qz (by rw[List.forIn_nil];exact Qv (Qv h))
end
def a0H(X:Cx)(ifs:List Expr)(t:TT):Prop:=
 ∀(pins:OX) (s:Shared) (σ:St) (H:Hp) (Q:Bool->Hp->Prop),Inv X pins σ H s->t σ H Q->
  wpAny (model X.prog X.w) X.A (forIn ifs true fun c r=>if r=true then do let ok←isTrue c X.env (eval c X.env);pure (ForInStep.yield ok)else pure (ForInStep.yield r)) (TP X pins σ Q) X.xe s
theorem b7n{X:Cx}:a0H X [] (fun _ H Q=>Q true H):=fun _ _ _ H _ I h=>wpAny_tests_nil ⟨H,I,h⟩
theorem b7o{X:Cx}{c:Expr}{t:TT}(h:PT X c t):a0H X [c] t:=fun pins s σ H Q I q=>wpAny_tests_one (h pins s σ H Q I q)
section
variable{X:Cx}{N':List Str}{scope:Scope}{keep:List Bool}{more:Nat}{tg iter elt:Expr}{ifs:List Expr}{g:TG}{tt:TT}{te:TE}{pos:Pos}
end
def g0_(keep:List Bool)(more:Nat)(env:Env'):Env':=List.zipWith (fun k w=>if k then w else .nil) keep env++List.replicate more .nil
def a0T:Bool->W->W->Option W
 |false,w,_=>some w
 |true,.nil,_=>some .nil
 |true,.dat d,_=>some (.dat d)
 |true,.own _,.own ds=>some (.own ds)
 |true,.own _,.dat d=>some (.dat d)
 |true,.par _,.par ds=>some (.par ds)
 |true,.ownD _ _,.ownD ks vs=>some (.ownD ks vs)
 |true,.ownD _ _,.dat d=>some (.dat d)
 |true,.parD _ _,.parD ks vs=>some (.parD ks vs)
 |true,.ownX _ _,.ownX ks vs=>some (.ownX ks vs)
 |true,.ownX _ _,.dat d=>some (.dat d)
 |true,.parX _ _,.parX ks vs=>some (.parX ks vs)
 |_,_,_=>none
theorem b7p{w w2 w':W}{m:Mu}(h:a0T true w w2=some w')(e:w'.mut=some m):w2=w'/\∃d0,w.mut=some d0/\w.isOwn=w'.isOwn/\w.isPar=w'.isPar:=by
 cases w<;>cases w2<;>first
  |(simp only[a0T,Zf]at h;subst h;exact⟨rfl,_,rfl,rfl,rfl⟩)
  |(simp only[a0T,Zf]at h;subst h;cases e;done)
  |(simp[a0T]at h;done)
theorem b7q{w w2:W}{d:D}(h:a0T true w w2=some (.dat d)):w=.dat d∨(w2=.dat d/\∃d0,w.mut=some d0):=by
 cases w<;>cases w2<;>first
  |(simp only[a0T,Zf]at h;exact .inl h)
  |(simp only[a0T,Zf]at h;exact .inr ⟨h,_,rfl⟩)
  |(simp[a0T]at h;done)
def j6_:List Bool->Env'->Env'->Option Env'
 |[],[],_=>some []
 |k::ks,w::ws,w2::ws2=>(a0T k w w2).bind fun x=>(j6_ ks ws ws2).map fun r=>x::r
 |_,_,_=>none
theorem a7G:∀{keep:List Bool}{env env2 env':Env'}{i:Nat}{w':W},j6_ keep env env2=some env'->env'[i]? =some w'->∃k w w2,keep[i]? =some k/\env[i]? =some w/\env2[i]? =some w2/\a0T k w w2=some w'
 |[],[],_,env',i,w',h,e=>by simp only[j6_,Zf]at h;subst h;simp at e
 |[],_::_,_,env',i,w',h,e=>by simp[j6_]at h
 |k::ks,[],_,env',i,w',h,e=>by simp[j6_]at h
 |k::ks,w::ws,[],env',i,w',h,e=>by simp[j6_]at h
 |k::ks,w::ws,w2::ws2,env',i,w',h,e=>by
  unfold j6_ at h;obtain⟨x,h1,h2⟩:=q8_ h;obtain⟨r,h3,h4⟩:=y8_ h2;subst h4;cases i with
  |zero=>simp at e;subst e;exact⟨k,w,w2,rfl,rfl,rfl,h1⟩
  |succ i=>simpa using a7G (i:=i) h3 (by simpa using e)
theorem b1t:∀{keep:List Bool}{env env2 env':Env'},j6_ keep env env2=some env'->env'.length=env.length
 |[],[],_,env',h=>by simp only[j6_,Zf]at h;subst h;rfl
 |[],_::_,_,env',h=>by simp[j6_]at h
 |k::ks,[],_,env',h=>by simp[j6_]at h
 |k::ks,w::ws,[],env',h=>by simp[j6_]at h
 |k::ks,w::ws,w2::ws2,env',h=>by
  unfold j6_ at h;obtain⟨x,h1,h2⟩:=q8_ h;obtain⟨r,h3,h4⟩:=y8_ h2;subst h4
  simp[b1t h3]
theorem a2I{keep:List Bool}{more:Nat}{env:Env'}{i:Nat}{w:W}(h:(g0_ keep more env)[i]? =some w)(hw:w≠.nil):keep[i]? =some true/\env[i]? =some w:=by
 unfold g0_ at h
 rcases a2h h with⟨_,h⟩|⟨_,h⟩
 ·rw[Jp]at h
  cases e1:keep[i]? with
  |none=>rw[e1]at h;cases h
  |some k=>
   cases e2:env[i]? with
   |none=>rw[e1,e2]at h;cases h
   |some u=>
    rw[e1,e2]at h;cases k with
    |true=>simp at h;exact⟨rfl,by rw[h]⟩
    |false=>simp at h;exact absurd h.symm hw
 ·exact absurd h hw
theorem a5P{keep:List Bool}{more:Nat}{σ:St}{i:Nat}{v:Option V}(hk:keep[i]? =some true)(h:σ[i]? =some v):(a0f keep more σ)[i]? =some v:=by
 unfold a0f;have h1:i<keep.length:=(Qb.mp hk).1;have h2:i<σ.length:=(Qb.mp h).1;rw[Yq (by rw[Jr];omega),Jp,hk,h]
 rfl
theorem a4t{w:W}{ds:Mu}(h:w.mut=some ds):w≠.nil:=fun z=>by rw[z]at h;cases h
section
variable{K:Qq}{B:OA}{G G':Hp}{σ σ':St}{env env2 env':Env'}{H H':Hp}{keep:List Bool}{more:Nat}
theorem a7H{a:Addr}(h:Owned (a0f keep more σ) (g0_ keep more env) a):Owned σ env a:=by
 obtain⟨i,w,ds,e1,e2,e3⟩:=h;exact⟨i,w,ds,(a2I e1 (a4t e2)).2,e2,(a3z e3).2⟩
theorem Rel.ext(r:Rel K B G σ env H)(hk:keep.length=σ.length):Rel K B G (a0f keep more σ) (g0_ keep more env) H:=by
 refine⟨r.sub,?_,fun i d e=>?_,fun i w ds e1 e2=>?_,fun i j w w' ds es a q1 q2 q3 q4 q5 q6=>?_,fun i w a q1 qo q2=>?_,r.old,r.tabs,r.gnt⟩
 ·unfold g0_ a0f
  rw[Zz,Zz,Jr,Jr,Yt,Yt,r.len]
 ·obtain⟨k1,k2⟩:=a2I e (by simp)
  obtain⟨v,e1,e2⟩:=r.dat i d k2;exact⟨v,a5P k1 e1,e2⟩
 ·obtain⟨k1,k2⟩:=a2I e1 (a4t e2)
  obtain⟨a,xs,e3,e4⟩:=r.own i w ds k2 e2;exact⟨a,xs,a5P k1 e3,e4⟩
 ·exact r.inj i j w w' ds es a (a2I q1 (a4t q2)).2 q2 (a2I q3 (a4t q4)).2 q4 (a3z q5).2 (a3z q6).2
 ·exact r.fresh i w a (a2I q1 (by rintro rfl;cases qo)).2 qo (a3z q2).2
theorem Ev.out(r:Rel K B G σ env H)(hk:keep.length=σ.length)(ev:Ev K B G (a0f keep more σ) (g0_ keep more env) H G' σ' env2 H')(hσ:∀j,j<σ.length->σ'[j]? =(a0f keep more σ)[j]?)(ho:j6_ keep env env2=some env'):
  Ev K B G σ env H G' σ env' H':=by
 have mutO:∀(i:Nat) (w':W) (ds:Mu),env'[i]? =some w'->w'.mut=some ds->∃w0 d0,env[i]? =some w0/\w0.mut=some d0/\w0.isOwn=w'.isOwn/\w0.isPar=w'.isPar/\
   ∃a o,σ[i]? =some (some (V.ref a))/\H' a=some o/\RepM K G' o ds/\G' a=none:=fun i w' ds e1 e2=>by
  obtain⟨k,w,w2,h1,h2,h3,h4⟩:=a7G ho e1;have hi:i<σ.length:=by have:=(Qb.mp h2).1;rw[←r.len];exact this
  cases k with
  |false=>
   simp only[a0T,Zf]at h4;subst h4;obtain⟨a,xs,q1,q2,q3,q4⟩:=r.own i w ds h2 e2;have no:¬ Owned (a0f keep more σ) (g0_ keep more env) a:=by
    rintro⟨j,v,es,y1,y2,y3⟩;obtain⟨z1,z2⟩:=a2I y1 (a4t y2);have:=r.inj j i v w es ds a z2 y2 h2 e2 (a3z y3).2 q1;subst this;rw[h1]at z1;cases z1
   exact⟨w,ds,h2,e2,rfl,rfl,a,xs,q1,ev.keep a _ no q3.nt q2,q3.mono ev.same,ev.stay a (by rw[q2];simp) no q4⟩
  |true=>
   obtain⟨z,d0,z1,z2,z3⟩:=b7p h4 e2;subst z;refine⟨w,d0,h2,z1,z2,z3,?_⟩;obtain⟨a,xs,q1,q2,q3,q4⟩:=ev.rel.own i w2 ds h3 e2;obtain⟨a0,xs0,p1,_⟩:=r.own i w d0 h2 z1;rw[hσ i hi,a5P h1 p1]at q1;cases q1;exact⟨a,xs,p1,q2,q3,q4⟩
 refine⟨⟨ev.rel.sub,by rw[b1t ho];exact r.len,fun i d e=>?_,fun i w ds e1 e2=>?_,fun i j w w' ds es a q1 q2 q3 q4 q5 q6=>?_,fun i w a q1 qo q2=>?_,ev.rel.old,ev.rel.tabs,ev.rel.gnt⟩,ev.same,fun b o n t e=>ev.keep b o (fun z=>n (a7H z)) t e,ev.live,fun b e n g=>ev.stay b e (fun z=>n (a7H z)) g,fun a z=>.inl ?_,fun i w e hp=>⟨rfl,?_⟩,rfl⟩
 ·obtain⟨k,w,w2,h1,h2,h3,h4⟩:=a7G ho e
  have hi:i<σ.length:=by have:=(Qb.mp h2).1;rw[←r.len];exact this
  have old:w=.dat d->∃v,σ[i]? =some (some v)/\Rep K G' v d:=fun z=>by
   subst z;obtain⟨v,e1,e2⟩:=r.dat i d h2;exact⟨v,e1,Rep.mono ev.same d e2⟩
  cases k with
  |false=>simp only[a0T,Zf]at h4;exact old h4
  |true=>
   rcases b7q h4 with z|⟨z,d0,z0⟩
   ·exact old z
   ·subst z
    obtain⟨v,q1,q2⟩:=ev.rel.dat i d h3;obtain⟨a0,xs0,p1,_⟩:=r.own i _ d0 h2 z0;rw[hσ i hi,a5P h1 p1]at q1;cases q1;exact⟨_,p1,q2⟩
 ·obtain⟨w0,d0,_,_,_,_,q⟩:=mutO i w ds e1 e2
  exact q
 ·obtain⟨w0,d0,y1,y2,_⟩:=mutO i w ds q1 q2
  obtain⟨w1,d1,y3,y4,_⟩:=mutO j w' es q3 q4;exact r.inj i j w0 w1 d0 d1 a y1 y2 y3 y4 q5 q6
 ·obtain⟨m,hm⟩:=own_mut qo
  obtain⟨w0,d0,y1,_,y3,_⟩:=mutO i _ m q1 hm;exact r.fresh i w0 a y1 (y3.trans qo) q2
 ·obtain⟨i,w,ds,e1,e2,e3⟩:=z
  obtain⟨w0,d0,y1,y2,_⟩:=mutO i w ds e1 e2;exact⟨i,w0,d0,y1,y2,e3⟩
 ·obtain⟨m,hm⟩:=par_mut hp
  obtain⟨w0,d0,y1,_,_,y4,_⟩:=mutO i _ m e hm;exact⟨w0,y1,y4.trans hp⟩
theorem Ev.swapAt{p:Addr}{o:HO}(ev:Ev K B G σ env H G' σ' env' H')(no:¬ Owned σ env p)(hp:H p≠none)(gp:G p=none)(nt:NT o)(nx:∀φ,H' p≠some (.ext φ)):Ev K B G σ env (upd H p o) G' σ' env' (upd H' p o):=by
 have np:∀(i:Nat) (w:W) (ds:Mu) (a:Addr),env'[i]? =some w->w.mut=some ds->σ'[i]? =some (some (V.ref a))->a≠p:=fun i w ds a e1 e2 e3 z=>by
  rcases ev.sub a ⟨i,w,ds,e1,e2,e3⟩with q|q
  ·exact no (z ▸ q)
  ·exact hp (z ▸ q)
 have gp':G' p=none:=ev.stay p hp no gp
 have live':∀b,H' b≠none->(upd H' p o) b≠none:=fun b h=>by
  by_cases hb:b=p
  ·subst hb;rw[x8_];simp
  ·rw[v9_ hb];exact h
 refine⟨⟨fun b u e=>?_,ev.rel.len,ev.rel.dat,fun i w ds e1 e2=>?_,ev.rel.inj,ev.rel.fresh,fun b h=>live' b (ev.rel.old b h),ev.rel.tabs.upd nt nx,ev.rel.gnt⟩,ev.same,fun b u n t e=>?_,fun b e=>?_,fun b e n g=>?_,fun a z=>?_,ev.par,ev.slen⟩
 ·have hb:b≠p:=fun z=>by rw[z,gp']at e;cases e
  rw[v9_ hb];exact ev.rel.sub b u e
 ·obtain⟨a,xs,e3,e4,e5,e6⟩:=ev.rel.own i w ds e1 e2
  exact⟨a,xs,e3,by rw[v9_ (np i w ds a e1 e2 e3)];exact e4,e5,e6⟩
 ·by_cases hb:b=p
  ·subst hb;rw[x8_]at e ⊢;exact e
  ·rw[v9_ hb]at e ⊢;exact ev.keep b u n t e
 ·by_cases hb:b=p
  ·subst hb;rw[x8_];simp
  ·rw[v9_ hb]at e ⊢;exact ev.live b e
 ·by_cases hb:b=p
  ·subst hb;exact gp'
  ·rw[v9_ hb]at e;exact ev.stay b e n g
 ·obtain⟨i,w,ds,e1,e2,e3⟩:=id z
  rw[v9_ (np i w ds a e1 e2 e3)];exact ev.sub a z
end
def j7_(g:OZ)(t:Mo Bool)(m:Mo D):List D->Mo (List D)
 |[],env=>some ([],env)
 |d::ds,env=>(g d env).bind fun e1=>(t e1).bind fun p=>if p.1 then(m p.2).bind fun q=>(j7_ g t m ds q.2).map fun r=>(q.1::r.1,r.2)else j7_ g t m ds p.2
def y9_(mi:Mo (List D))(keep:List Bool)(more:Nat)(g:OZ)(t:Mo Bool)(m:Mo D):Mo (List D):=fun env=>(mi env).bind fun p=>if p.1.length≤100000 then
 (j7_ g t m p.1 (g0_ keep more p.2)).bind fun q=>(j6_ keep p.2 q.2).map fun e=>(q.1,e)else none
def x7_:Mo Bool:=fun env=>some (true,env)
theorem a0I{X:Cx}{B:OA}:a0H X [] (TTm X.K B x7_):=fun pins s σ H Q I h=>by
 obtain⟨G,env,b,env',rl,e,k⟩:=h;cases e;exact b7n pins s σ H Q I (k G H (.refl rl))
theorem a4u{X:Cx}{B:OA}{c:Expr}{t:Mo Bool}(h:ET X B c t):a0H X [c] (TTm X.K B t):=b7o h
section
variable{X:Cx}{B:OA}{N':List Str}{scope:Scope}{keep:List Bool}{more:Nat}{tg iter elt:Expr}{ifs:List Expr}{g:OZ}{t:Mo Bool}{m:Mo D}{mi:Mo (List D)}{pos:Pos}
end
section
variable{X:Cx}{B:OA}{pos:Pos}{a b c e:Expr}{ma mb mc:Mo D}{ms:Mo (List D)}{es:List Expr}
def tyD:D->String
 |.non=>"NoneType"|.bl _=>"bool"|.int _=>"int"|.str _=>"str"|.tup _=>"tuple"|.lst _=>"list"|.emp=>"dict"|.obj _=>"object"|.dct _ _=>"dict"|.dcx _ _=>"dict"
def a0x(K:Qq)(T:String):Prop:=T∈(["tuple","list","int","bool","str"]:List String)
def a3A(t T:String):Bool:=t==T||(t=="bool"&&T=="int")
theorem b7r{K:Qq}{T:String}(h:a0x K T):∀d,(∀o,d≠.obj o)->PySem.W.kitOne K (.type (tyD d)) (.type T)=some (a3A (tyD d) T):=by
 intro d hd;unfold a0x at h;simp only[Qi,Yu,Uu]at h
 rcases h with rfl|rfl|rfl|rfl|rfl<;>cases d<;>first|rfl|exact absurd rfl (hd _)
theorem b7s{pins:OX}{σ:St}{G H:Hp}{s:Shared}{A:Around}{E:OE}{Q:OE}{T:String}{x:V}{u:Value}{d:D}(I:Inv X pins σ H s)(l:Le G H)(rx:v6_ x u)(rp:Rep X.K G x d)
  (kt:a0x X.K T)(h:∀tk,Q (.bool (a3A (tyD d) T)) {s with toks:=tk}):wpAny (model X.prog X.w) A (call (.builtin "isinstance") [u,.type T]) Q E s:=by
 have e:=b7r kt d
 cases d with
 |non=>simp only[Rep]at rp;subst rp;exact a2x I rx (.non) (e nofun) h
 |bl b=>simp only[Rep]at rp;subst rp;exact a2x I rx (.bl b) (e nofun) h
 |int i=>simp only[Rep]at rp;subst rp;exact a2x I rx (.int i) (e nofun) h
 |str z=>simp only[Rep]at rp;obtain⟨rp,_⟩:=rp;subst rp;exact a2x I rx (.str z) (e nofun) h
 |tup ds=>
  simp only[Rep]at rp;obtain⟨a,xs,rfl,q,_⟩:=rp;cases rx;obtain⟨its,_,⟨o,h1,h2,_⟩,_⟩:=I.tuple (l.sqT q);exact Zv PySem.W.kitx_tuple I.kIn ⟨o,h1,h2⟩ (e nofun) (fun z=>nomatch z) h
 |lst ds=>
  simp only[Rep]at rp;obtain⟨a,xs,rfl,q,_⟩:=rp;cases rx;obtain⟨its,_,⟨o,n,h1,h2,_⟩,_⟩:=I.list (l.sqL q);exact Zv Xw I.kIn ⟨o,h1,h2⟩ (e nofun) (fun z=>nomatch z) h
 |emp=>
  simp only[Rep]at rp;obtain⟨a,kvs,rfl,q⟩:=rp;exact a2x I rx (.dK (l _ _ q)) (e nofun) h
 |dct ks vs=>
  simp only[Rep]at rp;obtain⟨a,kvs,rfl,q,_⟩:=rp;exact a2x I rx (.dT (l _ _ q)) (e nofun) h
 |dcx ks vs=>
  simp only[Rep]at rp;obtain⟨a,es,ep,xs,rfl,q,_⟩:=rp;exact a2x I rx (.dX (l _ _ q)) (e nofun) h
 |obj o=>
  have h0:a3A "object" T=false:=by
   unfold a0x at kt;simp only[Qi,Yu,Uu]at kt
   rcases kt with rfl|rfl|rfl|rfl|rfl<;>rfl
  have h':∀tk,Q (.bool false) {s with toks:=tk}:=fun tk=>by have:=h tk;rwa [show a3A (tyD (.obj o)) T=false from h0]at this
  simp only[Rep]at rp;cases o with
  |exc n=>
   obtain⟨a,C,HP,rfl,_,h3,h4,h5⟩:=rp;cases rx;exact Zv h4 I.kIn (I.hok a _ (l _ _ h3)).1 (h5 T kt) (fun z=>nomatch z) h'
  |fn n=>
   obtain⟨f,rfl,_,h4⟩:=rp;cases rx;refine Zv h4 I.kIn True.intro ?_ (fun z=>nomatch z) h'
   unfold a0x at kt;simp only[Qi,Yu,Uu]at kt
   rcases kt with rfl|rfl|rfl|rfl|rfl<;>rfl
  |dk kvs=>
   obtain⟨a,rfl,q⟩:=rp;obtain⟨_,_,vs,_,dd⟩:=(show w3_ X.prog X.w H s.heap a (.dK _)from I.hok a _ (l _ _ q))
   obtain⟨o,h1,h2⟩:∃o,s.heap.get? a=some o/\o.cls=.type "dict":=by
    obtain⟨o,es,ep,g1,g2,_⟩:=dd;exact⟨o,g1,g2.1⟩
   cases rx;refine Zv Uj I.kIn ⟨o,h1,h2⟩ ?_ (fun z=>nomatch z) h'
   unfold a0x at kt;simp only[Qi,Yu,Uu]at kt
   rcases kt with rfl|rfl|rfl|rfl|rfl<;>rfl
  |dt kvs=>
   obtain⟨a,ps,rfl,q,_⟩:=rp;obtain⟨_,_,vs,_,dd⟩:=(show w3_ X.prog X.w H s.heap a (.dK _)from I.hok a _ (l _ _ q))
   obtain⟨o,h1,h2⟩:∃o,s.heap.get? a=some o/\o.cls=.type "dict":=by
    obtain⟨o,es,ep,g1,g2,_⟩:=dd;exact⟨o,g1,g2.1⟩
   cases rx;refine Zv Uj I.kIn ⟨o,h1,h2⟩ ?_ (fun z=>nomatch z) h'
   unfold a0x at kt;simp only[Qi,Yu,Uu]at kt
   rcases kt with rfl|rfl|rfl|rfl|rfl<;>rfl
theorem a5Q{K:Qq}:a0x K "tuple":=by simp[a0x]
theorem b7t{K:Qq}:a0x K "int":=by simp[a0x]
theorem b7u{K:Qq}:a0x K "bool":=by simp[a0x]
def mIs(T:String)(m:Mo D):Mo D:=fun env=>(m env).map fun p=>(.bl (a3A (tyD p.1) T),p.2)
theorem a3B{T:String}{y:Str}{p p2:Pos}(kt:a0x X.K T)(ha:ED X B a ma)(hg:Gl X "isinstance")(hm:X.mg "isinstance"=none)(hgT:Gl X y)(hmT:X.mg y=none)(hvT:bootBuiltins y=some (.type T))
  (hnT:y≠"__name__":=by decide)(hdT:(y==("__debug__":Str))=false:=by decide)
  (he:starEach [a,.Name y p2] X.env=[(false,eval a X.env),(false,eval (.Name y p2) X.env)]:=by rfl):ED X B (.Call (.Name "isinstance" p) [a,.Name y p2] [] pos) (mIs T ma):=by
 have hT:PE X (.Name y p2) (tC (.ty T)):=b4X hgT hmT hvT rfl hnT hdT
 have hc:a0E X (.builtin "isinstance") (fun xs H Q=>∃x G d,xs=[x,.ty T]/\Le G H/\Rep X.K G x d/\Q (.bl (a3A (tyD d) T)) H):=by
  intro pins s σ H xs us Q I r h;obtain⟨x,G,d,rfl,l,rp,q⟩:=h;obtain⟨u,w',rfl,r1,r2⟩:=a5q r;cases r2;exact b7s I l r1 rp kt fun tk=>⟨.bl _,H,I.tok _,rfl,q⟩
 have h1:starEach [Expr.Name y p2] X.env=[(false,eval (.Name y p2) X.env)]:=rfl
 refine pe_imp (b0E (pos:=pos) (p:=p) hc hg hm (by decide+kernel) (a1Z ha (a1Z hT a4h) he) (he:=he)) ?_
 rintro σ H Q ⟨G,env,d,env',rl,e,k⟩;obtain⟨⟨d1,env1⟩,e1,e2⟩:=y8_ e;cases e2;exact .bind rl e1 fun v G1 H1 ev r=>⟨v,G1,d1,rfl,ev.rel.sub,r,k _ G1 H1 ev (by simp only[Rep])⟩
def a1i:List D->Option Bool
 |[]=>some true
 |.bl b::r=>(a1i r).map fun k=>b&&k
 |_::_=>none
def a3C:List D->Option D
 |[.lst ds]=>(a1i ds).map fun k=>.bl k
 |_=>none
theorem b1u{K:Qq}{G:Hp}:∀{ds:List D}{xs:List V}{us:List Value}{k:Bool},z8_ K G xs ds->v5_ xs us->a1i ds=some k->∃bs,LSm.BoolsAre us bs/\bs.all id=k
 |[],_,us,k,r,v,e=>by
  simp only[z8_]at r;subst r;cases v;cases e;exact⟨[],.nil,rfl⟩
 |d::ds,_,us,k,r,v,e=>by
  simp only[z8_]at r;obtain⟨x,t,rfl,q,r⟩:=r;cases d<;>first|(exact absurd (show(none:Option Bool)=some k from e) (by simp))|skip
  obtain⟨k',e1,e2⟩:=y8_ (show(a1i ds).map _=some k from e)
  simp only[Rep]at q;subst q;cases v with
  |cons v1 v2=>
   cases v1;obtain⟨bs,h1,h2⟩:=b1u r v2 e1;exact⟨_::bs,.cons _ h1,by rw[←e2,←h2];rfl⟩
theorem a7I(hc:X.calm=true):a0E X (.builtin "all") (fun xs H Q=>∃p G ys ds k,xs=[.ref p]/\Le G H/\SqL X.K G p ys/\z8_ X.K G ys ds/\a1i ds=some k/\Q (.bl k) H):=by
 intro pins s σ H xs us Q I r h;obtain⟨p,G,ys,ds,k,rfl,l,hq,rp,ek,q⟩:=h;obtain⟨u,rfl,rx⟩:=a4g r;cases rx;obtain⟨its,r',pl,hz⟩:=I.list (l.sqL hq);obtain⟨bs,hb,hk⟩:=b1u rp r' ek;have hh:X.A.handled=none:=I.ok.hd hc;have hl:=pl.isList;have hlt:p<s.heap.objs.size:=by obtain⟨_,e,_⟩:=hl;exact Qh e
 refine call_all_walk (Jg hl ?_);refine⟨s.heap.objs.size,[s.heap.objs.size,p],[s.heap.objs.size],its.toArray.size,_,_,fun i=>(bs[i]?).getD true,rfl,Walks.list (A:=X.A.in1) hh _ p (Zw hlt) its.toArray,
  ⟨⟨_,Qn _ rfl,rfl,rfl⟩,hl.push _⟩,fun i v s' Q' E' hP hQ=>?_,fun h' tk hk'=>?_⟩
 ·obtain⟨b,e,rfl⟩:=hb.get i v (by simpa using hP)
  simp only[e,Option.getD_some]at hQ;exact Yz hQ
 ·have e:((List.range its.toArray.size).all fun i=>(bs[i]?).getD true)=bs.all id:=by
   rw[Ql,hb.length];exact LSm.range_all bs
  rw[e,hk];exact⟨.bl k,H,I.kept (t':=tk) (LSm.kept_iter hk'),rfl,q⟩
theorem a7J:a1f X B (fun xs H Q=>∃p G ys ds k,xs=[.ref p]/\Le G H/\SqL X.K G p ys/\z8_ X.K G ys ds/\a1i ds=some k/\Q (.bl k) H) a3C:=by
 intro G σ env H xs ds c Q rl r e k;unfold a3C at e;split at e
 ·rename_i ds
  obtain⟨x,rfl,q⟩:=a1g r;obtain⟨k',e1,e2⟩:=y8_ e;subst e2;simp only[Rep]at q;obtain⟨a,ys,rfl,h1,h2⟩:=q;exact⟨a,G,ys,ds,k',rfl,rl.sub,h1,h2,e1,k _ G H (.refl rl) (by simp only[Rep])⟩
 ·cases e
def a1O:List D->Option D
 |[.int i,.int j]=>some (.int (if j>i then j else i))
 |_=>none
def a2J:List D->Option D
 |[.int i,.int j]=>some (.int (if j<i then j else i))
 |_=>none
theorem b1v:a1f X B (fun xs H Q=>∃i j,xs=[.int i,.int j]/\Q (.int (if j>i then j else i)) H) a1O:=by
 intro G σ env H xs ds c Q rl r e k;unfold a1O at e;split at e
 ·rename_i i j
  cases e;obtain⟨x,y,rfl,q1,q2⟩:=a4n r;simp only[Rep]at q1 q2;subst q1 q2;exact⟨i,j,rfl,k _ G H (.refl rl) (by simp only[Rep])⟩
 ·cases e
theorem b1w:a1f X B (fun xs H Q=>∃i j,xs=[.int i,.int j]/\Q (.int (if j<i then j else i)) H) a2J:=by
 intro G σ env H xs ds c Q rl r e k;unfold a2J at e;split at e
 ·rename_i i j
  cases e;obtain⟨x,y,rfl,q1,q2⟩:=a4n r;simp only[Rep]at q1 q2;subst q1 q2;exact⟨i,j,rfl,k _ G H (.refl rl) (by simp only[Rep])⟩
 ·cases e
def ints?:List D->Option (List Int)
 |[]=>some []
 |.int i::r=>(ints? r).map fun l=>i::l
 |_::_=>none
theorem a1j{K:Qq}{G:Hp}:∀{ds:List D}{xs:List V}{ns:List Int},z8_ K G xs ds->ints? ds=some ns->xs=ns.map V.int
 |[],_,ns,r,e=>by simp only[z8_]at r;subst r;cases e;rfl
 |d::ds,_,ns,r,e=>by
  simp only[z8_]at r;obtain⟨x,t,rfl,q,r⟩:=r;cases d<;>first|(exact absurd (show(none:Option (List Int))=some ns from e) (by simp))|skip
  obtain⟨l,e1,e2⟩:=y8_ (show(ints? ds).map _=some ns from e)
  subst e2;simp only[Rep]at q;subst q;rw[a1j r e1];rfl
def dIn(neg:Bool):D->D->Option D
 |.int i,d=>d.items.bind fun ds=>(ints? ds).map fun ns=>.bl (if neg then !ns.contains i else ns.contains i)
 |_,_=>none
theorem b1x(ns:List Int):(ns.map V.int).all a1r=true:=by
 induction ns with
 |nil=>rfl
 |cons n ns ih=>simp[a1r,ih]
theorem b7v(i:Int)(ns:List Int):inV (.int i) (ns.map V.int)=ns.contains i:=by
 unfold inV
 induction ns with
 |nil=>rfl
 |cons n ns ih=>
  rw[Qy,Xz,ih,Ye]
  congr 1
  show(n==i)=(i==n);exact Bool.beq_comm ..
theorem a4v{neg:Bool}:OpD X B (rIn X.K neg) (dIn neg):=by
 intro G σ env H x y a b d Q rl ra rb e k;cases a<;>first|(exact absurd (show(none:Option D)=some d from e) (by simp))|skip
 rename_i i;obtain⟨ds,e1,e2⟩:=q8_ (show b.items.bind _=some d from e)
 obtain⟨ns,e3,e4⟩:=y8_ e2;subst e4;simp only[Rep]at ra;subst ra;obtain⟨p,xs,rfl,h1,h2⟩:=b1b rl.sub rb e1;have hx:=a1j h2 e3;subst hx;exact⟨p,_,rfl,h1,rfl,b1x ns,k _ G H (.refl rl) (by rw[b7v];simp only[Rep])⟩
end
section
variable{X:Cx}{pins:OX}{σ:St}{G H:Hp}{s:Shared}
end
mutual
def toP:D->PyData
 |.non=>.none
 |.bl b=>.bool b
 |.int i=>.int i
 |.str x=>.str x
 |.tup ds=>.tuple (x0_ ds)
 |.lst ds=>.list (x0_ ds)
 |.emp=>.dict []
 |.obj _=>.dict []
 |.dct _ _=>.dict []
 |.dcx _ _=>.dict []
def x0_:List D->List PyData
 |[]=>[]
 |d::ds=>toP d::x0_ ds
end
def shp(d:D):Bool:=SeqAt.shaped (toP d)
section
variable{X:Cx}{B:OA}{pins:OX}{σ:St}{G H:Hp}{s:Shared}
mutual
theorem reads_of(I:Inv X pins σ H s)(l:Le G H):∀(d:D) (x:V) (u:Value),(toP d).canLay0=true->v6_ x u->Rep X.K G x d->∃as,Reads s.heap u (toP d) as
 |.non,x,u,c,r,p=>by simp only[Rep]at p;subst p;cases r;exact⟨_,.none⟩
 |.bl b,x,u,c,r,p=>by simp only[Rep]at p;subst p;cases r;exact⟨_,.bool b⟩
 |.int i,x,u,c,r,p=>by simp only[Rep]at p;subst p;obtain⟨t,rfl⟩:=r;exact⟨_,.int i t⟩
 |.str z,x,u,c,r,p=>by simp only[Rep]at p;obtain⟨p,_⟩:=p;subst p;obtain⟨t,rfl⟩:=r;exact⟨_,.str z t⟩
 |.tup ds,x,u,c,r,p=>by
  simp only[Rep]at p;obtain⟨a,xs,rfl,q,rp⟩:=p;cases r;obtain⟨its,rv,⟨o,h1,h2,n,h3⟩,_⟩:=I.tuple (l.sqT q);have hc:PyData.canLayAll0 (x0_ ds)=true:=by simpa [toP,PyData.canLay0]using c
  obtain⟨as,h⟩:=readsAll_of I l ds xs its hc rv rp;exact⟨_,.tuple h1 h2 h3 (by simpa using h)⟩
 |.lst ds,x,u,c,r,p=>by
  simp only[Rep]at p;obtain⟨a,xs,rfl,q,rp⟩:=p;cases r;obtain⟨its,rv,⟨o,n,h1,h2,_,h3⟩,_⟩:=I.list (l.sqL q);have hc:PyData.canLayAll0 (x0_ ds)=true:=by simpa [toP,PyData.canLay0]using c
  obtain⟨as,h⟩:=readsAll_of I l ds xs its hc rv rp;exact⟨_,.list h1 h2 h3 (by simpa using h)⟩
 |.emp,x,u,c,r,p=>by simp[toP,PyData.canLay0]at c
 |.obj _,x,u,c,r,p=>by simp[toP,PyData.canLay0]at c
 |.dct _ _,x,u,c,r,p=>by simp[toP,PyData.canLay0]at c
 |.dcx _ _,x,u,c,r,p=>by simp[toP,PyData.canLay0]at c
theorem readsAll_of(I:Inv X pins σ H s)(l:Le G H):∀(ds:List D) (xs:List V) (us:List Value),PyData.canLayAll0 (x0_ ds)=true->v5_ xs us->z8_ X.K G xs ds->∃as,ReadsAll s.heap us (x0_ ds) as
 |[],xs,us,c,v,p=>by simp only[z8_]at p;subst p;cases v;exact⟨_,.nil⟩
 |d::ds,xs,us,c,v,p=>by
  simp only[z8_]at p;obtain⟨x,r,rfl,q,t⟩:=p;have hc:(toP d).canLay0=true/\PyData.canLayAll0 (x0_ ds)=true:=by simpa [x0_,PyData.canLayAll0]using c
  cases v with
  |cons v1 v2=>
   obtain⟨as,h1⟩:=reads_of I l d x _ hc.1 v1 q;obtain⟨bs,h2⟩:=readsAll_of I l ds r _ hc.2 v2 t;exact⟨_,.cons h1 h2⟩
end
def rEqD(K:Qq)(neg:Bool):R2:=fun x y H Q=>∃G a b,Le G H/\Rep K G x a/\Rep K G y b/\shp a=true/\shp b=true/\Q (.bl (if neg then !PyData.eqv (toP a) (toP b)else PyData.eqv (toP a) (toP b))) H
theorem op_eqD(hu:X.A.units+64<cLine):OpR X (compareOp .Eq) (rEqD X.K false):=by
 intro pins s σ H x y v u Q I rx ry h;obtain⟨G,a,b,l,ra,rb,ha,hb,q⟩:=h;obtain⟨as,h1⟩:=reads_of I l a x v (Jj ha) rx ra;obtain⟨bs,h2⟩:=reads_of I l b y u (Jj hb) ry rb;exact eq_dataH h1 h2 ha hb hu ⟨.bl _,H,I,rfl,q⟩
theorem op_neD(hu:X.A.units+64<cLine):OpR X (compareOp .NotEq) (rEqD X.K true):=by
 intro pins s σ H x y v u Q I rx ry h;obtain⟨G,a,b,l,ra,rb,ha,hb,q⟩:=h;obtain⟨as,h1⟩:=reads_of I l a x v (Jj ha) rx ra;obtain⟨bs,h2⟩:=reads_of I l b y u (Jj hb) ry rb;exact ne_dataH h1 h2 ha hb hu ⟨.bl _,H,I,rfl,q⟩
def dEq(neg:Bool):D->D->Option D:=fun a b=>if shp a&&shp b then some (.bl (if neg then !PyData.eqv (toP a) (toP b)else PyData.eqv (toP a) (toP b)))else none
theorem opd_eq{neg:Bool}:OpD X B (rEqD X.K neg) (dEq neg):=by
 intro G σ env H x y a b d Q rl ra rb e k;unfold dEq at e;split at e
 ·rename_i h
  rw[Qk]at h;cases e;exact⟨G,a,b,rl.sub,ra,rb,h.1,h.2,k _ G H (.refl rl) (by simp only[Rep])⟩
 ·cases e
end
section
variable{X:Cx}{B:OA}
def rCatT'(K:Qq):R2:=fun x y H Q=>∃a b xs ys,x=.ref a/\y=.ref b/\SqT K H a xs/\SqT K H b ys/\xs.length+ys.length≤sizeLine/\
 (xs=[]->Q (.ref b) H)/\(ys=[]->Q (.ref a) H)/\(∀p,H p=none->Q (.ref p) (upd H p (.tup (xs++ys))))
theorem op_catT':OpR X (binaryOp .Add) (rCatT' X.K):=by
 intro pins s σ H x y v u Q I rx ry h;obtain⟨a,b,xs,ys,rfl,rfl,ha,hb,hz,q0,q1,q2⟩:=h;cases rx;cases ry;obtain⟨vs,r1,p1,_⟩:=I.tuple ha;obtain⟨ws,r2,p2,_⟩:=I.tuple hb;have hsz:vs.length+ws.length≤sizeLine:=by rw[←r1.length,←r2.length];exact hz
 obtain⟨⟨cls,dd,data,sl⟩,ho,hc,n,hd⟩:=id p1;obtain⟨⟨cls2,dd2,data2,sl2⟩,ho2,hc2,n2,hd2⟩:=id p2;simp only at hc hd hc2 hd2;subst hc hd hc2 hd2;have e:vs.toArray++ws.toArray=(vs++ws).toArray:=by simp
 by_cases hv:vs=[]
 ·exact concat_meets ⟨_,ho,rfl⟩ ⟨_,ho2,rfl⟩ noFill_tuple_add seq_tuple_add Vz Ue (Ur _ _)
   (tuple_addW0 a b vs.toArray ws.toArray n n2 dd dd2 sl sl2 (by simp[hv])) ⟨ho,ho2,⟨.ref b,H,I,rfl,q0 (r1.nil_iff.mp hv)⟩⟩
 ·by_cases hw:ws=[]
  ·exact concat_meets ⟨_,ho,rfl⟩ ⟨_,ho2,rfl⟩ noFill_tuple_add seq_tuple_add Vz Ue (Ur _ _)
    (tuple_addW1 a b vs.toArray ws.toArray n n2 dd dd2 sl sl2 (by simpa using hv) (by simp[hw])) ⟨ho,ho2,⟨.ref a,H,I,rfl,q1 (r2.nil_iff.mp hw)⟩⟩
  ·refine concat_meets ⟨_,ho,rfl⟩ ⟨_,ho2,rfl⟩ noFill_tuple_add seq_tuple_add Vz Ue (Ur _ _)
    (tuple_addW2 a b vs.toArray ws.toArray n n2 dd dd2 sl sl2 (by simpa using hv) (by simpa using hw) (by rw[Ql,Ql];exact hsz)) ⟨ho,ho2,?_⟩
   rw[e];refine⟨.ref s.heap.objs.size,_,I.laid (t':=s.toks) (o:=.tup (xs++ys)) (fun b ob q=>Qx _ q) (Qp _) ?_,rfl,q2 _ (I.hok.fresh (Qp _))⟩
   exact⟨by rw[Zz];exact hz,_,r1.append r2,a0O.new _ _⟩
end
end L2.Mir
namespace L2.Mir
open PySem PySem.Spec PyProof.Rows PySem.Builtin
open AutoSeq1 (wpAny_loadPart')
theorem b7w:fillsNumberSlot (.type "tuple") "mul"=pure false:=
 PySem.fillsNumberSlot_seq (id:="tuple.__mul__") (r:=some (.builtin "tuple.__rmul__")) Vy.lookup (by decide+kernel) F.slot_tuple_rmul.lookup (by decide+kernel)
theorem b7x:seqRepeat? (.type "tuple")=pure (some (.builtin "tuple.__mul__")):=by
 unfold seqRepeat?;rw[PySem.seqSlot_of (T:="tuple") (name:="__mul__") (id:="tuple.__mul__") Vy.lookup (by decide+kernel),PySem.seqSlot_of (T:="tuple") (name:="__rmul__") (id:="tuple.__rmul__") F.slot_tuple_rmul.lookup (by decide+kernel)]
 rfl
theorem b7y(a:Int)(t:Tok)(l:Addr)(items:Array Value)(n:Nat)(dd:Option Addr)(sl:Array (Option Value)):
  Meets (Builtin.«int.__rmul__» ⟨[.int a t,.ref l],[]⟩) (fun _ R s=>s.heap.get? l=some {cls:=.type "tuple",dict:=dd,data:=.seq items n,slots:=sl}/\R (.ok (.ret Value.notImplemented)) s):=
 .of_wp fun prog w A R s h=>by obtain⟨hp,g,d,tk,os⟩:=s;obtain⟨hl,h⟩:=h;wp_walk;exact⟨_,rfl,h⟩
theorem b7z(l:Addr)(items:Array Value)(n:Nat)(dd:Option Addr)(sl:Array (Option Value))(x:Int)(u:Tok)(hx:x=1):
  Meets (Builtin.«tuple.__mul__» ⟨[.ref l,.int x u],[]⟩) (fun _ R s=>s.heap.get? l=some {cls:=.type "tuple",dict:=dd,data:=.seq items n,slots:=sl}/\R (.ok (.ret (.ref l))) s):=
 .of_wp fun prog w A R s h=>by
  obtain⟨hp,g,d,tk,os⟩:=s;obtain⟨hl,h⟩:=h;subst hx;have f1:=AutoSeq1.idx_int
  wp_walk using Zr hl
  exact⟨_,rfl,h⟩
theorem b7A(l:Addr)(its:List Value)(n:Nat)(dd:Option Addr)(sl:Array (Option Value))(x:Int)(u:Tok)(hi:its≠[])(h1:2≤x)(h2:x<2^63)(hz:its.length * x.toNat≤sizeLine):
  Meets (Builtin.«tuple.__mul__» ⟨[.ref l,.int x u],[]⟩) (fun _ R s=>s.heap.get? l=some {cls:=.type "tuple",dict:=dd,data:=.seq its.toArray n,slots:=sl}/\R (.ok (.ret (.ref s.heap.objs.size))) {s with heap:=s.heap.push {cls:=Value.type "tuple",data:=Data.seq (List.replicate x.toNat its).flatten.toArray}}):=
 .of_wp fun prog w A R s h=>by
  obtain⟨hp,g,d,tk,os⟩:=s;obtain⟨hl,h⟩:=h;have f1:=AutoSeq1.idx_int;have hi':its.toArray.isEmpty=false:=by simpa using hi
  have hb:¬ ((decide (x< -(2^63))||decide (x ≥ 2^63))=true):=by simp;omega
  have hc:¬ ((its.toArray.isEmpty||x==1)=true):=by rw[hi'];simp;omega
  have hd:¬ ((decide (x≤0)||its.toArray.isEmpty)=true):=by rw[hi'];simp;omega
  have e1:(its.toArray.size:Int) * x=((its.length * x.toNat:Nat):Int):=by rw[Ql,Int.natCast_mul,Vt (by omega)]
  have he:¬ ((its.toArray.size:Int) * x>(2^63-1)/8):=by
   have e2:(sizeLine:Nat)≤(2^63-1)/8:=by decide
   rw[e1];omega
  have hf:¬ (Tuple.tupleTooMany ((its.toArray.size:Int) * x)=true):=by
   rw[e1];intro z;have z':=of_decide_eq_true z
   omega
  have hnew:List.foldl (fun x1 x2=>x1++x2) #[] (List.replicate x.toNat its.toArray)=(List.replicate x.toNat its).flatten.toArray:=by
   have:=b0N its x.toNat [];rw[Vn]at this;exact this
  have hsz:sizeOk (.seq (List.replicate x.toNat its).flatten.toArray):=by
   show(List.replicate x.toNat its).flatten.toArray.size≤sizeLine;rw[Ql,b0P,Jz];exact hz
  wp_walk using Zr hl
  refine Ja (Qs hb) ?_
  wp_walk using Zr hl
  refine Ja (Qs hc) ?_
  wp_walk using Zr hl
  refine Ja (Qs hd) ?_
  wp_walk using Zr hl
  refine Ja (Qs he) ?_
  wp_walk using Zr hl
  refine Ja (Qs hf) ?_
  rw[hnew]
  wp_walk using Zr hl
  refine Ja (Qs (Nat.not_lt.mpr hsz)) ?_
  wp_walk using Zr hl
  exact⟨_,rfl,h⟩
section
variable{X:Cx}{B:OA}
def a5R(K:Qq):R2:=fun x y H Q=>∃a k xs,x=.ref a/\y=.int k/\SqT K H a xs/\xs≠[]/\1≤k/\k<2^63/\xs.length * k.toNat≤sizeLine/\
 (k=1->Q (.ref a) H)/\∀p,H p=none->Q (.ref p) (upd H p (.tup (List.replicate k.toNat xs).flatten))
theorem b7B:OpR X (binaryOp .Mult) (a5R X.K):=by
 intro pins s σ H x y v u Q I rx ry h;obtain⟨a,k,xs,rfl,rfl,ha,hne,h1,h2,hz,q1,q2⟩:=h;cases rx;obtain⟨t,rfl⟩:=ry;obtain⟨its,r,⟨⟨cls,dd,data,sl⟩,ho,hc,n,hd⟩,hzz⟩:=I.tuple ha;simp only at hc hd;subst hc hd;refine wpAny_binaryOp_repeat_ref (T:="tuple") (U:="int") (by decide) ⟨_,ho,rfl⟩ (fun s'=>typeIs_int s' k t) b7w F.fills_int_mul F.slot_int_rmul b7x F.slot_int_index.lookup
  (Vg F.slot_int_rmul (typeIs_int s k t) F.entry_int_rmul (F.args_int_rmul_2 _ _) (b7y k t a its.toArray n dd sl)
   ⟨ho,rfl,⟨_,ho,rfl⟩,?_⟩)
 by_cases hk:k=1
 ·exact Vg Vy ⟨_,ho,rfl⟩ F.entry_tuple_mul (F.args_tuple_mul_2 _ _) (b7z a its.toArray n dd sl k t hk) ⟨ho,⟨.ref a,H,I,rfl,q1 hk⟩⟩
 ·refine Vg Vy ⟨_,ho,rfl⟩ F.entry_tuple_mul (F.args_tuple_mul_2 _ _) (b7A a its n dd sl k t (fun z=>hne (r.nil_iff.mp z)) (by omega) h2 (by rw[←r.length];exact hz)) ⟨ho,?_⟩
  refine⟨.ref s.heap.objs.size,_,I.laid (t':=s.toks) (o:=.tup (List.replicate k.toNat xs).flatten) (fun b ob q=>Qx _ q) (Qp _) ?_,rfl,q2 _ (I.hok.fresh (Qp _))⟩
  exact⟨by rw[b0P,Jz];exact hz,_,r.rep k.toNat,a0O.new _ _⟩
end
section
variable{X:Cx}{B:OA}{pos:Pos}{a b:Expr}{ma mb:Mo D}
def a7K:D->D->Option D
 |.tup xs,.tup ys=>if xs.length+ys.length≤10000 then some (.tup (xs++ys))else none
 |_,_=>none
theorem b1y{n:Nat}(h:n≤10000):n≤sizeLine:=Yj h (by decide)
theorem b7C:OpD X B (rCatT' X.K) a7K:=by
 intro G σ env H x y a b d Q rl ra rb e k;cases a<;>cases b<;>first|(exact absurd (show(none:Option D)=some d from e) (by simp))|skip
 rename_i ds es;simp only[a7K]at e;split at e
 ·rename_i hl
  cases e;have ra0:=ra;have rb0:=rb;simp only[Rep]at ra rb;obtain⟨p,xs,rfl,q1,r1⟩:=ra;obtain⟨p',ys,rfl,q2,r2⟩:=rb;refine⟨p,p',xs,ys,rfl,rfl,rl.sub.sqT q1,rl.sub.sqT q2,by rw[r1.length,r2.length];exact b1y hl,fun z=>?_,fun z=>?_,fun l hp=>?_⟩
  ·subst z
   have:ds=[]:=List.length_eq_zero_iff.mp r1.length.symm;subst this;exact k _ G H (.refl rl) rb0
  ·subst z
   have:es=[]:=List.length_eq_zero_iff.mp r2.length.symm;subst this;exact k _ G H (.refl rl) (by rw[Jq];exact ra0)
  ·exact k _ _ _ (rl.alloc hp) (a3k x8_ (z8_.mono (Le.upd (rl.gnone hp)) _ (r1.append r2)))
 ·cases e
def a7L:D->D->Option D
 |.tup [d],.int k=>if 1≤k/\k≤1000 then some (.tup (List.replicate k.toNat d))else none
 |_,_=>none
theorem b7D{α:Type}(x:α)(n:Nat):(List.replicate n [x]).flatten=List.replicate n x:=by
 induction n with
 |zero=>rfl
 |succ n ih=>rw[Zs,Ux,ih,Zs];rfl
theorem b1z{K:Qq}{G:Hp}{x:V}{d:D}(h:Rep K G x d):∀n,z8_ K G (List.replicate n x) (List.replicate n d)
 |0=>repL_nil
 |n+1=>by rw[Zs,Zs];exact repL_cons h (b1z h n)
theorem b7E:OpD X B (a5R X.K) a7L:=by
 intro G σ env H x y a b d Q rl ra rb e k;unfold a7L at e;split at e
 ·rename_i d0 n
  split at e
  ·rename_i hn
   cases e;have ra0:=ra;simp only[Rep]at ra rb;obtain⟨p,xs,rfl,q1,r1⟩:=ra;subst rb;obtain⟨v,rfl,rv⟩:=a1g r1;refine⟨p,n,[v],rfl,rfl,rl.sub.sqT q1,by simp,by omega,by omega,?_,fun z=>?_,fun l hp=>?_⟩
   ·exact b1y (by simp;omega)
   ·subst z
    exact k _ G H (.refl rl) ra0
   ·rw[b7D]
    exact k _ _ _ (rl.alloc hp) (a3k x8_ (z8_.mono (Le.upd (rl.gnone hp)) _ (b1z rv _)))
  ·cases e
 ·cases e
def v8_:=fOr a1J a7K
def y0_:=fOr a5A a7L
theorem w0_:OpR X (binaryOp .Add) (fun x y H Q=>rI0 (fun i j=>.int (i+j)) x y H Q∨rCatT' X.K x y H Q):=OpR.or b5Z op_catT'
theorem w1_:OpD X B (fun x y H Q=>rI0 (fun i j=>.int (i+j)) x y H Q∨rCatT' X.K x y H Q) v8_:=a5B.or b7C
theorem g7_:OpR X (binaryOp .Mult) (fun x y H Q=>rI a2w (fun i j=>.int (i * j)) x y H Q∨a5R X.K x y H Q):=OpR.or b6a b7B
theorem g8_:OpD X B (fun x y H Q=>rI a2w (fun i j=>.int (i * j)) x y H Q∨a5R X.K x y H Q) y0_:=b6U.or b7E
end
end L2.Mir
namespace HT
open PySem PySem.Spec PyProof.Rows
section
variable{prog:Program}{w:World}{A:Around}{E:OE}{s:Shared}
theorem getItem_tuple_whole{t sl:Addr}{items:Array Value}{vl vu:Value}{lo hi:Option Int}{Q:OE}(ht:IsTup s.heap t items)(hs:s.heap.IsSliceOf sl vl vu .none)(pl:IsPart vl lo)(pu:IsPart vu hi)
  (hw:sIx items.size 0 lo=0/\sIx items.size items.size hi=items.size)
  (h:Q (.ref t) s):wpAny (model prog w) A (getItem (.ref t) (.ref sl)) Q E s:=by
 obtain⟨os,hos,hcs,hds⟩:=id hs;have hTs:s.TypeIs (.ref sl) "slice":=⟨os,hos,hcs⟩;unfold getItem
 try with_reducible refine Yr ?_
 first|refine Qz (Qv ?_)|skip
 refine Qz (wpAny_sequenceKey ht.typeIs (by decide) ?_)
 refine Qz (Yh (name:=Str.ofString "__getitem__") ht.typeIs Zi
  (Jd Zi ht.typeIs entry_tuple_getitem ?_ (args_tuple_getitem _ _)))
 show wpAny _ _ (Builtin.Tuple.tupleItemsOf (.ref t)>>=_) _ _ s;refine Qz (tupleItemsOf_ ht ?_);refine Qz (Um hTs ?_);rw[Qg (by decide)]
 refine Qz (sliceApplied_gen hs pl pu ?_);have hno:((((sIx items.size 0 lo:Nat):Int)==0&&(1:Int)==1&&(sIx items.size items.size hi-sIx items.size 0 lo)==items.size)=true):=by
  rw[hw.1,hw.2];simp
 show wpAny _ _ (if(((sIx items.size 0 lo:Nat):Int)==0&&(1:Int)==1&&(sIx items.size items.size hi-sIx items.size 0 lo)==items.size)=true then _ else _) _ _ s
 rw[Qg hno];refine Qz (Qz (m:=typeOf (.ref t)) (Um ht.typeIs (Qv ?_)));rw[Qg (by decide)]
 refine Qz (Uy ?_)
 first
  |exact Qv ⟨_,rfl,Qv h⟩
  |exact Qz (Qv ⟨_,rfl,Qv h⟩)
  |exact Qz (Qz (Qv ⟨_,rfl,Qv h⟩))
end
end HT
namespace L2.Mir
open PySem PySem.Spec PyProof.Rows
section
variable{X:Cx}{B:OA}{e lo hi st:Expr}{ma ml mh:Mo D}{pos p2:Pos}
def b7F(K:Qq):V->Option Int->Option Int->Hp->VK->Prop:=fun x lo hi H Q=>∃a xs,x=.ref a/\SqT K H a xs/\
 ((HT.sIx xs.length 0 lo=0/\HT.sIx xs.length xs.length hi=xs.length)->Q (.ref a) H)/\∀p,H p=none->Q (.ref p) (upd H p (.tup (a2A xs lo hi)))
theorem b7G:SlR X (b7F X.K):=by
 intro pins s σ H x v vl vu lo hi sl Q I rx hs pl pu h;obtain⟨a,xs,rfl,hx,qw,q⟩:=h
 by_cases hw:HT.sIx xs.length 0 lo=0/\HT.sIx xs.length xs.length hi=xs.length
 ·cases rx
  obtain⟨its,r,ht,hz⟩:=I.tuple hx;have hlen:its.toArray.size=xs.length:=by rw[Ql];exact r.length.symm
  refine⟨"tuple",_,Zi.lookup,ht.typeIs,?_⟩;exact HT.getItem_tuple_whole ht hs pl pu (by rw[hlen];exact hw) ⟨.ref a,H,I,rfl,qw hw⟩
 ·exact a5s pins s σ H (.ref a) v vl vu lo hi sl Q I rx hs pl pu ⟨a,xs,rfl,hx,hw,q⟩
def a1P(xs:List D)(lo hi:Option Int):List D:=(xs.drop (HT.sIx xs.length 0 lo)).take (HT.sIx xs.length xs.length hi-HT.sIx xs.length 0 lo)
def g2_:Mo (Option Int):=fun env=>some (none,env)
def w9_(m:Mo D):Mo (Option Int):=fun env=>(m env).bind fun p=>match p.1 with
 |.int i=>some (some i,p.2)
 |_=>none
def TOm(K:Qq)(B:OA)(m:Mo (Option Int)):TO:=fun σ H Q=>∃G env o env',Rel K B G σ env H/\m env=some (o,env')/\∀G' H',Ev K B G σ env H G' σ env' H'->Q o H'
abbrev EO(X:Cx)(B:OA)(e:Option Expr)(m:Mo (Option Int)):Prop:=PO X e (TOm X.K B m)
theorem b1A{X:Cx}{e:Option Expr}{t t':TO}(h:PO X e t)(i:∀σ H Q,t' σ H Q->t σ H Q):PO X e t':=fun pins s σ H Q I q=>h pins s σ H Q I (i σ H Q q)
theorem a4w:EO X B none g2_:=by
 refine b1A b6v ?_
 rintro σ H Q ⟨G,env,o,env',rl,e,k⟩;cases e;exact k G H (.refl rl)
theorem a4x(h:ED X B e ma):EO X B (some e) (w9_ ma):=by
 refine b1A (b6w h) ?_
 rintro σ H Q ⟨G,env,o,env',rl,e,k⟩;obtain⟨⟨d,env1⟩,e1,e2⟩:=q8_ e;dsimp only at e2;split at e2
 ·rename_i i
  cases e2;refine .bind rl e1 fun v G1 H1 ev r=>?_
  simp only[Rep]at r;exact⟨i,r,k G1 H1 ev⟩
 ·cases e2
def mSl(m:Mo D)(ml mh:Mo (Option Int)):Mo D:=fun env=>(m env).bind fun p=>(ml p.2).bind fun q=>(mh q.2).bind fun r=>match p.1 with
 |.tup ds=>some (.tup (a1P ds q.1 r.1),r.2)
 |_=>none
theorem z8_.cut{K:Qq}{G:Hp}{xs:List V}{ds:List D}(r:z8_ K G xs ds)(lo hi:Option Int):z8_ K G (a2A xs lo hi) (a1P ds lo hi):=by
 unfold a2A a1P;rw[r.length];exact(r.drop _).take _
theorem b7H{ds:List D}{lo hi:Option Int}(h:HT.sIx ds.length 0 lo=0/\HT.sIx ds.length ds.length hi=ds.length):a1P ds lo hi=ds:=by
 unfold a1P;rw[h.1,h.2];simp
theorem a4y{lo hi:Option Expr}{ml mh:Mo (Option Int)}(he:ED X B e ma)(hl:EO X B lo ml)(hh:EO X B hi mh):ED X B (.Subscript e (.Slice lo hi none p2) pos) (mSl ma ml mh):=by
 refine pe_imp (b6x b7G he hl hh) ?_
 rintro σ H Q ⟨G,env,d,env',rl,e,k⟩;obtain⟨⟨d1,env1⟩,e1,e2⟩:=q8_ e;obtain⟨⟨l,env2⟩,e3,e4⟩:=q8_ e2;obtain⟨⟨u,env3⟩,e5,e6⟩:=q8_ e4;dsimp only at e3 e5 e6;split at e6
 ·rename_i ds
  cases e6;refine .bind rl e1 fun v G1 H1 ev1 r1=>⟨G1,env1,l,env2,ev1.rel,e3,fun G2 H2 ev2=>⟨G2,env2,u,_,ev2.rel,e5,fun G3 H3 ev3=>?_⟩⟩
  have r3:=Rep.mono (ev2.same.trans ev3.same) _ r1
  have r30:=r3
  simp only[Rep]at r3;obtain⟨p,xs,rfl,q,t⟩:=r3;refine⟨p,xs,rfl,ev3.rel.sub.sqT q,fun hw=>?_,fun l' hp=>?_⟩
  ·rw[t.length]at hw
   exact k _ G3 H3 ((ev1.trans ev2).trans ev3) (by rw[b7H hw];exact r30)
  ·exact k _ _ _ (((ev1.trans ev2).trans ev3).trans (ev3.rel.alloc hp)) (a3k x8_ (z8_.mono (Le.upd (ev3.rel.gnone hp)) _ (t.cut l u)))
 ·cases e6
end
section
variable{X:Cx}{pins:OX}{σ:St}{H:Hp}{s:Shared}{h':Heap}
theorem b1B{t':Nat}{ch:List Addr}(I:Inv X pins σ H s)(k:∀b o,b∉ch->s.heap.get? b=some o->h'.get? b=some o)(hf:∀b∈ch,u1_ X pins H b):Inv X pins σ H {s with heap:=h',toks:=t'}:=by
 have nit:∀b u,H b=some u->b∉ch:=fun b u e z=>by rw[(hf b z).1]at e;cases e
 refine I.step (g':=s.gens) (d':=s.drawn) (ch:=ch) (fun b hb=>⟨(hf b hb).2.2.2.1,(hf b hb).2.1,(hf b hb).2.2.2.2.1,(hf b hb).2.2.2.2.2⟩) (fun b o _ _ hc e _=>k b o hc e) (fun b o _ _ hc e _=>⟨o.slots,k b o hc e⟩) (fun _ _ _ _ n=>n)
  (fun b o hc e=>⟨o,k b o hc e⟩) (fun _ _ e=>e) (fun _ _ _ e=>e) (fun b ps e=>⟨#[],by rw[e];simp⟩) (fun m hm=>?_) (fun b u e=>?_) I.bare
 ·obtain⟨o,es,ep,ho,r⟩:=hm
  exact⟨o,es,ep,k _ o (fun z=>(hf _ z).2.1 rfl) ho,r⟩
 ·refine(I.hok b u e).stay (fun c v hc q=>k c v ?_ q) (fun _ q=>q) fun _ _ q=>q
  rcases hc with z|z
  ·rw[z];exact nit b u e
  ·exact nit c _ z
theorem b7I{t':Nat}{ch:List Addr}{p:Addr}{o:HO}(I:Inv X pins σ H s)(k:∀b o,b∉ch->s.heap.get? b=some o->h'.get? b=some o)(hf:∀b∈ch,u1_ X pins H b)
  (hp:s.heap.objs.size≤p)(new:w3_ X.prog X.w (upd H p o) h' p o):Inv X pins σ (upd H p o) {s with heap:=h',toks:=t'}:=by
 have nit:∀b u,H b=some u->b∉ch:=fun b u e z=>by rw[(hf b z).1]at e;cases e
 have hn:H p=none:=I.hok.fresh hp
 have np:∀b u,s.heap.get? b=some u->b≠p:=fun b u q=>Zw (Qa (Qh q) hp)
 refine I.step (g':=s.gens) (d':=s.drawn) (ch:=ch) (fun b hb=>⟨(hf b hb).2.2.2.1,(hf b hb).2.1,(hf b hb).2.2.2.2.1,(hf b hb).2.2.2.2.2⟩) (fun b o _ _ hc e _=>k b o hc e) (fun b o _ _ hc e _=>⟨o.slots,k b o hc e⟩) (fun b o _ e n=>by rw[v9_ (np b o e)];exact n)
  (fun b o hc e=>⟨o,k b o hc e⟩) (fun b xs q=>by rw[v9_ (a0a q hn)];exact q) (fun b u xs q=>by rw[v9_ (a0a q hn)];exact q) (fun b ps e=>⟨#[],by rw[v9_ (a0a e hn),e];simp⟩) (fun m hm=>?_) (fun b u e=>?_) I.bare
 ·obtain⟨o,es,ep,ho,r⟩:=hm
  exact⟨o,es,ep,k _ o (fun z=>(hf _ z).2.1 rfl) ho,r⟩
 ·by_cases hb:b=p
  ·subst hb;rw[x8_]at e;cases e;exact new
  ·rw[v9_ hb]at e
   refine(I.hok b u e).stay (fun c v hc q=>k c v ?_ q) (fun c q=>by rw[v9_ (a0a q hn)];exact q) fun c xs q=>by rw[v9_ (a0a q hn)];exact q
   rcases hc with z|z
   ·rw[z];exact nit b u e
   ·exact nit c _ z
end
def Sq1(k:Bool)(h:Heap)(l:Addr)(xs:Array Value):Prop:=if k then h.IsTuple l xs else h.IsList l xs
def It1(k:Bool)(h:Heap)(i l:Addr)(n:Nat):Prop:=if k then h.IsTupleIter i l n else h.IsListIter i l n
section
variable{k:Bool}{h h':Heap}{i l b:Addr}{n:Nat}{xs:Array Value}
theorem Sq1.at'(x:Sq1 k h l xs)(e:∀o,h.get? l=some o->h'.get? l=some o):Sq1 k h' l xs:=by
 cases k
 ·exact Heap.IsList.at (show h.IsList l xs from x) e
 ·obtain⟨o,ho,r⟩:=(show h.IsTuple l xs from x)
  exact(⟨o,e _ ho,r⟩:h'.IsTuple l xs)
theorem It1.at'(x:It1 k h i l n)(e:∀o,h.get? i=some o->h'.get? i=some o):It1 k h' i l n:=by
 cases k
 ·exact Heap.IsListIter.at (show h.IsListIter i l n from x) e
 ·exact Heap.IsTupleIter.at (show h.IsTupleIter i l n from x) e
theorem It1.get(x:It1 k h i l n):∃o,h.get? i=some o/\∀v,o.data≠.cell v:=by
 cases k
 ·obtain⟨o,ho,_,d⟩:=(show h.IsListIter i l n from x);exact⟨o,ho,fun v z=>by rw[d]at z;cases z⟩
 ·obtain⟨o,ho,_,d⟩:=(show h.IsTupleIter i l n from x);exact⟨o,ho,fun v z=>by rw[d]at z;cases z⟩
theorem It1.but(x:It1 k h i l n)(hs:Heap.ExtBut b h h')(hb:i≠b):It1 k h' i l n:=x.at' fun o e=>hs i o hb e
theorem Sq1.but(x:Sq1 k h l xs)(hs:Heap.ExtBut b h h')(hb:l≠b):Sq1 k h' l xs:=x.at' fun o e=>hs l o hb e
end
section
variable{prog:Program}{w:World}{A:Around}{E:OE}{s:Shared}
theorem b7J{it l:Addr}{i:Nat}{items:Array Value}{x:Value}{Q:OE}(hit:s.heap.IsTupleIter it l i)(hl:s.heap.IsTuple l items)(hx:items[i]? =some x)
  (hQ:∀h',h'.IsTupleIter it l (i+1)->Heap.SameBut it s.heap h'->Q x {s with heap:=h'}):wpAny (model prog w) A (Builtin.SmallTypes.nextOf (.ref it)) Q E s:=by
 obtain⟨o,ho,hc,hd⟩:=id hit;obtain⟨ol,hol,_,nl,hdl⟩:=hl;unfold Builtin.SmallTypes.nextOf;refine Qz (Yh (name:=Str.ofString "__next__") hit.typeIs Yi (Jd Yi hit.typeIs Vj ?_ (Vq _)));show wpAny _ _ (field (.ref it) 0>>=_) _ _ s;refine Qz (Yy ho hd (x:=.ref l) rfl ?_);rw[Qt (show ¬ ((Value.ref l==Value.none)=true)from Zd)]
 refine Qz (Yy ho hd (x:=.int i 0) rfl ?_);refine Qz (Yo hol hdl ?_);simp only[Yn,hx];refine Qz (wpAny_setField ho hd (by simp) (Qv ⟨x,rfl,Qv (hQ _ ⟨_,Heap.get?_update_self _ ho (Obj.isFreed_of_fields (Obj.data_mapFields hd _)),(Obj.cls_mapFields ..).trans hc,?_⟩ (Heap.SameBut.update ..))⟩))
 rw[Obj.data_mapFields hd];simp[rawInt]
theorem b7K{it l:Addr}{i:Nat}{items:Array Value}{Q:OE}(hh:A.handled=none)(hit:s.heap.IsTupleIter it l i)(hl:s.heap.IsTuple l items)(hx:items[i]? =none)
  (hE:∀h' e,Heap.ExtBut it s.heap h'->(∃o,h'.get? e=some o/\o.cls=.type "StopIteration")->E (.ref e) {s with heap:=h'}):wpAny (model prog w) A (Builtin.SmallTypes.nextOf (.ref it)) Q E s:=by
 obtain⟨o,ho,hc,hd⟩:=id hit;obtain⟨ol,hol,_,nl,hdl⟩:=hl;unfold Builtin.SmallTypes.nextOf;refine Qz (Yh (name:=Str.ofString "__next__") hit.typeIs Yi (Jd Yi hit.typeIs Vj ?_ (Vq _)));show wpAny _ _ (field (.ref it) 0>>=_) _ _ s;refine Qz (Yy ho hd (x:=.ref l) rfl ?_);rw[Qt (show ¬ ((Value.ref l==Value.none)=true)from Zd)]
 refine Qz (Yy ho hd (x:=.int i 0) rfl ?_);refine Qz (Yo hol hdl ?_);simp only[Yn,hx];refine Qz (Uy (Qz (wpAny_setField ho hd (by simp) ?_)))
 refine Qz ?_
 simp only[newExc,newTuple];refine Qz (Ym ?_ (by size_fits))
 refine Qz (m:=firstArgMember _ _) (wpAny_of_eq (a:=Value.none) (by first|rfl|(simp only[firstArgMember];rfl)) ?_)
 refine Ym ?_ (by size_fits)
 simp only[raiseNew];refine Qz (wpAny_handled ?_)
 first|rw[show A.in1.handled=none from hh]|rw[hh]
 refine Qz (Qv (wpAny_throw ?_));exact hE _ _ (((Heap.SameBut.update ..).extBut.push _).push _) ⟨_,Qn _ rfl,rfl⟩
theorem a7M{k:Bool}{it l:Addr}{i:Nat}{items:Array Value}{x:Value}{Q:OE}(hit:It1 k s.heap it l i)(hl:Sq1 k s.heap l items)(hx:items[i]? =some x)
  (hQ:∀h',It1 k h' it l (i+1)->Heap.SameBut it s.heap h'->Q x {s with heap:=h'}):wpAny (model prog w) A (Builtin.SmallTypes.nextOf (.ref it)) Q E s:=by
 cases k
 ·exact wpAny_nextOf_list_item hit hl hx hQ
 ·exact b7J hit hl hx hQ
theorem b1C{k:Bool}{it l:Addr}{i:Nat}{items:Array Value}{Q:OE}(hh:A.handled=none)(hit:It1 k s.heap it l i)(hl:Sq1 k s.heap l items)(hx:items[i]? =none)
  (hE:∀h' e,Heap.ExtBut it s.heap h'->(∃o,h'.get? e=some o/\o.cls=.type "StopIteration")->E (.ref e) {s with heap:=h'}):wpAny (model prog w) A (Builtin.SmallTypes.nextOf (.ref it)) Q E s:=by
 cases k
 ·exact wpAny_nextOf_list_end hh hit hl hx hE
 ·exact b7K hh hit hl hx hE
end
section
variable{prog:Program}{w:World}{A:Around}{E:OE}{s:Shared}{c1 c2:Bool}
theorem b7L{z TI TO i1 i2 l1 l2:Addr}{k1 k2:Nat}{xs ys:Array Value}{x y a b:Value}{Q:OE}(D:ZipApart z TI TO i1 i2 l1 l2)
  (hz:IsZip s.heap z TI TO .none)(hTI:IsPair s.heap TI (.ref i1) (.ref i2))(hTO:IsPair s.heap TO a b)
  (h1:It1 c1 s.heap i1 l1 k1)(h2:It1 c2 s.heap i2 l2 k2)(hl1:Sq1 c1 s.heap l1 xs)(hl2:Sq1 c2 s.heap l2 ys)(hx:xs[k1]? =some x)(hy:ys[k2]? =some y)
  (hQ:∀h',IsZip h' z TI TO (rawInt s.heap.objs.size)->IsPair h' TO x y->It1 c1 h' i1 l1 (k1+1)->It1 c2 h' i2 l2 (k2+1)->IsPair h' s.heap.objs.size x y->h'.objs.size=s.heap.objs.size+1->
   (∀c o,c≠z->c≠TO->c≠i1->c≠i2->s.heap.get? c=some o->h'.get? c=some o)->Q (.ref s.heap.objs.size) {s with heap:=h'}):
  wpAny (model prog w) A (Builtin.«zip.__next__» ⟨[.ref z],[]⟩) (fun fin s'=>∃v,fin=.done (.ret v)/\Q v s') E s:=by
 show wpAny _ _ (field (.ref z) 2>>=_) _ _ _;refine Qz (Yy hz rfl (x:=.bool false) rfl (Qz (Yy hz rfl (x:=.ref TI) rfl ?_)));refine Qz (Yo hTI rfl (Qz ?_));unfold Builtin.SmallTypes.ownedTupleIsFree;refine Qz (Yy hz rfl (x:=.none) rfl (Qv ?_));simp only[Zm];refine Qz (Uy (Qz (Yy hz rfl (x:=.ref TO) rfl ?_)));refine Qz (Jw hz (by simp) fun g1 (z1:IsZip g1 z TI TO .ellipsis) s1=>Qz ?_)
 simp only[List.zipIdx_cons,List.zipIdx_nil,List.forIn_cons,List.forIn_nil];refine Qz (Qz (Xx (Qz (m:=Builtin.SmallTypes.nextOf (.ref i1)) ?_)));refine a7M (h1.but s1.extBut D.i1z) (hl1.but s1.extBut D.l1z) hx fun g2 a2 s2=>Qv ?_
 have p2:IsPair g2 TO a b:=s2.extBut _ _ D.TOi1 (s1.extBut _ _ D.TOz hTO)
 refine Qz (Yo p2 rfl (Qz (Vc p2 fun g3 (p3:IsPair g3 TO x b) s3=>?_)))
 refine Qz (wpAny_letGo (Qv (Qz (Qz (Xx (Qz (m:=Builtin.SmallTypes.nextOf (.ref i2)) ?_))))));refine a7M (((h2.but s1.extBut D.i2z).but s2.extBut D.i12.symm).but s3.extBut D.TOi2.symm) (((hl2.but s1.extBut D.l2z).but s2.extBut D.l2i1).but s3.extBut D.l2TO) hy fun g4 a4 s4=>Qv ?_
 have p4:IsPair g4 TO x b:=s4.extBut _ _ D.TOi2 p3
 refine Qz (Yo p4 rfl (Qz (Vc p4 fun g5 (p5:IsPair g5 TO x y) s5=>?_)))
 refine Qz (wpAny_letGo (Qv (Qv (Qz (Yo p5 rfl (Qz (wpAny_newTuple ?_)))))));have hsz:g5.objs.size=s.heap.objs.size:=by rw[s5.1,s4.1,s3.1,s2.1,s1.1]
 have z5:IsZip g5 z TI TO .ellipsis:=s5.extBut _ _ D.TOz.symm (s4.extBut _ _ D.i2z.symm (s3.extBut _ _ D.TOz.symm (s2.extBut _ _ D.i1z.symm z1)))
 have k5:∀c o,c≠z->c≠TO->c≠i1->c≠i2->s.heap.get? c=some o->g5.get? c=some o:=fun c o n1 n2 n3 n4 e=>
  s5.extBut _ _ n2 (s4.extBut _ _ n4 (s3.extBut _ _ n2 (s2.extBut _ _ n3 (s1.extBut _ _ n1 e))))
 have b1:It1 c1 g5 i1 l1 (k1+1):=((a2.but s3.extBut D.TOi1.symm).but s4.extBut D.i12).but s5.extBut D.TOi1.symm
 have b2:It1 c2 g5 i2 l2 (k2+1):=a4.but s5.extBut D.TOi2.symm
 refine Qz (m:=Builtin.SmallTypes.ownedTupleHandOut (.ref z) (.ref g5.objs.size)) ?_
 unfold Builtin.SmallTypes.ownedTupleHandOut;have z6:IsZip (g5.push {cls:=.type "tuple",data:=.seq #[x,y]}) z TI TO .ellipsis:=Qx _ z5;refine Qz (Jw z6 (by simp) fun g7 (z7:IsZip g7 z TI TO (rawInt g5.objs.size)) s7=>?_)
 refine Jw z7 (by simp) fun g8 (z8:IsZip g8 z TI TO (rawInt g5.objs.size)) s8=>?_
 have up:∀c o,c≠z->g5.get? c=some o->g8.get? c=some o:=fun c o n1 e=>s8.extBut _ _ n1 (s7.extBut _ _ n1 (Qx _ e))
 have t8:IsPair g8 g5.objs.size x y:=s8.extBut _ _ (Jc (Qh z5)) (s7.extBut _ _ (Jc (Qh z5)) (Qn _ rfl))
 have e8:g8.objs.size=g5.objs.size+1:=by rw[s8.1,s7.1,Yx]
 rw[hsz]at z8 t8 e8;refine Qv ⟨_,rfl,?_⟩;show Q (.ref g5.objs.size) _;rw[hsz];exact hQ g8 z8 (up _ _ D.TOz p5) (b1.at' fun o e=>up _ o D.i1z e) (b2.at' fun o e=>up _ o D.i2z e) t8 e8 fun c o n1 n2 n3 n4 e=>up c o n1 (k5 c o n1 n2 n3 n4 e)
theorem b7M{z TI TO i1 i2 l1 l2:Addr}{k1 k2:Nat}{xs ys:Array Value}{a b:Value}{Q:PySem.Fin->Shared->Prop}(hh:A.handled=none)(D:ZipApart z TI TO i1 i2 l1 l2)
  (hz:IsZip s.heap z TI TO .none)(hTI:IsPair s.heap TI (.ref i1) (.ref i2))(hTO:IsPair s.heap TO a b)
  (h1:It1 c1 s.heap i1 l1 k1)(h2:It1 c2 s.heap i2 l2 k2)(hl1:Sq1 c1 s.heap l1 xs)(hl2:Sq1 c2 s.heap l2 ys)(hend:xs[k1]? =none∨ys[k2]? =none)
  (hE:∀h' e,(∀c o,c≠z->c≠TO->c≠i1->c≠i2->s.heap.get? c=some o->h'.get? c=some o)->(∃o,h'.get? e=some o/\o.cls=.type "StopIteration")->E (.ref e) {s with heap:=h'}):
  wpAny (model prog w) A (Builtin.«zip.__next__» ⟨[.ref z],[]⟩) Q E s:=by
 show wpAny _ _ (field (.ref z) 2>>=_) _ _ _;refine Qz (Yy hz rfl (x:=.bool false) rfl (Qz (Yy hz rfl (x:=.ref TI) rfl ?_)));refine Qz (Yo hTI rfl (Qz ?_));unfold Builtin.SmallTypes.ownedTupleIsFree;refine Qz (Yy hz rfl (x:=.none) rfl (Qv ?_));simp only[Zm];refine Qz (Uy (Qz (Yy hz rfl (x:=.ref TO) rfl ?_)));refine Qz (Jw hz (by simp) fun g1 (z1:IsZip g1 z TI TO .ellipsis) s1=>Qz ?_)
 simp only[List.zipIdx_cons,List.zipIdx_nil,List.forIn_cons,List.forIn_nil];refine Qz (Qz (Xx (Qz (m:=Builtin.SmallTypes.nextOf (.ref i1)) ?_)));cases hx:xs[k1]? with
 |none=>
  refine b1C hh (h1.but s1.extBut D.i1z) (hl1.but s1.extBut D.l1z) hx fun g2 e s2 he=>?_
  obtain⟨oe,q1,q2⟩:=he;have z2:IsZip g2 z TI TO .ellipsis:=s2 _ _ D.i1z.symm z1;have ne:e≠z:=fun x=>by subst x;rw[z2]at q1;cases q1;simp at q2
  exact Jw z2 (by simp) fun g3 _ s3=>hE g3 e (fun c o n1 _ n3 _ x=>s3.extBut _ _ n1 (s2 _ _ n3 (s1.extBut _ _ n1 x))) ⟨oe,s3.extBut _ _ ne q1,q2⟩
 |some x=>
  have hy:ys[k2]? =none:=by
   rcases hend with h|h
   ·rw[hx]at h;cases h
   ·exact h
  refine a7M (h1.but s1.extBut D.i1z) (hl1.but s1.extBut D.l1z) hx fun g2 a2 s2=>Qv ?_
  have p2:IsPair g2 TO a b:=s2.extBut _ _ D.TOi1 (s1.extBut _ _ D.TOz hTO)
  refine Qz (Yo p2 rfl (Qz (Vc p2 fun g3 p3 s3=>?_)))
  refine Qz (wpAny_letGo (Qv (Qz (Qz (Xx (Qz (m:=Builtin.SmallTypes.nextOf (.ref i2)) ?_))))));refine b1C hh (((h2.but s1.extBut D.i2z).but s2.extBut D.i12.symm).but s3.extBut D.TOi2.symm) (((hl2.but s1.extBut D.l2z).but s2.extBut D.l2i1).but s3.extBut D.l2TO) hy fun g4 e s4 he=>?_
  obtain⟨oe,q1,q2⟩:=he;have z4:IsZip g4 z TI TO .ellipsis:=s4 _ _ D.i2z.symm (s3.extBut _ _ D.TOz.symm (s2.extBut _ _ D.i1z.symm z1));have ne:e≠z:=fun x=>by subst x;rw[z4]at q1;cases q1;simp at q2
  exact Jw z4 (by simp) fun g5 _ s5=>hE g5 e (fun c o n1 n2 n3 n4 x=>s5.extBut _ _ n1 (s4 _ _ n4 (s3.extBut _ _ n2 (s2.extBut _ _ n3 (s1.extBut _ _ n1 x))))) ⟨oe,s5.extBut _ _ ne q1,q2⟩
theorem b7N{z TI TO i1 i2 l1 l2:Addr}{k1 k2:Nat}{xs ys:Array Value}{x y a b:Value}{Q:Option Value->Shared->Prop}(D:ZipApart z TI TO i1 i2 l1 l2)
  (hz:IsZip s.heap z TI TO .none)(hTI:IsPair s.heap TI (.ref i1) (.ref i2))(hTO:IsPair s.heap TO a b)
  (h1:It1 c1 s.heap i1 l1 k1)(h2:It1 c2 s.heap i2 l2 k2)(hl1:Sq1 c1 s.heap l1 xs)(hl2:Sq1 c2 s.heap l2 ys)(hx:xs[k1]? =some x)(hy:ys[k2]? =some y)
  (hQ:∀h',IsZip h' z TI TO (rawInt s.heap.objs.size)->IsPair h' TO x y->It1 c1 h' i1 l1 (k1+1)->It1 c2 h' i2 l2 (k2+1)->IsPair h' s.heap.objs.size x y->h'.objs.size=s.heap.objs.size+1->
   (∀c o,c≠z->c≠TO->c≠i1->c≠i2->s.heap.get? c=some o->h'.get? c=some o)->Q (some (.ref s.heap.objs.size)) {s with heap:=h'}):
  wpAny (model prog w) A (pyNext (.ref z)) Q E s:=by
 have hT:s.TypeIs (.ref z) "zip":=⟨_,hz,rfl⟩
 unfold pyNext;exact Qz (Xk (Yh (name:=Str.ofString "__next__") hT Uv (Jd Uv hT PySem.F.entry_zip_next
  (b7L D hz hTI hTO h1 h2 hl1 hl2 hx hy fun h' a1 a2 a3 a4 a5 a6 a7=>Qv (hQ h' a1 a2 a3 a4 a5 a6 a7)) (PySem.F.args_zip_next_1 _))))
theorem b7O{z TI TO i1 i2 l1 l2:Addr}{k1 k2:Nat}{xs ys:Array Value}{a b:Value}{Q:Option Value->Shared->Prop}(hh:A.handled=none)(D:ZipApart z TI TO i1 i2 l1 l2)
  (hz:IsZip s.heap z TI TO .none)(hTI:IsPair s.heap TI (.ref i1) (.ref i2))(hTO:IsPair s.heap TO a b)
  (h1:It1 c1 s.heap i1 l1 k1)(h2:It1 c2 s.heap i2 l2 k2)(hl1:Sq1 c1 s.heap l1 xs)(hl2:Sq1 c2 s.heap l2 ys)(hend:xs[k1]? =none∨ys[k2]? =none)
  (hQ:∀h',(∀c o,c≠z->c≠TO->c≠i1->c≠i2->s.heap.get? c=some o->h'.get? c=some o)->Q none {s with heap:=h'}):wpAny (model prog w) A (pyNext (.ref z)) Q E s:=by
 have hT:s.TypeIs (.ref z) "zip":=⟨_,hz,rfl⟩
 unfold pyNext;refine Qz (Xk (Yh (name:=Str.ofString "__next__") hT Uv (Jd Uv hT PySem.F.entry_zip_next
  (b7M hh D hz hTI hTO h1 h2 hl1 hl2 hend fun h' e hk he=>?_) (PySem.F.args_zip_next_1 _))))
 obtain⟨o,ho,hc⟩:=he;exact Qz (wpAny_isInstance (T:="StopIteration") (b:=true) ⟨o,ho,hc⟩ isSubtype_stop (Qv (hQ _ hk)))
end
def b1D(c:Bool):String:=if c then "tuple_iterator" else "list_iterator"
abbrev zh1(c1:Bool)(h:Heap)(l1:Addr):Heap:=h.push {cls:=.type (b1D c1),data:=.fields #[.ref l1,.int 0 0]}
abbrev zh2(c1 c2:Bool)(h:Heap)(l1 l2:Addr):Heap:=(zh1 c1 h l1).push {cls:=.type (b1D c2),data:=.fields #[.ref l2,.int 0 0]}
abbrev zh3(c1 c2:Bool)(h:Heap)(l1 l2:Addr):Heap:=(zh2 c1 c2 h l1 l2).push {cls:=.type "tuple",data:=.seq #[.ref h.objs.size,.ref (zh1 c1 h l1).objs.size]}
abbrev zh4(c1 c2:Bool)(h:Heap)(l1 l2:Addr):Heap:=(zh3 c1 c2 h l1 l2).push {cls:=.type "tuple",data:=.seq #[.none,.none]}
abbrev zh5(c1 c2:Bool)(h:Heap)(l1 l2:Addr):Heap:=(zh4 c1 c2 h l1 l2).push {cls:=.type "zip",data:=.fields #[.none,.bool false,.bool false,.ref (zh2 c1 c2 h l1 l2).objs.size,.ref (zh3 c1 c2 h l1 l2).objs.size]}
section
variable{prog:Program}{w:World}{A:Around}{E:OE}{s:Shared}
theorem b1E{c:Bool}{l:Addr}{items:Array Value}{Q:OE}(hl:Sq1 c s.heap l items)(hQ:Q (.ref s.heap.objs.size) {s with heap:=zh1 c s.heap l}):wpAny (model prog w) A (pyIter (.ref l)) Q E s:=by
 cases c
 ·exact Jg hl hQ
 ·exact Ud hl hQ
end
theorem b7P(c1 c2:Bool)(l1 l2:Addr)(xs ys:Array Value):
  Meets (Builtin.«zip.__new__» ⟨[.type "zip",.ref l1,.ref l2],[]⟩) (fun _ R s=>Sq1 c1 s.heap l1 xs/\Sq1 c2 s.heap l2 ys/\R (.ok (.ret (.ref (zh4 c1 c2 s.heap l1 l2).objs.size))) {s with heap:=zh5 c1 c2 s.heap l1 l2}):=
 .of_wp fun prog w A R s h=>by
  obtain⟨hp,g,d,tk,os⟩:=s;obtain⟨hl1,hl2,h⟩:=h;have hsub:=sub_zip;have hL1:Sq1 c1 (Shared.heap ⟨hp,g,d,tk,os⟩) l1 xs:=hl1;have hL2:Sq1 c2 (Shared.heap ⟨zh1 c1 hp l1,g,d,tk,os⟩) l2 ys:=Sq1.at' hl2 fun o e=>Qx _ e
  wp_walk using b1E hL1,b1E hL2
  exact⟨_,rfl,h⟩
section
variable{prog:Program}{w:World}{A:Around}{E:OE}{s:Shared}
theorem b7Q{c1 c2:Bool}{l1 l2:Addr}{xs ys:Array Value}{Q:OE}(hl1:Sq1 c1 s.heap l1 xs)(hl2:Sq1 c2 s.heap l2 ys)
  (h:∀h',IsZip h' (s.heap.objs.size+4) (s.heap.objs.size+2) (s.heap.objs.size+3) .none->IsPair h' (s.heap.objs.size+2) (.ref s.heap.objs.size) (.ref (s.heap.objs.size+1))->
   IsPair h' (s.heap.objs.size+3) .none .none->It1 c1 h' s.heap.objs.size l1 0->It1 c2 h' (s.heap.objs.size+1) l2 0->h'.objs.size=s.heap.objs.size+5->
   (∀c o,s.heap.get? c=some o->h'.get? c=some o)->Q (.ref (s.heap.objs.size+4)) {s with heap:=h'}):
  wpAny (model prog w) A (call (.type "zip") [.ref l1,.ref l2]) Q E s:=by
 refine callType_new PySem.F.called_zip (by decide) (PySem.F.typeCall_zip_2 _ _) (PySem.F.newCall_zip_2 _ _) (fun obj=>PySem.F.args_object_init_3 obj _ _) PySem.F.entry_zip_new (b7P c1 c2 l1 l2 xs ys) ⟨hl1,hl2,?_⟩
 have z1:(zh1 c1 s.heap l1).objs.size=s.heap.objs.size+1:=Yx ..
 have z2:(zh2 c1 c2 s.heap l1 l2).objs.size=s.heap.objs.size+2:=by rw[Yx,z1]
 have z3:(zh3 c1 c2 s.heap l1 l2).objs.size=s.heap.objs.size+3:=by rw[Yx,z2]
 have z4:(zh4 c1 c2 s.heap l1 l2).objs.size=s.heap.objs.size+4:=by rw[Yx,z3]
 have z5:(zh5 c1 c2 s.heap l1 l2).objs.size=s.heap.objs.size+5:=by rw[Yx,z4]
 have g5:(zh5 c1 c2 s.heap l1 l2).get? (zh4 c1 c2 s.heap l1 l2).objs.size=some _:=Qn _ rfl
 have g4:(zh5 c1 c2 s.heap l1 l2).get? (zh3 c1 c2 s.heap l1 l2).objs.size=some _:=Qx _ (Qn _ rfl)
 have g3:(zh5 c1 c2 s.heap l1 l2).get? (zh2 c1 c2 s.heap l1 l2).objs.size=some _:=Qx _ (Qx _ (Qn _ rfl))
 have g2:(zh5 c1 c2 s.heap l1 l2).get? (zh1 c1 s.heap l1).objs.size=some _:=Qx _ (Qx _ (Qx _ (Qn _ rfl)))
 have g1:(zh5 c1 c2 s.heap l1 l2).get? s.heap.objs.size=some _:=Qx _ (Qx _ (Qx _ (Qx _ (Qn _ rfl))))
 show _/\_;rw[z2,z3,z4]at g5;rw[z1,z2]at g3;rw[z3]at g4;rw[z1]at g2;rw[z4];refine⟨⟨_,g5,rfl⟩,h _ g5 g3 g4 ?_ ?_ z5 fun c o x=>Qx _ (Qx _ (Qx _ (Qx _ (Qx _ x))))⟩
 ·cases c1
  ·exact(⟨_,g1,rfl,rfl⟩:Heap.IsListIter _ _ _ _)
  ·exact(⟨_,g1,rfl,rfl⟩:Heap.IsTupleIter _ _ _ _)
 ·cases c2
  ·exact(⟨_,g2,rfl,rfl⟩:Heap.IsListIter _ _ _ _)
  ·exact(⟨_,g2,rfl,rfl⟩:Heap.IsTupleIter _ _ _ _)
end
def SqA(c:Bool)(K:Qq)(H:Hp)(a:Addr)(xs:List V):Prop:=if c then SqT K H a xs else SqL K H a xs
theorem Le.sqA{K:Qq}{G G':Hp}(l:Le G G'){c:Bool}{a:Addr}{xs:List V}(h:SqA c K G a xs):SqA c K G' a xs:=by
 cases c
 ·exact l.sqL h
 ·exact l.sqT' h
section
variable{X:Cx}{pins:OX}{σ:St}{H:Hp}{s:Shared}{c:Bool}{a b:Addr}{xs:List V}
theorem a3D(I:Inv X pins σ H s)(h:SqA c X.K H a xs):∃its:List Value,v5_ xs its/\Sq1 c s.heap a its.toArray/\xs.length≤sizeLine:=by
 cases c
 ·obtain⟨its,r,p,z⟩:=I.list h
  exact⟨its,r,p.isList,z⟩
 ·obtain⟨its,r,p,z⟩:=I.tuple h
  exact⟨its,r,p,z⟩
theorem a5S(I:Inv X pins σ H s)(f:u1_ X pins H b)(h:SqA c X.K H a xs):a≠b:=by
 have k:∀{u:HO},Rd H a u->a≠b:=fun r z=>by
  subst z
  rcases r with r|⟨_,r⟩
  ·rw[f.1]at r;cases r
  ·rw[f.1]at r;cases r
 have m:∀{o:Obj},X.K.lookup a=some o->a≠b:=fun{o} q z=>by
  subst z;have e:X.base.get? a=some o:=I.mod.kin a o q
  rcases f.2.2.2.1 with z|z
  ·exact I.ok.noex a o e z
  ·exact absurd (Qa (Qh e) (Yj I.ok.bsz z)) (Yd _)
 cases c
 ·rcases h with h|⟨o,_,_,q,_⟩
  ·exact k h
  ·exact m q
 ·rcases h with h|⟨o,_,_,q,_⟩
  ·exact k h
  ·exact m q
end
def Itz(K:Qq)(c1 c2:Bool)(l1 l2:Addr)(xs ys:List V):It:=
 ⟨fun i H=>i<min xs.length ys.length/\SqA c1 K H l1 xs/\SqA c2 K H l2 ys,
  fun i H x H'=>∃p a b,H p=none/\x=.ref p/\H'=upd H p (.tup [a,b])/\xs[i]? =some a/\ys[i]? =some b,
  fun i H=>min xs.length ys.length≤i/\SqA c1 K H l1 xs/\SqA c2 K H l2 ys⟩
def b7R(c1 c2:Bool)(n:Nat)(l1 l2:Addr)(i:Nat)(h:Heap):Prop:=
 IsZip h (n+4) (n+2) (n+3) .none/\IsPair h (n+2) (.ref n) (.ref (n+1))/\(∃a b,IsPair h (n+3) a b)/\It1 c1 h n l1 i/\It1 c2 h (n+1) l2 i
theorem apart{n l1 l2:Addr}(h1:∀j,j<5->l1≠n+j)(h2:∀j,j<5->l2≠n+j):ZipApart (n+4) (n+2) (n+3) n (n+1) l1 l2:=by
 constructor<;>first
  |(show(_:Nat)≠_;omega)
  |exact h1 4 (by decide)
  |exact h1 3 (by decide)
  |exact h1 1 (by decide)
  |exact h1 0 (by decide)
  |exact h2 4 (by decide)
  |exact h2 3 (by decide)
  |exact h2 1 (by decide)
  |exact h2 0 (by decide)
abbrev fp5(n:Nat):List Addr:=[n+4,n+2,n+3,n,n+1]
abbrev fp4(n:Nat):List Addr:=[n+4,n+3,n,n+1]
theorem a5T(n:Nat):∀{j:Nat},j<5->(n+j:Nat)∈fp5 n
 |0,_=>by simp[fp5]
 |1,_=>by simp[fp5]
 |2,_=>by simp[fp5]
 |3,_=>by simp[fp5]
 |4,_=>by simp[fp5]
 |j+5,h=>by omega
theorem b1F{n:Nat}{c:Addr}(h:c∈fp4 n):c∈fp5 n:=by
 simp only[fp4,fp5,Qi,Yu,Uu]at h ⊢
 rcases h with h|h|h|h<;>simp[h]
theorem b7S{n:Nat}{c:Addr}(h:c∈[n+4]):c∈fp5 n:=by
 simp only[Qi,Yu,Uu]at h;rw[h];simp
theorem le5{n:Nat}{c:Addr}(h:c∈fp5 n):n≤c:=by
 simp only[fp5,Qi,Yu,Uu]at h
 rcases h with rfl|rfl|rfl|rfl|rfl
 ·exact Vu _ _
 ·exact Vu _ _
 ·exact Vu _ _
 ·exact Qp _
 ·exact Vu _ _
theorem b7T{P:Program}{w:World}{K:Qq}{elts:List Expr}{kk:Nat}{tp:Pos}(c1 c2:Bool)(n l1 l2:Addr)(xs ys:List V):
  Turn P w K (.Tuple elts kk tp) (Itz K c1 c2 l1 l2 xs ys) [n+4,n+2,n+3,n,n+1] (n+4) (b7R c1 c2 n l1 l2)where
 mem:=by simp
 obj:=fun i h st b hb=>by
  obtain⟨hz,hI,⟨a,b',hO⟩,h1,h2⟩:=st;simp only[Qi,Yu,Uu]at hb
  rcases hb with rfl|rfl|rfl|rfl|rfl
  ·exact⟨_,hz,fun v z=>by cases z⟩
  ·exact⟨_,hI,fun v z=>by cases z⟩
  ·exact⟨_,hO,fun v z=>by cases z⟩
  ·exact h1.get
  ·exact h2.get
 keep:=fun i h h' st k=>by
  obtain⟨hz,hI,⟨a,b',hO⟩,h1,h2⟩:=st;exact⟨k _ (by simp) _ hz,k _ (by simp) _ hI,⟨a,b',k _ (by simp) _ hO⟩,h1.at' fun o e=>k _ (by simp) o e,h2.at' fun o e=>k _ (by simp) o e⟩
 item:=by
  intro X hP hw hK hc i pins s σ H E I hf st hg;subst hP hw hK;obtain⟨hi,q1,q2⟩:=hg;obtain⟨hz,hI,⟨a,b,hO⟩,h1,h2⟩:=st;obtain⟨its,r1,p1,_⟩:=a3D I q1;obtain⟨jts,r2,p2,_⟩:=a3D I q2;have ex:xs[i]? =some (xs[i]'(by omega)):=by simp
  have ey:ys[i]? =some (ys[i]'(by omega)):=by simp
  obtain⟨u,hu,ru⟩:=r1.get ex;obtain⟨v,hv,rv⟩:=r2.get ey;have D:ZipApart (n+4) (n+2) (n+3) n (n+1) l1 l2:=apart
   (fun j hj=>a5S I (hf _ (a5T n hj)) q1)
   (fun j hj=>a5S I (hf _ (a5T n hj)) q2)
  refine b7N D hz hI hO h1 h2 p1 p2 (x:=u) (y:=v) (by simpa using hu) (by simpa using hv) fun h' a1 a2 a3 a4 a5 a6 a7=>?_
  have hn:H s.heap.objs.size=none:=I.fresh
  have I1:Inv X pins σ (upd H s.heap.objs.size (.tup [xs[i]'(by omega),ys[i]'(by omega)])) {s with heap:=h'}:=b7I (ch:=[n+4,n+3,n,n+1]) (t':=s.toks) I
   (fun c o hc e=>a7 c o (fun z=>hc (by simp[z])) (fun z=>hc (by simp[z])) (fun z=>hc (by simp[z])) (fun z=>hc (by simp[z])) e)
   (fun c hc=>hf c (b1F hc)) (Qp _)
   ⟨by show 2≤sizeLine;decide,[u,v],.cons ru (.cons rv .nil),_,a5,rfl,rfl,0,rfl⟩
  have lt5:∀c∈[n+4,n+2,n+3,n,n+1],c≠s.heap.objs.size:=fun c hc=>by
   have:∃o,s.heap.get? c=some o:=by
    simp only[Qi,Yu,Uu]at hc
    rcases hc with rfl|rfl|rfl|rfl|rfl
    ·exact⟨_,hz⟩
    ·exact⟨_,hI⟩
    ·exact⟨_,hO⟩
    ·obtain⟨o,e,_⟩:=h1.get;exact⟨o,e⟩
    ·obtain⟨o,e,_⟩:=h2.get;exact⟨o,e⟩
   obtain⟨o,e⟩:=this;exact Zw (Qh e)
  have hf2:∀c∈[n+4,n+2,n+3,n,n+1],u1_ X pins (upd H s.heap.objs.size (.tup [xs[i]'(by omega),ys[i]'(by omega)])) c:=fun c hc=>⟨by rw[v9_ (lt5 c hc)];exact(hf c hc).1,(hf c hc).2⟩
  have hI':IsPair h' (n+2) (.ref n) (.ref (n+1)):=a7 _ _ D.TIz D.TITO D.TIi1 D.TIi2 hI
  refine⟨.ref s.heap.objs.size,rfl,wpAny_letOwnedTupleGo_zip (s:={s with heap:=h'}) a1 fun h2' b1 b2=>?_⟩
  have I2:Inv X pins σ (upd H s.heap.objs.size (.tup [xs[i]'(by omega),ys[i]'(by omega)])) {s with heap:=h2'}:=b1B (s:={s with heap:=h'}) (ch:=[n+4]) (t':=s.toks) I1
   (fun c o hc e=>b2.extBut _ _ (fun z=>hc (by simp[z])) e) (fun c hc=>hf2 c (b7S hc))
  exact⟨.ref s.heap.objs.size,_,I2,rfl,⟨_,_,_,hn,rfl,rfl,ex,ey⟩,
   ⟨b1,b2.extBut _ _ D.TIz hI',⟨_,_,b2.extBut _ _ D.TOz a2⟩,a3.but b2.extBut D.i1z,a4.but b2.extBut D.i2z⟩,fun c hc=>(hf2 c hc).1⟩
 done:=by
  intro X hP hw hK hc i pins s σ H E I hf st hg;subst hP hw hK;obtain⟨hi,q1,q2⟩:=hg;obtain⟨hz,hI,⟨a,b,hO⟩,h1,h2⟩:=st;obtain⟨its,r1,p1,_⟩:=a3D I q1;obtain⟨jts,r2,p2,_⟩:=a3D I q2;have D:ZipApart (n+4) (n+2) (n+3) n (n+1) l1 l2:=apart
   (fun j hj=>a5S I (hf _ (a5T n hj)) q1)
   (fun j hj=>a5S I (hf _ (a5T n hj)) q2)
  have e1:=r1.length
  have e2:=r2.length
  have hend:its.toArray[i]? =none∨jts.toArray[i]? =none:=by
   by_cases h:its.length≤i
   ·exact .inl (by simp;omega)
   ·exact .inr (by simp;omega)
  exact b7O (I.ok.hd hc) D hz hI hO h1 h2 p1 p2 hend fun h' hk=>⟨rfl,b1B (ch:=[n+4,n+3,n,n+1]) (t':=s.toks) I
   (fun c o hc e=>hk c o (fun z=>hc (by simp[z])) (fun z=>hc (by simp[z])) (fun z=>hc (by simp[z])) (fun z=>hc (by simp[z])) e)
   (fun c hc=>hf c (b1F hc))⟩
 self:=fun _ _ _ _ _ st h=>wpAny_pyIter_zip st.1 h
theorem b7U:bootBuiltins "zip"=some (.type "zip"):=by decide+kernel
section
variable{X:Cx}{B:OA}{pos p:Pos}{a b:Expr}{ms:Mo (List D)}{elts:List Expr}{kk:Nat}{tp:Pos}
def b7V(K:Qq)(ta:TA):TI:=fun σ H R=>ta σ H fun vs H1=>∃c1 c2 l1 l2 xs ys,vs=[.ref l1,.ref l2]/\SqA c1 K H1 l1 xs/\SqA c2 K H1 l2 ys/\R (Itz K c1 c2 l1 l2 xs ys) H1
theorem b7W{ta:TA}(hg:Gl X "zip")(hm:X.mg "zip"=none)(ha:PA X [a,b] ta)(hs:starEach [a,b] X.env=[(false,eval a X.env),(false,eval b X.env)]:=by rfl)(hs2:starEach [b] X.env=[(false,eval b X.env)]:=by rfl):
  PI X (.Tuple elts kk tp) (.Call (.Name "zip" p) [a,b] [] pos) (b7V X.K ta):=by
 intro pins s σ H R I h;refine Call_ (a3f I hg hm b7U (Jk (thn (ha pos pins s σ H _ I h) fun us s1 ⟨vs,H1,I1,r1,q1⟩=>?_) (by rw[hs,hs2]) (by rw[hs2];rfl)))
 obtain⟨c1,c2,l1,l2,xs,ys,rfl,h1,h2,q⟩:=q1;obtain⟨u,v,rfl,ru,rv⟩:=a5q r1;cases ru;cases rv;obtain⟨its,r1,p1,_⟩:=a3D I1 h1;obtain⟨jts,r2,p2,_⟩:=a3D I1 h2;refine b7Q p1 p2 fun h' a1 a2 a3 a4 a5 a6 a7=>?_
 refine wpAny_pyIter_zip a1 ?_
 refine⟨s1.heap.objs.size+4,_,_,_,H1,rfl,I1.kept (t':=s1.toks) a7,b7T c1 c2 s1.heap.objs.size l1 l2 xs ys,⟨a1,a2,⟨_,_,a3⟩,a4,a5⟩,fun c hc=>?_,q⟩
 have hle:s1.heap.objs.size≤c:=le5 hc
 exact I1.fpOk hle (I1.hok.fresh hle)
def u5_(xs ys:List D):List D:=(xs.zip ys).map fun p=>.tup [p.1,p.2]
def a2K(ms:Mo (List D)):Mo (List D):=fun env=>(ms env).bind fun p=>match p.1 with
 |[d,e]=>d.items.bind fun xs=>e.items.map fun ys=>(u5_ xs ys,p.2)
 |_=>none
theorem b1G{K:Qq}{G:Hp}{v:V}{d:D}{ds:List D}(r:Rep K G v d)(h:d.items=some ds):∃c a xs,v=.ref a/\SqA c K G a xs/\z8_ K G xs ds:=by
 cases d<;>first|(exact absurd (show(none:Option (List D))=some ds from h) (by simp))|skip
 ·cases h;simp only[Rep]at r;obtain⟨a,xs,e,q,t⟩:=r;exact⟨true,a,xs,e,q.t,t⟩
 ·cases h;simp only[Rep]at r;obtain⟨a,xs,e,q,t⟩:=r;exact⟨false,a,xs,e,q,t⟩
theorem b7X{K:Qq}{G:Hp}{c1 c2:Bool}{l1 l2:Addr}{xs ys:List V}{ds es:List D}(h1:SqA c1 K G l1 xs)(h2:SqA c2 K G l2 ys)(r1:z8_ K G xs ds)(r2:z8_ K G ys es):ItD K (Itz K c1 c2 l1 l2 xs ys) G (u5_ ds es)where
 go:=fun i H l hi=>⟨by rw[r1.length,r2.length];simpa [u5_]using hi,l.sqA h1,l.sqA h2⟩
 stop:=fun i H l hi=>⟨by rw[r1.length,r2.length];simpa [u5_]using hi,l.sqA h1,l.sqA h2⟩
 yld:=fun i H x H' d l y e=>by
  obtain⟨p,a,b,hp,rfl,rfl,ea,eb⟩:=y;obtain⟨da,e1,ra⟩:=r1.get' ea;obtain⟨db,e2,rb⟩:=r2.get' eb;have ed:d=.tup [da,db]:=by
   unfold u5_ at e;rw[Zu,List.getElem?_zip_eq_some.mpr (⟨e1,e2⟩:ds[i]? =some (da,db).1/\es[i]? =some (da,db).2)]at e;cases e;rfl
  subst ed;have gp:G p=none:=by
   cases q:G p with
   |none=>rfl
   |some o=>rw[l p o q]at hp;cases hp
  exact .inr ⟨p,_,nt_tup,hp,rfl,a3k x8_ (repL_cons (Rep.mono (Le.upd gp) _ ra) (repL_cons (Rep.mono (Le.upd gp) _ rb) repL_nil))⟩
theorem a7N(hg:Gl X "zip")(hm:X.mg "zip"=none)(ha:EDs X B [a,b] ms)(hs:starEach [a,b] X.env=[(false,eval a X.env),(false,eval b X.env)]:=by rfl)(hs2:starEach [b] X.env=[(false,eval b X.env)]:=by rfl):
  EI X B (.Tuple elts kk tp) (.Call (.Name "zip" p) [a,b] [] pos) (a2K ms):=by
 refine a5L (b7W hg hm ha hs hs2) ?_
 rintro σ H R ⟨G,env,ds,env',rl,e,k⟩;obtain⟨⟨ds',env1⟩,e1,e2⟩:=q8_ e;dsimp only at e2;split at e2
 ·rename_i d1 d2
  obtain⟨xs,e3,e4⟩:=q8_ e2;obtain⟨ys,e5,e6⟩:=y8_ e4;cases e6;refine⟨G,env,_,_,rl,e1,fun vs G1 H1 ev r=>?_⟩
  obtain⟨v,w,rfl,r1,r2⟩:=a4n r;obtain⟨c1,l1,us,rfl,q1,t1⟩:=b1G r1 e3;obtain⟨c2,l2,ws,rfl,q2,t2⟩:=b1G r2 e5;exact⟨c1,c2,l1,l2,us,ws,rfl,ev.rel.sub.sqA q1,ev.rel.sub.sqA q2,k _ G1 H1 ev (b7X q1 q2 t1 t2)⟩
 ·cases e2
end
section
variable{prog:Program}{w:World}{A:Around}{s:Shared}{fin:Bool}{Q:Bool->Shared->Prop}
end
section
variable{X:Cx}{pins:OX}{σ:St}{H:Hp}{s:Shared}
def keys(ds:List D):Option (OI):=ds.mapM fun d=>match d with
 |.tup es=>(ints? es).bind fun ns=>if ns.isEmpty then none else some ns
 |_=>none
end
section
variable{X:Cx}{B:OA}
end
section
variable{X:Cx}{B:OA}{pos:Pos}
end
section
variable{X:Cx}{B:OA}{pos p:Pos}{e:Expr}{es:List Expr}{as:Mo (List Ar)}{fn:Fn}{k n:Nat}{f:Addr}{fd:FuncData}{ps:List Str}{x:Str}
structure Def(P:Program)(w:World)(K:Qq)(mg:OU)(base:Heap)(x:Str)(k n:Nat)(fn:Fn):Prop where
 ex:∃(f:Addr) (fd:FuncData) (ps:List Str),FnOk P w K mg base CX0 k f fd ps (SpF K n fn)/\ps.length=n/\mg x=some (.ref f)/\PySem.W.keepIn K (.ref f)=true/\a0s K fd ps []
theorem v7_(D:Def X.prog X.w X.K X.mg X.base x k n fn)(hr:Room k X.A)(hg:Gl X x)(ha:EAr X B (e::es) as)(hdb:(x==("__debug__":Str))=false:=by decide)
  (he:starEach (e::es) X.env=(false,eval e X.env)::starEach es X.env:=by rfl)(hpl:(backTo pos (starEach es X.env)).any (·.1)=false:=by rfl):
  ED X B (.Call (.Name x p) (e::es) [] pos) (mCD n fn as):=by
 obtain⟨f,fd,ps,F,rfl,hm,hk,hb⟩:=D.ex;exact b7j F hr hg hm hk hb ha hdb he hpl
theorem a1y(D:Def X.prog X.w X.K X.mg X.base x k n fn)(hr:Room k X.A)(hg:Gl X x)(ha:EAr X B (e::es) as)(hdb:(x==("__debug__":Str))=false:=by decide)
  (he:starEach (e::es) X.env=(false,eval e X.env)::starEach es X.env:=by rfl)(hpl:(backTo pos (starEach es X.env)).any (·.1)=false:=by rfl):
  EL X B (.Call (.Name x p) (e::es) [] pos) (k8_ n fn as):=by
 obtain⟨f,fd,ps,F,rfl,hm,hk,hb⟩:=D.ex;exact b7k F hr hg hm hk hb ha hdb he hpl
def a2j:Option NameKind->Option NameKind->Bool:=fun a b=>decide (a=b)
def b1H(outN N':List Str)(outNames:List (Str×NameKind))(cells:List (Str×Addr))(scope:Scope)(keep:List Bool)(more:Nat):Bool:=
 (decide (scope.kind=.function)&&(scope.names.all (fun y=>a2j (scope.names.lookup y.1) (some y.2))&&(scope.names.all (fun y=>!a2j (some y.2) (some .free)||(cells.lookup y.1).isSome)&&(decide (keep.length=outN.length)&&(decide (N'.length=outN.length+more)&&
  (List.range keep.length).all fun i=>!(keep.getD i false)||match N'[i]?,outN[i]? with
   |some x,some y=>decide (x=y)&&(!a2j (scope.names.lookup x) (some .local)&&(!a2j (scope.names.lookup x) (some .cell)&&(!a2j (scope.names.lookup x) (some .free)||(a2j (outNames.lookup x) (some .cell)||a2j (outNames.lookup x) (some .free)))))
   |_,_=>false)))))
theorem u6_{N':List Str}{scope:Scope}{keep:List Bool}{more:Nat}(c:closureFor scope X.env=pure (g6_ X.env.cells scope.names []))(h:b1H X.N N' X.env.scope.names X.env.cells scope keep more=true):CompOk X N' scope keep more:=by
 unfold b1H at h;simp only[Qk,Qr,Qu,a2j]at h;obtain⟨h1,h2,h3,h4,h5,h6⟩:=h;have gt:∀(i:Nat) (x:Str),keep[i]? =some true->N'[i]? =some x->∃y,X.N[i]? =some y/\x=y/\ ¬ (scope.names.lookup x=some .local)/\ ¬ (scope.names.lookup x=some .cell)/\(scope.names.lookup x=some .free->X.env.scope.names.lookup x=some .cell∨X.env.scope.names.lookup x=some .free):=fun i x e1 e2=>by
  have hi:i<keep.length:=(Qb.mp e1).1
  have q:=h6 i (Zt.mpr hi)
  have e3:keep.getD i false=true:=by simp[e1]
  rw[e3,e2]at q;cases e4:X.N[i]? with
  |none=>rw[e4]at q;simp at q
  |some y=>
   rw[e4]at q;simp only[Bool.not_true,Xj,Qk,Qr,Bool.not_eq_true',decide_eq_false_iff_not,Vl]at q;obtain⟨q1,q2,q3,q4⟩:=q;exact⟨y,rfl,q1,q2,q3,fun z=>q4.elim (fun n=>absurd z n) id⟩
 refine⟨h1,h2,c,fun y hy hf=>?_,h4,h5,fun i x e1 e2=>?_,fun i x e1 e2 e3=>?_⟩
 ·have q:=h3 y hy
  rw[hf]at q
  simpa using q
 ·obtain⟨y,g1,g2,g3,g4,_⟩:=gt i x e1 e2
  exact⟨by rw[g1,g2],g3,g4⟩
 ·have hi:i<keep.length:=(Qb.mp e1).1
  have hN:i<N'.length:=by omega
  obtain⟨y,g1,g2,g3,g4,g5⟩:=gt i _ e1 (Yk hN);rw[e2]at g1;cases g1;rw[g2]at g5;exact g5 e3
end
section
variable{X:Cx}{B:OA}{pos:Pos}
theorem a4z{x:Str}{i:Int}(hg:Gl X x)(hm:∃t,X.mg x=some (.int i t))(hd:(x==("__debug__":Str))=false:=by decide):ED X B (.Name x pos) (mC (.int i)):=by
 obtain⟨t,hm⟩:=hm;exact b6T hg hm hd
def Kp(i:Nat)(m:Mo D):Prop:=∀env d env' w ds,m env=some (d,env')->env'[i]? =some w->w.mut=some ds->∃w0 ds0,env[i]? =some w0/\w0.mut=some ds0
theorem a2k{i:Nat}{d:D}:Kp i (mC d):=fun env d' env' w ds e h1 h2=>by cases e;exact⟨w,ds,h1,h2⟩
theorem b7Y{i:Nat}{m:Mo D}(h:Kp i m):Kp i (a1L m):=fun env d' env' w ds e h1 h2=>by
 obtain⟨⟨d,env1⟩,e1,e2⟩:=q8_ e;dsimp only at e2;split at e2
 ·cases e2;exact h env _ _ w ds e1 h1 h2
 ·cases e2
theorem b7Z{i j:Nat}(hj:j≠i):Kp i (z0_ j):=fun env d' env' w ds e h1 h2=>by
 unfold z0_ at e;split at e
 ·cases e;exact⟨w,ds,h1,h2⟩
 ·cases e
  rw[Qc hj]at h1;exact⟨w,ds,h1,h2⟩
 ·cases e
  rw[Qc hj]at h1;exact⟨w,ds,h1,h2⟩
 ·cases e
  rw[Qc hj]at h1;exact⟨w,ds,h1,h2⟩
 ·cases e
theorem b8a:bootBuiltins "int"=some (.type "int"):=by decide+kernel
theorem b8b:bootBuiltins "bool"=some (.type "bool"):=by decide+kernel
theorem a1k:bootBuiltins "tuple"=some (.type "tuple"):=by decide+kernel
theorem a7O:bootBuiltins "all"=some (.builtin "all"):=by decide+kernel
theorem b1I:bootBuiltins "max"=some (.builtin "max"):=by decide+kernel
theorem a4A:bootBuiltins "min"=some (.builtin "min"):=by decide+kernel
end
theorem b1J{K:Qq}{G:Hp}:∀ns:List Int,z8_ K G (ns.map V.int) (ns.map D.int)
 |[]=>repL_nil
 |n::ns=>repL_cons (by simp only[Rep]) (b1J ns)
theorem b8c{l:PySem.W.OpenLaw}{k:Nat}{q:Program}{loose:List Str}{XP:(OU)->Heap->Prop}{YP:World->Heap->Prop}{d:DefRec}{K:Params->Qq}{x:Str}{fn:Fn}
  (hn:l.most=some 63)(hdf:d.params.defaults=[])(hr:Room k callerA)(hY:∀(w:World) (h:Heap),YP w h->(K w.params).In h)
  (F:∀(w:World) (mg:OU) (fa:Addr) (h:Heap),(K w.params).In h->h.Ns mainGlobals mg->mg d.name=some (.ref fa)->
   ∃fd:FuncData,(∀(s:Shared) (u:Value),BindsTo s fd ⟨[u],[]⟩ [(x,u)])/\∀base:Heap,(K w.params).In base->base.Ns mainGlobals mg->FnOk l.prog w (K w.params) mg base CX0 k fa fd [x] (SpF (K w.params) 1 fn))
  (ht:∀ns:List Int,ns.length≤63->∃ws',fn [.dat (.lst (ns.map D.int))]=some (.d (.bl true),ws')):
  PySem.W.WalkO q loose XP YP l.row.toRowW d [] (fun f vs=>PySem.call f vs):=
 L2.b6M (n:=63) (k:=k) (x:=x) (CX:=fun _=>CX0) (sp:=fun w=>SpF (K w.params) 1 fn) hn (by decide) hdf hr hY F (fun w H a ns hl hO hS=>by
  obtain⟨ws',e⟩:=ht ns hl;have hd:∀(i:Nat) (d:D),([.dat (.lst (ns.map D.int))]:List W)[i]? =some (.dat d)->i=0/\d=.lst (ns.map D.int):=fun i d e=>by
   cases i with
   |zero=>simp at e;exact⟨rfl,e.symm⟩
   |succ i=>simp at e
  have hm:∀(i:Nat) (v:W) (ds:Mu),([.dat (.lst (ns.map D.int))]:List W)[i]? =some v->v.mut=some ds->False:=fun i v ds e1 e2=>by
   cases i with
   |zero=>simp at e1;subst e1;cases e2
   |succ i=>simp at e1
  refine⟨H,[.dat (.lst (ns.map D.int))],.d (.bl true),ws',rfl,fun v hv=>.inl ?_,⟨Le.refl,rfl,fun i d e=>?_,fun i v ds e1 e2=>(hm i v ds e1 e2).elim,fun i j v v' ds es a e1 e2=>(hm i v ds e1 e2).elim,fun i v a e1 eo=>(let ⟨m,q⟩:=own_mut eo;hm i _ m e1 q).elim,fun b h=>h.elim,fun P ps z=>by rcases hO P with q|⟨o,xs,q⟩<;>(rw[q]at z;cases z),fun b o z ps y=>by rcases hO b with q|⟨o',xs,q⟩<;>(rw[q]at z;cases z<;>cases y)⟩,e,?_⟩
  ·simp at hv;exact⟨_,hv⟩
  ·obtain⟨rfl,rfl⟩:=hd i d e
   exact⟨.ref a,rfl,by simp only[Rep];exact⟨a,_,rfl,hS,b1J ns⟩⟩
  ·intro v G' H' _ rp
   simpa only[Rep]using rp) fun _ _ _ _ _ z=>z
def a4B:Expr->Bool
 |.Starred _ _=>true
 |_=>false
theorem z1_{e:Expr}{es:List Expr}{env:Env}(h:a4B e=false):starEach (e::es) env=(false,eval e env)::starEach es env:=by
 cases e<;>first|rfl|cases h
theorem se1{a:Expr}{env:Env}(h:a4B a=false):starEach [a] env=[(false,eval a env)]:=by rw[z1_ h];rfl
theorem se2{a b:Expr}{env:Env}(h:a4B a=false)(h2:a4B b=false):starEach [a,b] env=[(false,eval a env),(false,eval b env)]:=by rw[z1_ h,se1 h2]
theorem q1_{pos:Pos}{env:Env}:∀{es:List Expr},es.all (fun e=>!a4B e)=true->(backTo pos (starEach es env)).any (·.1)=false
 |[],_=>rfl
 |e::es,h=>by
  rw[Xq,Qk,Bool.not_eq_true']at h;rw[z1_ h.1];show(false||(backTo pos (starEach es env)).any (·.1))=false
  rw[q1_ h.2];rfl
theorem j1_{m n:Mo Fl}{e e1:Env'}(h:m e=some (.nx,e1)):z9_ m n e=n e1:=by unfold z9_;rw[h];rfl
theorem a1z{m n:Mo Fl}{e e1:Env'}{d:D}(h:m e=some (.ret d,e1)):z9_ m n e=some (.ret d,e1):=by unfold z9_;rw[h];rfl
theorem a2l{t:Mo Bool}{m n:Mo Fl}{e e1:Env'}(h:t e=some (true,e1)):y2_ t m n e=m e1:=by unfold y2_;rw[h];rfl
theorem a2m{t:Mo Bool}{m n:Mo Fl}{e e1:Env'}(h:t e=some (false,e1)):y2_ t m n e=n e1:=by unfold y2_;rw[h];rfl
theorem a2n(neg:Bool)(i j:Int):dEq neg (.int i) (.int j)=some (.bl (if neg then !(i==j)else(i==j))):=rfl
theorem a7P{g:OZ}{m:Mo D}{P:Env'->Prop}{f:D->D}:∀{ds:List D}{env:Env'},(∀d∈ds,∀e,P e->∃e1 e2,g d e=some e1/\m e1=some (f d,e2)/\P e2)->P env->
  ∃env',j7_ g x7_ m ds env=some (ds.map f,env')/\P env'
 |[],env,_,p=>⟨env,rfl,p⟩
 |d::ds,env,h,p=>by
  obtain⟨e1,e2,h1,h2,h3⟩:=h d (by simp) env p
  obtain⟨e3,h4,h5⟩:=a7P (ds:=ds) (fun x hx=>h x (by simp[hx])) h3
  refine⟨e3,?_,h5⟩;unfold j7_;rw[h1];simp only[Qj,x7_,Zm];rw[h2];simp only[Qj];rw[h4];rfl
theorem a5U{α:Type}(f:α->Bool):∀l:List α,a1i (l.map fun x=>D.bl (f x))=some (l.all f)
 |[]=>rfl
 |x::l=>by simp[a1i,a5U f l]
theorem x9_{N:Nat}{mb:Mo Fl}{ws env:List W}{d:D}(h:mb (ws++List.replicate (N-ws.length) .nil)=some (.ret d,env)):fnM N mb ws=some (.d d,a0G ws env):=by unfold fnM;rw[h]
theorem a5V{N:Nat}{mb:Mo Fl}{ws env:List W}{d:List D}(h:mb (ws++List.replicate (N-ws.length) .nil)=some (.retL d,env)):fnM N mb ws=some (.l d,a0G ws env):=by unfold fnM;rw[h]
def stop(b:Bool)(d:D):Fl:=if b then .nx else .ret d
theorem a2o{mi:Mo (List D)}{keep:List Bool}{more:Nat}{g:OZ}{t:Mo Bool}{m:Mo D}{env e1 e2 e3:Env'}{ds r:List D}(h:mi env=some (ds,e1))(hl:ds.length≤100000)(hc:j7_ g t m ds (g0_ keep more e1)=some (r,e2))(ho:j6_ keep e1 e2=some e3):
  y9_ mi keep more g t m env=some (r,e3):=by
 unfold y9_;rw[h];show(if ds.length≤100000 then(j7_ g t m ds (g0_ keep more e1)).bind _ else none)=_
 rw[Qg hl,hc];show(j6_ keep e1 e2).map _=_;rw[ho];rfl
theorem a7Q{ms:Mo (List D)}{env e1:Env'}{j:Int}(h:ms env=some ([.int j],e1))(h1: -1000000<j)(h2:j<1000000):a0m ms env=some (a0e 0 j.toNat,e1):=by
 unfold a0m;rw[h];exact Qg ⟨h1,h2⟩
theorem g3_{f:List D->Option D}{ms:Mo (List D)}{env e1:Env'}{ds:List D}{d:D}(h:ms env=some (ds,e1))(hf:f ds=some d):mCB f ms env=some (d,e1):=by unfold mCB;rw[h];show(f ds).map _=_;rw[hf];rfl
theorem x1_{m:Mo D}{ms:Mo (List D)}{env e1 e2:Env'}{d:D}{ds:List D}(h:m env=some (d,e1))(h2:ms e1=some (ds,e2)):z5_ m ms env=some (d::ds,e2):=by unfold z5_;rw[h];show(ms e1).map _=_;rw[h2];rfl
theorem k6_{m:Mo D}{ms:Mo (List Ar)}{env e1 e2:Env'}{d:D}{ds:List Ar}(h:m env=some (d,e1))(h2:ms e1=some (ds,e2)):z4_ m ms env=some (.d d::ds,e2):=by unfold z4_;rw[h];show(ms e1).map _=_;rw[h2];rfl
theorem a0g{m:Mo (List D)}{env e1:Env'}{ds:List D}(h:m env=some (ds,e1)):mF m env=some (.lst ds,e1):=by unfold mF;rw[h];rfl
theorem a2p{m:Mo D}{env e1:Env'}{d:D}{ds:List D}(h:m env=some (d,e1))(hd:d.items=some ds):y6_ m env=some (ds,e1):=by unfold y6_;rw[h];show d.items.map _=_;rw[hd];rfl
theorem q4_{f:D->D->Option D}{ma mb:Mo D}{env e1 e2:Env'}{a b c:D}(h1:ma env=some (a,e1))(h2:mb e1=some (b,e2))(hf:f a b=some c):z2_ f ma mb env=some (c,e2):=by
 unfold z2_;rw[h1];show(mb e1).bind _=_;rw[h2];show(f a b).map _=_;rw[hf];rfl
theorem j3_{m:Mo D}{env e1:Env'}{d:D}(h:m env=some (d,e1)):v3_ m env=some (.ret d,e1):=by unfold v3_;rw[h];rfl
theorem a7R{m:Mo (List D)}{env e1:Env'}{d:List D}(h:m env=some (d,e1)):a1w m env=some (.retL d,e1):=by unfold a1w;rw[h];rfl
theorem a0h{i:Nat}{m:Mo D}{env e1:Env'}{d:D}(h:m env=some (d,e1)):v2_ i m env=some (.nx,e1.set i (.dat d)):=by unfold v2_;rw[h];rfl
theorem b8d{i:Nat}{m:Mo (List D)}{env e1:Env'}{d:List D}(h:m env=some (d,e1)):a0d i m env=some (.nx,e1.set i (.own d)):=by unfold a0d;rw[h];rfl
theorem w2_{m:Mo D}{env e1:Env'}{b:Bool}(h:m env=some (.bl b,e1)):mT m env=some (b,e1):=by unfold mT;rw[h];rfl
theorem a4C{m:Mo Bool}{env e1:Env'}{b:Bool}(h:m env=some (b,e1)):w4_ m env=some (!b,e1):=by unfold w4_;rw[h];rfl
theorem a1A{mi:Mo (List D)}{g:OZ}{b:Mo Fl}{env e1:Env'}{ds:List D}(h:mi env=some (ds,e1)):j8_ mi g b env=loop g b ds e1:=by unfold j8_;rw[h];rfl
theorem a0y{n:Nat}{f:Fn}{as:Mo (List Ar)}{env e1:Env'}{av:List Ar}{r:Rr}{ws':List W}(h:as env=some (av,e1))(hn:av.length=n)(hs:slots av=[])(hf:f (av.map (u4_ (.l [])))=some (r,ws')):a1h n f as env=some (r,e1):=by
 unfold a1h;rw[h];show(if av.length=n then _ else none)=_
 rw[Qg hn];simp only[hs];rw[hf];rfl
theorem a5W{n i:Nat}{f:Fn}{as:Mo (List Ar)}{env e1:Env'}{av:List Ar}{r:Rr}{ws':List W}{w:W}{c c':List D}(h:as env=some (av,e1))(hn:av.length=n)(hs:slots av=[i])(hw:e1[i]? =some w)(hm:w.mutL=some c)(hf:f (av.map (u4_ (.l c)))=some (r,ws'))(hp:a1x ws'=some (.l c')):
  a1h n f as env=some (r,e1.set i (w.put c')):=by
 unfold a1h;rw[h];show(if av.length=n then _ else none)=_
 rw[Qg hn];simp only[hs];rw[hw];simp only[Qj];rw[W.mutL_of hm];simp only[Qj];rw[hf];simp only[Qj];rw[hp,W.put_eq hm];rfl
theorem a3E{n i:Nat}{f:Fn}{as:Mo (List Ar)}{env e1:Env'}{av:List Ar}{r:Rr}{ws':List W}{w:W}{c c':Mu}(h:as env=some (av,e1))(hn:av.length=n)(hs:slots av=[i])(hw:e1[i]? =some w)(hm:w.mut=some c)(hf:f (av.map (u4_ c))=some (r,ws'))(hp:a1x ws'=some c'):
  a1h n f as env=some (r,e1.set i (w.putM c')):=by
 unfold a1h;rw[h];show(if av.length=n then _ else none)=_
 rw[Qg hn];simp only[hs];rw[hw];simp only[Qj];rw[hm];simp only[Qj];rw[hf];simp only[Qj];rw[hp];rfl
theorem a0z{n:Nat}{f:Fn}{as:Mo (List Ar)}{env e1:Env'}{d:D}(h:a1h n f as env=some (.d d,e1)):mCD n f as env=some (d,e1):=by unfold mCD;rw[h];rfl
theorem a1B{n:Nat}{f:Fn}{as:Mo (List Ar)}{env e1:Env'}{d:List D}(h:a1h n f as env=some (.l d,e1)):k8_ n f as env=some (d,e1):=by unfold k8_;rw[h];rfl
section
variable{X:Cx}{B:OA}{pos:Pos}{e:Expr}{ma:Mo D}
def a0U(m:Mo D):Mo Fl:=fun env=>(m env).map fun p=>(.nx,p.2)
theorem a2L(h:ED X B e ma)(hsw:swapsWith e none pos.line X.env=pure false:=by rfl):ES X B (.Expr e pos) (a0U ma):=by
 refine ps_imp (b0q (te:=TD X.K B ma) h hsw) ?_
 rintro D σ H ⟨G,env,fl,env',rl,e,k⟩;obtain⟨⟨d,env1⟩,e1,e2⟩:=y8_ e;cases e2;exact .bind rl e1 fun v G' H' ev r=>k σ G' H' ev
theorem a2M{m:Mo D}{env e1:Env'}{d:D}(h:m env=some (d,e1)):a0U m env=some (.nx,e1):=by unfold a0U;rw[h];rfl
end
section
variable{X:Cx}{B:OA}
end
section
variable{X:Cx}{B:OA}{pos:Pos}{a b c e:Expr}{ma mb mc:Mo D}{ms:Mo (List D)}{es:List Expr}
end
section
variable{X:Cx}{B:OA}
def b1K:List D->Option Bool
 |[]=>some false
 |.bl b::r=>(b1K r).map fun k=>b||k
 |_::_=>none
def dAny:List D->Option D
 |[.lst ds]=>(b1K ds).map fun k=>.bl k
 |_=>none
def a0V:List D->Option D
 |[.lst ds]=>(ints? ds).map fun ns=>.int ns.sum
 |[.tup ds]=>(ints? ds).map fun ns=>.int ns.sum
 |_=>none
theorem a5X:∀{us:List Value}{ns:List Int},IntsAre us ns->∀(i:Nat) (v:Value),us[i]? =some v->∃t,v=.int (ns.getD i 0) t
 |_,_,.nil,i,v,h=>by simp at h
 |_,_,.cons n t r,i,v,h=>by
  cases i with
  |zero=>simp at h;exact⟨t,by simp[←h]⟩
  |succ i=>exact a5X r i v (by simpa using h)
def b1L(X:Cx):List V->Hp->VK->Prop:=fun xs H Q=>∃(p:Addr) (ns:List Int),xs=[.ref p]/\(SqL X.K H p (ns.map V.int)∨SqT X.K H p (ns.map V.int))/\Q (.int ns.sum) H
theorem a5Y(hc:X.calm=true):a0E X (.builtin "sum") (b1L X):=by
 intro pins s σ H xs us Q I r h;obtain⟨p,ns,rfl,hq,q⟩:=h;obtain⟨u,rfl,rx⟩:=a4g r;cases rx;have hh:X.A.handled=none:=I.ok.hd hc
 rcases hq with hq|hq
 ·obtain⟨its,r',pl,hz⟩:=I.list hq
  have hi:IntsAre its ns:=a2z r'
  have hl:=pl.isList
  have hlt:p<s.heap.objs.size:=by obtain⟨_,e,_⟩:=hl;exact Qh e
  refine call_sum_walkG (Jg hl ?_);refine⟨s.heap.objs.size,[s.heap.objs.size,p],[s.heap.objs.size],its.toArray.size,_,_,fun i=>ns.getD i 0,rfl,Walks.list (A:=X.A.in1) hh _ p (Zw hlt) its.toArray,
   ⟨⟨_,Qn _ rfl,rfl,rfl⟩,hl.push _⟩,fun b hb=>?_,fun i v hP=>a5X hi i v (by simpa using hP),fun h' tk t' hk'=>?_⟩
  ·have hs:=Qh (Qn s.heap (o:={cls:=.type "list_iterator",data:=.fields #[.ref p,.int 0 0]}) rfl)
   rcases Qi.mp hb with rfl|hb
   ·exact hs
   ·rcases Qi.mp hb with rfl|hb
    ·exact Ul hlt hs
    ·cases hb
  ·rw[Ql,hi.length,PyProof.Rows.preSum_getD,Jx (Qp _)]
   exact⟨.int ns.sum,H,I.kept (t':=tk) (LSm.kept_iter hk'),⟨t',rfl⟩,q⟩
 ·obtain⟨its,r',pl,hz⟩:=I.tuple hq
  have hi:IntsAre its ns:=a2z r'
  have hl:s.heap.IsTuple p its.toArray:=pl
  have hlt:p<s.heap.objs.size:=by obtain⟨_,e,_⟩:=hl;exact Qh e
  refine call_sum_walkG (Ud hl ?_);refine⟨s.heap.objs.size,[s.heap.objs.size,p],[s.heap.objs.size],its.toArray.size,_,_,fun i=>ns.getD i 0,rfl,Walks.tuple (A:=X.A.in1) hh _ p (Zw hlt) its.toArray,
   ⟨⟨_,Qn _ rfl,rfl,rfl⟩,hl.push _⟩,fun b hb=>?_,fun i v hP=>a5X hi i v (by simpa using hP),fun h' tk t' hk'=>?_⟩
  ·have hs:=Qh (Qn s.heap (o:={cls:=.type "tuple_iterator",data:=.fields #[.ref p,.int 0 0]}) rfl)
   rcases Qi.mp hb with rfl|hb
   ·exact hs
   ·rcases Qi.mp hb with rfl|hb
    ·exact Ul hlt hs
    ·cases hb
  ·rw[Ql,hi.length,PyProof.Rows.preSum_getD,Jx (Qp _)]
   exact⟨.int ns.sum,H,I.kept (t':=tk) (LSm.kept_iter hk'),⟨t',rfl⟩,q⟩
theorem a5Z:a1f X B (b1L X) a0V:=by
 intro G σ env H xs ds c Q rl r e k;unfold a0V at e;split at e
 ·rename_i ds
  obtain⟨x,rfl,q⟩:=a1g r;obtain⟨ns,e1,e2⟩:=y8_ e;subst e2;simp only[Rep]at q;obtain⟨a,ys,rfl,h1,h2⟩:=q;have:=a1j h2 e1;subst this;exact⟨a,ns,rfl,.inl (rl.sub.sqL h1),k _ G H (.refl rl) (by simp only[Rep])⟩
 ·rename_i ds
  obtain⟨x,rfl,q⟩:=a1g r;obtain⟨ns,e1,e2⟩:=y8_ e;subst e2;simp only[Rep]at q;obtain⟨a,ys,rfl,h1,h2⟩:=q;have:=a1j h2 e1;subst this;exact⟨a,ns,rfl,.inr (rl.sub.sqT h1),k _ G H (.refl rl) (by simp only[Rep])⟩
 ·cases e
end
theorem a6a:bootBuiltins "sum"=some (.builtin "sum"):=by decide+kernel
theorem b8e{P:Program}{w:World}{K:Qq}{mg:OU}{base:Heap}{k n:Nat}{f:Addr}{fd:FuncData}{ps:List Str}:FnOk P w K mg base CX0 k f fd ps (SpF K n fun _=>none):=
 ⟨fun _ _ _ _ h=>(by obtain⟨_,_,_,_,_,_,_,e,_⟩:=h;cases e),fun _ _ _ _ _ _ _ _ _ _ _ _ _ h=>(by obtain⟨_,_,_,_,_,_,_,e,_⟩:=h;cases e)⟩
section
variable{X:Cx}{B:OA}
theorem b8f{pins:OX}{σ:St}{H:Hp}{s:Shared}{p:Addr}{ns:List Int}{A:Around}{Q:OE}{E:OE}(I:Inv X pins σ H s)(hh:X.A.in1.handled=none)(hq:SqL X.K H p (ns.map V.int)∨SqT X.K H p (ns.map V.int))
  (h:∀(o:Obj) (P:Nat->Value->Prop) (T:Nat->Heap->Prop),Walks X.prog X.w X.A.in1 s.heap.objs.size [s.heap.objs.size,p] [s.heap.objs.size] ns.length P T->T 0 (s.heap.push o)->(∀b∈[s.heap.objs.size,p],b<(s.heap.push o).objs.size)->
   (∀i v,P i v->i<ns.length/\∃t,v=.int (ns.getD i 0) t)->Q (.ref s.heap.objs.size) {s with heap:=s.heap.push o}):wpAny (model X.prog X.w) A (pyIter (.ref p)) Q E s:=by
 have key:∀(its:List Value),IntsAre its ns->∀i v,its.toArray[i]? =some v->i<ns.length/\∃t,v=.int (ns.getD i 0) t:=fun its hi i v hv=>by
  have hv':its[i]? =some v:=by simpa using hv
  refine⟨?_,a5X hi i v hv'⟩;have:=(Qb.mp hv').1;rw[hi.length]at this;exact this
 have low:∀(o:Obj),p<s.heap.objs.size->∀b∈[s.heap.objs.size,p],b<(s.heap.push o).objs.size:=fun o hlt b hb=>by
  have hs:s.heap.objs.size<(s.heap.push o).objs.size:=by rw[Yx];exact Xg _
  rcases Qi.mp hb with rfl|hb
  ·exact hs
  ·rcases Qi.mp hb with rfl|hb
   ·exact Ul hlt hs
   ·cases hb
 rcases hq with hq|hq
 ·obtain⟨its,r',pl,hz⟩:=I.list hq
  have hi:IntsAre its ns:=a2z r'
  have hl:=pl.isList
  have hlt:p<s.heap.objs.size:=by obtain⟨_,e,_⟩:=hl;exact Qh e
  have W:=Walks.list (prog:=X.prog) (w:=X.w) (A:=X.A.in1) hh s.heap.objs.size p (Zw hlt) its.toArray
  have es:its.toArray.size=ns.length:=by rw[Ql,hi.length]
  rw[es]at W;exact Jg hl (h _ _ _ W ⟨⟨_,Qn _ rfl,rfl,rfl⟩,hl.push _⟩ (low _ hlt) (key its hi))
 ·obtain⟨its,r',pl,hz⟩:=I.tuple hq
  have hi:IntsAre its ns:=a2z r'
  have hl:s.heap.IsTuple p its.toArray:=pl
  have hlt:p<s.heap.objs.size:=by obtain⟨_,e,_⟩:=hl;exact Qh e
  have W:=Walks.tuple (prog:=X.prog) (w:=X.w) (A:=X.A.in1) hh s.heap.objs.size p (Zw hlt) its.toArray
  have es:its.toArray.size=ns.length:=by rw[Ql,hi.length]
  rw[es]at W;exact Ud hl (h _ _ _ W ⟨⟨_,Qn _ rfl,rfl,rfl⟩,hl.push _⟩ (low _ hlt) (key its hi))
def u7_(gt:Bool)(ns:List Int):Int:=ns.getD (argBest (fun i j=>if gt then decide (ns.getD i 0>ns.getD j 0)else decide (ns.getD i 0<ns.getD j 0)) (ns.length-1)) 0
def b1M(X:Cx)(gt:Bool):List V->Hp->VK->Prop:=fun xs H Q=>∃(p:Addr) (ns:List Int),xs=[.ref p]/\(SqL X.K H p (ns.map V.int)∨SqT X.K H p (ns.map V.int))/\0<ns.length/\Q (.int (u7_ gt ns)) H
theorem a7S(hc:X.calm=true):a0E X (.builtin "min") (b1M X false):=by
 intro pins s σ H xs us Q I r h;obtain⟨p,ns,rfl,hq,h0,q⟩:=h;obtain⟨u,rfl,rx⟩:=a4g r;cases rx;have hh:X.A.handled=none:=I.ok.hd hc;refine call_min_walk (b8f I hh hq fun o P T W st low key=>?_)
 refine⟨_,_,_,_,_,_,_,rfl,W,st,low,h0,CmpOf.ints_lt (fun i=>ns.getD i 0) (fun i v hv=>(key i v hv).2),fun v h' tk hP hk=>?_⟩
 obtain⟨_,t,rfl⟩:=key _ v hP;exact⟨.int _,H,I.kept (t':=tk) (LSm.kept_iter hk),⟨t,rfl⟩,q⟩
def u8_(gt:Bool):List D->Option D
 |[.lst ds]=>(ints? ds).bind fun ns=>if ns.isEmpty then none else some (.int (u7_ gt ns))
 |[.tup ds]=>(ints? ds).bind fun ns=>if ns.isEmpty then none else some (.int (u7_ gt ns))
 |_=>none
theorem a7T{gt:Bool}:a1f X B (b1M X gt) (u8_ gt):=by
 intro G σ env H xs ds c Q rl r e k;unfold u8_ at e;split at e
 ·rename_i ds
  obtain⟨x,rfl,q⟩:=a1g r;obtain⟨ns,e1,e2⟩:=q8_ e;split at e2
  ·cases e2
  ·rename_i h0
   cases e2;simp only[Rep]at q;obtain⟨a,ys,rfl,h1,h2⟩:=q;have:=a1j h2 e1;subst this;exact⟨a,ns,rfl,.inl (rl.sub.sqL h1),by cases ns with|nil=>simp at h0|cons _ _=>simp,k _ G H (.refl rl) (by simp only[Rep])⟩
 ·rename_i ds
  obtain⟨x,rfl,q⟩:=a1g r;obtain⟨ns,e1,e2⟩:=q8_ e;split at e2
  ·cases e2
  ·rename_i h0
   cases e2;simp only[Rep]at q;obtain⟨a,ys,rfl,h1,h2⟩:=q;have:=a1j h2 e1;subst this;exact⟨a,ns,rfl,.inr (rl.sub.sqT h1),by cases ns with|nil=>simp at h0|cons _ _=>simp,k _ G H (.refl rl) (by simp only[Rep])⟩
 ·cases e
end
section
variable{X:Cx}{B:OA}{pos:Pos}{a b c e:Expr}{ms:Mo (List D)}
end
def whl(t:Mo Bool)(b:Mo Fl):Nat->Mo Fl
 |0,_=>none
 |n+1,env=>(t env).bind fun p=>if p.1=true then(b p.2).bind fun q=>match q.1 with
  |.nx=>whl t b n q.2
  |.ct=>whl t b n q.2
  |.bk=>some (.nx,q.2)
  |f=>some (f,q.2)else some (.nx,p.2)
def a2N(n:Nat)(t:Mo Bool)(b:Mo Fl):Mo Fl:=whl t b n
section
variable{X:Cx}{B:OA}{pos:Pos}{c:Expr}{t:Mo Bool}
theorem a3F{body:List Stmt}{mbd:Mo Fl}{n:Nat}(hp:PassesOwn (model X.prog X.w) X.A X.env X.xe)(hc:ET X B c t)(hb:ESs X B body mbd):ES X B (.While c body [] pos) (a2N n t mbd):=by
 refine ps_imp (b5M hp hc hb) ?_
 rintro D σ H ⟨G,env,fl,env',rl,e,k⟩;refine⟨fun m σ2 H2=>∃G2 env2,Ev X.K B G σ env H G2 σ2 env2 H2/\whl t mbd m env2=some (fl,env'),⟨n,G,env,.refl rl,e⟩,?_⟩
 rintro m σ2 H2 ⟨G2,env2,ev2,e2⟩;cases m with
 |zero=>cases e2
 |succ m=>
  obtain⟨⟨b1,env3⟩,e3,e4⟩:=q8_ e2;refine⟨G2,env2,b1,env3,ev2.rel,e3,fun G3 H3 ev3=>?_⟩
  have ev3':=ev2.trans ev3
  cases b1 with
  |false=>
   simp only[Zj,Yc]at e4 ⊢;cases e4;exact k σ2 G3 H3 ev3'
  |true=>
   simp only[Zm]at e4 ⊢;refine⟨fun σ' H'=>∃G4 env4,Ev X.K B G σ env H G4 σ' env4 H'/\whl t mbd m env4=some (fl,env'),fun σ' H' q=>⟨m,Xg m,q⟩,?_⟩
   obtain⟨⟨fl5,env5⟩,e6,e7⟩:=q8_ e4;refine⟨G3,env3,fl5,env5,ev3.rel,e6,?_⟩;cases fl5 with
   |nx=>exact fun σ6 G6 H6 ev6=>⟨G6,env5,ev3'.trans ev6,e7⟩
   |ct=>exact fun σ6 G6 H6 ev6=>⟨G6,env5,ev3'.trans ev6,e7⟩
   |bk=>cases e7;exact fun σ6 G6 H6 ev6=>k σ6 G6 H6 (ev3'.trans ev6)
   |ret d=>cases e7;exact fun v σ6 G6 H6 ev6=>k v σ6 G6 H6 (ev3'.trans ev6)
   |retL d=>cases e7;exact fun a xs σ6 G6 H6 ev6=>k a xs σ6 G6 H6 (ev3'.trans ev6)
end
section
variable{X:Cx}{B:OA}{pos:Pos}{e:Expr}{ma:Mo D}{ml:Mo (List D)}
end
section
variable{prog:Program}{w:World}{A:Around}{E:OE}{s:Shared}{c:Bool}
end
section
variable{prog:Program}{w:World}{A:Around}{E:OE}{s:Shared}
end
section
variable{X:Cx}{B:OA}{pos p:Pos}{a:Expr}{ms:Mo (List D)}{elts:List Expr}{kk:Nat}{tp:Pos}
end
def CXE(P:Program)(w:World):CXT:=fun outer H s E ev s'=>
 ∃(e t C:Addr) (H':Hp) (Bh:Heap),ev=.ref e/\s'.os=s.os/\AllBare s'.gens/\Heap.FlyingW Bh outer e (.ref C) (.ref t) s'.heap/\
  Un (frs outer) [] H H' s.heap s'.heap/\HOk P w H' Bh/\(∀b o,s.heap.get? b=some o->H b=none->b∉frs outer->Bh.get? b=some o)/\
  (∀b o,s.heap.get? b=some o->b∉frs outer->∃o',Bh.get? b=some o')/\E (.ref C) none H'
section
variable{X:Cx}{pins:OX}{σ:St}{H H':Hp}{s s':Shared}{E:XK}{e t C:Addr}{Bh:Heap}
structure XOk(X:Cx)(E:XK):Prop where
 pass:a5r (CXE X.prog X.w) X E
 made:∀(pins:OX) (σ:St) (H:Hp) (s:Shared) (h':Heap) (e C:Addr) (vs:List Value),Inv X pins σ H s->Heap.MadeExcOf s.heap h' e (.ref C) vs->E (.ref C) none H->X.xe (.ref e) {s with heap:=h'}
end
def vmro:List Value:=[.type "ValueError",.type "Exception",.type "BaseException",.type "object"]
def b1N(K:Qq)(n:Str):Bool:=match PySem.W.nsIn K mainGlobals n with
 |some (some (.ref C))=>PySem.W.excIn K C vmro "ValueError.__new__"
 |_=>false
abbrev Mx:=Env'->Option Str
section
variable(K:Qq)(B:OA)(E:XK)
end
section
variable{X:Cx}{B:OA}{E:XK}{pos p:Pos}{e:Expr}{es:List Expr}{st:Stmt}{rest:List Stmt}{x1 x2:Mx}{s1:Mo Fl}{ma:Mo D}
def SpX(K:Qq)(n:Nat)(g:List W->Option Str):Sp:=fun vs H _ E=>∃G ws c C,ws.length=n/\a3u ws/\Rel K u3_ G (vs.map some) ws H/\g ws=some c/\PySem.W.nsIn K mainGlobals c=some (some (.ref C))/\
 ∀G' ws' H',Ev K u3_ G (vs.map some) ws H G' (vs.map some) ws' H'->E (.ref C) none H'
structure DefX(P:Program)(w:World)(K:Qq)(mg:OU)(base:Heap)(x:Str)(k n:Nat)(g:List W->Option Str):Prop where
 ex:∃(f:Addr) (fd:FuncData) (ps:List Str),FnOk P w K mg base (CXE P w) k f fd ps (SpX K n g)/\ps.length=n/\mg x=some (.ref f)/\PySem.W.keepIn K (.ref f)=true/\a0s K fd ps []
end
open PySem.W Builtin Builtin.ObjectAttr Builtin.Getset_descriptor PySem.Calls
section
variable{prog:Program}{w:World}{A:Around}{E:OE}{K:Frag}{x C:Addr}{h:Heap}{g:Array GenState}{d:Drawn}{t:Nat}{os:OsState}
end
def b8g:List String:=["tuple","list","int","bool","str"]
def b1O(K:Frag)(C:Addr):Bool:=
 (mroIn K C (.type "BaseException")==some true)&&((mroIn K C (.type "object")==some true)&&((findIn K (.ref C) "__class__"==some (some (.builtin "object.__class__")))&&((specialIn K (.builtin "object.__class__") "__get__"==some (some (.builtin "getset_descriptor.__get__")))&&
 ((takesIn K (.builtin "object.__class__")==some true)&&((findIn K (.ref C) "__getattribute__"==some (some (.builtin "BaseException.__getattribute__")))&&((findIn K (.ref C) "__getattr__"==some none)&&((clsIn K C).isSome&&((kitOne K (.ref C) (.type "ValueError")==some true)&&b8g.all fun T=>kitOne K (.ref C) (.type T)==some false))))))))
structure ExcF(K:Frag)(S:Str)(names:List Str)(n:Str)(C:Addr):Prop where
 nm:nsIn K mainGlobals n=some (some (.ref C))
 one:b1N K n=true
 kit:b1O K C=true
 sub:∃D,nsIn K mainGlobals S=some (some (.ref D))/\mroIn K C (.ref D)=some true/\b1N K S=true/\b1O K D=true
 pair:∀m∈names,∃D,nsIn K mainGlobals m=some (some (.ref D))/\kitOne K (.ref C) (.ref D)=some (n==m)
section
variable{X:Cx}{B:OA}{pos p p2:Pos}{a:Expr}{ma:Mo D}{S m:Str}{names:List Str}
end
end L2.Mir
namespace L2.Mir
open PySem PySem.Spec PyProof.Rows PySem.W
section
variable{X:Cx}{pins:OX}{σ σ':St}{H:Hp}{s:Shared}{e:Addr}{φ:Heap->Prop}
end
section
variable{M:Model}{A:Around}{E:OE}{K:Frag}{e C Dd:Addr}{h:Heap}{g:Array GenState}{d:Drawn}{t:Nat}{os:OsState}
end
def b8h(a:Addr)(h:Heap):Prop:=∃o fd,h.get? a=some o/\o.data=.func fd
section
variable{X:Cx}{B:OA}{S n x y:Str}{names:List Str}{i0 i j:Nat}{fl:Addr}{o:Option Str}{G₀:Hp}{cp cpos epos sp yp np apos hpos tpos:Pos}
end
section
variable{X:Cx}{B:OA}{S n x y:Str}{names:List Str}{i0 i j:Nat}{fl:Addr}{o:Option Str}{G₀:Hp}{cp cpos epos sp yp np apos hpos tpos yp0 spos0 npos0:Pos}{rest:List Stmt}{m:Mo Fl}{kk:Nat}
end
section
variable{P:Program}{w:World}{K:Frag}{mg:OU}{base:Heap}{N':List Str}{q:Str}{scope:Scope}{fl:Addr}{cd:Value}{cl:List (Str×Addr)}{A:Around}{outer:List Env}{s:Shared}{H:Hp}{E:XK}{σ:St}
end
structure LamAt(K:Frag)(params:Arguments)(body:Expr)(scope:Scope)(N':List Str)(lq:Str)(fl c':Addr)(cl:List (Str×Addr))(σ:St)(s₁:Shared)(H₁:Hp)(outer₁:List Env):Prop where
 obj:∃pm ctv,s₁.heap.get? fl=some (kla_obj "<lambda>" lq params body scope cl pm c' ctv)
 free:H₁ fl=none
 nfr:fl∉frs outer₁
 code:∃φ,H₁ c'=some (.ext φ)/\∀h:Heap,φ h->h.CodeRec (.ref c') lq
 inj:∀x y c,cl.lookup x=some c->cl.lookup y=some c->x=y
 has:∀x,scope.names.lookup x=some .free->∃c,cl.lookup x=some c
 cell:∀x c,cl.lookup x=some c->(∃v,s₁.heap.IsCell c v)/\H₁ c=none/\c∉frs outer₁
 val:∀(i:Nat) (x:Str) (v:V),N'[i]? =some x->σ[i]? =some (some v)->Vis scope x->scope.names.lookup x=some .free/\∃c u,cl.lookup x=some c/\v6_ v u/\s₁.heap.IsCell c (some u)
 len:σ.length=N'.length
def b8i(P:Program)(w:World)(K:Frag)(mg:OU)(base:Heap)(kc:Nat)(fl:Addr)(s₁:Shared)(H₁:Hp)(outer₁:List Env)(o:Option Str)(G:Hp):Prop:=
 (∀(H':Hp) (s:Shared),Un (frs outer₁) [] H₁ H' s₁.heap s.heap->b8h fl s.heap)/\
 ∀(A:Around) (outer:List Env) (s:Shared) (Q:VK) (E:XK),Room kc A->Env0 P w K mg base A outer s H₁->Un (frs outer₁) [] H₁ H₁ s₁.heap s.heap->
  (o=none->∀v G' H',Ev K u3_ G [] [] H₁ G' [] [] H'->Q v H')->
  (∀n C,o=some n->nsIn K mainGlobals n=some (some (.ref C))->∀G' H',Ev K u3_ G [] [] H₁ G' [] [] H'->E (.ref C) none H')->
  codeAny (model P w) A (.call (.ref fl) ⟨[],[]⟩) (CR (CXE P w) outer P w H₁ s Q E) s
def b8j(mg:OU)(base:Heap):Prop:=∃bm o,mg "__builtins__"=some (.ref bm)/\bm≠builtinsNs/\bm≠mainGlobals/\base.get? bm=some o/\o.cls=.type "module"/\o.dict=some builtinsNs/\o.data=.plain
section
variable{X:Cx}{pins:OX}{σ:St}{H:Hp}{s:Shared}{P c:Addr}{ps:Array Value}{qual:Str}{scope:Scope}{cl:List (Str×Addr)}{params:Arguments}{body:Expr}{pos:Pos}
structure Made(X:Cx)(pins:OX)(σ:St)(H:Hp)(s:Shared)(P:Addr)(qual:Str)(params:Arguments)(body:Expr)(scope:Scope)(cl:List (Str×Addr))(fl c':Addr)(H1:Hp)(s1:Shared):Prop where
 inv:Inv X pins σ H1 s1
 ev:∀(B:OA) (G:Hp) (env:Env'),Rel X.K B G σ env H->Ev X.K B G σ env H G σ env H1
 obj:∃pm ctv,s1.heap.get? fl=some (kla_obj "<lambda>" (lamQ qual) params body scope cl pm c' ctv)
 new:s.heap.objs.size≤fl
 free:H1 fl=none
 code:H1 c'=some (LamC X.K P c')
 keep:∀b o,H b=none->s.heap.get? b=some o->s1.heap.get? b=some o/\H1 b=none
end
structure RefDef(P:Program)(w:World)(K:Frag)(mg:OU)(base:Heap)(x:Str)(k kc:Nat)(fr:Option Str->Option D):Prop where
 ex:∃f:Addr,mg x=some (.ref f)/\keepIn K (.ref f)=true/\∀(A:Around) (outer:List Env) (s:Shared) (H:Hp) (fl:Addr) (o:Option Str) (G:Hp) (Q:VK),Room k A->Env0 P w K mg base A outer s H->b8i P w K mg base kc fl s H outer o G->Rel K u3_ G [] [] H->
  (∃d,fr o=some d/\∀v G' H',Ev K u3_ G [] [] H G' [] [] H'->Rep K G' v d->Q v H')->codeAny (model P w) A (.call (.ref f) ⟨[.ref fl],[]⟩) (CR CX0 outer P w H s Q E0) s
structure TabF(K:Frag)(mg:OU)(base:Heap)(cd:Value)(qual:Str)(P:Addr):Prop where
 ex:∃c,cd=.ref c/\codeHdIn K c P=true/\codeIn K (.ref c) qual=true
 tq:tabQ K P qual=true
 bm:b8j mg base
section
variable{X:Cx}{B:OA}{x S qual:Str}{names:List Str}{k kc:Nat}{fr:Option Str->Option D}{P:Addr}{N':List Str}{scope:Scope}{keep:List Bool}{params:Arguments}{body:Expr}{mb:Mo D}{xb:Mx}{p lpos pos:Pos}{ps0:Array Value}
end
def b8k(ts:List Addr)(H:Hp):Prop:=∀P∈ts,∃ps,H P=some (.tbl ps)
def SpT(K:Frag)(ts:List Addr)(n:Nat)(f:Fn):Sp:=fun vs H Q E=>b8k ts H/\SpF K n f vs H Q E
end L2.Mir
namespace L2.Mir
open PySem PySem.Spec PyProof.Rows PySem.W
section
variable{X:Cx}{B:OA}{pos:Pos}{o e:Expr}{ma mb:Mo D}
end
open AutoSeq1 (wpAny_loadPart')
section
variable{prog:Program}{w:World}{A:Around}{E:OE}{s:Shared}
end
section
variable{X:Cx}{B:OA}{pos:Pos}{a b c e:Expr}{ms:Mo (List D)}
end
section
variable{X:Cx}{B:OA}{pos:Pos}
end
end L2.Mir
namespace L2.Mir
open PySem PySem.W
structure DfAt(K:Frag)(x:Str)(st:Stmt)(f:Addr)(pm:Value)(cd:Addr):Prop where
 a:nsIn K mainGlobals x=some (some (.ref f))
 l:K.lookup f=some ⟨.type "function",none,.func (fnOf x x (a2C st) (a1H st) (y1_ st) .none .none .none pm none (.ref cd) .none),⟨[]⟩⟩
 c:codeIn K (.ref cd) x=true
 k:keepIn K (.ref f)=true
theorem DfAt.f{K:Frag}{x:Str}{st:Stmt}{f:Addr}{pm:Value}{cd:Addr}(A:DfAt K x st f pm cd):Fun K x x st f (fnOf x x (a2C st) (a1H st) (y1_ st) .none .none .none pm none (.ref cd) .none):=b6N A.l A.c A.k
theorem DfAt.g{K:Frag}{x:Str}{st:Stmt}{f:Addr}{pm:Value}{cd:Addr}{h:Heap}{mg:OU}(A:DfAt K x st f pm cd)(X:K.In h)(G:h.Ns mainGlobals mg):mg x=some (.ref f):=mg_of X G A.a
theorem dM(P:Program)(w:World)(base:Heap){K:Frag}{x:Str}{st:Stmt}{f cd:Addr}{pm:Value}{k n:Nat}{fn:Fn}{fd:FuncData}{ps:List Str}{h:Heap}{mg:OU}(o:FnOk P w K mg base CX0 k f fd ps (SpF K n fn))(A:DfAt K x st f pm cd)(X:K.In h)(G:h.Ns mainGlobals mg)(b:a0s K fd ps [])(e:ps.length=n:=by rfl):Def P w K mg base x k n fn:=⟨_,_,_,o,e,A.g X G,A.k,b⟩
theorem dX(P:Program)(w:World)(base:Heap){K:Frag}{x:Str}{st:Stmt}{f cd:Addr}{pm:Value}{k n:Nat}{g:List W->Option Str}{fd:FuncData}{ps:List Str}{h:Heap}{mg:OU}(o:FnOk P w K mg base (CXE P w) k f fd ps (SpX K n g))(A:DfAt K x st f pm cd)(X:K.In h)(G:h.Ns mainGlobals mg)(b:a0s K fd ps [])(e:ps.length=n:=by rfl):DefX P w K mg base x k n g:=⟨_,_,_,o,e,A.g X G,A.k,b⟩
def a0W(elt:Expr)(gens:List Comprehension)(scope:Scope)(pos:Pos)(d:Nat)(acc:Value)(env:Env):Sem Unit:=match gens[d+1]? with
 |some g'=>do
  let x←eval g'.iter env
  standAt g'.iter.pos
  let x←if g'.is_async !=0 then foldedIterable g'.iter x else foldedSetIterable g'.iter env x
  let _←runOwn (.compStart (.ListComp elt gens scope pos) (d+1) (←holding [x] (if g'.is_async !=0 then asyncIter x else pyIter x)) acc env) env
 |none=>do let _←call (.builtin "list.append") [acc,←eval elt env]
theorem b8l{elt target iter:Expr}{ifs:List Expr}{gens:List Comprehension}{scope:Scope}{pos:Pos}{d:Nat}{it acc:Value}{env:Env}(hd:gens[d]? =some ⟨target,iter,ifs,0⟩):
  compTurn (.ListComp elt gens scope pos) d it acc env=(do
   standAt iter.pos
   match←pyNext it with
   |none=>pure (.done .next)
   |some v=>
    letOwnedTupleGo target it v
    assign target env v
    let mut ok:=true
    for c in ifs do
     if ok then ok←isTrue c env (eval c env)
    if ok then
     a0W elt gens scope pos d acc env
    again (.compLoop (.ListComp elt gens scope pos) d it acc env)):=by
 unfold compTurn a0W;dsimp only;rw[hd];cases gens[d+1]? with
 |none=>rfl
 |some g'=>
  show(standAt iter.pos>>=fun _=>pyNext it>>=fun r=>_)=_
  refine Yb (standAt iter.pos>>= ·) (funext fun _=>Yb (pyNext it>>= ·) (funext fun r=>?_))
  cases r with
  |none=>rfl
  |some v=>
   refine Yb (letOwnedTupleGo target it v>>= ·) (funext fun _=>Yb (assign target env v>>= ·) (funext fun _=>Yb (_>>= ·) (funext fun ok=>?_)))
   cases ok with
   |false=>rfl
   |true=>
    by_cases ha:(g'.is_async !=0)=true
    ·simp only[ha,Zm,bind_assoc,pure_bind]
    ·simp only[ha,Zm,Yc,bind_assoc,pure_bind,Zj]
section
variable{prog:Program}{w:World}{A:Around}{R:Result->Shared->Prop}{s:Shared}
theorem b1P{elt target iter:Expr}{ifs:List Expr}{gens:List Comprehension}{scope:Scope}{pos:Pos}{d:Nat}{it acc:Value}{env:Env}(hd:gens[d]? =some ⟨target,iter,ifs,0⟩)(I:Nat->Shared->Prop)
  (turn:∀n s,I n s->wpAny (model prog w) A (pyNext it) (fun r s₁=>match r with
   |none=>R (.ok .next) s₁
   |some v=>wpAny (model prog w) A (letOwnedTupleGo target it v) (fun _ s₁'=>wpAny (model prog w) A (assign target env v) (fun _ s₂=>
     wpAny (model prog w) A (forIn ifs true fun c r=>if r=true then do let ok←isTrue c env (eval c env);pure (ForInStep.yield ok)else pure (ForInStep.yield r)) (fun ok s₃=>
      if ok=true then wpAny (model prog w) A (a0W elt gens scope pos d acc env) (fun _ s₅=>∃m,m<n/\I m s₅) (fun _ _=>False) s₃
      else∃m,m<n/\I m s₃) (fun _ _=>False) s₂) (fun _ _=>False) s₁') (fun _ _=>False) s₁) (fun _ _=>False) s)
  (n:Nat)(h:I n s):
  codeAny (model prog w) A (.compLoop (.ListComp elt gens scope pos) d it acc env) R s:=by
 refine codeAny_loop rfl I (fun n s hI=>?_) n h
 show wpAny _ A ((compTurn (.ListComp elt gens scope pos) d it acc env).onRaise (fun x=>do noteFrame x env;theTreesLotGoes x)) _ _ s
 refine wpAny_noted ?_
 rw[b8l hd];refine Qz (Js (Qz (Zy (turn n s hI) (fun r s₁ h₁=>?_) fun _ _ h'=>h'.elim)))
 cases r with
 |none=>exact Qv h₁
 |some v=>
  refine Qz (Zy h₁ (fun _ s₁' h₁'=>?_) fun _ _ h'=>h'.elim)
  refine Qz (Zy h₁' (fun _ s₂ h₂=>Qz (Zy h₂ (fun ok s₃ h₃=>?_) fun _ _ h'=>h'.elim)) fun _ _ h'=>h'.elim)
  cases ok with
  |false=>exact Qv ⟨rfl,h₃⟩
  |true=>exact Qz (Zy h₃ (fun _ s₅ h₅=>Qv ⟨rfl,h₅⟩) fun _ _ h'=>h'.elim)
theorem b8m{elt target iter:Expr}{ifs:List Expr}{gens:List Comprehension}{scope:Scope}{pos:Pos}{d:Nat}{it acc:Value}{env:Env}(hd:gens[d]? =some ⟨target,iter,ifs,0⟩)
  (h0:codeAny (model prog w) A (.compLoop (.ListComp elt gens scope pos) d it acc env) R s)
  (h:wpAny (model prog w) A (pyIter it) (fun it' s'=>codeAny (model prog w) A (.compLoop (.ListComp elt gens scope pos) d it' acc env) R s')
   (notedBy (model prog w) A env fun x s'=>R (.error x) s') s):
  codeAny (model prog w) A (.compStart (.ListComp elt gens scope pos) d it acc env) R s:=by
 refine codeAny_of_tree ?_
 show wpAny _ _ ((compStart (.ListComp elt gens scope pos) d it acc env).onRaise (fun x=>do noteFrame x env;standAt theWindowsPlace)) _ _ s
 refine wpAny_notedAt ?_
 unfold compStart;rw[show clausesOf (.ListComp elt gens scope pos)=gens from rfl,hd]
 show wpAny _ _ (ask>>=_) _ _ s;refine Qz (wpAny_askSetting (wpAny_ite ?_));split
 ·first
   |exact Qz (Qv (Qv (And.intro rfl h0)))
   |exact Qv (And.intro rfl h0)
 ·first
   |exact Qz (Uy (Qz (Js (Qz (Zy h (fun it' s' h'=>Qv (And.intro rfl h')) fun _ _ x=>x)))))
   |(refine Qz (Uy ?_);show wpAny _ _ (standAt iter.pos>>=_) _ _ s;exact Qz (Js (Qz (Zy h (fun it' s' h'=>Qv (And.intro rfl h')) fun _ _ x=>x))))
end
abbrev a0X:=St->Hp->(St->Hp->Prop)->Prop
def a6b(J:It)(g:TG)(tt:TT)(act:a0X)(σ₀:St)(H₀:Hp)(Q:St->Hp->Prop):Prop:=
 ∃W:Nat->Nat->St->Hp->Prop,(∃m,W 0 m σ₀ H₀)/\∀i m σ H,W i m σ H->
  (J.stop i H/\Q σ H)∨(J.go i H/\∀x H',J.yld i H x H'->g x σ H' fun σ2 H2=>tt σ2 H2 fun b H3=>
   if b=true then act σ2 H3 fun σ4 H4=>∃m',m'<m/\W (i+1) m' σ4 H4 else∃m',m'<m/\W (i+1) m' σ2 H3)
def a1Q(X:Cx)(sem:Sem Unit)(act:a0X):Prop:=∀(pins:OX) (s:Shared) (σ:St) (H:Hp) (Q:St->Hp->Prop),Inv X pins σ H s->act σ H Q->
 wpAny (model X.prog X.w) X.A sem (fun _ s'=>∃σ' H',Inv X pins σ' H' s'/\Q σ' H') (fun _ _=>False) s
def b1Q(te:TE)(p:Addr):a0X:=fun σ H Q=>te σ H fun y H4=>∃ys,H4 p=some (.lst ys)/\ys.length<sizeLine/\Q σ (upd H4 p (.lst (ys++[y])))
def b1R(wi:TI)(g:TG)(tt:TT)(act:a0X):a0X:=fun σ H Q=>wi σ H fun J H1=>a6b J g tt act σ H1 Q
section
variable{X:Cx}{elt:Expr}{gens:List Comprehension}{scope:Scope}{pos:Pos}{d:Nat}
theorem b8n{te:TE}{p:Addr}(hx:∀e s,¬ X.xe e s)(hn:gens[d+1]? =none)(he:PE X elt te):a1Q X (a0W elt gens scope pos d (.ref p) X.env) (b1Q te p):=by
 intro pins s σ H Q I h;unfold a0W;rw[hn];refine Qz (Zy (he pins s σ H _ I h) (fun v s1 ⟨y,H1,I1,r1,ys,hys,hl,q⟩=>?_) fun e s' z=>(hx e s' z).elim)
 refine Qz (Zy (b0O (X:=X) _ s1 σ H1 (.ref p) [y] (.ref p) [v] (fun _ H2=>Q σ H2) I1 rfl (.cons r1 .nil) ⟨p,ys,y,rfl,rfl,hys,hl,q⟩) (fun _ s2 ⟨_,H2,I2,_,w2⟩=>Qv ⟨σ,H2,I2,w2⟩) fun e s' z=>(hx e s' z).elim)
theorem b8o{tg iter:Expr}{ifs:List Expr}{wi:TI}{g:TG}{tt:TT}{act:a0X}{acc:Value}(hx:∀e s,¬ X.xe e s)(hc:X.calm=true)(hd:gens[d+1]? =some ⟨tg,iter,ifs,0⟩)(hi:PI X tg iter wi)(hg:PG X tg g)(ht:a0H X ifs tt)
  (ha:a1Q X (a0W elt gens scope pos (d+1) acc X.env) act)(hs:∀x,foldedSetIterable iter X.env x=pure x):a1Q X (a0W elt gens scope pos d acc X.env) (b1R wi g tt act):=by
 intro pins s σ H Q I h;unfold a0W;rw[hd];have nof:∀(e:Value) (s:Shared),X.xe e s->False:=fun e s z=>hx e s z
 refine Qz (Zy (hi pins s σ H _ I h) (fun v s1 h1=>?_) fun e s' z=>(hx e s' z).elim)
 refine Qz (Js ?_);show wpAny _ _ (foldedSetIterable iter X.env v>>=_) _ _ s1;refine Qz (wpAny_of_eq (hs v) ?_);show wpAny _ _ (holding [v] (pyIter v)>>=_) _ _ s1;refine Qz (Yr (Zy h1 (fun itv s2 h2=>?_) fun e s' z=>(hx e s' z).elim))
 obtain⟨it,fp,tn,J,H2,e,I2,T,st2,f2,W,⟨m0,w0⟩,turn⟩:=h2;subst e;have stat:∀{H':Hp},(∀b∈fp,H' b=none)->∀b∈fp,u1_ X pins H' b:=fun hn b hb=>⟨hn b hb,(f2 b hb).2⟩
 have loop:codeAny (model X.prog X.w) X.A (.compLoop (.ListComp elt gens scope pos) (d+1) (.ref it) acc X.env) (fun r s'=>match r with|.ok f=>wpAny (model X.prog X.w) X.A (pure ()) (fun _ s'=>∃σ' H',Inv X pins σ' H' s'/\Q σ' H') (fun _ _=>False) s'|.error e=>cameBackBy (model X.prog X.w) X.A X.env (fun _ _=>False) e s') s2:=by
  refine b1P hd (fun n s'=>∃i σ' H',Inv X pins σ' H' s'/\tn i s'.heap/\(∀b∈fp,H' b=none)/\W i n σ' H') ?_ m0 ⟨0,σ,H2,I2,st2,fun b hb=>(f2 b hb).1,w0⟩
  rintro n s3 ⟨i,σ3,H3,I3,st3,fr3,w3⟩
  rcases turn i n σ3 H3 w3 with⟨stop,qn⟩|⟨go,step⟩
  ·refine Zy (T.done X rfl rfl rfl hc i pins s3 σ3 H3 (fun _ _=>False) I3 (stat fr3) st3 stop) (fun r s4 ⟨hr,I4⟩=>?_) fun _ _ z=>z
   subst hr;exact Qv ⟨σ3,H3,I4,qn⟩
  ·refine Zy (T.item X rfl rfl rfl hc i pins s3 σ3 H3 (fun _ _=>False) I3 (stat fr3) st3 go) (fun r s4 ⟨u,hr,h4⟩=>?_) fun _ _ z=>z
   subst hr;refine Zy h4 (fun _ s5 ⟨x,H5,I5,r5,y5,st5,fr5⟩=>?_) fun _ _ z=>z
   have I5':=I5.pinned (stat fr5) (T.obj _ _ st5)
   have back:∀{σ8:St}{H8:Hp}{s8:Shared}{m':Nat},Inv X (pins++a3g fp s5.heap) σ8 H8 s8->m'<n->W (i+1) m' σ8 H8->∃m,m<n/\∃i σ' H',Inv X pins σ' H' s8/\tn i s8.heap/\(∀b∈fp,H' b=none)/\W i m σ' H':=fun{σ8 H8 s8 m'} I8 hm w8=>by
    refine⟨m',hm,i+1,σ8,H8,I8.unpinned,T.keep _ _ _ st5 fun b hb o e=>(I8.pin (b,o) (Zq _ (Zq _ (a3h hb e)))).1,fun b hb=>?_,w8⟩
    obtain⟨o,e,d⟩:=T.obj _ _ st5 b hb;exact(I8.pin (b,o) (Zq _ (Zq _ (a3h hb e)))).2.1
   refine Zy (hg _ s5 σ3 H5 x u _ I5' r5 (step x H5 y5)) (fun _ s6 ⟨σ6,H6,I6,q6⟩=>?_) nof
   refine Zy (ht _ s6 σ6 H6 _ I6 q6) (fun b s7 ⟨H7,I7,q7⟩=>?_) nof
   cases b with
   |false=>
    simp only[Zj,Yc]at q7 ⊢;obtain⟨m',hm,w7⟩:=q7;exact back I7 hm w7
   |true=>
    simp only[Zm]at q7 ⊢;exact Zy (ha _ s7 σ6 H7 _ I7 q7) (fun _ s8 ⟨σ8,H8,I8,m',hm,w8⟩=>back I8 hm w8) fun _ _ z=>z
 refine Qz (wpAny_runOwn (h:=none) (b8m hd loop (Zy (T.self X.A 0 s2 _ (fun _ _=>False) st2 loop) (fun _ _ q=>q) fun _ _ q=>q.elim)))
end
section
variable{X:Cx}{N':List Str}{scope:Scope}{keep:List Bool}{more:Nat}{tg iter elt:Expr}{ifs:List Expr}{gs:List Comprehension}{g:TG}{tt:TT}{act:Addr->a0X}{pos:Pos}
theorem b1S{E:OE}{pins:OX}{σ:St}{H:Hp}{s:Shared}{it:Addr}{fp:List Addr}{tn:Nat->Heap->Prop}{J:It}{Qf:Addr->Hp->Prop}{RR:Value->Addr->Result->Shared->Prop}
  (ok:CompOk X N' scope keep more)(hc:X.calm=true)(hg:∀s H fp,PG (x6_ X N' scope s H fp) tg g)(ht:∀s H fp,a0H (x6_ X N' scope s H fp) ifs tt)(he:∀s H fp p,a1Q (x6_ X N' scope s H fp) (a0W elt (⟨tg,iter,ifs,0⟩::gs) scope pos 0 (.ref p) (x6_ X N' scope s H fp).env) (act p))
  (I:Inv X pins σ H s)(T:Turn X.prog X.w X.K tg J fp it tn)(st:tn 0 s.heap)(hf:∀b∈fp,u1_ X pins H b)
  (run:∀p,H p=none->a6b J g tt (act p) (a0f keep more σ) (upd H p (.lst [])) (fun _ H'=>Qf p H'))
  (hRR:∀p C s' H' m,Inv X pins σ H' s'->Qf p H'->s'.heap.Ns C m->C≠X.env.locals->(∀x c,X.env.cells.lookup x=some c->c≠C)->H' C=none->(∀σ'' H'' s'' h',Inv X pins σ'' H'' s''->H'' C=none->Heap.SameBut C s''.heap h'->Inv X pins σ'' H'' {s'' with heap:=h'})->RR (.ref p) C (.ok .next) s'):
  wpAny (model X.prog X.w) X.A (newList []) (fun acc s₃=>wpAny (model X.prog X.w) X.A (newFunctionEnv scope X.env.globals (g6_ X.env.cells scope.names []) [] X.env.qual none .none (some X.env)) (fun cenv s₄=>
   codeAny (model X.prog X.w) X.A (.compStart (.ListComp elt (⟨tg,iter,ifs,0⟩::gs) scope pos) 0 (.ref it) acc {cenv with scope:=relabel scope X.env}) (RR acc cenv.locals) s₄) E s₃) E s:=by
 have hp0:H s.heap.objs.size=none:=I.hok.fresh (Qp _)
 refine Ym ?_
 have I3:Inv X pins σ (upd H s.heap.objs.size (.lst [])) {s with heap:=s.heap.push {cls:=.type "list",dict:=none,data:=.seq ([]:List Value).toArray}}:=
  I.laid (t':=s.toks) (fun b u e=>Qx _ e) (Qp _) ⟨Va _,[],0,.nil,Qn _ rfl⟩
 have fpOld:∀b∈fp,b<s.heap.objs.size:=fun b hb=>by
  obtain⟨o,e,_⟩:=T.obj 0 _ st b hb;exact Qh e
 have hf3:∀b∈fp,u1_ X pins (upd H s.heap.objs.size (.lst [])) b/\b<(s.heap.push {cls:=.type "list",dict:=none,data:=.seq ([]:List Value).toArray}).objs.size:=fun b hb=>by
  refine⟨⟨by rw[v9_ (Zw (fpOld b hb))];exact(hf b hb).1,(hf b hb).2⟩,?_⟩
  rw[Yx];exact Xu (fpOld b hb)
 have st3:tn 0 (s.heap.push {cls:=.type "list",dict:=none,data:=.seq ([]:List Value).toArray}):=T.keep 0 _ _ st fun b hb o e=>Qx _ e
 generalize hs3:({s with heap:=s.heap.push {cls:=.type "list",dict:=none,data:=.seq ([]:List Value).toArray}}:Shared)=s3 at I3 ⊢
 have hs3h:s3.heap=s.heap.push {cls:=.type "list",dict:=none,data:=.seq ([]:List Value).toArray}:=by rw[←hs3]
 rw[←hs3h]at hf3 st3;generalize hp:s.heap.objs.size=p at hp0 I3 hf3 ⊢;generalize hH3:upd H p (.lst [])=H3 at I3 hf3;refine b7m _ ?_
 have I4:=b7l ok I3 hf3
 generalize hs4:({s3 with heap:=pushCells (s3.heap.push {cls:=.type "dict",data:=.dict #[]}) scope.names}:Shared)=s4 at I4 ⊢
 have st4:tn 0 s4.heap:=T.keep 0 _ _ st3 fun b hb o e=>by rw[←hs4];exact Vm _ _ _ _ (Qx _ e)
 obtain⟨W,⟨m0,w0⟩,turn⟩:=run p hp0;have stat:∀{H':Hp},(∀b∈fp,H' b=none)->∀b∈fp,u1_ (x6_ X N' scope s3 H3 fp) [] H' b:=fun hn b hb=>by
  have z:=I4.ok.exf b hb
  exact⟨hn b hb,z.1,I4.ok.exfs b hb,.inl hb,z.2,fun p hp=>absurd (show p∈([]:OX)from hp) (by simp)⟩
 have loop:codeAny (model X.prog X.w) X.A (.compLoop (.ListComp elt (⟨tg,iter,ifs,0⟩::gs) scope pos) 0 (.ref it) (.ref p) (a3y scope X.env s3.heap.objs.size)) (RR (.ref p) s3.heap.objs.size) s4:=by
  refine b1P (d:=0) rfl (fun n s'=>∃i σ' H',Inv (x6_ X N' scope s3 H3 fp) [] σ' H' s'/\tn i s'.heap/\(∀b∈fp,H' b=none)/\W i n σ' H') ?_ m0 ⟨0,_,H3,I4,st4,fun b hb=>(hf3 b hb).1.1,by rw[←hH3];exact w0⟩
  rintro n s5 ⟨i,σ5,H5,I5,st5,fr5,w5⟩
  rcases turn i n σ5 H5 w5 with⟨stop,qf⟩|⟨go,step⟩
  ·refine thn (T.done (x6_ X N' scope s3 H3 fp) rfl rfl rfl hc i [] s5 σ5 H5 (fun _ _=>False) I5 (stat fr5) st5 stop) fun r s6 ⟨hr,I6⟩=>?_
   subst hr;obtain⟨m6,hn6,_⟩:=I6.loc;have hch:∀b∈fp,(b∈X.ex∨X.s₀.heap.objs.size≤b)/\b≠X.env.locals/\(∀x c,X.env.cells.lookup x=some c->c≠b)/\∀p∈X.pn++pins,p.1≠b:=fun b hb=>by
    obtain⟨_,f1,_,f3,f4,f5⟩:=hf b hb;exact⟨f3,f1,f4,f5⟩
   have IX:Inv X pins σ H5 s6:=I3.call' (s':=s6) (I6.os) (I6.base) I6.hok I6.bare hch
   have szC:X.s₀.heap.objs.size≤s3.heap.objs.size:=I3.sz
   have hCL:s3.heap.objs.size≠X.env.locals:=Jc I3.lt
   have hCc:∀x c,X.env.cells.lookup x=some c->c≠s3.heap.objs.size:=fun x c e=>by
    obtain⟨v,q⟩:=I3.cell x c e;exact Zw q.lt
   have hCp:∀q∈X.pn++pins,q.1≠s3.heap.objs.size:=fun q hq=>Zw (Qh (I3.pin q hq).1)
   refine hRR p s3.heap.objs.size s6 H5 m6 IX qf hn6 hCL hCc I6.free fun σ'' H'' s'' h' I'' hn hs=>?_
   exact I''.turned (t':=s''.toks) (it:=s3.heap.objs.size) (fun b o hb e=>(hs.2 b hb).trans e) hn hCL (.inr szC) hCc hCp
  ·refine thn (T.item (x6_ X N' scope s3 H3 fp) rfl rfl rfl hc i [] s5 σ5 H5 (fun _ _=>False) I5 (stat fr5) st5 go) fun r s6 ⟨u,hr,h6⟩=>?_
   subst hr;refine thn h6 fun _ s7 ⟨x,H7,I7,r7,y7,st7,fr7⟩=>?_
   have I7':=I7.pinned (stat fr7) (T.obj _ _ st7)
   have back:∀{σ8:St}{H8:Hp}{s8:Shared}{m':Nat},Inv (x6_ X N' scope s3 H3 fp) ([]++a3g fp s7.heap) σ8 H8 s8->m'<n->W (i+1) m' σ8 H8->∃m,m<n/\∃i σ' H',Inv (x6_ X N' scope s3 H3 fp) [] σ' H' s8/\tn i s8.heap/\(∀b∈fp,H' b=none)/\W i m σ' H':=fun{σ8 H8 s8 m'} I8 hm w8=>by
    refine⟨m',hm,i+1,σ8,H8,I8.unpinned,T.keep _ _ _ st7 fun b hb o e=>(I8.pin (b,o) (Zq _ (Zq _ (a3h hb e)))).1,fun b hb=>?_,w8⟩
    obtain⟨o,e,d⟩:=T.obj _ _ st7 b hb;exact(I8.pin (b,o) (Zq _ (Zq _ (a3h hb e)))).2.1
   refine thn (hg s3 H3 fp _ s7 σ5 H7 x u _ I7' r7 (step x H7 y7)) fun _ s8 ⟨σ8,H8,I8,q8⟩=>?_
   refine thn (ht s3 H3 fp _ s8 σ8 H8 _ I8 q8) fun b s9 ⟨H9,I9,q9⟩=>?_
   cases b with
   |false=>
    simp only[Zj,Yc]at q9 ⊢;obtain⟨m',hm,w9⟩:=q9;exact back I9 hm w9
   |true=>
    simp only[Zm]at q9 ⊢;exact thn (he s3 H3 fp p _ s9 σ8 H9 _ I9 q9) fun _ s10 ⟨σ10,H10,I10,m',hm,w10⟩=>back I10 hm w10
 refine codeAny_compStart_list loop ?_
 exact Zy (T.self X.A 0 s4 _ (fun _ _=>False) st4 loop) (fun _ _ q=>q) fun _ _ q=>q.elim
def a7U(wi:TI)(keep:List Bool)(more:Nat)(g:TG)(tt:TT)(act:Addr->a0X):TE:=fun σ H Q=>wi σ H fun J H1=>∀p,H1 p=none->a6b J g tt (act p) (a0f keep more σ) (upd H1 p (.lst [])) (fun _ H'=>Q (.ref p) H')
theorem b8p{wi:TI}(ok:CompOk X N' scope keep more)(hc:X.calm=true)(hi:PI X tg iter wi)(hg:∀s H fp,PG (x6_ X N' scope s H fp) tg g)(ht:∀s H fp,a0H (x6_ X N' scope s H fp) ifs tt)
  (he:∀s H fp p,a1Q (x6_ X N' scope s H fp) (a0W elt (⟨tg,iter,ifs,0⟩::gs) scope pos 0 (.ref p) (x6_ X N' scope s H fp).env) (act p))
  (hs:∀x,foldedSetIterable iter X.env x=pure x:=by intro _;rfl):PE X (.ListComp elt (⟨tg,iter,ifs,0⟩::gs) scope pos) (a7U wi keep more g tt act):=by
 intro pins s σ H Q I h;rw[eval_ListComp];refine wpAny_comprehension_free (use:=none) rfl hs ok.clos ok.kind (fun x hx hl=>by have:=ok.uniq x hx;rwa [hl]at this) (thn (hi pins s σ H _ I h) fun v s1 h1=>thn h1 fun itv s2 h2=>?_)
 obtain⟨it,fp,tn,J,H2,e,I2,T,st2,f2,run⟩:=h2;subst e;refine b1S (Qf:=fun p H'=>Q (.ref p) H') (RR:=fun acc C=>compPost (model X.prog X.w) X.A X.xe none (EP X pins σ Q) acc C) ok hc hg ht he I2 T st2 f2 run ?_
 intro p C s' H' m IX qf hn hCL hCc hCn turn;exact⟨m,hn,fun h' hs'=>⟨.ref p,H',turn σ H' s' h' IX hCn hs',rfl,qf⟩⟩
end
def a0J(m:Mo D):Mo (List D):=fun env=>(m env).map fun q=>([q.1],q.2)
def a1l(g:OZ)(t:Mo Bool)(a:Mo (List D)):List D->Mo (List D)
 |[],env=>some ([],env)
 |d::ds,env=>(g d env).bind fun e1=>(t e1).bind fun p=>if p.1 then(a p.2).bind fun q=>(a1l g t a ds q.2).map fun r=>(q.1++r.1,r.2)else a1l g t a ds p.2
def aIn(mi:Mo (List D))(g:OZ)(t:Mo Bool)(a:Mo (List D)):Mo (List D):=fun env=>(mi env).bind fun p=>a1l g t a p.1 p.2
def a2O(mi:Mo (List D))(keep:List Bool)(more:Nat)(g:OZ)(t:Mo Bool)(a:Mo (List D)):Mo (List D):=fun env=>(mi env).bind fun p=>
 (a1l g t a p.1 (g0_ keep more p.2)).bind fun q=>if q.1.length≤100000 then(j6_ keep p.2 q.2).map fun e=>(q.1,e)else none
theorem b8q{H:Hp}{p:Addr}{o:HO}(h:H p=some o):upd H p o=H:=by
 funext b
 by_cases hb:b=p
 ·subst hb;rw[x8_,h]
 ·rw[v9_ hb]
section
variable{K:Qq}{B:OA}{n:Nat}
def TAc(K:Qq)(B:OA)(n:Nat)(a:Mo (List D))(p:Addr):a0X:=fun σ H Q=>∃G env zs env' ys,Rel K B G σ env H/\ ¬ Owned σ env p/\G p=none/\H p=some (.lst ys)/\a env=some (zs,env')/\ys.length+zs.length≤100000/\
 ∀σ' G' H' vs,Ev K B G σ env (upd H p (.lst (ys++vs))) G' σ' env' H'->(∀j,j<n->σ'[j]? =σ[j]?)->H' p=some (.lst (ys++vs))->z8_ K G' vs zs->Q σ' H'
theorem b8r{m:Mo D}{p:Addr}:∀σ H Q,TAc K B n (a0J m) p σ H Q->b1Q (TD K B m) p σ H Q:=by
 rintro σ H Q ⟨G,env,zs,env',ys,rl,no,gp,hp,e,hl,k⟩;obtain⟨⟨d,env1⟩,e1,e2⟩:=y8_ e;cases e2;refine⟨G,env,d,env1,rl,e1,fun v G' H' ev r=>?_⟩
 have hp':H' p=some (.lst ys):=ev.keep p _ no nt_lst hp
 refine⟨ys,hp',Qa (by simp at hl;omega) (show 100000≤sizeLine by decide),?_⟩
 exact k σ G' _ [v] (ev.swapAt no (by rw[hp];simp) gp nt_lst (fun φ z=>by rw[hp']at z;cases z)) (fun _ _=>rfl) x8_ (repL_cons r repL_nil)
theorem b1T{g:OZ}{t:Mo Bool}{a:Mo (List D)}{p:Addr}{J:It}{G1:Hp}{σ:St}{env1 envF:Env'}{H1:Hp}{items zs:List D}{ys:List V}{Q:St->Hp->Prop}(rl:Rel K B G1 σ env1 H1)(itd:ItD K J G1 items)(no:¬ Owned σ env1 p)(gp:G1 p=none)
  (hp:H1 p=some (.lst ys))(e3:a1l g t a items env1=some (zs,envF))(hl:ys.length+zs.length≤100000)
  (k:∀σ' G' H' vs,Ev K B G1 σ env1 (upd H1 p (.lst (ys++vs))) G' σ' envF H'->(∀j,j<n->σ'[j]? =σ[j]?)->H' p=some (.lst (ys++vs))->z8_ K G' vs zs->Q σ' H'):
  a6b J (TGm K B n g) (TTm K B t) (TAc K B n a p) σ H1 Q:=by
 have hpS:∀us,(upd H1 p (.lst us)) p=some (.lst us):=fun us=>x8_
 refine⟨fun i m' σ2 H2=>m'=items.length-i/\i≤items.length/\∃G2 env2 vs acc rest,Ev K B G1 σ env1 (upd H1 p (.lst (ys++vs))) G2 σ2 env2 H2/\(∀j,j<n->σ2[j]? =σ[j]?)/\
   z8_ K G2 vs acc/\a1l g t a (items.drop i) env2=some (rest,envF)/\acc++rest=zs,⟨_,rfl,Va _,G1,env1,[],[],zs,?_,fun _ _=>rfl,repL_nil,by simpa using e3,by simp⟩,?_⟩
 ·rw[Jq,b8q hp];exact .refl rl
 rintro i m' σ2 H2 ⟨rfl,hi,G2,env2,vs,acc,rest,ev2,y2,r2,c2,t2⟩;have hp2:H2 p=some (.lst (ys++vs)):=ev2.keep p _ no nt_lst (hpS _);have lH:Le G1 H2:=ev2.same.trans ev2.rel.sub
 by_cases hlt:i<items.length
 ·refine .inr ⟨itd.go i H2 lH hlt,fun x H3 y=>?_⟩
  have ed:items.drop i=items[i]::items.drop (i+1):=List.drop_eq_getElem_cons hlt
  rw[ed]at c2;obtain⟨env4,e7,e8⟩:=q8_ c2;obtain⟨⟨b,env5⟩,e9,e10⟩:=q8_ e8;have hget:items[i]? =some items[i]:=by simp[hlt]
  have st:∃G3,Ev K B G1 σ env1 (upd H1 p (.lst (ys++vs))) G3 σ2 env2 H3/\Le G2 G3/\Rep K G3 x items[i]:=by
   rcases itd.yld i H2 x H3 items[i] lH y hget with⟨rfl,r⟩|⟨q,o,hno,hq,rfl,r⟩
   ·exact⟨G2,ev2,Le.refl,Rep.mono ev2.same _ r⟩
   ·have gq:=ev2.rel.gnone hq
    refine⟨upd G2 q o,ev2.trans (ev2.rel.alloc hq hno),Le.upd gq,Rep.mono (fun b u z=>?_) _ r⟩
    by_cases hb2:b=q
    ·subst hb2;rw[x8_]at z ⊢;exact z
    ·rw[v9_ hb2]at z ⊢;exact ev2.same b u z
  obtain⟨G3,ev3,l3,r3⟩:=st;refine⟨G3,env2,items[i],env4,ev3.rel,r3,e7,fun σ4 G4 H4 ev4 y4=>?_⟩
  refine⟨G4,env4,b,env5,ev4.rel,e9,fun G5 H5 ev5=>?_⟩
  have ev6:=(ev3.trans ev4).trans ev5
  have r5:z8_ K G5 vs acc:=z8_.mono ((l3.trans ev4.same).trans ev5.same) acc r2
  have y5:∀j,j<n->σ4[j]? =σ[j]?:=fun j hj=>(y4 j hj).trans (y2 j hj)
  have hp5:H5 p=some (.lst (ys++vs)):=ev6.keep p _ no nt_lst (hpS _)
  cases b with
  |true=>
   simp only[Zm]at e10 ⊢;obtain⟨⟨z7,env7⟩,e11,e12⟩:=q8_ e10;obtain⟨⟨rest8,env8⟩,e13,e14⟩:=y8_ e12;cases e14;have lz:zs.length=acc.length+(z7.length+rest8.length):=by rw[←t2];simp
   have no5:¬ Owned σ4 env5 p:=fun z=>(ev6.sub p z).elim no fun q=>by rw[hpS]at q;cases q
   refine⟨G5,env5,z7,env7,ys++vs,ev5.rel,no5,ev6.stay p (by rw[hpS];simp) no gp,hp5,e11,by rw[Zz,r2.length];omega,fun σ6 G6 H6 us ev7 y7 h7 r7=>?_⟩
   have nx:∀φ,H5 p≠some (.ext φ):=fun φ z=>by rw[hp5]at z;cases z
   have sw:=ev6.swapAt (o:=.lst (ys++vs++us)) no (by rw[hpS];simp) gp nt_lst nx
   rw[a6W]at sw;refine⟨items.length-(i+1),by omega,rfl,hlt,G6,env7,vs++us,acc++z7,rest8,?_,fun j hj=>(y7 j hj).trans (y5 j hj),(z8_.mono ev7.same acc r5).append r7,e13,by rw[Uo];exact t2⟩
   rw[←Uo];exact sw.trans ev7
  |false=>
   simp only[Zj,Yc]at e10 ⊢;exact⟨items.length-(i+1),by omega,rfl,hlt,G5,env5,vs,acc,rest,ev6,y5,r5,e10,t2⟩
 ·have ei:i=items.length:=by omega
  subst ei;rw[List.drop_length]at c2;cases c2;rw[Jq]at t2;subst t2;exact .inl ⟨itd.stop _ H2 lH (Qp _),k σ2 G2 H2 vs ev2 y2 hp2 r2⟩
theorem b8s{mi:Mo (List D)}{g:OZ}{t:Mo Bool}{a:Mo (List D)}{p:Addr}:∀σ H Q,TAc K B n (aIn mi g t a) p σ H Q->b1R (TIm K B mi) (TGm K B n g) (TTm K B t) (TAc K B n a p) σ H Q:=by
 rintro σ H Q ⟨G,env,zs,env',ys,rl,no,gp,hp,e,hl,k⟩;obtain⟨⟨items,env1⟩,e1,e2⟩:=q8_ e;refine⟨G,env,items,env1,rl,e1,fun J G1 H1 ev1 itd=>?_⟩
 have hp1:H1 p=some (.lst ys):=ev1.keep p _ no nt_lst hp
 refine b1T ev1.rel itd (fun z=>(ev1.sub p z).elim no fun q=>by rw[hp]at q;cases q) (ev1.stay p (by rw[hp];simp) no gp) hp1 e2 hl fun σ' G' H' vs ev y h r=>?_
 have nx:∀φ,H1 p≠some (.ext φ):=fun φ z=>by rw[hp1]at z;cases z
 exact k σ' G' H' vs ((ev1.swapAt (o:=.lst (ys++vs)) no (by rw[hp];simp) gp nt_lst nx).trans ev) y h r
theorem b1U{mi:Mo (List D)}{keep:List Bool}{more:Nat}{g:OZ}{t:Mo Bool}{a:Mo (List D)}(hkl:keep.length=n):
  ∀(σ:St) H Q,σ.length=n->TL K B (a2O mi keep more g t a) σ H Q->a7U (TIm K B mi) keep more (TGm K B n g) (TTm K B t) (TAc K B n a) σ H Q:=by
 rintro σ H Q hσn ⟨G,env,total,env',rl,e,k⟩;obtain⟨⟨items,env1⟩,e1,e2⟩:=q8_ e;obtain⟨⟨total',envF⟩,e3,e4⟩:=q8_ e2;dsimp only at e4;split at e4
 ·rename_i hlen
  obtain⟨env'',e5,e6⟩:=y8_ e4;cases e6;refine⟨G,env,items,env1,rl,e1,fun J G1 H1 ev1 itd p hp=>?_⟩
  have hk:keep.length=σ.length:=by rw[hkl,hσn]
  have gp:G1 p=none:=ev1.rel.gnone hp
  have no1:¬ Owned σ env1 p:=ev1.rel.unowned hp
  have no:¬ Owned (a0f keep more σ) (g0_ keep more env1) p:=fun z=>no1 (a7H z)
  have relS:∀ys,Rel K B G1 σ env1 (upd H1 p (.lst ys)):=fun ys=>(ev1.rel.allocM hp).rel
  refine b1T (ys:=[]) ((relS []).ext hk) itd no gp x8_ e3 (by simpa using hlen) fun σ2 G2 H2 ys ev2 y2 hp2 r2=>?_
  rw[Vn,a6W]at ev2;rw[Vn]at hp2;have evO:=Ev.out (relS ys) hk ev2 (fun j hj=>y2 j (by omega)) e5
  have evA:=ev1.trans ((ev1.rel.allocM (o:=.lst ys) hp).trans evO)
  have hpn:H p=none:=by
   cases q:H p with
   |none=>rfl
   |some o=>exact absurd hp (ev1.live p (by rw[q];simp))
  have hpS:(upd H1 p (.lst ys)) p=some (.lst ys):=x8_
  refine k p ys G2 H2 evA hpn (fun z=>?_) hp2 (ev2.stay p (by rw[hpS];simp) no gp) r2
  rcases evO.sub p z with q|q
  ·exact no1 q
  ·rw[hpS]at q;cases q
 ·cases e4
end
def EAc(X:Cx)(B:OA)(n:Nat)(elt:Expr)(gens:List Comprehension)(scope:Scope)(pos:Pos)(d:Nat)(p:Addr)(a:Mo (List D)):Prop:=a1Q X (a0W elt gens scope pos d (.ref p) X.env) (TAc X.K B n a p)
theorem b1V{X:Cx}{sem:Sem Unit}{t t':a0X}(h:a1Q X sem t)(i:∀σ H Q,t' σ H Q->t σ H Q):a1Q X sem t':=fun pins s σ H Q I q=>h pins s σ H Q I (i σ H Q q)
section
variable{X:Cx}{B:OA}{N':List Str}{scope scope0:Scope}{keep:List Bool}{more n d:Nat}{tg iter elt:Expr}{ifs:List Expr}{gens gs:List Comprehension}{g:OZ}{t:Mo Bool}{m:Mo D}{mi:Mo (List D)}{a:Mo (List D)}{pos:Pos}{s:Shared}{H:Hp}{fp:List Addr}{p:Addr}
theorem a7V(hn:gens[d+1]? =none)(he:ED (x6_ X N' scope0 s H fp) B elt m):EAc (x6_ X N' scope0 s H fp) B n elt gens scope pos d p (a0J m):=b1V (b8n (fun _ _ z=>z) hn he) b8r
theorem b8t(hd:gens[d+1]? =some ⟨tg,iter,ifs,0⟩)(hc:X.calm=true)(hi:EI (x6_ X N' scope0 s H fp) B tg iter mi)(hg:EG (x6_ X N' scope0 s H fp) B n tg g)(ht:a0H (x6_ X N' scope0 s H fp) ifs (TTm X.K B t))
  (ha:EAc (x6_ X N' scope0 s H fp) B n elt gens scope pos (d+1) p a)(hs:∀x,foldedSetIterable iter (x6_ X N' scope0 s H fp).env x=pure x:=by intro _;rfl):
  EAc (x6_ X N' scope0 s H fp) B n elt gens scope pos d p (aIn mi g t a):=b1V (b8o (fun _ _ z=>z) hc hd hi hg ht ha hs) b8s
theorem b8u(ok:CompOk X N' scope keep more)(hc:X.calm=true)(hi:EI X B tg iter mi)(hg:∀s H fp,EG (x6_ X N' scope s H fp) B X.N.length tg g)(ht:∀s H fp,a0H (x6_ X N' scope s H fp) ifs (TTm X.K B t))
  (he:∀s H fp p,EAc (x6_ X N' scope s H fp) B X.N.length elt (⟨tg,iter,ifs,0⟩::gs) scope pos 0 p a)
  (hs:∀x,foldedSetIterable iter X.env x=pure x:=by intro _;rfl):EL X B (.ListComp elt (⟨tg,iter,ifs,0⟩::gs) scope pos) (a2O mi keep more g t a):=by
 intro pins s σ H Q I h;exact b8p (act:=TAc X.K B X.N.length a) ok hc hi hg ht (fun s H fp p=>he s H fp p) hs pins s σ H Q I (b1U ok.klen σ H Q I.len h)
end
section
variable{X:Cx}{B:OA}{pos:Pos}{o e:Expr}{ma mb:Mo D}
end
section
variable{X:Cx}{B:OA}{pos:Pos}
end
section
variable{prog:Program}{w:World}{A:Around}{E:OE}{s:Shared}{c1 c2:Bool}
end
section
variable{X:Cx}{pins:OX}{σ:St}{A:Around}{R:Result->Shared->Prop}{c1 c2:Bool}{n l1 l2 S:Addr}{xs ys:List V}
end
section
variable{X:Cx}{B:OA}{pos:Pos}{a b:Expr}{ms:Mo (List D)}
end
section
variable{X:Cx}{B:OA}
def b1W(K:Qq)(neg:Bool):R2:=fun x y H Q=>∃G a ds,Le G H/\Rep K G x a/\(Rep K G y (.lst ds)∨Rep K G y (.tup ds))/\shp a=true/\(toP a).depth≤60/\PyData.canLayAll0 (x0_ ds)=true/\
 Q (.bl (if neg then !((x0_ ds).any fun y=>PyData.eqv y (toP a))else(x0_ ds).any fun y=>PyData.eqv y (toP a))) H
theorem b8v(hu:X.A.units+64<cLine):OpR X (compareOp .NotIn) (b1W X.K true):=by
 intro pins s σ H x y v u Q I rx ry h;obtain⟨G,a,ds,l,ra,rb,ha,hd,hb,q⟩:=h;have hl:=Jj ha;obtain⟨as,h1⟩:=reads_of I l a x v hl rx ra;have hroom:X.A.units+1+min (PyData.depthAll (x0_ ds)) (toP a).depth<cLine:=by
  have:min (PyData.depthAll (x0_ ds)) (toP a).depth≤(toP a).depth:=Nat.min_le_right _ _
  omega
 rcases rb with rb|rb
 ·obtain⟨bs,h2⟩:=reads_of I l (.lst ds) y u (by show PyData.canLay0 (.list (x0_ ds))=true;simpa [PyData.canLay0]using hb) ry rb
  exact SeqAt.notIn_list_reads h2 h1 hb hl hroom ⟨.bl _,H,I,rfl,q⟩
 ·obtain⟨bs,h2⟩:=reads_of I l (.tup ds) y u (by show PyData.canLay0 (.tuple (x0_ ds))=true;simpa [PyData.canLay0]using hb) ry rb
  exact SeqAt.notIn_tuple_reads h2 h1 hb hl hroom ⟨.bl _,H,I,rfl,q⟩
def a4D(neg:Bool):D->D->Option D:=fun a b=>(D.items b).bind fun ds=>if shp a&&decide ((toP a).depth≤60)&&PyData.canLayAll0 (x0_ ds)then
 some (.bl (if neg then !((x0_ ds).any fun y=>PyData.eqv y (toP a))else(x0_ ds).any fun y=>PyData.eqv y (toP a)))else none
theorem b8w{neg:Bool}:OpD X B (b1W X.K neg) (a4D neg):=by
 intro G σ env H x y a b d Q rl ra rb e k;obtain⟨ds,e1,e2⟩:=q8_ e;split at e2
 ·rename_i h
  rw[Qk,Qk,Qr]at h;cases e2;refine⟨G,a,ds,rl.sub,ra,?_,h.1.1,h.1.2,h.2,k _ G H (.refl rl) (by simp only[Rep])⟩
  cases b<;>first|(exact absurd (show(none:Option (List D))=some ds from e1) (by simp))|skip
  ·cases e1;exact .inr rb
  ·cases e1;exact .inl rb
 ·cases e2
end
section
variable{prog:Program}{w:World}{A:Around}{E:OE}{s:Shared}
end
section
variable{X:Cx}{B:OA}{pos:Pos}{es:List Expr}{gs:List D->Env'->Option Env'}
end
def lkD:OI->List D->List Int->Option D
 |k'::ks,v::vs,k=>if k'=k then some v else lkD ks vs k
 |_,_,_=>none
def reD:OI->List D->List Int->D->List D
 |k'::ks,v::vs,k,d=>if k'=k then d::reD ks vs k d else v::reD ks vs k d
 |_,vs,_,_=>vs
def a0K:D->Option (List Int)
 |.tup ds=>ints? ds
 |_=>none
section
variable{K:Qq}{G:Hp}
theorem a7W:∀ns:List Int,(k7_ ns).map kV=ns.map V.int
 |[]=>rfl
 |n::ns=>by show V.int n::(k7_ ns).map kV=_;rw[a7W ns];rfl
theorem a7X:∀{a b:List Int},k7_ a=k7_ b->a=b
 |[],[],_=>rfl
 |[],_::_,e=>by simp[k7_]at e
 |_::_,[],e=>by simp[k7_]at e
 |x::a,y::b,e=>by
  simp only[k7_,Qy,Vh,Sum.inl.injEq]at e;rw[e.1,a7X e.2]
def a3G(K:Qq)(H:Hp)(b:Addr)(k:List Int):Prop:=H b=some (.tup ((k7_ k).map kV))∨x5_ K b (k7_ k)
theorem a3G.mono{H H':Hp}{b:Addr}{k:List Int}(l:Le H H')(h:a3G K H b k):a3G K H' b k:=h.imp (fun e=>l _ _ e) id
theorem a3H{v:V}{d:D}{k:List Int}(r:Rep K G v d)(h:a0K d=some k):∃b,v=.ref b/\a3G K G b k:=by
 cases d<;>first|(exact absurd (show(none:Option (List Int))=some k from h) (by simp))|skip
 rename_i ds;simp only[Rep]at r;obtain⟨a,xs,rfl,q,t⟩:=r;have hx:=a1j t (show ints? ds=some k from h)
 subst hx;refine⟨a,rfl,?_⟩
 rcases q with q|q
 ·exact .inl (by rw[a7W];exact q)
 ·exact .inr (.inr (by rw[a7W];exact q))
theorem a3I{P:Program}{w:World}{H:Hp}{h:Heap}{b:Addr}{k:List Key}(ok:HOk P w H h)(kin:K.In h)(e:H b=some (.tup (k.map kV))∨x5_ K b k):(tupleKind (a0j P w)).is h k b:=by
 rcases e with e|e
 ·exact b6P ok e
 ·rcases e with e|⟨o,its,n,h1,h2,_,h3,_,h4⟩
  ·cases e
  ·exact⟨o,its,n,kin b o h1,h2,h3,a7s h4⟩
end
section
variable{X:Cx}{pins:OX}{σ:St}{H:Hp}{s:Shared}{a b:Addr}{A:Around}{E:OE}{kvs:List (List Key×V)}
theorem a3J(I:Inv X pins σ H s)(e:H a=some (.dT (x5_ X.K) kvs)):kvs.length≤sizeLine/\(a==sysModules)=false/\∃xs,KT (x5_ X.K) H kvs xs/\s.heap.DictOfH (tupleKind (a0j X.prog X.w)) a xs:=by
 obtain⟨z,y,xs,r,o,es,ep,h1,h2,h3,h4,h5⟩:=(show w3_ X.prog X.w H s.heap a (.dT (x5_ X.K) kvs)from I.hok a _ e)
 refine⟨z,y,xs,r,o,es,ep,h1,h2,h3,h4,fun x hx=>?_,h5⟩
 have all:∀{l:List (List Key×V)}{m:List (List Key×Addr×Value)},KT (x5_ X.K) H l m->∀x∈m,(tupleKind (a0j X.prog X.w)).is s.heap x.1 x.2.1:=by
  intro l m q
  induction q with
  |nil=>intro x hx;exact nomatch hx
  |@cons p q ps qs hq t ih=>
   intro x hx
   rcases Qi.mp hx with e|hx
   ·subst e
    exact a3I (K:=X.K) I.hok I.kIn (by rw[←hq.1];exact hq.2.1)
   ·exact ih x hx
 exact all r x hx
theorem b1X{v:V}{k:List Key}{Q:OE}(hu:A.units+1<cLine)(I:Inv X pins σ H s)(e:H a=some (.dT (x5_ X.K) kvs))(eb:H b=some (.tup (k.map kV))∨x5_ X.K b k)(l:a0Q kvs k=some v)
  (h:∀w' s',Inv X pins σ H s'->v6_ v w'->Q w' s'):wpAny (model X.prog X.w) A (getItem (.ref a) (.ref b)) Q E s:=by
 obtain⟨z,hd,xs,rel,dd⟩:=a3J I e;obtain⟨w',hw,rw'⟩:=a1q.some_of (v:=v) (o:=(atKey xs k).map (·.2)) (by rw[←l];exact rel.val k)
 obtain⟨p,hp,hp2⟩:=Vx.mp hw;refine wpAny_getItem_heap (Je hu) (a3I (K:=X.K) I.hok I.kIn eb) dd hp ?_
 rw[hp2];exact h w' _ (I.tok _) rw'
theorem b8x{k:List Key}{Q:OE}(hu:A.units+1<cLine)(I:Inv X pins σ H s)(e:H a=some (.dT (x5_ X.K) kvs))(eb:H b=some (.tup (k.map kV))∨x5_ X.K b k)
  (h:∀s',Inv X pins σ H s'->Q (.bool (a0Q kvs k).isSome) s'):wpAny (model X.prog X.w) A (compareOp .In (.ref b) (.ref a)) Q E s:=by
 obtain⟨z,hd,xs,rel,dd⟩:=a3J I e;refine wpAny_in_heap (Je hu) (a3I (K:=X.K) I.hok I.kIn eb) hd dd ?_
 have q:=(rel.val k).isSome_eq
 rw[Xy]at q;rw[←q];exact h _ (I.tok _)
theorem b8y{k:List Key}{Q:OE}(hu:A.units+1<cLine)(I:Inv X pins σ H s)(e:H a=some (.dT (x5_ X.K) kvs))(eb:H b=some (.tup (k.map kV))∨x5_ X.K b k)
  (h:∀s',Inv X pins σ H s'->Q (.bool (!(a0Q kvs k).isSome)) s'):wpAny (model X.prog X.w) A (compareOp .NotIn (.ref b) (.ref a)) Q E s:=by
 obtain⟨z,hd,xs,rel,dd⟩:=a3J I e;refine PyProof.Rows.wpAny_notIn_heap (Je hu) (a3I (K:=X.K) I.hok I.kIn eb) hd dd ?_
 have q:=(rel.val k).isSome_eq
 rw[Xy]at q;rw[←q];exact h _ (I.tok _)
theorem b8z{k:List Key}{v:V}{r:Value}{Q:Unit->Shared->Prop}(hu:A.units+1<cLine)(I:Inv X pins σ H s)(e:H a=some (.dT (x5_ X.K) kvs))(eb:H b=some (.tup (k.map kV))∨x5_ X.K b k)(l:kvs.length<sizeLine)(rv:v6_ v r)
  (h:∀s',Inv X pins σ (upd H a (.dT (x5_ X.K) (a0F kvs k v))) s'->Q () s'):wpAny (model X.prog X.w) A (setItem (.ref a) (.ref b) r) Q E s:=by
 obtain⟨z,hd,xs,rel,dd⟩:=a3J I e;have hz:xs.length≤sizeLine:=by rw[←Paired.length rel];exact z
 have hl:(a0F kvs k v).length≤sizeLine:=by have:=a7r kvs k v;omega
 refine wpAny_setItem_heap (hsz:=hz) (Je hu) (a3I (K:=X.K) I.hok I.kIn eb) dd fun h' dd' hs=>h _ ?_
 obtain⟨q,es,ep,hq,h2,h3,h4,_,h5⟩:=dd';refine b0R I (by rw[e];exact True.intro) hs ⟨q,hq⟩ ⟨hl,hd,_,(rel.put k eb rv).keeps fun c ys ec=>?_,q,es,ep,hq,h2,h3,h4,h5⟩
 rw[v9_ (b0k ec e (fun z=>nomatch z))]
 exact ec
theorem b1Y(I:Inv X pins σ H s)(e:H a=some (.dT (x5_ X.K) kvs)):s.TypeIs (.ref a) "dict":=by
 obtain⟨_,_,xs,_,dd⟩:=a3J I e;exact dd.typeIs
end
section
variable{K:Qq}{G:Hp}
theorem a3K:∀{kvs:List (List Key×V)}{ks:OI}{vs:List D}(k:List Int),kvs.map (·.1)=ks.map k7_->z8_ K G (kvs.map (·.2)) vs->
  (∀d,lkD ks vs k=some d->∃v,a0Q kvs (k7_ k)=some v/\Rep K G v d)/\((a0Q kvs (k7_ k)).isSome=ks.contains k)
 |[],[],vs,k,_,r=>⟨fun d h=>by simp[lkD]at h,rfl⟩
 |[],_::_,_,_,e,_=>by simp at e
 |_::_,[],_,_,e,_=>by simp at e
 |p::kvs,k'::ks,[],k,e,r=>by have:=r.length;simp at this
 |p::kvs,k'::ks,d'::vs,k,e,r=>by
  simp only[Qy,Vh]at e;obtain⟨e1,e2⟩:=e;rw[Qy]at r;simp only[z8_]at r;obtain⟨x,t,z,r1,r2⟩:=r;cases z;obtain⟨h1,h2⟩:=a3K (ks:=ks) (vs:=vs) k e2 r2
  by_cases hk:k'=k
  ·subst hk
   refine⟨fun d h=>?_,?_⟩
   ·simp only[lkD,Zm,Zf]at h
    subst h;exact⟨p.2,a5u e1,r1⟩
   ·rw[a5u e1];simp
  ·have ne:¬ p.1=k7_ k:=fun z=>hk (a7X (e1.symm.trans z))
   refine⟨fun d h=>?_,?_⟩
   ·simp only[lkD,Qt hk]at h
    obtain⟨v,q1,q2⟩:=h1 d h;exact⟨v,by rw[a5v ne];exact q1,q2⟩
   ·have hb:(k==k')=false:=by simpa using fun z=>hk (Eq.symm z)
    rw[a5v ne,h2,Ye,hb,Xj]
theorem b1Z:∀{kvs:List (List Key×V)}{ks:OI}{vs:List D}(k:List Int) {v:V}{d:D},kvs.map (·.1)=ks.map k7_->z8_ K G (kvs.map (·.2)) vs->Rep K G v d->
  (kvs.map fun kv=>if kv.1=k7_ k then(kv.1,v)else kv).map (·.1)=ks.map k7_/\z8_ K G ((kvs.map fun kv=>if kv.1=k7_ k then(kv.1,v)else kv).map (·.2)) (reD ks vs k d)
 |[],[],vs,k,v,d,_,r,_=>⟨rfl,by simpa [reD]using r⟩
 |[],_::_,_,_,_,_,e,_,_=>by simp at e
 |_::_,[],_,_,_,_,e,_,_=>by simp at e
 |p::kvs,k'::ks,[],k,v,d,e,r,_=>by have:=r.length;simp at this
 |p::kvs,k'::ks,d'::vs,k,v,d,e,r,rd=>by
  simp only[Qy,Vh]at e;obtain⟨e1,e2⟩:=e;rw[Qy]at r;simp only[z8_]at r;obtain⟨x,t,z,r1,r2⟩:=r;cases z;obtain⟨h1,h2⟩:=b1Z (ks:=ks) (vs:=vs) k e2 r2 rd
  by_cases hk:k'=k
  ·subst hk
   simp only[Qy,Qg e1,reD,Zm];exact⟨by rw[e1,h1],repL_cons rd h2⟩
  ·have ne:¬ p.1=k7_ k:=fun z=>hk (a7X (e1.symm.trans z))
   simp only[Qy,Qt ne,reD,Qt hk];exact⟨by rw[e1,h1],repL_cons r1 h2⟩
def g9_(ks:OI)(k:List Int):OI:=if ks.contains k then ks else ks++[k]
def u9_(ks:OI)(vs:List D)(k:List Int)(d:D):List D:=if ks.contains k then reD ks vs k d else vs++[d]
theorem b2a{kvs:List (List Key×V)}{ks:OI}{vs:List D}(k:List Int){v:V}{d:D}(e:kvs.map (·.1)=ks.map k7_)(r:z8_ K G (kvs.map (·.2)) vs)(rd:Rep K G v d):
  (a0F kvs (k7_ k) v).map (·.1)=(g9_ ks k).map k7_/\z8_ K G ((a0F kvs (k7_ k) v).map (·.2)) (u9_ ks vs k d):=by
 have h:=(a3K (K:=K) (G:=G) k e r).2
 unfold a0F g9_ u9_;rw[a7q,h];cases ks.contains k with
 |true=>simp only[Zm];exact b1Z k e r rd
 |false=>
  simp only[Zj,Yc,Zg,Qy,Uc];exact⟨by rw[e],r.append (repL_cons rd repL_nil)⟩
end
theorem b2b{P:Program}{w:World}{H:Hp}{C:Addr->List Key->Prop}(h:Heap)(hb:sysModules<h.objs.size):w3_ P w H (h.push {cls:=.type "dict",data:=.dict #[]}) h.objs.size (.dT C []):=
 ⟨Va _,beq_eq_false_iff_ne.mpr (Za (Zw hb)),[],.nil,_,#[],0,Qn _ rfl,⟨rfl,rfl,rfl⟩,rfl,rfl,List.nodup_nil⟩
def b8A(C:Addr->List Key->Prop):TE:=fun _ H Q=>∀p,H p=none->Q (.ref p) (upd H p (.dT C []))
section
variable{X:Cx}{B:OA}{pos:Pos}{a b e:Expr}{ma mb:Mo D}
theorem b2c{C:Addr->List Key->Prop}:PE X (.Dict [] [] pos) (b8A C):=fun pins s σ H Q I h=>
 wpAny_Dict_empty ⟨.ref s.heap.objs.size,_,I.laid (a:=s.heap.objs.size) (o:=.dT C []) (t':=s.toks) (fun _ _ q=>Qx _ q) (Qp _) (b2b s.heap I.big),rfl,h _ (I.hok.fresh (Qp _))⟩
def a7Y(i:Nat):Mo Fl:=fun env=>some (.nx,env.set i (.ownD [] []))
theorem b2d{i:Nat}{x:Str}{pos' dpos:Pos}(hN:X.N.Nodup)(hi:X.N[i]? =some x)(hx:Loc X.env.scope x)(hs:swapsWith (.Dict [] [] dpos) (some (.Name x pos')) pos.line X.env=pure false:=by rfl)(hf:X.fn x=true∨X.env.scope.names.lookup x=some .local:=by first|exact .inl rfl|exact .inr rfl|assumption):
  ES X B (.Assign [.Name x pos'] (.Dict [] [] dpos) pos) (a7Y i):=by
 refine ps_imp (a7a hN hi hx (b2c (C:=x5_ X.K)) hs hf) ?_
 rintro D σ H ⟨G,env,fl,env',rl,e,k⟩;cases e;intro p hp;have ev:=rl.allocM (o:=.dT (x5_ X.K) []) hp;exact k _ _ _ (ev.setOwnM (m:=.d [] []) (fun z=>rl.old p z hp) hp (rl.unowned hp) x8_ (rl.gnone hp) ⟨[],rfl,rfl,repL_nil⟩ rfl rfl)
def b2e(i:Nat)(mb:Mo D):Mo D:=fun env=>(mb env).bind fun p=>((p.2[i]?).bind W.mutD).bind fun q=>(a0K p.1).bind fun k=>(lkD q.1 q.2 k).map fun d=>(d,p.2)
theorem b8B{i:Nat}{x:Str}{p:Pos}(hu:X.A.units+64<cLine)(ha:PE X (.Name x p) (a0D i))(hb:ED X B b mb)(hs:a4i b)(hr:∀env d env' w ds,mb env=some (d,env')->env'[i]? =some w->w.mut=some ds->∃w0 ds0,env[i]? =some w0/\w0.mut=some ds0):
  ED X B (.Subscript (.Name x p) b pos) (b2e i mb):=by
 intro pins s σ H Q I h;obtain⟨G,env,d,env',rl,e,k⟩:=h;obtain⟨⟨d1,env1⟩,e1,e2⟩:=q8_ e;obtain⟨⟨ks,vs⟩,e3,e4⟩:=q8_ e2;obtain⟨w,e5,e6⟩:=q8_ e3;obtain⟨key,e7,e8⟩:=q8_ e4;obtain⟨d2,e9,e10⟩:=y8_ e8;cases e10;obtain⟨w0,m0,e11,e12⟩:=hr env d1 _ w (.d ks vs) e1 e5 (W.mutD_of e6);obtain⟨q,o,h1,_⟩:=rl.own i w0 m0 e11 e12;refine b0S PySem.F.slot_dict_getitem.lookup hs (thn (ha pins s σ H (fun v H1=>v=.ref q/\H1=H) I ⟨_,h1,rfl,rfl⟩) fun u s1 ⟨x,H1,I1,rx,z1,z2⟩=>?_)
 subst z1 z2;cases rx;refine thn (hb pins s1 σ H1 (fun v H2=>∃G2,Ev X.K B G σ env H1 G2 σ env1 H2/\Rep X.K G2 v d1) I1 ⟨G,env,d1,env1,rl,e1,fun v G2 H2 ev r=>⟨G2,ev,r⟩⟩) fun iv s2 ⟨y,H2,I2,ry,G2,ev,r⟩=>?_
 obtain⟨q',kvs,g1,g2,g3,g4,g5⟩:=ev.rel.ownD i w ks vs e5 e6;rw[h1]at g1;cases g1;obtain⟨b',rfl,kb⟩:=a3H r e7;cases ry;obtain⟨v,l1,l2⟩:=(a3K key g3 g4).1 _ e9;exact⟨b1Y I2 g2,b1X (by omega) I2 g2 (kb.mono ev.rel.sub) l1 fun w' s3 I3 rw'=>⟨v,H2,I3,rw',k v G2 H2 ev l2⟩⟩
def a2P:D->D->Option D:=fun a b=>match a with
 |.dct ks vs=>(a0K b).bind fun k=>lkD ks vs k
 |_=>none
theorem b8C(hu:X.A.units+64<cLine)(ha:ED X B a ma)(hb:ED X B b mb)(hs:a4i b):ED X B (.Subscript a b pos) (z2_ a2P ma mb):=by
 intro pins s σ H Q I h;obtain⟨G,env,d,env',rl,e,k⟩:=h;obtain⟨⟨d0,env0⟩,e0,e⟩:=q8_ e;obtain⟨⟨d1,env1⟩,e1,e2⟩:=q8_ e;obtain⟨d2,e3,e4⟩:=y8_ e2;cases e4;unfold a2P at e3;dsimp only at e3;split at e3
 case h_2=>cases e3
 rename_i ks vs;obtain⟨key,e7,e9⟩:=q8_ e3;refine b0S PySem.F.slot_dict_getitem.lookup hs (thn (ha pins s σ H (fun v H1=>∃G1,Ev X.K B G σ env H G1 σ env0 H1/\Rep X.K G1 v (.dct ks vs)) I ⟨G,env,_,env0,rl,e0,fun v G1 H1 ev r=>⟨G1,ev,r⟩⟩) fun u s1 ⟨x,H1,I1,rx,G1,ev1,r1⟩=>?_)
 simp only[Rep]at r1;obtain⟨q,kvs,rfl,g2,g3,g4⟩:=r1;cases rx;refine thn (hb pins s1 σ H1 (fun v H2=>∃G2,Ev X.K B G1 σ env0 H1 G2 σ env1 H2/\Rep X.K G2 v d1) I1 ⟨G1,env0,d1,env1,ev1.rel,e1,fun v G2 H2 ev r=>⟨G2,ev,r⟩⟩) fun iv s2 ⟨y,H2,I2,ry,G2,ev2,r⟩=>?_
 obtain⟨b',rfl,kb⟩:=a3H r e7;cases ry;have hq:H2 q=some (.dT (x5_ X.K) kvs):=ev2.rel.sub _ _ (ev2.same _ _ g2);obtain⟨v,l1,l2⟩:=(a3K key g3 (z8_.mono ev2.same _ g4)).1 _ e9;exact⟨b1Y I2 hq,b1X (by omega) I2 hq (kb.mono ev2.rel.sub) l1 fun w' s3 I3 rw'=>⟨v,H2,I3,rw',k v G2 H2 (ev1.trans ev2) l2⟩⟩
def a3L(neg:Bool)(i:Nat)(ma:Mo D):Mo D:=fun env=>(ma env).bind fun p=>((p.2[i]?).bind W.mutD).bind fun q=>(a0K p.1).map fun k=>(.bl (if neg then !q.1.contains k else q.1.contains k),p.2)
theorem c2U{i:Nat}{x:Str}{p:Pos}(hu:X.A.units+64<cLine)(ha:ED X B a ma)(hn:PE X (.Name x p) (a0D i)):PC X .In a (.Name x p) (TD X.K B (a3L false i ma)):=by
 intro pins s σ H Q I h;obtain⟨G,env,d,env',rl,e,k⟩:=h;obtain⟨⟨d1,env1⟩,e1,e2⟩:=q8_ e;obtain⟨⟨ks,vs⟩,e3,e4⟩:=q8_ e2;obtain⟨w,e5,e6⟩:=q8_ e3;obtain⟨key,e7,e8⟩:=y8_ e4;cases e8;refine thn (ha pins s σ H (fun v H1=>∃G1,Ev X.K B G σ env H G1 σ env1 H1/\Rep X.K G1 v d1) I ⟨G,env,d1,env1,rl,e1,fun v G2 H2 ev r=>⟨G2,ev,r⟩⟩) fun iv s1 ⟨y,H1,I1,ry,G1,ev,r⟩=>?_
 obtain⟨q,kvs,g1,g2,g3,g4,g5⟩:=ev.rel.ownD i w ks vs e5 e6;refine thn (hn pins s1 σ H1 (fun v H2=>v=.ref q/\H2=H1) I1 ⟨_,g1,rfl,rfl⟩) fun u s2 ⟨x,H2,I2,rx,z1,z2⟩=>?_
 subst z1 z2;cases rx;obtain⟨b',rfl,kb⟩:=a3H r e7;cases ry;exact b8x (by omega) I2 g2 (kb.mono ev.rel.sub) fun s3 I3=>⟨.bl _,H2,I3,rfl,k _ G1 H2 ev (by rw[(a3K key g3 g4).2];simp only[Rep];rfl)⟩
theorem b8D{i:Nat}{x:Str}{p:Pos}(hu:X.A.units+64<cLine)(ha:ED X B a ma)(hn:PE X (.Name x p) (a0D i)):PC X .NotIn a (.Name x p) (TD X.K B (a3L true i ma)):=by
 intro pins s σ H Q I h;obtain⟨G,env,d,env',rl,e,k⟩:=h;obtain⟨⟨d1,env1⟩,e1,e2⟩:=q8_ e;obtain⟨⟨ks,vs⟩,e3,e4⟩:=q8_ e2;obtain⟨w,e5,e6⟩:=q8_ e3;obtain⟨key,e7,e8⟩:=y8_ e4;cases e8;refine thn (ha pins s σ H (fun v H1=>∃G1,Ev X.K B G σ env H G1 σ env1 H1/\Rep X.K G1 v d1) I ⟨G,env,d1,env1,rl,e1,fun v G2 H2 ev r=>⟨G2,ev,r⟩⟩) fun iv s1 ⟨y,H1,I1,ry,G1,ev,r⟩=>?_
 obtain⟨q,kvs,g1,g2,g3,g4,g5⟩:=ev.rel.ownD i w ks vs e5 e6;refine thn (hn pins s1 σ H1 (fun v H2=>v=.ref q/\H2=H1) I1 ⟨_,g1,rfl,rfl⟩) fun u s2 ⟨x,H2,I2,rx,z1,z2⟩=>?_
 subst z1 z2;cases rx;obtain⟨b',rfl,kb⟩:=a3H r e7;cases ry;exact b8y (by omega) I2 g2 (kb.mono ev.rel.sub) fun s3 I3=>⟨.bl _,H2,I3,rfl,k _ G1 H2 ev (by rw[(a3K key g3 g4).2];simp only[Rep];rfl)⟩
theorem b8E{m:Mo D}(σ:St)(H:Hp)(Q:Bool->Hp->Prop)(h:TTm X.K B (mT m) σ H Q):tB (TD X.K B m) σ H Q:=by
 obtain⟨G,env,b,env',rl,e,k⟩:=h;unfold mT at e;obtain⟨⟨d,env1⟩,e1,e2⟩:=q8_ e;cases d<;>first|(exact absurd (show(none:Option (Bool×Env'))=some _ from e2) (by simp))|skip
 cases e2;exact⟨G,env,_,_,rl,e1,fun v G1 H1 ev r=>⟨_,by simpa only[Rep]using r,k G1 H1 ev⟩⟩
theorem b8F{i:Nat}{x:Str}{p:Pos}(hu:X.A.units+64<cLine)(ha:ED X B a ma)(hn:PE X (.Name x p) (a0D i))(hm:behindInMarks .NotIn (.Name x p)=false):ET X B (.Compare a [.NotIn] [.Name x p] pos) (mT (a3L true i ma)):=
 pt_imp (b4Y (b8D hu ha hn) hm) b8E
def b8G(K:Qq):a5l:=fun o i v H Q=>∃a b kvs k,o=.ref a/\i=.ref b/\H a=some (.dT (x5_ K) kvs)/\a3G K H b k/\kvs.length<sizeLine/\Q (upd H a (.dT (x5_ K) (a0F kvs (k7_ k) v)))
theorem b8H(hu:X.A.units+64<cLine):a6X X (b8G X.K):=by
 intro pins s σ H o i v ov iv u Q I ro ri rv h;obtain⟨a,b,kvs,k,rfl,rfl,e,kb,hl,q⟩:=h;cases ro;cases ri;exact b8z (by omega) I e kb hl rv fun s' I'=>⟨_,I',q⟩
def gSD(s:Nat)(mi:Mo D):OZ:=fun d env=>((env[s]?).bind W.mutD).bind fun _=>(mi env).bind fun p=>(p.2[s]?).bind fun w=>w.mutD.bind fun q=>(a0K p.1).bind fun k=>
 if q.1.length<100000 then some (p.2.set s (w.putM (.d (g9_ q.1 k) (u9_ q.1 q.2 k d))))else none
theorem b8I{n s:Nat}{x:Str}{p:Pos}(hu:X.A.units+64<cLine)(ho:PE X (.Name x p) (a0D s))(hi:ED X B b mb)
  (ha:∀v,assign (.Subscript (.Name x p) b pos) X.env v=(do
   let ov←holding [v] (eval (.Name x p) X.env)
   let iv←holding [v,ov] (eval b X.env)
   standAt pos
   holding [v,ov,iv] (setItem ov iv v)
   release [v,ov,iv] []):=by intro _;rfl):EG X B n (.Subscript (.Name x p) b pos) (gSD s mb):=by
 refine a5J (b0s ho hi (b8H hu) ha) ?_
 rintro v σ H Q ⟨G,env,d,env',rl,r,e,k⟩;obtain⟨⟨ks0,vs0⟩,e0,e⟩:=q8_ e;obtain⟨w0,e00,em0⟩:=q8_ e0;obtain⟨⟨d1,env1⟩,e1,e2⟩:=q8_ e;obtain⟨w,e3,e4⟩:=q8_ e2;obtain⟨⟨ks,vs⟩,e5,e6⟩:=q8_ e4;obtain⟨key,e7,e8⟩:=q8_ e6;dsimp only at e8 e3;split at e8
 case isFalse=>cases e8
 rename_i hl;cases e8;obtain⟨q,kvs0,h1,_⟩:=rl.ownD s w0 ks0 vs0 e00 em0;refine⟨_,h1,.bind rl e1 fun iv G1 H1 ev r1=>?_⟩
 obtain⟨q',kvs,g1,g2,g3,g4,g5⟩:=ev.rel.ownD s w ks vs e3 e5;rw[h1]at g1;cases g1;obtain⟨b',rfl,kb⟩:=a3H r1 e7;obtain⟨p1,p2⟩:=b2a (K:=X.K) (G:=G1) key g3 g4 (Rep.mono ev.same _ r);have hz:kvs.length<sizeLine:=by
  have:=Yb List.length g3;rw[Qw,Qw]at this;rw[this];exact Ul hl (by decide)
 exact⟨q,b',kvs,key,rfl,rfl,g2,kb.mono ev.rel.sub,hz,k _ G1 _ (ev.writeM e3 (W.mutD_of e5) h1 ⟨_,rfl,p1,p2⟩) fun _ _=>rfl⟩
end
def TAn(K:Qq)(B:OA)(m:Mo (List D)):TA:=fun σ H Q=>∃G env ds env',Rel K B G σ env H/\m env=some (ds,env')/\
 ∀vs a G' H',Ev K B G σ env H G' σ env' H'->z8_ K G' vs ds->H a=none-> ¬ Owned σ env' a->H' a=some (.dT (x5_ K) [])->G' a=none->Q (vs++[V.ref a]) H'
abbrev EAn(X:Cx)(B:OA)(es:List Expr)(m:Mo (List D)):Prop:=PA X es (TAn X.K B m)
section
variable{X:Cx}{B:OA}{pos p:Pos}{e:Expr}{es:List Expr}{ma:Mo D}{ms:Mo (List D)}
theorem b2f{dp:Pos}(hs:starEach (.Dict [] [] dp::[]) X.env=(false,eval (.Dict [] [] dp) X.env)::starEach [] X.env:=by rfl):EAn X B [.Dict [] [] dp] z7_:=by
 refine pa_imp (a1Z (b2c (C:=x5_ X.K)) a4h hs) ?_
 rintro σ H Q ⟨G,env,ds,env',rl,e,k⟩;cases e;intro a ha;exact k [] a _ _ (rl.allocM ha) repL_nil ha (rl.unowned ha) x8_ (rl.gnone ha)
theorem a7Z(ha:ED X B e ma)(hr:EAn X B es ms)(hs:starEach (e::es) X.env=(false,eval e X.env)::starEach es X.env:=by rfl):EAn X B (e::es) (z5_ ma ms):=by
 refine pa_imp (a1Z ha hr hs) ?_
 rintro σ H Q ⟨G,env,ds,env',rl,e,k⟩;obtain⟨⟨d1,env1⟩,e1,e2⟩:=q8_ e;obtain⟨⟨ds2,env2⟩,e3,e4⟩:=y8_ e2;cases e4;refine .bind rl e1 fun v G1 H1 ev1 r1=>⟨G1,env1,ds2,_,ev1.rel,e3,fun vs a G2 H2 ev2 r2 ha no h' g'=>?_⟩
 have h0:H a=none:=by
  cases q:H a with
  |none=>rfl
  |some o=>exact absurd ha (ev1.live a (by rw[q];simp))
 exact k (v::vs) a G2 H2 (ev1.trans ev2) (repL_cons (Rep.mono ev2.same _ r1) r2) h0 no h' g'
end
def a6c(n:Nat)(f:Fn)(ms:Mo (List D)):Mo Rr:=fun env=>(ms env).bind fun p=>if p.1.length+1=n then(f (p.1.map W.dat++[.parD [] []])).map fun q=>(q.1,p.2)else none
def a3M(n:Nat)(f:Fn)(ms:Mo (List D)):Mo D:=fun env=>(a6c n f ms env).bind asD
section
variable{K:Qq}{B:OA}{G G1 G2:Hp}{σ:St}{env env1:Env'}{H H1 H2:Hp}{vs:List V}{ds:List D}{a:Addr}
theorem a6d{α:Type}{l:List α}{x y:α}{i:Nat}(h:(l++[x])[i]? =some y):(i<l.length/\l[i]? =some y)∨(i=l.length/\y=x):=by
 by_cases hi:i<l.length
 ·rw[Yq hi]at h;exact .inl ⟨hi,h⟩
 ·rw[Ys (by omega)]at h
  have:i-l.length=0:=by
   have:=(Qb.mp h).1
   simp at this;omega
  rw[this]at h
  simp at h
  exact .inr ⟨by omega,h.symm⟩
theorem b8J{b:Addr}(hl:vs.length=ds.length)(h:Owned ((vs++[V.ref a]).map some) (ds.map W.dat++[.parD [] []]) b):b=a:=by
 obtain⟨i,w,m,e1,e2,e3⟩:=h
 rcases a6d e1 with⟨_,z⟩|⟨z1,z2⟩
 ·rw[Zu]at z
  cases q:ds[i]? with
  |none=>rw[q]at z;cases z
  |some d=>rw[q]at z;cases z;cases e2
 ·rw[Qw]at z1
  subst z1;rw[Zg,Ys (by simp[hl]),Qw,hl]at e3
  simp at e3
  exact e3.symm
theorem b8K(rl:Rel K B G1 σ env1 H1)(r:z8_ K G1 vs ds)(h':H1 a=some (.dT (x5_ K) []))(g':G1 a=none):Rel K u3_ G1 ((vs++[V.ref a]).map some) (ds.map W.dat++[.parD [] []]) H1:=by
 have hl:=r.length
 refine⟨rl.sub,by simp[hl],fun i d e=>?_,fun i w m e1 e2=>?_,fun i j w w' m m' b q1 q2 q3 q4 q5 q6=>?_,fun i w b q1 qo q2 h=>h,fun b h=>h.elim,rl.tabs,rl.gnt⟩
 ·rcases a6d e with⟨z1,z⟩|⟨z1,z2⟩
  ·rw[Zu]at z
   cases q:ds[i]? with
   |none=>rw[q]at z;cases z
   |some d'=>
    rw[q]at z;cases z;obtain⟨v,g1,g2⟩:=r.get q;refine⟨v,?_,g2⟩;rw[Zg,Yq (by rw[Qw]at z1 ⊢;omega),Zu,g1];rfl
  ·cases z2
 ·rcases a6d e1 with⟨_,z⟩|⟨z1,z2⟩
  ·rw[Zu]at z
   cases q:ds[i]? with
   |none=>rw[q]at z;cases z
   |some d=>rw[q]at z;cases z;cases e2
  ·subst z2
   cases e2;rw[Qw]at z1;subst z1;refine⟨a,_,?_,h',⟨[],rfl,rfl,repL_nil⟩,g'⟩;rw[Zg,Ys (by simp[hl]),Qw,hl];simp
 ·have g:∀(i:Nat) (w:W) (m:Mu),(ds.map W.dat++[.parD [] []])[i]? =some w->w.mut=some m->i=ds.length:=fun i w m e1 e2=>by
   rcases a6d e1 with⟨_,z⟩|⟨z1,z2⟩
   ·rw[Zu]at z
    cases q:ds[i]? with
    |none=>rw[q]at z;cases z
    |some d=>rw[q]at z;cases z;cases e2
   ·simpa using z1
  rw[g i w m q1 q2,g j w' m' q3 q4]
theorem b2g{ws':List W}(ev:Ev K B G σ env H G1 σ env1 H1)(r:z8_ K G1 vs ds)(ha:H a=none)(no:¬ Owned σ env1 a)(ev2:Ev K u3_ G1 ((vs++[V.ref a]).map some) (ds.map W.dat++[.parD [] []]) H1 G2 ((vs++[V.ref a]).map some) ws' H2):
  Ev K B G σ env H G2 σ env1 H2:=by
 have isA:∀b,Owned ((vs++[V.ref a]).map some) (ds.map W.dat++[.parD [] []]) b->b=a:=fun b=>b8J r.length
 refine⟨⟨ev2.rel.sub,ev.rel.len,fun i d e=>?_,fun i w m e1 e2=>?_,ev.rel.inj,ev.rel.fresh,fun b h=>ev2.live b (ev.rel.old b h),ev2.rel.tabs,ev2.rel.gnt⟩,ev.same.trans ev2.same,fun b o n t e=>?_,fun b e=>ev2.live b (ev.live b e),fun b e n g=>?_,ev.sub,ev.par,ev.slen⟩
 ·obtain⟨v,q1,q2⟩:=ev.rel.dat i d e
  exact⟨v,q1,Rep.mono ev2.same d q2⟩
 ·obtain⟨p,o,q1,q2,q3,q4⟩:=ev.rel.own i w m e1 e2
  have hp:¬ Owned ((vs++[V.ref a]).map some) (ds.map W.dat++[.parD [] []]) p:=fun z=>no (by rw[←isA p z];exact⟨i,w,m,e1,e2,q1⟩)
  exact⟨p,o,q1,ev2.keep p o hp q3.nt q2,q3.mono ev2.same,ev2.stay p (by rw[q2];simp) hp q4⟩
 ·exact ev2.keep b o (fun z=>by rw[isA b z,ha]at e;cases e) t (ev.keep b o n t e)
 ·exact ev2.stay b (ev.live b e) (fun z=>e (by rw[isA b z];exact ha)) (ev.stay b e n g)
end
theorem b8L{K:Qq}{B:OA}{n:Nat}{f:Fn}{ms:Mo (List D)}{σ:St}{H:Hp}{G:Hp}{env env':Env'}{r:Rr}{Q:VK}{E:XK}(rl:Rel K B G σ env H)(e:a6c n f ms env=some (r,env'))
  (k:b1r K B G σ env H env' Q r):a7j (SpF K n f) [] E (TAn K B ms) σ H Q:=by
 obtain⟨⟨ds,env1⟩,e1,e2⟩:=q8_ e;dsimp only at e2;split at e2
 case isFalse=>cases e2
 rename_i hn;obtain⟨⟨r',ws'⟩,e3,e4⟩:=y8_ e2;cases e4;refine⟨G,env,ds,env',rl,e1,fun vs a G1 H1 ev rp ha no h' g'=>?_⟩
 show SpF K n f ((vs++[V.ref a])++[]) H1 Q E;rw[Jq];have ok:a3u (ds.map W.dat++[.parD [] []]):=fun w hw=>by
  rcases Yp.mp hw with z|z
  ·obtain⟨d,_,rfl⟩:=Zx.mp z
   exact .inl ⟨d,rfl⟩
  ·obtain rfl:=List.mem_singleton.mp z
   exact .inr rfl
 refine⟨G1,_,r',ws',by simpa using hn,ok,b8K ev.rel rp h' g',e3,?_⟩
 cases r' with
 |d d=>exact fun v G2 H2 ev2 r2=>k v G2 H2 (b2g ev rp ha no ev2) r2
 |l xs=>
  intro b ys G2 H2 ev2 hb nb hb' gb rb;have h0:H b=none:=by
   cases q:H b with
   |none=>rfl
   |some o=>exact absurd hb (ev.live b (by rw[q];simp))
  exact k b ys G2 H2 (b2g ev rp ha no ev2) h0 (ev.rel.unowned hb) hb' gb rb
section
variable{X:Cx}{B:OA}{pos p:Pos}{e:Expr}{es:List Expr}{ms:Mo (List D)}{fn:Fn}{k n:Nat}{x:Str}
theorem b2h(D:Def X.prog X.w X.K X.mg X.base x k n fn)(hr:Room k X.A)(hg:Gl X x)(ha:EAn X B (e::es) ms)(hdb:(x==("__debug__":Str))=false:=by decide)
  (he:starEach (e::es) X.env=(false,eval e X.env)::starEach es X.env:=by rfl)(hpl:(backTo pos (starEach es X.env)).any (·.1)=false:=by rfl):
  ED X B (.Call (.Name x p) (e::es) [] pos) (a3M n fn ms):=by
 obtain⟨f,fd,ps,F,rfl,hm,hk,hb⟩:=D.ex;refine pe_imp (a7k F hr hg hm hk hb .nil a7o ha hdb he hpl) ?_
 rintro σ H Q ⟨G,env,d,env',rl,e,k⟩;obtain⟨⟨r,env1⟩,e1,e2⟩:=q8_ e;cases r with
 |d d'=>cases e2;exact b8L rl e1 k
 |l ds=>cases e2
end
end L2.Mir
namespace L2.Mir
open PySem PySem.Spec PyProof.Rows
section
variable{X:Cx}{B:OA}{pos p:Pos}{e:Expr}{vs:List Expr}{ma:Mo D}{ms:Mo (List D)}
end
section
variable{X:Cx}{N':List Str}{scope:Scope}{keep:List Bool}{more:Nat}{tg iter elt:Expr}{ifs:List Expr}{gs:List Comprehension}{g:TG}{tt:TT}{act:Addr->a0X}{pos:Pos}
theorem b8M{wi:TI}{i:Nat}{y:Str}{py spos:Pos}(ok:CompOk X N' scope keep more)(hc:X.calm=true)(hN:X.N.Nodup)(hy:X.N[i]? =some y)(hyl:X.env.scope.names.lookup y=some .local)
  (hsw:swapsWith (.ListComp elt (⟨tg,iter,ifs,0⟩::gs) scope pos) (some (.Name y py)) spos.line X.env=pure true)
  (hi:PI X tg iter wi)(hg:∀s H fp,PG (x6_ X N' scope s H fp) tg g)(ht:∀s H fp,a0H (x6_ X N' scope s H fp) ifs tt)(he:∀s H fp p,a1Q (x6_ X N' scope s H fp) (a0W elt (⟨tg,iter,ifs,0⟩::gs) scope pos 0 (.ref p) (x6_ X N' scope s H fp).env) (act p))
  (hs:∀x,foldedSetIterable iter X.env x=pure x:=by intro _;rfl):PS X (.Assign [.Name y py] (.ListComp elt (⟨tg,iter,ifs,0⟩::gs) scope pos) spos) (a6Z (a7U wi keep more g tt act) (a6Y i)):=by
 intro pins s σ H D I h;rw[exec_Assign_Name_used _ _ _ _ hsw];refine Qz (Js (Qz ?_));show wpAny _ X.A (do let _←comprehension (.ListComp elt (⟨tg,iter,ifs,0⟩::gs) scope pos) scope X.env _ (newList []) false (eval iter X.env) (some (assign (.Name y py) X.env))) _ _ s
 refine Qz (Zy (wpAny_comprehension_free (use:=some (assign (.Name y py) X.env)) (Q:=fun _ s'=>SP X pins D .next s') rfl hs ok.clos ok.kind (fun x hx hl=>by have:=ok.uniq x hx;rwa [hl]at this) (thn (hi pins s σ H _ I h) fun v s1 h1=>thn h1 fun itv s2 h2=>?_)) (fun _ s' hq=>Qv (Qv hq)) fun _ _ e=>e)
 obtain⟨it,fp,tn,J,H2,e,I2,T,st2,f2,run⟩:=h2;subst e;refine b1S (Qf:=fun p H'=>D.nx (σ.set i (some (.ref p))) H') (RR:=fun acc C=>compPost (model X.prog X.w) X.A X.xe (some (assign (.Name y py) X.env)) (fun _ s'=>SP X pins D .next s') acc C) ok hc hg ht he I2 T st2 f2 run ?_
 intro p C s' H' m IX qf hn hCL hCc hCn turn;refine wpAny_assign_Name (b0m (v:=.ref p) (u:=.ref p) IX hN hy (.inl hyl) rfl (fun s'' I'' hs''=>?_) (.inr hyl))
 obtain⟨a,hsb,ha⟩:=hs'';have hCa:C≠a:=by
  rcases ha with z|z
  ·rw[z];exact hCL
  ·exact fun q=>hCc y a z q.symm
 exact⟨m,hn.sameBut hsb hCa,fun h' hs'=>⟨_,H',turn _ H' s'' h' I'' hCn hs',qf⟩⟩
end
section
variable{X:Cx}{B:OA}{N':List Str}{scope scope0:Scope}{keep:List Bool}{more n d:Nat}{tg iter elt:Expr}{ifs:List Expr}{gens gs:List Comprehension}{g:OZ}{t:Mo Bool}{m:Mo D}{mi:Mo (List D)}{a:Mo (List D)}{pos:Pos}{s:Shared}{H:Hp}{fp:List Addr}{p:Addr}
theorem b2i{i:Nat}{y:Str}{py spos:Pos}(ok:CompOk X N' scope keep more)(hc:X.calm=true)(hN:X.N.Nodup)(hy:X.N[i]? =some y)(hyl:X.env.scope.names.lookup y=some .local)
  (hsw:swapsWith (.ListComp elt (⟨tg,iter,ifs,0⟩::gs) scope pos) (some (.Name y py)) spos.line X.env=pure true)
  (hi:EI X B tg iter mi)(hg:∀s H fp,EG (x6_ X N' scope s H fp) B X.N.length tg g)(ht:∀s H fp,a0H (x6_ X N' scope s H fp) ifs (TTm X.K B t))
  (he:∀s H fp p,EAc (x6_ X N' scope s H fp) B X.N.length elt (⟨tg,iter,ifs,0⟩::gs) scope pos 0 p a)
  (hs:∀x,foldedSetIterable iter X.env x=pure x:=by intro _;rfl):ES X B (.Assign [.Name y py] (.ListComp elt (⟨tg,iter,ifs,0⟩::gs) scope pos) spos) (a0d i (a2O mi keep more g t a)):=by
 intro pins s σ H D I h;obtain⟨G,env,fl,env',rl,e,k⟩:=h;obtain⟨⟨d,env1⟩,e1,e2⟩:=y8_ e;cases e2;exact b8M (act:=TAc X.K B X.N.length a) ok hc hN hy hyl hsw hi hg ht (fun s H fp p=>he s H fp p) hs pins s σ H D I (b1U ok.klen σ H _ I.len ⟨G,env,d,_,rl,e1,fun a xs G' H' ev ha no h' g' r=>k _ G' H' (ev.setOwn (fun z=>rl.old a z ha) ha no h' g' r)⟩)
end
inductive NamesAt (X:Cx):List Expr->List Nat->Prop
 |nil:NamesAt X [] []
 |cons {x:Str}{p:Pos}{i:Nat}{es:List Expr}{is:List Nat}:PE X (.Name x p) (a0D i)->NamesAt X es is->NamesAt X (.Name x p::es) (i::is)
section
variable{K:Qq}{B:OA}{G:Hp}{σ:St}{env:Env'}{H:Hp}
open Classical in
end
section
variable{X:Cx}{B:OA}{pos p:Pos}{e:Expr}{es:List Expr}{is:List Nat}{fn:Fn}{k n:Nat}{x:Str}
end
end L2.Mir
namespace L2.Mir
open PySem PyProof PyProof.Rows L2
variable{X:Cx}{B:OA}
def a8a(i j:Int):Prop:=Builtin.Int.intBits i≤60000/\Builtin.Int.intBits j≤60000
def a3N(i j:Int):Bool:=decide (Builtin.Int.intBits i≤60000)&&decide (Builtin.Int.intBits j≤60000)
def a2q:=fI a3N fun i j=>.int (i * j)
theorem a8b:OpR X (inplaceOp .Mult) (rI a8a fun i j=>.int (i * j)):=opI fun _ _ _ _ _ _ _ hc q=>imul_int q (IntMulOk.of_le (m:=60000) (n:=60000) hc.1 hc.2 (by decide))
theorem a8c:OpD X B (rI a8a fun i j=>.int (i * j)) a2q:=a3n (fun i j h=>by simpa [a8a,a3N]using h) fun _ _ _ _=>by simp only[Rep]
def a0Y:OI->OI->Bool
 |[],[]=>false
 |[],_::_=>true
 |_::_,[]=>false
 |x::xs,y::ys=>if x=y then a0Y xs ys else HT.lexLt x y
theorem b8N(x y:List Int)(xs ys:OI):a0Y (x::xs) (y::ys)=if x=y then a0Y xs ys else HT.lexLt x y:=rfl
inductive RowsAre (h:Heap):List Value->OI->Prop
 |nil:RowsAre h [] []
 |cons {a:Addr}{its:Array Value}{k:List Int}{vs:List Value}{ks:OI}(t:IsTup h a its) (i:IntsAre its.toList k) (r:RowsAre h vs ks):RowsAre h (.ref a::vs) (k::ks)
theorem RowsAre.length{h:Heap}{vs:List Value}{ks:OI}(r:RowsAre h vs ks):vs.length=ks.length:=by
 induction r with
 |nil=>rfl
 |cons _ _ _ ih=>simp[ih]
theorem a8d{h:Heap}:∀{vs:List Value}{ns:List Int},IntsAre vs ns->∃as,ReadsAll h vs (ns.map PyData.int) as
 |_,_,.nil=>⟨_,.nil⟩
 |_,_,.cons n t r=>by
  obtain⟨as,q⟩:=a8d (h:=h) r;exact⟨_,.cons (.int n t) q⟩
theorem a2Q:∀ns:List Int,PyData.canLayAll0 (ns.map PyData.int)=true
 |[]=>rfl
 |n::ns=>by simp[PyData.canLayAll0,PyData.canLay0,a2Q ns]
theorem b2j:∀ns:List Int,PyData.depthAll (ns.map PyData.int)≤1
 |[]=>by simp[PyData.depthAll]
 |n::ns=>by
  have:=b2j ns;simp only[Qy,PyData.depthAll,PyData.depth]
  omega
theorem b2k:∀l k:List Int,PyData.eqvAll (l.map PyData.int) (k.map PyData.int)=decide (l=k)
 |[],[]=>by simp[PyData.eqvAll]
 |[],_::_=>by simp[PyData.eqvAll]
 |_::_,[]=>by simp[PyData.eqvAll]
 |a::l,b::k=>by
  simp only[Qy,PyData.eqvAll,b2k l k,PyData.eqv]
  by_cases h:a=b<;>simp[h]
theorem b8O{A:Around}{s:Shared}{a b:Addr}{xs ys:Array Value}{l k:List Int}(ta:IsTup s.heap a xs)(ia:IntsAre xs.toList l)(tb:IsTup s.heap b ys)(ib:IntsAre ys.toList k)(hu:A.units+8<cLine):
  SeqAt.EqAt A s (.ref a) (.ref b) (decide (l=k)):=by
 obtain⟨o,h1,h2,n,h3⟩:=ta;obtain⟨o',g1,g2,n',g3⟩:=tb;obtain⟨as,ra⟩:=a8d (h:=s.heap) ia;obtain⟨bs,rb⟩:=a8d (h:=s.heap) ib;have c1:(PyData.tuple (l.map .int)).canLay0=true:=by simpa [PyData.canLay0]using a2Q l
 have c2:(PyData.tuple (k.map .int)).canLay0=true:=by simpa [PyData.canLay0]using a2Q k
 have d1:(PyData.tuple (l.map .int)).depth≤2:=by
  have:=b2j l;simp only[PyData.depth];omega
 have:=SeqAt.eqAt_reads (.tuple (l.map .int)) (.tuple (k.map .int)) A s (.ref a) (.ref b) _ _ (.tuple h1 h2 h3 ra) (.tuple g1 g2 g3 rb) c1 c2 (by
  have:min (PyData.tuple (l.map .int)).depth (PyData.tuple (k.map .int)).depth≤(PyData.tuple (l.map .int)).depth:=Nat.min_le_left _ _
  omega)
 have e:PyData.eqv (.tuple (l.map .int)) (.tuple (k.map .int))=decide (l=k):=by
  rw[←b2k l k];simp[PyData.eqv]
 rw[e]at this;exact this
section
open PySem.SeqAt
open PySem.AutoSeq1 (wpAny_loadPart')
open PySem.MeetsSeq PySem.MeetsSeq2 PySem.MeetsSeq3
theorem b8P(l b:Addr)(items items2:Array Value)(n n2:Nat)(dd dd2:Option Addr)(sl sl2:Array (Option Value))(ns ms:OI):
  Meets (Builtin.«tuple.__lt__» ⟨[.ref l,.ref b],[]⟩)
   (fun A R s=>A.units+16<cLine/\RowsAre s.heap items.toList ns/\RowsAre s.heap items2.toList ms/\s.heap.get? l=some {cls:=.type "tuple",dict:=dd,data:=.seq items n,slots:=sl}/\s.heap.get? b=some {cls:=.type "tuple",dict:=dd2,data:=.seq items2 n2,slots:=sl2}/\
    R (.ok (.ret (.bool (a0Y ns ms)))) s):=
 .of_wp fun prog w A R s h=>by
  obtain⟨hp,g,d,tk,os⟩:=s;obtain⟨hu,hi,hj,hl,hb,h⟩:=h;have f2:=AutoSeq1.sub_tuple_tuple;have z1:items.size=ns.length:=by rw[←hi.length];simp
  have z2:items2.size=ms.length:=by rw[←hj.length];simp
  wp_walk using Zr hl,Zr hb,wpAny_forIn_list _ (fun rest b s'=>b.1=none/\s'=⟨hp,g,d,tk,os⟩/\∃(vs ws:List Value) (ns' ms':OI),rest=vs.zip ws/\
   RowsAre hp vs ns'/\RowsAre hp ws ms'/\ns'.length+items2.size=ms'.length+items.size/\R (.ok (.ret (.bool (a0Y ns' ms')))) ⟨hp,g,d,tk,os⟩) _
  case turn=>
   rintro⟨y,x⟩ rest b s' ⟨hb',rfl,vs,ws,ns',ms',hz,hvi,hwi,hlen,hR⟩;cases hvi with
   |nil=>rw[List.zip_nil_left]at hz;cases hz
   |@cons a its k vs ks ta ia hvi'=>
    cases hwi with
    |nil=>rw[List.zip_nil_right]at hz;cases hz
    |@cons a' its' k' ws ks' tb ib hwi'=>
     rw[Jv]at hz;injection hz with hyx hrest
     injection hyx with hy hx
     subst hy hx;rw[b8N]at hR;simp only[Zk]at hlen;have he:=b8O (A:=A.in1) (s:=⟨hp,g,d,tk,os⟩) ta ia tb ib (by show A.units+1+8<cLine;omega)
     refine Qz (he prog w _ _ ?_)
     by_cases e:k=k'
     ·rw[Qg e]at hR
      rw[Qe e]
      wp_walk
      exact⟨rfl,rfl,_,_,_,_,hrest,hvi',hwi',by omega,hR⟩
     ·rw[Qt e]at hR
      rw[Qs e];have hri:∀(E:OE) (Q:OE),Q (.bool (HT.lexLt k k')) ⟨hp,g,d,tk,os⟩->wpAny (model prog w) A.in1 (richCompare .Lt (.ref a) (.ref a')) Q E ⟨hp,g,d,tk,os⟩:=fun E Q hq=>
       (HT.lt_tupInts ta tb ia ib (by show A.units+1<cLine;omega) hq:wpAny (model prog w) A.in1 (compareOp .Lt (.ref a) (.ref a')) Q E ⟨hp,g,d,tk,os⟩)
      wp_walk using hri
      exact⟨_,rfl,by simpa using hR⟩
  case fin=>
   rintro⟨b1,b2⟩ s' ⟨hb',rfl,vs,ws,ns',ms',hz,hvi,hwi,hlen,hR⟩;simp only at hb';subst hb';have hv:a0Y ns' ms'=decide (items.size<items2.size):=by
    cases hvi with
    |nil=>
     cases hwi with
     |nil=>
      simp only[Ju]at hlen;show false=_;exact(Qs (by omega)).symm
     |cons _ _ hw=>
      simp only[Ju,Zk]at hlen;show true=_;exact(Qe (by omega)).symm
    |cons _ _ hv=>
     cases hwi with
     |nil=>
      simp only[Ju,Zk]at hlen;show false=_;exact(Qs (by omega)).symm
     |cons _ _ hw=>
      rw[Jv]at hz;cases hz
   rw[hv]at hR
   wp_walk
   exact⟨_,rfl,by simpa [Builtin.Tuple.tupleCompareSizes]using hR⟩
  case h=>
   exact⟨rfl,rfl,items.toList,items2.toList,ns,ms,rfl,hi,hj,by omega,h⟩
end
section
variable{prog:Program}{w:World}{A:Around}{E:OE}{s:Shared}
theorem b8Q{l b:Addr}{items items2:Array Value}{ns ms:OI}{Q:OE}(hl:IsTup s.heap l items)(hb:IsTup s.heap b items2)(hi:RowsAre s.heap items.toList ns)(hj:RowsAre s.heap items2.toList ms)
  (hu:A.units+64<cLine)(h:Q (.bool (a0Y ns ms)) s):wpAny (model prog w) A (compareOp .Lt (.ref l) (.ref b)) Q E s:=by
 obtain⟨⟨cls,dd,data,sl⟩,ho,hc,n,hd⟩:=id hl;obtain⟨⟨cls2,dd2,data2,sl2⟩,ho2,hc2,n2,hd2⟩:=id hb;simp only at hc hd hc2 hd2;subst hc hd hc2 hd2;exact richCompare_meets_room (op:=.Lt) ⟨_,ho,rfl⟩ ⟨_,ho2,rfl⟩ PySem.F.slot_tuple_lt PySem.F.entry_tuple_lt (PySem.F.args_tuple_lt_2 _ _) (b8P l b items items2 n n2 dd dd2 sl sl2 ns ms)
  ⟨by omega,hi,hj,ho,ho2,show Value.bool (a0Y ns ms)≠Value.notImplemented/\Q (.bool (a0Y ns ms)) s from⟨(fun x=>nomatch x),h⟩⟩ (by omega)
end
def rows?:List D->Option (OI)
 |[]=>some []
 |.tup x::r=>(ints? x).bind fun a=>(rows? r).map fun l=>a::l
 |_::_=>none
section
variable{X:Cx}{B:OA}{pins:OX}{σ:St}{G H:Hp}{s:Shared}
theorem a8e(I:Inv X pins σ H s)(l:Le G H):∀{ds:List D}{xs:List V}{us:List Value}{ks:OI},v5_ xs us->z8_ X.K G xs ds->rows? ds=some ks->RowsAre s.heap us ks
 |[],_,_,_,v,r,e=>by
  simp only[z8_]at r;subst r;cases v;cases e;exact .nil
 |d::ds,_,_,ks,v,r,e=>by
  simp only[z8_]at r;obtain⟨x,t,rfl,q,r⟩:=r;cases d<;>first|(exact absurd (show(none:Option (OI))=some ks from e) (by simp))|skip
  rename_i es;obtain⟨k,e1,e2⟩:=q8_ (show(ints? es).bind _=some ks from e)
  obtain⟨l',e3,e4⟩:=y8_ e2;subst e4;simp only[Rep]at q;obtain⟨a,ys,rfl,hq,rp⟩:=q;have hy:=a1j rp e1;subst hy;cases v with
  |cons v1 v2=>
   cases v1;obtain⟨its,rv,p1,_⟩:=I.tuple (l.sqT hq);exact .cons p1 (by simpa using a2z rv) (a8e I l v2 r e3)
def a6e(K:Qq):R2:=fun x y H Q=>∃G as bs ns ms,Le G H/\Rep K G x (.tup as)/\Rep K G y (.tup bs)/\rows? as=some ns/\rows? bs=some ms/\Q (.bl (a0Y ns ms)) H
theorem b8R(hu:X.A.units+64<cLine):OpR X (compareOp .Lt) (a6e X.K):=by
 intro pins s σ H x y v u Q I rx ry h;obtain⟨G,as,bs,ns,ms,l,ra,rb,ha,hb,q⟩:=h;simp only[Rep]at ra rb;obtain⟨a,xs,rfl,qa,pa⟩:=ra;obtain⟨b,ys,rfl,qb,pb⟩:=rb;cases rx;cases ry;obtain⟨its,r1,p1,_⟩:=I.tuple (l.sqT qa);obtain⟨its2,r2,p2,_⟩:=I.tuple (l.sqT qb);exact b8Q p1 p2 (by simpa using a8e I l r1 pa ha) (by simpa using a8e I l r2 pb hb) hu ⟨.bl (a0Y ns ms),H,I,rfl,q⟩
def a6f:D->D->Option D
 |.tup as,.tup bs=>(ints? as).bind fun ns=>(ints? bs).map fun ms=>.bl (HT.lexLt ns ms)
 |_,_=>none
def a8f:D->D->Option D
 |.tup as,.tup bs=>(rows? as).bind fun ns=>(rows? bs).map fun ms=>.bl (a0Y ns ms)
 |_,_=>none
def a3O:=fOr dLt (fOr a6f a8f)
theorem b8S:OpD X B (a5t X.K) a6f:=by
 intro G σ env H x y a b d Q rl ra rb e k;cases a<;>cases b<;>first|(exact absurd (show(none:Option D)=some d from e) (by simp))|skip
 rename_i as bs;obtain⟨ns,e1,e2⟩:=q8_ (show(ints? as).bind _=some d from e)
 obtain⟨ms,e3,e4⟩:=y8_ e2;subst e4;simp only[Rep]at ra rb;obtain⟨p,xs,rfl,qa,pa⟩:=ra;obtain⟨p',ys,rfl,qb,pb⟩:=rb;have hx:=a1j pa e1;have hy:=a1j pb e3;subst hx hy;exact⟨p,p',ns,ms,rfl,rfl,rl.sub.sqT qa,rl.sub.sqT qb,k _ G H (.refl rl) (by simp only[Rep])⟩
theorem b8T:OpD X B (a6e X.K) a8f:=by
 intro G σ env H x y a b d Q rl ra rb e k;cases a<;>cases b<;>first|(exact absurd (show(none:Option D)=some d from e) (by simp))|skip
 rename_i as bs;obtain⟨ns,e1,e2⟩:=q8_ (show(rows? as).bind _=some d from e)
 obtain⟨ms,e3,e4⟩:=y8_ e2;subst e4;exact⟨G,as,bs,ns,ms,rl.sub,ra,rb,e1,e3,k _ G H (.refl rl) (by simp only[Rep])⟩
theorem b8U(hu:X.A.units+64<cLine):OpR X (compareOp .Lt) (fun x y H Q=>rI0 (fun i j=>.bl (decide (i<j))) x y H Q∨(a5t X.K x y H Q∨a6e X.K x y H Q)):=OpR.or a5o (OpR.or (b6A (by omega)) (b8R hu))
theorem b8V:OpD X B (fun x y H Q=>rI0 (fun i j=>.bl (decide (i<j))) x y H Q∨(a5t X.K x y H Q∨a6e X.K x y H Q)) a3O:=a5C.or (b8S.or b8T)
end
def a8g(i j:Int):Prop:=0<j/\Builtin.divisionGoesByPylong i j=false
def a2R(i j:Int):Bool:=decide (0<j)&&!Builtin.divisionGoesByPylong i j
def a2r:=fI a2R fun i j=>.int (i/j)
theorem a4E{X:Cx}:OpR X (binaryOp .FloorDiv) (rI a8g fun i j=>.int (i/j)):=opI fun i j _ _ _ _ _ hc q=>by
 have h1:(0:Int)<j:=hc.1
 exact floordiv_int (by omega) (by rw[Int.fdiv_eq_ediv_of_nonneg i (by omega)];exact q) (.inl hc.2)
theorem a4F{X:Cx}{B:OA}:OpD X B (rI a8g fun i j=>.int (i/j)) a2r:=a3n (fun i j h=>by simpa [a8g,a2R]using h) fun _ _ _ _=>by simp only[Rep]
section
variable{X:Cx}{B:OA}{e st:Expr}{ma:Mo D}{pos p2:Pos}
theorem b0p{e:Expr}{t1 t2:TE}(h1:PE X e t1)(h2:PE X e t2):PE X e (fun σ H Q=>t1 σ H Q∨t2 σ H Q):=fun pins s σ H Q I h=>h.elim (h1 pins s σ H Q I) (h2 pins s σ H Q I)
end
section
variable{prog:Program}{w:World}{A:Around}{E:OE}{s:Shared}
variable{h₀:Heap}{L kS D:Addr}{m:OU}{news0:OX}{e1:Nat}{Fin:List Value->Nat->Shared->Prop}
end
section
variable{X:Cx}{pins:OX}{σ:St}{H:Hp}{s:Shared}
end
section
variable{X:Cx}{B:OA}{e:Expr}{ma:Mo D}{p p1 kp1 kp2 pos:Pos}{j:Nat}{p2:Pos}
end
section
open PySem.SeqAt
open PySem.AutoSeq1 (wpAny_loadPart')
open PySem.MeetsSeq PySem.MeetsSeq2 PySem.MeetsSeq3
theorem b8W(l:Addr)(items:Array Value)(n:Nat)(dd:Option Addr)(sl:Array (Option Value))(x:Value)(e:Value->Bool)(j:Nat)(hj:j<items.size)
  (hit:e items[j]=true)(hno:∀m (hm:m<items.size),m<j->e items[m]=false):
  Meets (Builtin.«tuple.index» ⟨[.ref l,x],[]⟩)
   (fun A R s=>s.heap.get? l=some {cls:=.type "tuple",dict:=dd,data:=.seq items n,slots:=sl}/\(∀y,y∈items->EqAt A.in1 s y x (e y))/\R (.ok (.ret (.int j s.toks))) {s with toks:=s.toks+1}):=
 .of_wp fun prog w A R s h=>by
  obtain⟨hp,g,d,tk,os⟩:=s;obtain⟨hl,he,h⟩:=h;unfold Builtin.«tuple.index»;simp only[Std.Legacy.Range.forIn_eq_forIn_range']
  wp_walk using Zr hl,wpAny_forIn_list _ (fun rest b s'=>b.1=none/\s'=⟨hp,g,d,tk,os⟩/\∃i,i≤j/\rest=List.range' i (items.size-i)) _
  case turn=>
   rintro i rest b s' ⟨hb,rfl,i',hi',hr⟩;have hs:items.size-i'=(items.size-(i'+1))+1:=by omega
   rw[hs,List.range'_succ]at hr;injection hr with h1 h2
   subst h1;have hi:i<items.size:=by omega
   have hg:items[i]? =some items[i]:=by simp[hi]
   rw[hg];refine Qz (he items[i] (by simp) prog w _ _ ?_)
   by_cases hij:i=j
   ·subst hij
    rw[hit]
    wp_walk
    exact⟨_,rfl,h⟩
   ·rw[hno i hi (by omega)]
    wp_walk
    exact⟨rfl,rfl,i+1,by omega,h2⟩
  case fin=>
   rintro b s' ⟨hb,rfl,i',hi',hr⟩;have hs:items.size-i'=(items.size-(i'+1))+1:=by omega
   rw[hs,List.range'_succ]at hr;cases hr
  case h=>
   refine⟨rfl,rfl,0,Va _,?_⟩;have:([:min items.size items.size]:Std.Legacy.Range).size=items.size:=by
    simp[Std.Legacy.Range.size]
   rw[this];rfl
end
def a2S:D->D->Option D
 |.tup ds,.int i=>(ints? ds).bind fun ns=>(ns.findIdx? fun y=>y==i).map fun(j:Nat)=>D.int (j:Int)
 |_,_=>none
section
variable{X:Cx}{B:OA}{pos:Pos}{o e:Expr}{ma mb:Mo D}
def b2l(K:Qq):V->List V->Hp->VK->Prop:=fun x vs H Q=>∃(p:Addr) (ns:List Int) (i:Int) (j:Nat),x=.ref p/\vs=[.int i]/\SqT K H p (ns.map V.int)/\(ns.findIdx? fun y=>y==i)=some j/\Q (.int j) H
theorem b8X:MtM X "tuple.index" (b2l X.K):=by
 intro pins s σ H x vs v us Q I rx rv h;obtain⟨p,ns,i,j,rfl,rfl,hq,hj,q⟩:=h;cases rx;obtain⟨u,rfl,ru⟩:=rv.one;obtain⟨its,r,pl,hz⟩:=I.tupleD hq;have ru':=ru;obtain⟨tk,rfl⟩:=ru;obtain⟨⟨oc,od,odt,osl⟩,e,hc,hd,n,hdt⟩:=pl;dsimp only at hc hd hdt;subst hc hd hdt;obtain⟨hjl,hj1,hj2⟩:=List.findIdx?_eq_some_iff_getElem.mp hj;have hlen:its.length=ns.length:=by have:=r.length;simpa using this.symm
 have item:∀(m:Nat) (hm:m<its.length),∃t,its[m]=.int (ns[m]'(by omega)) t:=fun m hm=>by
  obtain⟨u,h1,h2⟩:=r.get (i:=m) (x:=.int (ns[m]'(by omega))) (by simp[show m<ns.length by omega])
  rw[Yk hm]at h1;cases h1;exact h2
 refine Vg PySem.F.slot_tuple_index ⟨_,e,rfl⟩ PySem.F.entry_tuple_index (PySem.F.args_tuple_index_2 _ _)
  (b8W p its.toArray n none osl (.int i tk) (eqU (.int i)) j (by simpa using (by omega:j<its.length)) ?_ ?_) ⟨?_,fun w hw=>a3i (x:=.int i) ru' rfl r (b1x ns) w (by simpa using hw),⟨.int j,H,I.tok _,⟨_,rfl⟩,q⟩⟩
 ·obtain⟨t,et⟩:=item j (by omega)
  rw[List.getElem_toArray,et];show(ns[j]==i)=true;exact hj1
 ·intro m hm hlt
  obtain⟨t,et⟩:=item m (by simpa using hm)
  rw[List.getElem_toArray,et];show(ns[m]==i)=false;exact Bool.eq_false_iff.mpr (hj2 m hlt)
 ·exact e
theorem b8Y{apos cpos:Pos}(ho:ED X B o ma)(he:ED X B e mb)
  (hbase:attributeBase o "index" X.env (eval o X.env)=eval o X.env:=by rfl)
  (hfew:((backTo cpos (starEach [e] X.env)).all (fun x=>!x.1)&&(backToKw cpos (keywordEach [] X.env)).all (fun x=>x.1.isSome)
   &&decide ([e].length+([]:List Keyword).length+(if([]:List Keyword).isEmpty then 0 else 1)<30))=true:=by rfl)
  (hline:(apos.endLine==cpos.line)=true:=by rfl)(hs:starEach [e] X.env=(false,eval e X.env)::starEach [] X.env:=by rfl)(hplain:(backTo cpos (starEach [] X.env)).any (·.1)=false:=by rfl):
  ED X B (.Call (.Attribute o "index" apos) [e] [] cpos) (z2_ a2S ma mb):=by
 intro pins s σ H Q I h;obtain⟨G,env,d,env',rl,em,k⟩:=h;obtain⟨⟨d1,env1⟩,e1,e2⟩:=q8_ em;obtain⟨⟨d2,env2⟩,e3,e4⟩:=q8_ e2;obtain⟨d3,e5,e6⟩:=y8_ e4;cases e6;dsimp only at e3 e5;unfold a2S at e5;split at e5
 ·rename_i ds b
  obtain⟨ns,e7,e8⟩:=q8_ e5;obtain⟨j,e9,e10⟩:=y8_ e8;cases e10;refine wpAny_Call_method_late hbase hfew hline rfl (thn (ho pins s σ H (fun x H1=>∃G1 a xs,x=.ref a/\Ev X.K B G σ env H G1 σ env1 H1/\SqU X.K G1 a xs/\z8_ X.K G1 xs ds) I ⟨G,env,_,env1,rl,e1,fun v G1 H1 ev1 r1=>?_⟩) fun v s1 ⟨x,H1,I1,r1,G1,a,xs,hx,ev1,hq,rp⟩=>?_)
  ·simp only[Rep]at r1
   obtain⟨a,xs,rfl,hq,rp⟩:=r1;exact⟨G1,a,xs,rfl,ev1,hq,rp⟩
  ·subst hx
   cases r1;have hb:=a1j rp e7;subst hb;obtain⟨its,r,pl,hz⟩:=I1.tupleD (ev1.rel.sub.sqT hq);obtain⟨ob,ge,hc,hd,n,hdt⟩:=id pl;refine⟨"tuple","tuple.index",PySem.F.plainAttrs_tuple,PySem.F.slot_tuple_index,PySem.F.type_tuple_index,⟨ob,ge,hc⟩,fun a' z=>?_,?_⟩
   ·cases z;exact⟨ob,ge,hd⟩
   have hA:=(a1Z he a4h hs) cpos pins s1 σ H1 (fun vs H2=>b2l X.K (.ref a) vs H2 Q) I1 ⟨G1,env1,_,env2,ev1.rel,e3,fun v2 G2 H2 ev2 r2=>by
    simp only[Rep]at r2;subst r2;exact⟨a,ns,b,j,rfl,rfl,(ev2.same.trans ev2.rel.sub).sqT hq,e9,k _ G2 H2 (ev1.trans ev2) (by simp only[Rep])⟩⟩
   rw[hs]at hA ⊢;refine Calls.callWith_builtin (by show(false||(backTo cpos (starEach [] X.env)).any (·.1))=false;rw[hplain]<;>rfl) (Calls.evalArgs_plain ?_)
   exact thn hA fun us s2 ⟨vs,H2,I2,r2,q2⟩=>b8X pins s2 σ H2 (.ref a) vs (.ref a) us Q I2 rfl r2 q2
 ·cases e5
end
section
variable{K:Qq}{B:OA}{H0 G G':Hp}{σ σ':St}{env env':Env'}{H H':Hp}{r:Nat}
end
section
variable(K:Qq)(B:OA)(r:Nat)
end
section
variable{X:Cx}{B:OA}{r:Nat}{e a b:Expr}{pos:Pos}{st:Stmt}{rest:List Stmt}
end
section
variable{X:Cx}{B:OA}{r:Nat}{e a b tg:Expr}{pos:Pos}{st:Stmt}{rest:List Stmt}
end
mutual
def D.lf:D->Bool
 |.non=>true
 |.bl _=>true
 |.int _=>true
 |.str _=>true
 |.tup ds=>lfL ds
 |_=>false
def lfL:List D->Bool
 |[]=>true
 |d::ds=>d.lf&&lfL ds
end
section
variable{K:Qq}{G G':Hp}
mutual
theorem rep_lf(h:∀b xs,G b=some (.tup xs)->G' b=some (.tup xs)):∀(d:D) {v:V},d.lf=true->Rep K G v d->Rep K G' v d
 |.non,v,_,r=>by simpa only[Rep]using r
 |.bl b,v,_,r=>by simpa only[Rep]using r
 |.int i,v,_,r=>by simpa only[Rep]using r
 |.str x,v,_,r=>by simpa only[Rep]using r
 |.tup ds,v,l,r=>by
  simp only[Rep]at r ⊢;obtain⟨a,xs,e,q,t⟩:=r;exact⟨a,xs,e,q.imp (fun e=>h _ _ e) id,repL_lf h ds (by simpa only[D.lf]using l) t⟩
 |.lst ds,v,l,r=>by simp[D.lf]at l
 |.emp,v,l,r=>by simp[D.lf]at l
 |.obj o,v,l,r=>by simp[D.lf]at l
 |.dct _ _,v,l,r=>by simp[D.lf]at l
 |.dcx _ _,v,l,r=>by simp[D.lf]at l
theorem repL_lf(h:∀b xs,G b=some (.tup xs)->G' b=some (.tup xs)):∀(ds:List D) {xs:List V},lfL ds=true->z8_ K G xs ds->z8_ K G' xs ds
 |[],_,_,r=>by simpa only[z8_]using r
 |d::ds,_,l,r=>by
  simp only[z8_]at r ⊢;obtain⟨x,t,e,q,u⟩:=r;have l':d.lf=true/\lfL ds=true:=by simpa only[lfL,Qk]using l
  exact⟨x,t,e,rep_lf h d l'.1 q,repL_lf h ds l'.2 u⟩
end
end
section
variable{K:Qq}{B:OA}{H0 G:Hp}{σ:St}{env:Env'}{H:Hp}
end
section
variable{X:Cx}{B:OA}{r:Nat}{pos p px:Pos}{fn:Fn}{k n:Nat}{x y:Str}
end
section
variable{K:Qq}{B:OA}{G G1:Hp}{σ σ1:St}{env env1:Env'}{H H1:Hp}
end
section
variable{X:Cx}{B:OA}{r:Nat}{N':List Str}{scope:Scope}{keep:List Bool}{more:Nat}{tg iter elt:Expr}{g:OZ}{ml mi:Mo (List D)}{pos:Pos}
end
section
variable{X:Cx}{B:OA}{e:Expr}{ma:Mo D}{pos p2:Pos}
end
open PySem.W Builtin Builtin.ObjectAttr Builtin.Getset_descriptor PySem.Calls
theorem fl1:typeLookup (.type "function") "__getattribute__"=pure (some (.builtin "object.__getattribute__")):=by rfl
theorem fl5:getOf (some (.builtin "object.__class__"))=pure (some (.builtin "getset_descriptor.__get__")):=by rfl
section
variable{prog:Program}{w:World}{A:Around}{E:OE}{x:Addr}{h:Heap}{g:Array GenState}{d:Drawn}{t:Nat}{os:OsState}
end
section
variable{X:Cx}{B:OA}{e:Expr}{es:List Expr}{p pos:Pos}{y:Str}{i k n:Nat}{as:Mo (List Ar)}
end
theorem b8Z:typeLookup (.type "list") (Str.ofString "keys")=pure none:=by rw[typeLookup_type,builtinLookup_eq_fast];kernel_rfl
section
variable{prog:Program}{w:World}{A:Around}{E:OE}{s:Shared}
theorem b9a{a:Addr}{items:Array Value}{Q:Option Value->Shared->Prop}(hh:A.handled=none)(hl:PlainL s.heap a items)
  (hQ:∀h' tk,(∀b o,s.heap.get? b=some o->h'.get? b=some o)->Q none {s with heap:=h',toks:=tk}):wpAny (model prog w) A (getAttr? (.ref a) (Str.ofString "keys")) Q E s:=by
 obtain⟨o,k,hk,h1,h2,h3⟩:=hl;obtain⟨c,di,da,sl⟩:=o;simp only at h1 h2 h3;subst h1 h2 h3;have T:s.TypeIs (.ref a) "list":=⟨_,hk,rfl⟩;unfold getAttr?;refine Qz (wpAny_mkText ?_);have T1:Shared.TypeIs {s with toks:=s.toks+1} (.ref a) "list":=T
 unfold getAttrBy?;refine Qz (Xk ?_);unfold getAttrBy;refine Yr ?_
 refine Qz (Um T1 ?_);rw[PySem.F.slot_list_getattribute.lookup,pure_bind];dsimp only;rw[Qt (by decide)]
 unfold getAttrByItsOwn;refine Qz ?_
 unfold hookBefore;rw[Qt (by decide)]
 refine Qv ?_
 refine Qz (Xk ?_);refine Yr ?_
 unfold callGetattribute;rw[Qt (by decide)]
 unfold boundAndCalled;rw[PySem.F.slot_list_getattribute.bind,pure_bind];refine Vg PySem.F.slot_list_getattribute T1 am_entry_list_getattribute (PySem.F.args_list_getattribute_2 _ _) (meets_getattribute_miss_list a items k sl _ _ b8Z (by decide)) ⟨hk,hh,fun h' tk e ne=>?_⟩
 obtain⟨t,u,ht⟩:=ne.there;have Te:Shared.TypeIs {s with heap:=h',toks:=tk} (.ref e) "AttributeError":=⟨_,ht,rfl⟩
 show wpAny _ _ (getattributeRaised _ _ _ _ _ _ _) _ _ _;unfold getattributeRaised;refine Qz (wpAny_isInstance Te sub_AttributeError ?_);rw[Qg rfl];unfold hookBehind;rw[Qt (by decide),am_list_getattr_none,pure_bind]
 unfold hookOrError;dsimp only;unfold attributeErrorLeaves;dsimp only;rw[Qg (show(!false)=true from rfl)]
 refine Qz (wpAny_throw ?_);show wpAny _ _ _ _ _ _;refine Qz (wpAny_isInstance Te sub_AttributeError ?_);rw[Qg rfl];exact Qv (hQ h' tk ne.keeps)
end
theorem b2m:entryFor table "dict.update.loop"=some PySem.Builtin.«dict.update.loop»:=by kernel_rfl
theorem a6g:plainId "dict.update.loop"=true:=by decide+kernel
inductive PairsAt (K:Qq) (G:Hp):List V->List (List Int×V)->Prop
 |nil:PairsAt K G [] []
 |cons {q b:Addr}{k:List Int}{v:V}{xs:List V}{ps:List (List Int×V)}:SqU K G q [.ref b,v]->a3G K G b k->PairsAt K G xs ps->PairsAt K G (.ref q::xs) ((k,v)::ps)
theorem b9b{X:Cx}{pins:OX}{σ:St}{H:Hp}{s:Shared}{a b:Addr}{A:Around}{E:OE}{kvs:List (List Key×V)}{k:List Key}{v:V}{r:Value}{Q:Unit->Shared->Prop}(hu:A.units+1<cLine)(I:Inv X pins σ H s)(e:H a=some (.dT (x5_ X.K) kvs))(eb:H b=some (.tup (k.map kV))∨x5_ X.K b k)(l:kvs.length<sizeLine)(rv:v6_ v r)
  (h:∀h' tk,Heap.SameBut a s.heap h'->Inv X pins σ (upd H a (.dT (x5_ X.K) (a0F kvs k v))) {s with heap:=h',toks:=tk}->Q () {s with heap:=h',toks:=tk}):wpAny (model X.prog X.w) A.in1 (dictSet a (.ref b) r) Q E s:=by
 obtain⟨z,hd,xs,rel,dd⟩:=a3J I e;have hz:xs.length≤sizeLine:=by rw[←Paired.length rel];exact z
 have hl:(a0F kvs k v).length≤sizeLine:=by have:=a7r kvs k v;omega
 refine wpAny_dictSet_heap (hsz:=hz) (Je hu) (a3I (K:=X.K) I.hok I.kIn eb) dd fun h' dd' hs=>h _ _ hs ?_
 obtain⟨q,es,ep,hq,h2,h3,h4,_,h5⟩:=dd';refine b0R I (by rw[e];exact True.intro) hs ⟨q,hq⟩ ⟨hl,hd,_,(rel.put k eb rv).keeps fun c ys ec=>?_,q,es,ep,hq,h2,h3,h4,h5⟩
 rw[v9_ (b0k ec e (fun z=>nomatch z))]
 exact ec
def a3P:List (List Key×V)->List (List Int×V)->List (List Key×V)
 |kvs,[]=>kvs
 |kvs,p::ps=>a3P (a0F kvs (k7_ p.1) p.2) ps
section
variable{X:Cx}{pins:OX}{σ:St}{A:Around}{R:Result->Shared->Prop}{l it d:Addr}{xs:List V}{G:Hp}
theorem b9c(hh:A.handled=none)(hu:A.units+1<cLine)(res:Value)(hd:G d=none)(hn:it≠d)(hl:SqL X.K G l xs):
  ∀(ys:List V) (ps:List (List Int×V)) (i:Nat) (z:Int) (s:Shared) (kvs:List (List Key×V)),xs.drop i=ys->PairsAt X.K G ys ps->Inv X pins σ (upd G d (.dT (x5_ X.K) kvs)) s->u1_ X pins (upd G d (.dT (x5_ X.K) kvs)) it->s.heap.IsListIter it l i->kvs.length≤i->
   (∀s',Inv X pins σ (upd G d (.dT (x5_ X.K) (a3P kvs ps))) s'->R (.ok (.ret res)) s')->
   codeAny (model X.prog X.w) A (.builtin "dict.update.loop" ⟨[.ref d,.ref it,rawInt z,res],[]⟩) R s:=by
 intro ys
 induction ys with
 |nil=>
  intro ps i z s kvs hdr pa I hf st hk hR;cases pa;obtain⟨its,rv,pl,hz⟩:=I.list ((Le.upd hd).sqL hl);refine codeAny_builtin b2m ?_
  rw[Around.under_plainId a6g _];show wpAny _ A.in1 (pyNext (.ref it)>>=_) _ _ s;have hlen:=rv.length;have hi:xs.length≤i:=by have:=Yb List.length hdr;simp at this;omega
  refine Qz (wpAny_pyNext_list_end (show A.in1.handled=none from hh) st pl.isList (by simp;omega) fun h' eb=>?_)
  refine Qv ?_
  exact hR _ (I.turned (t':=s.toks) (fun b o hb e=>eb b o hb e) hf.1 hf.2.1 hf.2.2.2.1 hf.2.2.2.2.1 hf.2.2.2.2.2)
 |cons y ys ih=>
  intro ps i z s kvs hdr pa I hf st hk hR;cases pa;rename_i q b k v ps hq hb pa;obtain⟨its,rv,pl,hz⟩:=I.list ((Le.upd hd).sqL hl);have hx:xs[i]? =some (.ref q):=by have:=Yb (·[0]?) hdr;simpa using this
  obtain⟨u,hu',ru⟩:=rv.get hx;cases ru;refine codeAny_builtin b2m ?_
  rw[Around.under_plainId a6g _];show wpAny _ A.in1 (pyNext (.ref it)>>=_) _ _ s;refine Qz (wpAny_pyNext_list_item st pl.isList (x:=.ref q) (by simpa using hu') fun h' st' sb=>?_)
  have I1:Inv X pins σ (upd G d (.dT (x5_ X.K) kvs)) {s with heap:=h'}:=I.turned (t':=s.toks) (fun b o hb e=>(sb.2 b hb).trans e) hf.1 hf.2.1 hf.2.2.2.1 hf.2.2.2.2.1 hf.2.2.2.2.2
  obtain⟨its2,rv2,p2,_⟩:=I1.tuple ((Le.upd hd).sqT hq);cases rv2 with
  |cons r1 rv2=>
  cases rv2 with
  |cons r2 rv2=>
  cases rv2;cases r1;rename_i r;obtain⟨o2,h1,h2,n2,h4⟩:=p2;dsimp only;refine Qz (Yr ?_);refine Qz (wpAny_tryCatch ?_);unfold PySem.Builtin.Dict.pairItems;refine Qz (Um (T:="tuple") ⟨_,h1,h2⟩ ?_);rw[Qg (by decide)]
  refine Qz (Yo h1 h4 (Qv ?_));show wpAny _ A.in1 (holding [.ref b,r] (dictSet d (.ref b) r)) _ _ _;refine Yr ?_
  have hlen:i<xs.length:=by
   have:=Yb List.length hdr;simp only[Xb,Zk]at this
   omega
  refine b9b hu I1 x8_ (hb.mono (Le.upd hd)) (by omega) r2 fun h2 tk hs I2=>?_
  rw[a6W]at I2;refine Qv ⟨plainId_quiet a6g _,ih ps (i+1) (z+1) _ _ ?_ pa I2 ⟨by rw[v9_ hn];have:=hf.1;rw[v9_ hn]at this;exact this,hf.2⟩ (It1.at' (k:=false) (show It1 false h' it l (i+1)from st') fun o e=>(hs.2 it hn).trans e) ?_ hR⟩
  ·have:=Yb List.tail hdr
   simpa using this
  ·have:=a7r kvs (k7_ k) v
   omega
end
def b2n(K:Qq):List V->Hp->VK->Prop:=fun xs H Q=>∃l ys ps,xs=[.ref l]/\SqL K H l ys/\PairsAt K H ys ps/\∀p,H p=none->Q (.ref p) (upd H p (.dT (x5_ K) (a3P [] ps)))
section
variable{X:Cx}{B:OA}
theorem b9d(hc:X.calm=true)(hu:X.A.units+64<cLine):a0E X (.type "dict") (b2n X.K):=by
 intro pins s σ H xs us Q I rv h;obtain⟨l,ys,ps,rfl,hl,pa,k⟩:=h;cases rv with
 |cons r1 rv=>
 cases rv;cases r1;have hh:X.A.handled=none:=I.ok.hd hc;refine callType_codes (Q₁:=fun obj s₁=>obj=.ref s.heap.objs.size/\s₁={s with heap:=s.heap.push {cls:=.type "dict",data:=.dict #[]}}) PySem.F.kt_called_dict (PySem.F.kt_typeCall_dict_1 _) PySem.F.entry_dict_init (kt_code_dict_new _ ⟨rfl,rfl⟩) fun obj s₁ h₁=>?_
 obtain⟨rfl,rfl⟩:=h₁;have hn:H s.heap.objs.size=none:=I.hok.fresh (Qp _);have I1:Inv X pins σ (upd H s.heap.objs.size (.dT (x5_ X.K) [])) {s with heap:=s.heap.push {cls:=.type "dict",data:=.dict #[]}}:=I.laid (a:=s.heap.objs.size) (o:=.dT (x5_ X.K) []) (t':=s.toks) (fun _ _ q=>Qx _ q) (Qp _) (b2b s.heap I.big)
 have Td:Shared.TypeIs {s with heap:=s.heap.push {cls:=.type "dict",data:=.dict #[]}} (.ref s.heap.objs.size) "dict":=⟨_,Qn _ rfl,rfl⟩
 refine⟨Td,PySem.F.args_dict_init_2 _ _,?_⟩;show wpAny _ X.A.in1.in1 (PySem.Builtin.Dict.selfAndRest "__init__" _>>=_) _ _ _;refine Qz ?_
 unfold PySem.Builtin.Dict.selfAndRest;refine Qz (wpAny_notOrdered_dict Td ?_);refine Qz (Qv (Qv ?_));show wpAny _ X.A.in1.in1 (PySem.Builtin.Dict.updateFrom _ _ _ _ _) _ _ _;unfold PySem.Builtin.Dict.updateFrom;obtain⟨its,rv,pl,hz⟩:=I1.list ((Le.upd hn).sqL hl);refine Qz (Um (T:="list") ?_ ?_)
 ·obtain⟨o,n,h1,h2,h3⟩:=pl
  exact⟨o,h1,h2⟩
 dsimp only;rw[Qg (by decide)]
 refine Qz (b9a (show X.A.in1.in1.handled=none from hh) pl fun h2 tk kp=>?_)
 rw[Qg (show(none:Option Value).isNone=true from rfl)]
 refine Qz (Uy ?_);have I2:Inv X pins σ (upd H s.heap.objs.size (.dT (x5_ X.K) [])) {s with heap:=h2,toks:=tk}:=I1.kept kp
 obtain⟨its2,rv2,pl2,hz2⟩:=I2.list ((Le.upd hn).sqL hl);refine Qz (Jg pl2.isList ?_);have I3:Inv X pins σ (upd H s.heap.objs.size (.dT (x5_ X.K) [])) {s with heap:=h2.push {cls:=.type "list_iterator",data:=.fields #[.ref l,.int 0 0]},toks:=tk}:=I2.kept (t':=tk) fun _ _ q=>Qx _ q
 have hne:h2.objs.size≠s.heap.objs.size:=by
  have h1:(s.heap.push {cls:=.type "dict",data:=.dict #[]}).get? s.heap.objs.size=some _:=Qn _ rfl
  exact Jc (Qh (kp _ _ h1))
 have f:u1_ X pins (upd H s.heap.objs.size (.dT (x5_ X.K) [])) h2.objs.size:=I2.fpOk (Qp _) (I2.hok.fresh (Qp _))
 have st:Heap.IsListIter (h2.push {cls:=.type "list_iterator",data:=.fields #[.ref l,.int 0 0]}) h2.objs.size l 0:=⟨_,Qn _ rfl,rfl,rfl⟩
 refine Qv ⟨plainId_quiet a6g _,b9c (A:=X.A.in1) (show X.A.in1.handled=none from hh) (by have:X.A.in1.units=X.A.units+1:=rfl;omega) .none hn hne hl ys ps 0 0 _ [] rfl pa I3 f st (Qp _) fun s' I'=>?_⟩
 exact⟨rfl,.ref s.heap.objs.size,_,I',rfl,k _ hn⟩
end
def pairs?:List D->Option (List (List Int×D))
 |[]=>some []
 |.tup [kd,vd]::r=>(a0K kd).bind fun k=>(pairs? r).map fun ps=>(k,vd)::ps
 |_=>none
def a1m:OI->List D->List (List Int×D)->OI×List D
 |ks,vs,[]=>(ks,vs)
 |ks,vs,p::ps=>a1m (g9_ ks p.1) (u9_ ks vs p.1 p.2) ps
def a2T:List D->Option D
 |[.lst ds]=>(pairs? ds).map fun ps=>.dct (a1m [] [] ps).1 (a1m [] [] ps).2
 |_=>none
theorem PairsAt.mono{K:Qq}{G G':Hp}(l:Le G G'){xs:List V}{ps:List (List Int×V)}(h:PairsAt K G xs ps):PairsAt K G' xs ps:=by
 induction h with
 |nil=>exact .nil
 |cons a b c ih=>exact .cons (l.sqU a) (b.mono l) ih
theorem b9e{K:Qq}{G:Hp}:∀{ds:List D}{xs:List V}{qs:List (List Int×D)},z8_ K G xs ds->pairs? ds=some qs->∃ps,PairsAt K G xs ps/\ps.map (·.1)=qs.map (·.1)/\z8_ K G (ps.map (·.2)) (qs.map (·.2)):=by
 intro ds
 induction ds with
 |nil=>
  intro xs qs r e;simp only[z8_]at r;cases e;subst r;exact⟨[],.nil,rfl,repL_nil⟩
 |cons d ds ih=>
  intro xs qs r e;simp only[z8_]at r;obtain⟨x,t,rfl,r1,r2⟩:=r;unfold pairs? at e;split at e
  ·rename_i z;cases z
  ·rename_i kd vd r' z
   cases z;obtain⟨k,e1,e2⟩:=q8_ e;obtain⟨qs',e3,e4⟩:=y8_ e2;cases e4;obtain⟨ps,p1,p2,p3⟩:=ih r2 e3;simp only[Rep]at r1;obtain⟨a,ys,rfl,q1,q2⟩:=r1;simp only[z8_]at q2;obtain⟨y1,t1,rfl,s1,y2,t2,rfl,s2,rfl⟩:=q2;obtain⟨b,rfl,kb⟩:=a3H s1 e1;exact⟨(k,y2)::ps,.cons q1 kb p1,by rw[Qy,Qy,p2],by rw[Qy,Qy];exact repL_cons s2 p3⟩
  ·cases e
theorem b9f{K:Qq}{G:Hp}:∀{ps:List (List Int×V)}{qs:List (List Int×D)}{kvs:List (List Key×V)}{ks:OI}{vs:List D},ps.map (·.1)=qs.map (·.1)->z8_ K G (ps.map (·.2)) (qs.map (·.2))->kvs.map (·.1)=ks.map k7_->z8_ K G (kvs.map (·.2)) vs->
  (a3P kvs ps).map (·.1)=(a1m ks vs qs).1.map k7_/\z8_ K G ((a3P kvs ps).map (·.2)) (a1m ks vs qs).2:=by
 intro ps
 induction ps with
 |nil=>
  intro qs kvs ks vs e1 r1 e2 r2;cases qs with
  |nil=>exact⟨e2,r2⟩
  |cons q qs=>cases e1
 |cons p ps ih=>
  intro qs kvs ks vs e1 r1 e2 r2;cases qs with
  |nil=>cases e1
  |cons q qs=>
   rw[Qy,Qy]at e1 r1;injection e1 with e1 e1'
   simp only[z8_]at r1;obtain⟨x,t,z,s1,s2⟩:=r1;cases z;obtain⟨h1,h2⟩:=b2a (K:=K) (G:=G) p.1 e2 r2 s1;simp only[a3P,a1m];rw[←e1];exact ih e1' s2 h1 h2
theorem b9g{X:Cx}{B:OA}:a1f X B (b2n X.K) a2T:=by
 intro G σ env H xs ds c Q rl r e k;unfold a2T at e;split at e
 ·rename_i ds'
  obtain⟨x,rfl,q⟩:=a1g r;obtain⟨qs,e1,e2⟩:=y8_ e;subst e2;simp only[Rep]at q;obtain⟨a,ys,rfl,h1,h2⟩:=q;obtain⟨ps,p1,p2,p3⟩:=b9e h2 e1;refine⟨a,ys,ps,rfl,rl.sub.sqL h1,p1.mono rl.sub,fun p hp=>k _ _ _ (rl.alloc hp) ?_⟩
  obtain⟨f1,f2⟩:=b9f (kvs:=[]) (ks:=[]) (vs:=[]) p2 p3 rfl repL_nil;simp only[Rep];exact⟨p,_,rfl,x8_,f1,z8_.mono (Le.upd (rl.gnone hp)) _ f2⟩
 ·cases e
end L2.Mir
namespace L2.Mir
open PySem PySem.Spec PyProof.Rows PySem.W
structure DefT(P:Program)(w:World)(K:Frag)(mg:OU)(base:Heap)(x:Str)(k n:Nat)(fn:Fn)(ts:List Addr):Prop where
 ex:∃(f:Addr) (fd:FuncData) (ps:List Str),FnOk P w K mg base CX0 k f fd ps (SpT K ts n fn)/\ps.length=n/\mg x=some (.ref f)/\keepIn K (.ref f)=true/\a0s K fd ps []
section
variable{X:Cx}{B:OA}{pos p:Pos}{e:Expr}{es:List Expr}{as:Mo (List Ar)}{fn:Fn}{k n:Nat}{x:Str}{ts:List Addr}{f:Addr}{fd:FuncData}{ps:List Str}{t:TA}{E:XK}
end
theorem x4_{N P:List Str}{sc:Scope}(a:sc.kind=.function:=by rfl)(b:sc.isCoroutine=false:=by rfl)(c:sc.isGenerator=false:=by rfl)(d:N.Nodup:=by decide+kernel)(e:N.take P.length=P:=by rfl)(f:∀x∈P,sc.names.lookup x=some .local∨sc.names.lookup x=some .cell:=by decide+kernel)(g:∀y∈sc.names,y.2≠.free:=by decide+kernel):FnScope N P sc:=⟨a,b,c,d,e,f,g⟩
theorem us1{α:Type}{M:List α->Prop}(h:∀a,M [a]):∀us:List α,us.length=1->M us
 |[a],_=>h a
theorem us2{α:Type}{M:List α->Prop}(h:∀a b,M [a,b]):∀us:List α,us.length=2->M us
 |[a,b],_=>h a b
theorem us3{α:Type}{M:List α->Prop}(h:∀a b c,M [a,b,c]):∀us:List α,us.length=3->M us
 |[a,b,c],_=>h a b c
theorem us4{α:Type}{M:List α->Prop}(h:∀a b c d,M [a,b,c,d]):∀us:List α,us.length=4->M us
 |[a,b,c,d],_=>h a b c d
section
variable{X:Cx}{B:OA}{pos:Pos}{o e:Expr}{ma mb:Mo D}
end
section
variable{X:Cx}{B:OA}{pos:Pos}{o e:Expr}{ma mb:Mo D}
end
section
variable{X:Cx}{B:OA}{tg e:Expr}{ma:Mo D}
end
section
variable{X:Cx}{B:OA}{pos:Pos}{e e2:Expr}{ma mb:Mo D}
end
def lkK:List (Key×Key)->Key->Option Key
 |[],_=>none
 |p::l,k=>if p.1=k then some p.2 else lkK l k
structure DkG(P:Program)(w:World)(K:Qq)(mg:OU)(x:Str)(kvs:List (Key×Key)):Prop where
 ex:∃a,mg x=some (.ref a)/\(a==sysModules)=false/\∀h:Heap,K.In h->(∃o,h.get? a=some o/\o.cls=.type "dict")/\∃g:Key->Option Value,h.MapOf (a0j P w) a g/\∀k,a1q ((lkK kvs k).map kV) (g k)
section
variable{X:Cx}{B:OA}{pos:Pos}{a b:Expr}{ma mb:Mo D}{kvs:List (Key×Key)}
end
section
variable{X:Cx}{B:OA}{pos:Pos}{k1 k2 k3 v1 v2 v3:Expr}{a1 a2 a3 b1 b2 b3:Key}
end
inductive Ents (P:Program) (w:World):List DictEntry->List (Key×Key)->Prop
 |nil:Ents P w [] []
 |cons {e:DictEntry}{p:Key×Key}{es:List DictEntry}{kvs:List (Key×Key)}:v6_ (kV p.1) e.key->e.hash=(a0j P w).hash p.1->v6_ (kV p.2) e.val->Ents P w es kvs->Ents P w (e::es) (p::kvs)
section
variable{X:Cx}{B:OA}{a b e st:Expr}{ma mb:Mo D}{pos p2:Pos}
end
def lkF:List (Str×Str)->Key->Option Str
 |[],_=>none
 |p::l,k=>if(.inr p.1:Key)=k then some p.2 else lkF l k
def b9h(mg:OU):Option Str->Option Value->Prop
 |none,o=>o=none
 |some n,o=>∃f,mg n=some (.ref f)/\o=some (.ref f)
structure DfG(P:Program)(w:World)(K:Qq)(mg:OU)(x:Str)(kvs:List (Str×Str)):Prop where
 ex:∃a,mg x=some (.ref a)/\(a==sysModules)=false/\∀h:Heap,K.In h->(∃o,h.get? a=some o/\o.cls=.type "dict")/\∃g:Key->Option Value,h.MapOf (a0j P w) a g/\∀k,b9h mg (lkF kvs k) (g k)
 wk:(kvs.map fun p=>(.inr p.1:Key)).Nodup->∃a vs ep,mg x=some (.ref a)/\(a==sysModules)=false/\vs.map (·.1)=kvs.map (fun p=>(.inr p.1:Key))/\∀h:Heap,K.In h->h.DictAt (a0j P w) a vs ep
section
variable{X:Cx}{B:OA}{pos:Pos}{a b:Expr}{ma mb:Mo D}{kvs:List (Str×Str)}
end
inductive EntF (P:Program) (w:World) (mg:OU):List DictEntry->List (Str×Str)->Prop
 |nil:EntF P w mg [] []
 |cons {e:DictEntry}{p:Str×Str}{f:Addr}{es:List DictEntry}{kvs:List (Str×Str)}:v6_ (.str p.1) e.key->e.hash=(a0j P w).hash (.inr p.1)->e.val=.ref f->mg p.2=some (.ref f)->EntF P w mg es kvs->EntF P w mg (e::es) (p::kvs)
section
variable{K:Qq}{B:OA}{G G':Hp}{σ σ':St}{env env':Env'}{H H':Hp}
end
section
variable{X:Cx}{B:OA}{pos:Pos}{k1 k2 k3 k4 v1 v2 v3 v4:Expr}{a1 a2 a3 a4:Str}{m1 m2 m3 m4:Mo D}
end
section
variable{X:Cx}{B:OA}{pos p:Pos}{fn:Fn}{k:Nat}{x:Str}
end
section
variable{X:Cx}{B:OA}{tg:Expr}{kvs:List (Str×Str)}
end
section
variable{prog:Program}{w:World}{A:Around}{R:Result->Shared->Prop}{I S:Addr}{fp wr:List Addr}{n:Nat}{P:Nat->Value->Prop}{St:Nat->Heap->Prop}{bt:Nat->Nat->Bool}{Z:Heap->Prop}
end
section
variable{X:Cx}{B:OA}
end
section
variable{X:Cx}{B:OA}{pos p p1:Pos}{e2:Expr}{m:Mo D}{fn:Fn}{k i:Nat}{x y:Str}
end
section
variable{prog:Program}{w:World}{A:Around}{s:Shared}{fin:Bool}{Q:Bool->Shared->Prop}
end
section
variable{X:Cx}{B:OA}{pins:OX}{σ:St}{G H:Hp}{s:Shared}
end
theorem a8h{g:OZ}{t:Mo Bool}{m:Mo D}:∀{ds:List D}{env e:Env'}{r:List D},j7_ g t m ds env=some (r,e)->a1l g t (a0J m) ds env=some (r,e)/\r.length≤ds.length
 |[],env,e,r,h=>by cases h;exact⟨rfl,Qp _⟩
 |d::ds,env,e,r,h=>by
  obtain⟨e1,h1,h⟩:=q8_ h;obtain⟨⟨b,e2⟩,h2,h⟩:=q8_ h;have goal:∀z,((g d env).bind fun e1=>(t e1).bind fun p=>if p.1 then(a0J m p.2).bind fun q'=>(a1l g t (a0J m) ds q'.2).map fun r=>(q'.1++r.1,r.2)else a1l g t (a0J m) ds p.2)=z->a1l g t (a0J m) (d::ds) env=z:=fun z h=>h
  cases b with
  |false=>
   obtain⟨a1,a2⟩:=a8h (show j7_ g t m ds e2=some (r,e)from h)
   exact⟨goal _ (by rw[h1,Qj,h2];exact a1),Nat.le_succ_of_le a2⟩
  |true=>
   obtain⟨⟨x,e3⟩,h3,h⟩:=q8_ (show(m e2).bind (fun q=>(j7_ g t m ds q.2).map fun r=>(q.1::r.1,r.2))=some (r,e)from h)
   obtain⟨⟨r',e4⟩,h4,h5⟩:=y8_ h;cases h5;obtain⟨a1,a2⟩:=a8h h4;refine⟨goal _ ?_,Nat.succ_le_succ a2⟩;have he:a0J m e2=some ([x],e3):=by
    show(m e2).map _=_;rw[h3]
    rfl
   rw[h1,Qj,h2];show(a0J m e2).bind _=_;rw[he];show(a1l g t (a0J m) ds e3).map _=_;rw[a1]
   rfl
theorem b2o{mi:Mo (List D)}{keep:List Bool}{more:Nat}{g:OZ}{t:Mo Bool}{m:Mo D}{env:Env'}{x:List D×Env'}(h:y9_ mi keep more g t m env=some x):a2O mi keep more g t (a0J m) env=some x:=by
 obtain⟨p,h1,h⟩:=q8_ h;split at h
 case isFalse=>cases h
 rename_i hl;obtain⟨⟨r,e⟩,h2,h3⟩:=q8_ h;obtain⟨a1,a2⟩:=a8h h2;unfold a2O;rw[h1,Qj,a1,Qj,Qg (Yj a2 hl)];exact h3
section
variable{X:Cx}{B:OA}{N':List Str}{scope:Scope}{keep:List Bool}{more:Nat}{tg iter elt:Expr}{ifs:List Expr}{g:OZ}{t:Mo Bool}{m:Mo D}{mi:Mo (List D)}{pos:Pos}
theorem a0o(ok:CompOk X N' scope keep more)(hc:X.calm=true)(hi:EI X B tg iter mi)(hg:∀s H fp,EG (x6_ X N' scope s H fp) B X.N.length tg g)(ht:∀s H fp,a0H (x6_ X N' scope s H fp) ifs (TTm X.K B t))(he:∀s H fp,ED (x6_ X N' scope s H fp) B elt m)
  (hs:∀x,foldedSetIterable iter X.env x=pure x:=by intro _;rfl):EL X B (.ListComp elt [⟨tg,iter,ifs,0⟩] scope pos) (y9_ mi keep more g t m):=
 pe_imp (b8u ok hc hi hg ht (fun s H fp p=>a7V rfl (he s H fp)) hs) fun σ H Q ⟨G,env,d,env',rl,e,k⟩=>⟨G,env,d,env',rl,b2o e,k⟩
theorem b9i{i:Nat}{y:Str}{py spos:Pos}(ok:CompOk X N' scope keep more)(hc:X.calm=true)(hN:X.N.Nodup)(hy:X.N[i]? =some y)(hyl:X.env.scope.names.lookup y=some .local)
  (hsw:swapsWith (.ListComp elt [⟨tg,iter,ifs,0⟩] scope pos) (some (.Name y py)) spos.line X.env=pure true)
  (hi:EI X B tg iter mi)(hg:∀s H fp,EG (x6_ X N' scope s H fp) B X.N.length tg g)(ht:∀s H fp,a0H (x6_ X N' scope s H fp) ifs (TTm X.K B t))(he:∀s H fp,ED (x6_ X N' scope s H fp) B elt m)
  (hs:∀x,foldedSetIterable iter X.env x=pure x:=by intro _;rfl):ES X B (.Assign [.Name y py] (.ListComp elt [⟨tg,iter,ifs,0⟩] scope pos) spos) (a0d i (y9_ mi keep more g t m)):=by
 refine ps_imp (b2i (i:=i) ok hc hN hy hyl hsw hi hg ht (fun s H fp p=>a7V rfl (he s H fp)) hs) ?_
 rintro D σ H ⟨G,env,fl,env',rl,e,k⟩;obtain⟨⟨d,env1⟩,e1,e2⟩:=y8_ e;cases e2;refine⟨G,env,.nx,env1.set i (.own d),rl,?_,k⟩;show(a2O mi keep more g t (a0J m) env).map _=_;rw[b2o e1]
 rfl
end
section
variable{X:Cx}{k n:Nat}
end
def b2p(t:SetTable):Nat->SetTable.Probe->SetTable.Probe
 |0,p=>p
 |n+1,p=>b2p t n (t.advance p)
def road(t:SetTable)(h:Int)(n:Nat):Nat:=(b2p t n (t.probeStart h)).j
structure Tb(t:SetTable)(es:Array (Int×Value))(L:List (Nat×Int×Value)):Prop where
 pl:t.place.toList=L.map (·.1)
 en:es.toList=L.map (·.2)
 ri:(L.map (·.1)).Pairwise (· < ·)
 le:∀x∈L,x.1≤t.mask
 du:t.dummies= #[]
 rd:∀x∈L,∃n,road t x.2.1 n=x.1/\∀n',n'<n->road t x.2.1 n'∈L.map (·.1)
variable{t:SetTable}{es:Array (Int×Value)}{L:List (Nat×Int×Value)}
end L2.Mir
namespace L2.Mir
open PySem PySem.Spec PyProof.Rows
abbrev fr(ow:Array (Option Nat))(j:Nat):Bool:=(ow.getD j (some 0)).isNone
structure Lay(t:SetTable)(hs:List Int)(k:Nat)(ow:Array (Option Nat)):Prop where
 sz:ow.size=t.mask+1
 rd:∀j q,ow.getD j none=some q->q<k/\∃n,road t (hs.getD q 0) n=j/\∀n',n'<n->(ow.getD (road t (hs.getD q 0) n') none).isSome=true
 al:∀q,q<k->∃j,ow.getD j none=some q
 inj:∀j j' q,ow.getD j none=some q->ow.getD j' none=some q->j=j'
section
variable{prog:Program}{w:World}{K:Type}[DecidableEq K](knd:KeyKind prog w K)
def b9j(h:Heap):K ⊕ List K->Value->Prop
 |.inl k,v=>knd.is k v=true
 |.inr ks,v=>∃a,v=.ref a/\IsTupleKey knd h ks a
inductive ItsAre (h:Heap):List (K ⊕ List K)->List Value->Prop
 |nil:ItsAre h [] []
 |cons {k:K ⊕ List K}{v:Value}{ks:List (K ⊕ List K)}{vs:List Value}:b9j knd h k v->ItsAre h ks vs->ItsAre h (k::ks) (v::vs)
variable{knd}
variable{A:Around}{E:OE}{s:Shared}
end
section
variable{prog:Program}{w:World}{K:Type}[DecidableEq K]{knd:KeyKind prog w K}{A:Around}{E:OE}{s:Shared}
end
section
variable{prog:Program}{w:World}{K:Type}[DecidableEq K]{knd:KeyKind prog w K}{A:Around}{E:OE}{s:Shared}
variable{S:Addr}{o:Obj}{es:Array (Int×Value)}{ep:Nat}{t:SetTable}{L:List (Nat×Int×Value)}{kx:List (K ⊕ List K)}{ax:Addr}
end
section
variable{prog:Program}{w:World}{K:Type}[DecidableEq K]{knd:KeyKind prog w K}{A:Around}{E:OE}{s:Shared}
end
section
variable{prog:Program}{w:World}{K:Type}[DecidableEq K]{knd:KeyKind prog w K}{A:Around}{E:OE}{s:Shared}
end
section
variable{prog:Program}{w:World}{A:Around}{E:OE}{s:Shared}{it d:Addr}{es:Array DictEntry}{i ep:Nat}
end
section
variable{X:Cx}{B:OA}{pos:Pos}
end
section
variable{X:Cx}{B:OA}{pos:Pos}{e e2:Expr}{ma mb:Mo D}
end
section
variable{prog:Program}{w:World}{A:Around}{E:OE}{s:Shared}{it d:Addr}{es:Array DictEntry}{i ep:Nat}
end
def vOf:Value->V
 |.ref a=>.ref a
 |_=>.non
section
variable{K:Qq}{G:Hp}
end
structure EsT(es:Array DictEntry)(xs:List V):Prop where
 key:∀(i:Nat) (e:DictEntry),es[i]? =some e->v6_ (vOf e.key) e.key
 val:∀(i:Nat) (e:DictEntry),es[i]? =some e->∃x,xs[i]? =some x/\v6_ x e.val
section
variable{K:Qq}{G:Hp}{d:Addr}{es:Array DictEntry}{ep:Nat}{ks:List KX}{xs:List V}{vs:List D}
end
section
variable{X:Cx}{B:OA}{tg e:Expr}{ma:Mo D}
end
section
variable{K:Qq}{G:Hp}
inductive AL (K:Qq) (G:Hp):List (KX×Addr×Value)->List KX->List V->List D->Prop
 |nil:AL K G [] [] [] []
 |cons {y:KX×Addr×Value}{ys:List (KX×Addr×Value)}{ks:List KX}{x:V}{xs:List V}{d:D}{ds:List D}(h1:a4k K G (.ref y.2.1) y.1) (h2:v6_ x y.2.2) (h3:Rep K G x d) (t:AL K G ys ks xs ds):AL K G (y::ys) (y.1::ks) (x::xs) (d::ds)
end
section
variable{X:Cx}{pins:OX}{σ:St}{H G:Hp}{s:Shared}{a b:Addr}{A:Around}{E:OE}{es:Array DictEntry}{ep:Nat}{ks:List KX}{k:KX}{xs:List V}{vs:List D}
end
section
variable{X:Cx}{B:OA}{pos:Pos}{a b e e2:Expr}{ma mb:Mo D}
end
end L2.Mir
namespace L2
open PySem PySem.Spec PyProof.Rows
section
variable{κ:Type}[DecidableEq κ]
end
end L2
namespace L2.Mir
open PySem PySem.Spec PyProof.Rows
section
variable{X:Cx}{B:OA}{pos p:Pos}{a tg:Expr}{ms:Mo (List D)}
end
inductive PairsI (K:Qq) (G:Hp):List V->List (Key×Key)->Prop
 |nil:PairsI K G [] []
 |cons {q:Addr}{k v:Key}{xs:List V}{ps:List (Key×Key)}:SqU K G q [kV k,kV v]->PairsI K G xs ps->PairsI K G (.ref q::xs) ((k,v)::ps)
section
variable{X:Cx}{pins:OX}{σ:St}{A:Around}{R:Result->Shared->Prop}{l it d:Addr}{xs:List V}{G:Hp}
end
section
variable{X:Cx}{B:OA}
end
section
variable{prog:Program}{w:World}{A:Around}{R:Result->Shared->Prop}{s:Shared}
end
section
variable{X:Cx}{N':List Str}{scope:Scope}{keep:List Bool}{more:Nat}{tg iter kx vx:Expr}{ifs:List Expr}{g:TG}{tt:TT}{act:Addr->a0X}{pos:Pos}
end
section
variable{K:Qq}{B:OA}{n:Nat}
end
section
variable{X:Cx}{B:OA}{N':List Str}{scope:Scope}{keep:List Bool}{more:Nat}{tg iter kx vx:Expr}{ifs:List Expr}{g:OZ}{t:Mo Bool}{mk mv:Mo D}{mi:Mo (List D)}{pos:Pos}
end
theorem b9k:bootBuiltins "dict"=some (.type "dict"):=by decide+kernel
section
variable{X:Cx}{B:OA}{pos:Pos}{e:Expr}{ma:Mo D}
end
section
variable{X:Cx}{B:OA}{pos:Pos}{o e:Expr}{ma mb:Mo D}
end
section
variable{P:Program}{w:World}
end
section
variable{X:Cx}{B:OA}{pins:OX}{σ:St}{G H:Hp}{s:Shared}
end
section
variable{prog:Program}{w:World}{A:Around}{E:OE}{s:Shared}
end
section
variable{prog:Program}{w:World}{A:Around}{R:Result->Shared->Prop}{I:Addr}{fp wr:List Addr}{G:Array GenState->Array GenState->Prop}{n:Nat}{P:Nat->Value->Prop}{St:Nat->Shared->Prop}
end
section
variable{prog:Program}{w:World}{A:Around}{E:OE}{s:Shared}
end
namespace FS
end FS
section
variable{prog:Program}{w:World}{A:Around}{E:OE}{s:Shared}{it S:Addr}{es:Array (Int×Value)}{i ep:Nat}{t:SetTable}{L:List (Nat×Int×Value)}
end
section
variable{prog:Program}{w:World}{A:Around}{E:OE}{s:Shared}{it S:Addr}{es:Array (Int×Value)}{i ep:Nat}{t:SetTable}{L:List (Nat×Int×Value)}
end
namespace FS
end FS
section
variable{prog:Program}{w:World}{A:Around}{E:OE}{s:Shared}{it S:Addr}{es:Array (Int×Value)}{i ep:Nat}{t:SetTable}{L:List (Nat×Int×Value)}
end
section
variable{X:Cx}{B:OA}
end
end L2.Mir
namespace L2.Mir
open PySem PySem.Spec PyProof.Rows PySem.W
structure PS where
 a:Array Nat
 pd:Array (Nat×Nat×Nat)
 mg:Nat
structure Lt where
 N:Nat
 lt:Nat->Nat->Bool
structure Sx where
 prog:Program
 w:World
 A:Around
 E:OE
 s:Shared
 κ:SortKind
 it:Nat->Keyed
 L:Lt
 ok:∀i j (C:Bool->Shared->Prop),i<L.N->j<L.N->C (L.lt i j) s->wpAny (model prog w) A (keyLt' κ (it i).1 (it j).1) C (fun _ _=>False) s
variable{Y:Sx}{α β γ δ:Type}
def ltS(Y:Lt)(i j:Nat)(S:PS):Option (Bool×PS):=if i<Y.N/\j<Y.N then some (Y.lt i j,S)else none
def a4G(Y:Lt)(i j:Nat)(S:PS):Option (Bool×PS):=S.a[i]?.bind fun x=>S.a[j]?.bind fun y=>ltS Y x y S
def a0p(g:β->PS->Option (ForInStep β×PS)):Nat->β->PS->Option (β×PS)
 |0,b,S=>some (b,S)
 |n+1,b,S=>(g b S).bind fun p=>match p.1 with
  |.done b'=>some (b',p.2)
  |.yield b'=>a0p g n b' p.2
variable{Y:Sx}{α β γ δ:Type}
def bS(Y:Lt)(left:Bool)(key:Nat)(arr:Array Nat)(base i:Nat)(S:PS):Option (Bool×PS):=(arr[base+i]?.map fun x=>(x,S)).bind fun p=>if left=true then ltS Y p.1 key p.2 else(ltS Y key p.1 p.2).bind fun q=>some (!q.1,q.2)
def g3S(bey:Nat->PS->Option (Bool×PS))(n lo hi:Nat)(S:PS):Option (Nat×PS):=
 (a0p (fun(b:Nat×Nat) S=>if b.1 ≥ b.2 then some (.done b,S)else(bey (b.1+(b.2-b.1)/2) S).bind fun p=>if p.1=true then some (.yield (b.1+(b.2-b.1)/2+1,b.2),p.2)else some (.yield (b.1,b.1+(b.2-b.1)/2),p.2)) (n-0) (lo,hi) S).bind fun p=>some (p.1.2,p.2)
abbrev e2(b:Nat×Nat):Option (Option Nat)×Nat×Nat:=(none,b.1,b.2)
def g2S(bey:Nat->PS->Option (Bool×PS))(at_:Nat->Nat)(stp:Bool->Bool)(n most:Nat)(k:Nat->Nat->PS->Option (Nat×PS))(S:PS):Option (Nat×PS):=
 (a0p (fun(b:Nat×Nat) S=>if b.2 ≥ most then some (.done b,S)else(bey (at_ b.2) S).bind fun p=>if stp p.1=true then some (.done b,p.2)else some (.yield (b.2,2 * b.2+1),p.2)) (n-0) (0,1) S).bind fun p=>k p.1.1 p.1.2 p.2
def a3Q(Y:Lt)(left:Bool)(key:Nat)(arr:Array Nat)(base n hint:Nat)(S:PS):Option (Nat×PS):=
 (bS Y left key arr base hint S).bind fun p=>if p.1=true then g2S (bS Y left key arr base) (fun o=>hint+o) (fun b=>!b) n (n-hint) (fun l o=>g3S (bS Y left key arr base) n (hint+l+1) (hint+min o (n-hint))) p.2
  else g2S (bS Y left key arr base) (fun o=>hint-o) (fun b=>b) n (hint+1) (fun l o=>g3S (bS Y left key arr base) n (hint+1-min o (hint+1)) (hint-l)) p.2
def a6h(i j:Nat)(S:PS):PS:={S with a:=mirror S.a i j ((j-i)/2)}
def b9l(i j:Nat)(S:PS):PS:={S with a:=bubble S.a i (i-j)}
def asS(Y:Lt)(lo a m:Nat)(S:PS):Option (Nat×PS):=a0p (fun(b:Nat) S=>(a4G Y (lo+b) (lo+b-1) S).bind fun p=>if p.1=true then some (.done b,p.2)else some (.yield (b+1),p.2)) (m-a) a S
abbrev e1(b:Nat):Option (Option Nat)×Nat:=(none,b)
def t3S(Y:Lt)(lo n m:Nat)(S:PS):Option (Nat×PS):=(some ((),a6h lo (lo+n) S)).bind fun p=>(asS Y lo n m p.2).bind fun q=>some (q.1,q.2)
def dsS(Y:Lt)(lo a m:Nat)(S:PS):Option ((Nat×Nat)×PS):=a0p (fun(t:Nat×Nat) S=>(a4G Y (lo+t.1) (lo+t.1-1) S).bind fun p=>if p.1=true then(if t.2>0 then(some ((),a6h (lo+t.1-(t.2+1)) (lo+t.1) p.2)).bind fun q=>some (.yield (t.1+1,0),q.2)else some (.yield (t.1+1,0),p.2))
  else(a4G Y (lo+t.1-1) (lo+t.1) p.2).bind fun q=>if q.1=true then some (.done t,q.2)else some (.yield (t.1+1,t.2+1),q.2)) (m-a) (a,0) S
def dpS(Y:Lt)(lo n m:Nat)(S:PS):Option (Nat×PS):=(dsS Y lo (n+1) m S).bind fun p=>if p.1.2>0 then(some ((),a6h (lo+p.1.1-(p.1.2+1)) (lo+p.1.1) p.2)).bind fun q=>t3S Y lo p.1.1 m q.2 else t3S Y lo p.1.1 m p.2
variable{Y:Sx}{α β γ δ:Type}
def b9m(Y:Lt)(lo m:Nat)(S:PS):Option (Nat×PS):=(asS Y lo 1 m S).bind fun p=>if(p.1==m)=true then some (p.1,p.2)else if p.1>1 then(a4G Y lo (lo+p.1-1) p.2).bind fun q=>if q.1=true then some (p.1,q.2)else(some ((),a6h lo (lo+p.1) q.2)).bind fun u=>dpS Y lo p.1 m u.2
 else dpS Y lo p.1 m p.2
def b2q(g:Nat->β->PS->Option (ForInStep β×PS)):Nat->Nat->β->PS->Option (β×PS)
 |0,_,b,S=>some (b,S)
 |n+1,x,b,S=>(g x b S).bind fun p=>match p.1 with
  |.done b'=>some (b',p.2)
  |.yield b'=>b2q g n (x+1) b' p.2
def plS(Y:Lt)(lo k:Nat)(S:PS):Option ((Nat×Nat)×PS):=a0p (fun(b:Nat×Nat) S=>if b.1 ≥ b.2 then some (.done b,S)else(a4G Y (lo+k) (lo+(b.1+b.2)/2) S).bind fun p=>if p.1=true then some (.yield (b.1,(b.1+b.2)/2),p.2)else some (.yield ((b.1+b.2)/2+1,b.2),p.2)) (k-0) (0,k) S
def b9n(Y:Lt)(lo n ok:Nat)(S:PS):Option (Bool×PS):=(b2q (fun k (_:Unit) S=>(plS Y lo k S).bind fun p=>(some ((),b9l (lo+k) (lo+p.1.1) p.2)).bind fun q=>some (.yield (),q.2)) (n-max ok 1) (max ok 1) () S).bind fun p=>some (true,p.2)
abbrev e3(b:Nat×Nat):Option Bool×Nat×Nat:=(none,b.1,b.2)
abbrev e0{α:Type}(_:Unit):Option α×Unit:=(none,())
variable{Y:Sx}{α β γ δ:Type}
abbrev An:=Array Nat
def don(a b out:An)(ia ib:Nat):An:=out++a.extract ia a.size++b.extract ib b.size
def loa(a b out:An)(ia ib:Nat):An:=out++b.extract ib b.size++a.extract ia a.size
abbrev T6:=Option An×An×Nat×Nat×Nat×Nat
abbrev T7:=Option An×An×Nat×Nat×Nat×Nat×Nat
abbrev T5:=Option An×An×Nat×Nat×Nat
def elS(a:An)(i:Nat)(S:PS):Option (Nat×PS):=a[i]?.map fun x=>(x,S)
def lo1(Y:Lt)(a b:An)(mg:Nat)(t:T6)(S:PS):Option (ForInStep T6×PS):=
 (elS b t.2.2.2.1 S).bind fun p=>(elS a t.2.2.1 p.2).bind fun q=>(ltS Y p.1 q.1 q.2).bind fun c=>if c.1=true then(elS b t.2.2.2.1 c.2).bind fun x=>
   if(t.2.2.2.1+1==b.size)=true then some (.done (some (don a b (t.2.1.push x.1) t.2.2.1 (t.2.2.2.1+1)),t.2.1.push x.1,t.2.2.1,t.2.2.2.1+1,0,t.2.2.2.2.2+1),x.2)
   else if t.2.2.2.2.2+1 ≥ mg then some (.done (none,t.2.1.push x.1,t.2.2.1,t.2.2.2.1+1,0,t.2.2.2.2.2+1),x.2)else some (.yield (none,t.2.1.push x.1,t.2.2.1,t.2.2.2.1+1,0,t.2.2.2.2.2+1),x.2)
  else(elS a t.2.2.1 c.2).bind fun x=>
   if(t.2.2.1+1+1==a.size)=true then some (.done (some (loa a b (t.2.1.push x.1) (t.2.2.1+1) t.2.2.2.1),t.2.1.push x.1,t.2.2.1+1,t.2.2.2.1,t.2.2.2.2.1+1,0),x.2)
   else if t.2.2.2.2.1+1 ≥ mg then some (.done (none,t.2.1.push x.1,t.2.2.1+1,t.2.2.2.1,t.2.2.2.2.1+1,0),x.2)else some (.yield (none,t.2.1.push x.1,t.2.2.1+1,t.2.2.2.1,t.2.2.2.2.1+1,0),x.2)
def lo4(a b:An)(mg k k2 ia:Nat)(out:An)(ib:Nat)(S:PS):Option (ForInStep T7×PS):=(elS a ia S).bind fun z=>
 if(ia+1+1==a.size)=true then some (.done (some (loa a b (out.push z.1) (ia+1) ib),out.push z.1,ia+1,ib,mg,k,k2),z.2)
 else if(decide (k<7)&&decide (k2<7))=true then some (.done (none,out.push z.1,ia+1,ib,mg,k,k2),z.2)else some (.yield (none,out.push z.1,ia+1,ib,mg,k,k2),z.2)
def lo3(Y:Lt)(a b:An)(mg k bc ib:Nat)(out:An)(ia:Nat)(S:PS):Option (ForInStep T7×PS):=(elS b ib S).bind fun x=>
 if(ib+1==b.size)=true then some (.done (some (don a b (out.push x.1) ia (ib+1)),out.push x.1,ia,ib+1,mg,k,bc),x.2)
 else(elS a ia x.2).bind fun y=>(a3Q Y true y.1 b (ib+1) (b.size-(ib+1)) 0 y.2).bind fun q=>if q.1>0 then
   (if(ib+1+q.1==b.size)=true then some (.done (some (don a b (out.push x.1++b.extract (ib+1) (ib+1+q.1)) ia (ib+1+q.1)),out.push x.1++b.extract (ib+1) (ib+1+q.1),ia,ib+1+q.1,mg,k,q.1),q.2)
    else lo4 a b mg k q.1 ia (out.push x.1++b.extract (ib+1) (ib+1+q.1)) (ib+1+q.1) q.2)
  else lo4 a b mg k q.1 ia (out.push x.1) (ib+1) q.2
def b2r(Y:Lt)(a b:An)(t:T7)(mg:Nat)(S:PS):Option (ForInStep T7×PS):=(some ((),{S with mg:=mg})).bind fun u=>(elS b t.2.2.2.1 u.2).bind fun x=>(a3Q Y false x.1 a t.2.2.1 (a.size-t.2.2.1) 0 x.2).bind fun q=>if q.1>0 then
   (if(t.2.2.1+q.1+1==a.size)=true then some (.done (some (loa a b (t.2.1++a.extract t.2.2.1 (t.2.2.1+q.1)) (t.2.2.1+q.1) t.2.2.2.1),t.2.1++a.extract t.2.2.1 (t.2.2.1+q.1),t.2.2.1+q.1,t.2.2.2.1,mg,q.1,t.2.2.2.2.2.2),q.2)
    else if(t.2.2.1+q.1==a.size)=true then some (.done (some (don a b (t.2.1++a.extract t.2.2.1 (t.2.2.1+q.1)) (t.2.2.1+q.1) t.2.2.2.1),t.2.1++a.extract t.2.2.1 (t.2.2.1+q.1),t.2.2.1+q.1,t.2.2.2.1,mg,q.1,t.2.2.2.2.2.2),q.2)
    else lo3 Y a b mg q.1 t.2.2.2.2.2.2 t.2.2.2.1 (t.2.1++a.extract t.2.2.1 (t.2.2.1+q.1)) (t.2.2.1+q.1) q.2)
  else lo3 Y a b mg q.1 t.2.2.2.2.2.2 t.2.2.2.1 t.2.1 t.2.2.1 q.2
def lo2(Y:Lt)(a b:An)(t:T7)(S:PS):Option (ForInStep T7×PS):=if t.2.2.2.2.1>1 then b2r Y a b t (t.2.2.2.2.1-1) S else b2r Y a b t t.2.2.2.2.1 S
def lo0(Y:Lt)(a b:An)(t:T5)(S:PS):Option (ForInStep T5×PS):=(a0p (lo1 Y a b t.2.2.2.2) (a.size+b.size-0) (none,t.2.1,t.2.2.1,t.2.2.2.1,0,0) S).bind fun p=>match p.1.1 with
 |some r=>some (.done (some r,p.1.2.1,p.1.2.2.1,p.1.2.2.2.1,t.2.2.2.2),p.2)
 |none=>(a0p (lo2 Y a b) (a.size+b.size-0) (none,p.1.2.1,p.1.2.2.1,p.1.2.2.2.1,t.2.2.2.2+1,p.1.2.2.2.2.1,p.1.2.2.2.2.2) p.2).bind fun q=>match q.1.1 with
  |some r=>some (.done (some r,q.1.2.1,q.1.2.2.1,q.1.2.2.2.1,q.1.2.2.2.2.1),q.2)
  |none=>(some ((),{q.2 with mg:=q.1.2.2.2.2.1+1})).bind fun u=>some (.yield (none,q.1.2.1,q.1.2.2.1,q.1.2.2.2.1,q.1.2.2.2.2.1+1),u.2)
def loS(Y:Lt)(a b:An)(S:PS):Option (An×PS):=(elS b 0 S).bind fun x=>if(1==b.size)=true then some (don a b #[x.1] 0 1,x.2)else if(0+1==a.size)=true then some (loa a b #[x.1] 0 1,x.2)
 else(a0p (lo0 Y a b) (a.size+b.size-0) (none,#[x.1],0,1,x.2.mg) x.2).bind fun p=>match p.1.1 with
  |some r=>some (r,p.2)
  |none=>none
def dnH(a b out:An)(na nb:Nat):An:=a.extract 0 na++b.extract 0 nb++out.reverse
def fbH(a b out:An)(na nb:Nat):An:=b.extract 0 nb++a.extract 0 na++out.reverse
abbrev U5:=Option An×Nat×Nat×An×Nat
abbrev U6:=Option An×Nat×Nat×An×Nat×Nat
abbrev U7:=Option An×Nat×Nat×An×Nat×Nat×Nat
def hi1(Y:Lt)(a b:An)(mg:Nat)(t:U6)(S:PS):Option (ForInStep U6×PS):=
 (elS b (t.2.2.1-1) S).bind fun p=>(elS a (t.2.1-1) p.2).bind fun q=>(ltS Y p.1 q.1 q.2).bind fun c=>if c.1=true then(elS a (t.2.1-1) c.2).bind fun x=>
   if(t.2.1-1==0)=true then some (.done (some (dnH a b (t.2.2.2.1.push x.1) (t.2.1-1) t.2.2.1),t.2.1-1,t.2.2.1,t.2.2.2.1.push x.1,t.2.2.2.2.1+1,0),x.2)
   else if t.2.2.2.2.1+1 ≥ mg then some (.done (none,t.2.1-1,t.2.2.1,t.2.2.2.1.push x.1,t.2.2.2.2.1+1,0),x.2)else some (.yield (none,t.2.1-1,t.2.2.1,t.2.2.2.1.push x.1,t.2.2.2.2.1+1,0),x.2)
  else(elS b (t.2.2.1-1) c.2).bind fun x=>
   if(t.2.2.1-1==1)=true then some (.done (some (fbH a b (t.2.2.2.1.push x.1) t.2.1 (t.2.2.1-1)),t.2.1,t.2.2.1-1,t.2.2.2.1.push x.1,0,t.2.2.2.2.2+1),x.2)
   else if t.2.2.2.2.2+1 ≥ mg then some (.done (none,t.2.1,t.2.2.1-1,t.2.2.2.1.push x.1,0,t.2.2.2.2.2+1),x.2)else some (.yield (none,t.2.1,t.2.2.1-1,t.2.2.2.1.push x.1,0,t.2.2.2.2.2+1),x.2)
def hi4(a b:An)(mg k k2 na:Nat)(out:An)(nb:Nat)(S:PS):Option (ForInStep U7×PS):=(elS a (na-1) S).bind fun z=>
 if(na-1==0)=true then some (.done (some (dnH a b (out.push z.1) (na-1) nb),na-1,nb,out.push z.1,mg,k,k2),z.2)
 else if(decide (k<7)&&decide (k2<7))=true then some (.done (none,na-1,nb,out.push z.1,mg,k,k2),z.2)else some (.yield (none,na-1,nb,out.push z.1,mg,k,k2),z.2)
def hi3(Y:Lt)(a b:An)(mg k bc nb:Nat)(out:An)(na:Nat)(S:PS):Option (ForInStep U7×PS):=(elS b (nb-1) S).bind fun x=>
 if(nb-1==1)=true then some (.done (some (fbH a b (out.push x.1) na (nb-1)),na,nb-1,out.push x.1,mg,k,bc),x.2)
 else(elS a (na-1) x.2).bind fun y=>(a3Q Y true y.1 b 0 (nb-1) (nb-1-1) y.2).bind fun q=>if nb-1-q.1>0 then
   (if(q.1==1)=true then some (.done (some (fbH a b (out.push x.1++(b.extract q.1 (nb-1)).reverse) na q.1),na,q.1,out.push x.1++(b.extract q.1 (nb-1)).reverse,mg,k,nb-1-q.1),q.2)
    else if(q.1==0)=true then some (.done (some (dnH a b (out.push x.1++(b.extract q.1 (nb-1)).reverse) na q.1),na,q.1,out.push x.1++(b.extract q.1 (nb-1)).reverse,mg,k,nb-1-q.1),q.2)
    else hi4 a b mg k (nb-1-q.1) na (out.push x.1++(b.extract q.1 (nb-1)).reverse) q.1 q.2)
  else hi4 a b mg k (nb-1-q.1) na (out.push x.1) (nb-1) q.2
def b2s(Y:Lt)(a b:An)(t:U7)(mg:Nat)(S:PS):Option (ForInStep U7×PS):=(some ((),{S with mg:=mg})).bind fun u=>(elS b (t.2.2.1-1) u.2).bind fun x=>(a3Q Y false x.1 a 0 t.2.1 (t.2.1-1) x.2).bind fun q=>if t.2.1-q.1>0 then
   (if(q.1==0)=true then some (.done (some (dnH a b (t.2.2.2.1++(a.extract q.1 t.2.1).reverse) q.1 t.2.2.1),q.1,t.2.2.1,t.2.2.2.1++(a.extract q.1 t.2.1).reverse,mg,t.2.1-q.1,t.2.2.2.2.2.2),q.2)
    else hi3 Y a b mg (t.2.1-q.1) t.2.2.2.2.2.2 t.2.2.1 (t.2.2.2.1++(a.extract q.1 t.2.1).reverse) q.1 q.2)
  else hi3 Y a b mg (t.2.1-q.1) t.2.2.2.2.2.2 t.2.2.1 t.2.2.2.1 t.2.1 q.2
def hi2(Y:Lt)(a b:An)(t:U7)(S:PS):Option (ForInStep U7×PS):=if t.2.2.2.2.1>1 then b2s Y a b t (t.2.2.2.2.1-1) S else b2s Y a b t t.2.2.2.2.1 S
def hi0(Y:Lt)(a b:An)(t:U5)(S:PS):Option (ForInStep U5×PS):=(a0p (hi1 Y a b t.2.2.2.2) (a.size+b.size-0) (none,t.2.1,t.2.2.1,t.2.2.2.1,0,0) S).bind fun p=>match p.1.1 with
 |some r=>some (.done (some r,p.1.2.1,p.1.2.2.1,p.1.2.2.2.1,t.2.2.2.2),p.2)
 |none=>(a0p (hi2 Y a b) (a.size+b.size-0) (none,p.1.2.1,p.1.2.2.1,p.1.2.2.2.1,t.2.2.2.2+1,p.1.2.2.2.2.1,p.1.2.2.2.2.2) p.2).bind fun q=>match q.1.1 with
  |some r=>some (.done (some r,q.1.2.1,q.1.2.2.1,q.1.2.2.2.1,q.1.2.2.2.2.1),q.2)
  |none=>(some ((),{q.2 with mg:=q.1.2.2.2.2.1+1})).bind fun u=>some (.yield (none,q.1.2.1,q.1.2.2.1,q.1.2.2.2.1,q.1.2.2.2.2.1+1),u.2)
def hiS(Y:Lt)(a b:An)(S:PS):Option (An×PS):=(elS a (a.size-1) S).bind fun x=>if(a.size-1==0)=true then some (dnH a b #[x.1] (a.size-1) b.size,x.2)else if(b.size==1)=true then some (fbH a b #[x.1] (a.size-1) b.size,x.2)
 else(a0p (hi0 Y a b) (a.size+b.size-0) (none,a.size-1,b.size,#[x.1],x.2.mg) x.2).bind fun p=>match p.1.1 with
  |some r=>some (r,p.2)
  |none=>none
variable{Y:Sx}{α β γ δ:Type}
def b2t{γ:Type}(sa:Nat)(l:List (γ ×Nat))(a:Array γ):Array γ:=l.foldl (fun a x=>a.setIfInBounds (sa+x.2) x.1) a
def b2u(Y:Lt)(i:Nat)(S:PS):Option (Bool×PS):=match S.pd[i]?,S.pd[i+1]? with
 |some (sa,na,pw),some (sb,nb,_)=>(elS S.a sb {S with pd:=(S.pd.setIfInBounds i (sa,na+nb,pw)).eraseIdxIfInBounds (i+1)}).bind fun x=>(a3Q Y false x.1 S.a sa na 0 x.2).bind fun k=>
   if(na-k.1==0)=true then some (true,k.2)else(elS S.a (sa+k.1+(na-k.1)-1) k.2).bind fun y=>(a3Q Y true y.1 S.a sb nb (nb-1) y.2).bind fun q=>
    if(q.1==0)=true then some (true,q.2)else if na-k.1≤q.1 then(loS Y (S.a.extract (sa+k.1) sb) (S.a.extract sb (sb+q.1)) q.2).bind fun r=>some (true,{r.2 with a:=b2t (sa+k.1) r.1.toList.zipIdx r.2.a})else(hiS Y (S.a.extract (sa+k.1) sb) (S.a.extract sb (sb+q.1)) q.2).bind fun r=>some (true,{r.2 with a:=b2t (sa+k.1) r.1.toList.zipIdx r.2.a})
 |_,_=>none
def b9o(Y:Lt)(pw:Nat)(_:Unit)(S:PS):Option (ForInStep Unit×PS):=match (if S.pd.size>1 then S.pd[S.pd.size-2]? else none)with
 |some (_,_,older)=>if older≤pw then some (.done (),S)else(b2u Y (S.pd.size-2) S).bind fun p=>if(!p.1)=true then none else some (.yield (),p.2)
 |none=>some (.done (),S)
def b2v(Y:Lt)(size lo n:Nat)(S:PS):Option (ForInStep Nat×PS):=match S.pd.back? with
 |some (s1,n1,_)=>(a0p (b9o Y (power' size (2 * s1+n1) (2 * s1+n1+n1+n) size)) (size-0) () S).bind fun u=>some (.yield (lo+n),{u.2 with pd:=(u.2.pd.modify (u.2.pd.size-1) fun x=>(x.1,x.2.1,power' size (2 * s1+n1) (2 * s1+n1+n1+n) size)).push (lo,n,0)})
 |none=>some (.yield (lo+n),{S with pd:=S.pd.push (lo,n,0)})
def b9p(Y:Lt)(size lo:Nat)(S:PS):Option (ForInStep Nat×PS):=if lo ≥ size then some (.done lo,S)else(b9m Y lo (size-lo) S).bind fun p=>
 if p.1<minRun' size size 0 then(b9n Y lo (min (size-lo) (minRun' size size 0)) p.1 p.2).bind fun q=>if(!q.1)=true then none else b2v Y size lo (min (size-lo) (minRun' size size 0)) q.2 else b2v Y size lo p.1 p.2
def b9q(Y:Lt)(_:Unit)(S:PS):Option (ForInStep Unit×PS):=if S.pd.size≤1 then some (.done (),S)else
 (b2u Y (if(Option.any (fun x=>decide (x<(S.pd[S.pd.size-2+1]?.elim 0 fun x=>x.2.1))) (if S.pd.size-2>0 then(S.pd[S.pd.size-2-1]?).map (fun x=>x.2.1)else none))=true then S.pd.size-2-1 else S.pd.size-2) S).bind fun p=>if(!p.1)=true then none else some (.yield (),p.2)
def b9r(Y:Lt)(S:PS):Option (Unit×PS):=(a0p (b9p Y S.a.size) (S.a.size-0) 0 S).bind fun p=>(a0p (b9q Y) (S.a.size-0) () p.2).bind fun q=>some ((),q.2)
section
variable{prog:Program}{w:World}{A:Around}{E:OE}
def b9s(n:Nat)(lt:Nat->Nat->Bool):Option (Array Nat):=(b9r ⟨n,lt⟩ ⟨(List.range n).toArray,#[],7⟩).bind fun p=>if p.2.a.size=n then some p.2.a else none
end
section
variable{X:Cx}{B:OA}{e:Expr}{ma:Mo D}{p p1 kp1 kp2 pos:Pos}{j:Nat}{p2:Pos}
end
section
variable{X:Cx}{B:OA}{E:XK}{pos:Pos}{tg:Expr}{g:OZ}
end
section
variable{X:Cx}{B:OA}{e:Expr}{es:List Expr}{y:Str}{p pos:Pos}{n i:Nat}{as:Mo (List Ar)}
end
section
variable{prog:Program}{w:World}{A:Around}{E:OE}
end
section
variable{X:Cx}{B:OA}{pins:OX}{σ:St}{G H:Hp}{s:Shared}
end
variable{β:Type}
def GA(N:Nat)(a:An):Prop:=∀x∈a,x<N
variable{Y:Lt}
section
variable{a b:An}{S:PS}(ha:GA Y.N a)(hb:GA Y.N b)
include ha hb
end
variable{Y:Lt}
section
variable{a b:An}{S:PS}(ha:GA Y.N a)(hb:GA Y.N b)
include ha hb
end
def Chn:List (Nat×Nat×Nat)->Nat->Nat->Prop
 |[],s,e=>s=e
 |p::r,s,e=>p.1=s/\0<p.2.1/\Chn r (s+p.2.1) e
structure Rdy(N n:Nat)(S:PS)(e:Nat):Prop where
 sz:S.a.size=n
 ga:GA N S.a
 ch:Chn S.pd.toList 0 e
 le:e≤n
structure Kpt(N:Nat)(S S':PS):Prop where
 sz:S'.a.size=S.a.size
 ga:GA N S'.a
 pd:S'.pd=S.pd
section
variable{X:Cx}{B:OA}
end
end L2.Mir
namespace K83
open PySem L2 L2.Mir
def top(i:Nat):Stmt:=PySem.Challenge.pw_turnsigns_k83_whole_shares.main.body.getD i (.Pass ⟨0,0,0,0⟩)
abbrev a8i:Stmt:=top 6
abbrev a8j:Stmt:=top 7
abbrev a8k:Stmt:=top 8
abbrev a8l:Stmt:=top 9
abbrev a8m:Stmt:=top 10
abbrev a8n:Stmt:=top 11
abbrev a8o:Stmt:=top 12
abbrev a8p:Stmt:=top 13
abbrev a8q:Stmt:=top 14
abbrev a8r:Stmt:=top 17
abbrev a8s:Stmt:=top 18
abbrev a8t:Stmt:=top 19
abbrev a8u:Stmt:=top 22
abbrev a8v:Stmt:=top 23
abbrev a8w:Stmt:=top 24
abbrev a8x:Stmt:=top 25
abbrev a8y:Stmt:=top 26
abbrev a8z:Stmt:=top 27
abbrev a8A:Stmt:=top 28
abbrev a6i:Stmt:=top 29
abbrev a8B:Stmt:=top 30
abbrev a8C:Stmt:=top 31
abbrev a8D:Stmt:=top 32
abbrev a8E:Stmt:=top 33
abbrev a8F:Stmt:=top 34
abbrev a8G:Stmt:=top 36
abbrev a8H:Stmt:=top 37
abbrev a8I:Stmt:=top 38
abbrev a8J:Stmt:=top 39
abbrev a8K:Stmt:=top 40
abbrev a8L:Stmt:=top 41
abbrev a8M:Stmt:=top 43
abbrev a8N:Stmt:=top 44
abbrev a8O:Stmt:=top 45
abbrev a8P:Stmt:=top 46
abbrev a8Q:Stmt:=top 47
abbrev a8R:Stmt:=top 48
abbrev a8S:Stmt:=top 49
abbrev a8T:Stmt:=top 50
abbrev a8U:Stmt:=top 51
abbrev a3R:Stmt:=top 52
structure Txt(K:Qq)(mg:OU):Prop where
 g_isinstance:mg "isinstance"=none
 g_int:mg "int"=none
 g_bool:mg "bool"=none
 g_all:mg "all"=none
 g_tuple:mg "tuple"=none
 g_len:mg "len"=none
 g_range:mg "range"=none
 g_sum:mg "sum"=none
 g_zip:mg "zip"=none
 g_min:mg "min"=none
 g_max:mg "max"=none
 g_dict:mg "dict"=none
 c_GREATEST_SIDE:∃t,mg "GREATEST_SIDE"=some (.int 6 t)
 c_GREATEST_COUNTED:∃t,mg "GREATEST_COUNTED"=some (.int 40 t)
section
variable{P:Program}{w:World}{K:Qq}{mg:OU}{base:Heap}
theorem b9t:FnScope ["thing"] ["thing"] (y1_ a8i):=x4_
def b9u:Mo Fl:=(v3_ (a1u (mIs "int" (z0_ 0)) (a7x (mIs "bool" (z0_ 0)))))
def a1C:Fn:=fnM 1 b9u
theorem b9v{f:Addr}{fd:FuncData}(F:Fun K "is_whole" "is_whole" a8i f fd)(T:Txt K mg):FnOk P w K mg base CX0 1 f fd ["thing"] (SpF K 1 a1C):=
 x3_ F b9t fun cdv A outer s H E hr=>(@q9_ _ _ _ _ (@y5_ _ _ _ _ _ (@a5G _ _ _ _ _ _ _ _ (@a3B _ _ _ _ _ _ _ _ _ (by exact b7t) (@z3_ _ _ _ _ _ (pv 0)) (by exact rfl) (by exact T.g_isinstance) (by exact rfl) (by exact T.g_int) (by exact b8a) (by decide) (by decide) (by exact se2 rfl rfl)) (@a3q _ _ _ _ _ _ (@b6X _ _ _ _ _ (@a3B _ _ _ _ _ _ _ _ _ (by exact b7u) (@z3_ _ _ _ _ _ (pv 0)) (by exact rfl) (by exact T.g_isinstance) (by exact rfl) (by exact T.g_bool) (by exact b8b) (by decide) (by decide) (by exact se2 rfl rfl)))))))
theorem b9w:FnScope ["thing","least","greatest"] ["thing","least","greatest"] (y1_ a8j):=x4_
def a8V:Mo Fl:=(v3_ (a1u (mCD 1 a1C (z4_ (z0_ 0) z6_)) (a1M dLe dLe (z0_ 1) (z0_ 0) (z0_ 2))))
def a6j:Fn:=fnM 3 a8V
theorem b9x{f:Addr}{fd:FuncData}(F:Fun K "is_within" "is_within" a8j f fd)(T:Txt K mg)(d_is_whole:Def P w K mg base "is_whole" 1 1 a1C):FnOk P w K mg base CX0 2 f fd ["thing","least","greatest"] (SpF K 3 a6j):=
 x3_ F b9w fun cdv A outer s H E hr=>(@q9_ _ _ _ _ (@y5_ _ _ _ _ _ (@a5G _ _ _ _ _ _ _ _ (@v7_ _ _ _ _ _ _ _ _ _ _ _ (by exact d_is_whole) (by exact(hr.mono (show 1≤1 by decide))) (by exact rfl) (@q0_ _ _ _ _ _ _ (@z3_ _ _ _ _ _ (pv 0)) (@v0_ _ _) (by exact z1_ rfl)) (by decide) (by exact z1_ rfl) (by exact q1_ rfl)) (@a3q _ _ _ _ _ _ (@b6Y _ _ _ _ _ _ _ _ _ _ _ _ _ _ _ (by exact a5p) (by exact a5p) (by exact a5D) (by exact a5D) (@z3_ _ _ _ _ _ (pv 1)) (@z3_ _ _ _ _ _ (pv 0)) (@z3_ _ _ _ _ _ (pv 2)) (by with_unfolding_all rfl))))))
theorem b9y:FnScope ["thing","width"] ["thing","width"] (y1_ a8k):=x4_
theorem nd1:(["-0","-1","number"]:List Str).Nodup:=by decide+kernel
def a8W:Mo Fl:=(z9_ (y2_ (a0c (w4_ (mT (mIs "tuple" (z0_ 0)))) (mT (z2_ (dEq true) (mCB k2_ (z5_ (z0_ 0) z7_)) (z0_ 1)))) (v3_ (mC (.bl false))) mNx) (v3_ (mCB a3C (z5_ (mF (y9_ (y6_ (z0_ 0)) [false,false] 1 (gN 2) x7_ (mCD 1 a1C (z4_ (z0_ 2) z6_)))) z7_))))
def a1R:Fn:=fnM 2 a8W
theorem b9z{f:Addr}{fd:FuncData}(F:Fun K "is_row" "is_row" a8k f fd)(T:Txt K mg)(d_is_whole:Def P w K mg base "is_whole" 1 1 a1C):FnOk P w K mg base CX0 2 f fd ["thing","width"] (SpF K 2 a1R):=
 x3_ F b9y fun cdv A outer s H E hr=>(@q6_ _ _ _ _ _ _ (@w7_ _ _ _ _ _ _ _ _ _ (@a1K _ _ _ _ (@a5F _ _ _ _ _ _ _ _ (@a1t _ _ _ _ _ (@a1s _ _ _ _ (@a3B _ _ _ _ _ _ _ _ _ (by exact a5Q) (@z3_ _ _ _ _ _ (pv 0)) (by exact rfl) (by exact T.g_isinstance) (by exact rfl) (by exact T.g_tuple) (by exact a1k) (by decide) (by decide) (by exact se2 rfl rfl)) (by intro _;rfl))) (@a5E _ _ _ _ _ (@k0_ _ _ _ _ _ _ _ _ _ _ (by exact(op_neD hr.units)) (by exact opd_eq) (@w5_ _ _ _ _ _ _ _ _ _ _ _ (by exact a0P) (by exact a0R) (by exact rfl) (by exact T.g_len) (by exact Yv) (@q3_ _ _ _ _ _ _ (@z3_ _ _ _ _ _ (pv 0)) (@q7_ _ _) (by exact z1_ rfl)) (by decide) (by decide) (by exact z1_ rfl) (by exact q1_ rfl)) (@z3_ _ _ _ _ _ (pv 1)) (by exact(nomark _)))))) (@q9_ _ _ _ _ (@y5_ _ _ _ _ _ (@a0k _ _ _ _ _))) (@w6_ _ _)) (@q9_ _ _ _ _ (@y5_ _ _ _ _ _ (@w5_ _ _ _ _ _ _ _ _ _ _ _ (by exact(a7I rfl)) (by exact a7J) (by exact rfl) (by exact T.g_all) (by exact a7O) (@q3_ _ _ _ _ _ _ (@j4_ _ _ _ _ (@a0o _ _ ["-0","-1","number"] _ [false,false] 1 _ _ _ _ _ _ _ _ _ (by exact(u6_ rfl rfl)) (by exact rfl) (@j5_ _ _ _ _ _ (@z3_ _ _ _ _ _ (pv 0))) (fun s H fp=>(@y3_ _ _ _ _ 2 _ (by exact(show 2≤2 by decide)) (by exact nd1) (by exact rfl) (by first|exact Or.inl rfl|exact Or.inr rfl) (by first|exact .inl rfl|exact .inr rfl|assumption))) (fun s H fp=>(@a0I _ _)) (fun s H fp=>(@v7_ _ _ _ _ _ _ _ _ _ _ _ (by exact d_is_whole) (by exact(hr.mono (show 1≤1 by decide))) (by exact rfl) (@q0_ _ _ _ _ _ _ (@z3_ _ _ _ _ _ (pv 2)) (@v0_ _ _) (by exact z1_ rfl)) (by decide) (by exact z1_ rfl) (by exact q1_ rfl))) (by intro _;rfl))) (@q7_ _ _) (by exact z1_ rfl)) (by decide) (by decide) (by exact z1_ rfl) (by exact q1_ rfl)))))
theorem b9A:FnScope ["thing","many","width"] ["thing","many","width"] (y1_ a8l):=x4_
theorem nd2:(["-0","-1","width","row"]:List Str).Nodup:=by decide+kernel
def a4H:Mo Fl:=(z9_ (y2_ (a0c (w4_ (mT (mIs "tuple" (z0_ 0)))) (mT (z2_ (dEq true) (mCB k2_ (z5_ (z0_ 0) z7_)) (z0_ 1)))) (v3_ (mC (.bl false))) mNx) (v3_ (mCB a3C (z5_ (mF (y9_ (y6_ (z0_ 0)) [false,false,true] 1 (gN 3) x7_ (mCD 2 a1R (z4_ (z0_ 3) (z4_ (z0_ 2) z6_))))) z7_))))
def a2U:Fn:=fnM 3 a4H
theorem b9B{f:Addr}{fd:FuncData}(F:Fun K "is_grid" "is_grid" a8l f fd)(T:Txt K mg)(d_is_row:Def P w K mg base "is_row" 2 2 a1R):FnOk P w K mg base CX0 3 f fd ["thing","many","width"] (SpF K 3 a2U):=
 x3_ F b9A fun cdv A outer s H E hr=>(@q6_ _ _ _ _ _ _ (@w7_ _ _ _ _ _ _ _ _ _ (@a1K _ _ _ _ (@a5F _ _ _ _ _ _ _ _ (@a1t _ _ _ _ _ (@a1s _ _ _ _ (@a3B _ _ _ _ _ _ _ _ _ (by exact a5Q) (@z3_ _ _ _ _ _ (pv 0)) (by exact rfl) (by exact T.g_isinstance) (by exact rfl) (by exact T.g_tuple) (by exact a1k) (by decide) (by decide) (by exact se2 rfl rfl)) (by intro _;rfl))) (@a5E _ _ _ _ _ (@k0_ _ _ _ _ _ _ _ _ _ _ (by exact(op_neD hr.units)) (by exact opd_eq) (@w5_ _ _ _ _ _ _ _ _ _ _ _ (by exact a0P) (by exact a0R) (by exact rfl) (by exact T.g_len) (by exact Yv) (@q3_ _ _ _ _ _ _ (@z3_ _ _ _ _ _ (pv 0)) (@q7_ _ _) (by exact z1_ rfl)) (by decide) (by decide) (by exact z1_ rfl) (by exact q1_ rfl)) (@z3_ _ _ _ _ _ (pv 1)) (by exact(nomark _)))))) (@q9_ _ _ _ _ (@y5_ _ _ _ _ _ (@a0k _ _ _ _ _))) (@w6_ _ _)) (@q9_ _ _ _ _ (@y5_ _ _ _ _ _ (@w5_ _ _ _ _ _ _ _ _ _ _ _ (by exact(a7I rfl)) (by exact a7J) (by exact rfl) (by exact T.g_all) (by exact a7O) (@q3_ _ _ _ _ _ _ (@j4_ _ _ _ _ (@a0o _ _ ["-0","-1","width","row"] _ [false,false,true] 1 _ _ _ _ _ _ _ _ _ (by exact(u6_ rfl rfl)) (by exact rfl) (@j5_ _ _ _ _ _ (@z3_ _ _ _ _ _ (pv 0))) (fun s H fp=>(@y3_ _ _ _ _ 3 _ (by exact(show 3≤3 by decide)) (by exact nd2) (by exact rfl) (by first|exact Or.inl rfl|exact Or.inr rfl) (by first|exact .inl rfl|exact .inr rfl|assumption))) (fun s H fp=>(@a0I _ _)) (fun s H fp=>(@v7_ _ _ _ _ _ _ _ _ _ _ _ (by exact d_is_row) (by exact(hr.mono (show 2≤2 by decide))) (by exact rfl) (@q0_ _ _ _ _ _ _ (@z3_ _ _ _ _ _ (pv 3)) (@q0_ _ _ _ _ _ _ (@z3_ _ _ _ _ _ (pv 2)) (@v0_ _ _) (by exact z1_ rfl)) (by exact z1_ rfl)) (by decide) (by exact z1_ rfl) (by exact q1_ rfl))) (by intro _;rfl))) (@q7_ _ _) (by exact z1_ rfl)) (by decide) (by decide) (by exact z1_ rfl) (by exact q1_ rfl)))))
theorem b9C:FnScope ["thing","least","greatest"] ["thing","least","greatest"] (y1_ a8m):=x4_
def a4I:Mo Fl:=(z9_ (y2_ (a0c (w4_ (mT (mIs "tuple" (z0_ 0)))) (w4_ (mT (a1M dLe dLe (z0_ 1) (mCB k2_ (z5_ (z0_ 0) z7_)) (z0_ 2))))) (v3_ (mC (.bl false))) mNx) (v3_ (mCD 3 a2U (z4_ (z0_ 0) (z4_ (mCB k2_ (z5_ (z0_ 0) z7_)) (z4_ (mCB k2_ (z5_ (z0_ 0) z7_)) z6_))))))
def a3S:Fn:=fnM 3 a4I
theorem b9D{f:Addr}{fd:FuncData}(F:Fun K "is_square" "is_square" a8m f fd)(T:Txt K mg)(d_is_grid:Def P w K mg base "is_grid" 3 3 a2U):FnOk P w K mg base CX0 4 f fd ["thing","least","greatest"] (SpF K 3 a3S):=
 x3_ F b9C fun cdv A outer s H E hr=>(@q6_ _ _ _ _ _ _ (@w7_ _ _ _ _ _ _ _ _ _ (@a1K _ _ _ _ (@a5F _ _ _ _ _ _ _ _ (@a1t _ _ _ _ _ (@a1s _ _ _ _ (@a3B _ _ _ _ _ _ _ _ _ (by exact a5Q) (@z3_ _ _ _ _ _ (pv 0)) (by exact rfl) (by exact T.g_isinstance) (by exact rfl) (by exact T.g_tuple) (by exact a1k) (by decide) (by decide) (by exact se2 rfl rfl)) (by intro _;rfl))) (@a5E _ _ _ _ _ (@a1t _ _ _ _ _ (@b6Z _ _ _ _ _ _ _ _ _ _ _ _ _ _ _ (by exact a5p) (by exact a5p) (by exact a5D) (by exact a5D) (@z3_ _ _ _ _ _ (pv 1)) (@w5_ _ _ _ _ _ _ _ _ _ _ _ (by exact a0P) (by exact a0R) (by exact rfl) (by exact T.g_len) (by exact Yv) (@q3_ _ _ _ _ _ _ (@z3_ _ _ _ _ _ (pv 0)) (@q7_ _ _) (by exact z1_ rfl)) (by decide) (by decide) (by exact z1_ rfl) (by exact q1_ rfl)) (@z3_ _ _ _ _ _ (pv 2)) (by with_unfolding_all rfl)))))) (@q9_ _ _ _ _ (@y5_ _ _ _ _ _ (@a0k _ _ _ _ _))) (@w6_ _ _)) (@q9_ _ _ _ _ (@y5_ _ _ _ _ _ (@v7_ _ _ _ _ _ _ _ _ _ _ _ (by exact d_is_grid) (by exact(hr.mono (show 3≤3 by decide))) (by exact rfl) (@q0_ _ _ _ _ _ _ (@z3_ _ _ _ _ _ (pv 0)) (@q0_ _ _ _ _ _ _ (@w5_ _ _ _ _ _ _ _ _ _ _ _ (by exact a0P) (by exact a0R) (by exact rfl) (by exact T.g_len) (by exact Yv) (@q3_ _ _ _ _ _ _ (@z3_ _ _ _ _ _ (pv 0)) (@q7_ _ _) (by exact z1_ rfl)) (by decide) (by decide) (by exact z1_ rfl) (by exact q1_ rfl)) (@q0_ _ _ _ _ _ _ (@w5_ _ _ _ _ _ _ _ _ _ _ _ (by exact a0P) (by exact a0R) (by exact rfl) (by exact T.g_len) (by exact Yv) (@q3_ _ _ _ _ _ _ (@z3_ _ _ _ _ _ (pv 0)) (@q7_ _ _) (by exact z1_ rfl)) (by decide) (by decide) (by exact z1_ rfl) (by exact q1_ rfl)) (@v0_ _ _) (by exact z1_ rfl)) (by exact z1_ rfl)) (by exact z1_ rfl)) (by decide) (by exact z1_ rfl) (by exact q1_ rfl)))))
theorem b9E:FnScope ["grid"] ["grid"] (y1_ a8n):=x4_
theorem nd3:(["grid","at"]:List Str).Nodup:=by decide+kernel
theorem nd4:(["-0","at","row"]:List Str).Nodup:=by decide+kernel
def a8X:Mo Fl:=(v3_ (mCB a0S (z5_ (mF (y9_ (a0m (z5_ (mCB k2_ (z5_ (z2_ dIx (z0_ 0) (mC (.int 0))) z7_)) z7_)) [true] 1 (gN 1) x7_ (mCB a0S (z5_ (mF (y9_ (y6_ (z0_ 0)) [false,true] 1 (gN 2) x7_ (z2_ dIx (z0_ 2) (z0_ 1)))) z7_)))) z7_)))
def a0Z:Fn:=fnM 1 a8X
theorem b9F{f:Addr}{fd:FuncData}(F:Fun K "flipped" "flipped" a8n f fd)(T:Txt K mg):FnOk P w K mg base CX0 1 f fd ["grid"] (SpF K 1 a0Z):=
 x3_ F b9E fun cdv A outer s H E hr=>(@q9_ _ _ _ _ (@y5_ _ _ _ _ _ (@a2e _ _ _ _ _ _ _ _ _ _ _ (by exact a2B) (by exact a2E) (by exact rfl) (by exact T.g_tuple) (by exact a1k) (@q3_ _ _ _ _ _ _ (@j4_ _ _ _ _ (@a0o _ _ ["grid","at"] _ [true] 1 _ _ _ _ _ _ _ _ _ (by exact(u6_ rfl rfl)) (by exact rfl) (@a4q _ _ _ _ _ _ _ (by exact rfl) (by exact T.g_range) (@q3_ _ _ _ _ _ _ (@w5_ _ _ _ _ _ _ _ _ _ _ _ (by exact a0P) (by exact a0R) (by exact rfl) (by exact T.g_len) (by exact Yv) (@q3_ _ _ _ _ _ _ (@u2_ _ _ _ _ _ _ _ (@z3_ _ _ _ _ _ (pv 0)) (@q2_ _ _ _ _ _) (fun _ _=>rfl)) (@q7_ _ _) (by exact z1_ rfl)) (by decide) (by decide) (by exact z1_ rfl) (by exact q1_ rfl)) (@q7_ _ _) (by exact z1_ rfl)) (by exact se1 rfl)) (fun s H fp=>(@y3_ _ _ _ _ 1 _ (by exact(show 1≤1 by decide)) (by exact nd3) (by exact rfl) (by first|exact Or.inl rfl|exact Or.inr rfl) (by first|exact .inl rfl|exact .inr rfl|assumption))) (fun s H fp=>(@a0I _ _)) (fun s H fp=>(@a2e _ _ _ _ _ _ _ _ _ _ _ (by exact a2B) (by exact a2E) (by exact rfl) (by exact T.g_tuple) (by exact a1k) (@q3_ _ _ _ _ _ _ (@j4_ _ _ _ _ (@a0o _ _ ["-0","at","row"] _ [false,true] 1 _ _ _ _ _ _ _ _ _ (by exact(u6_ rfl rfl)) (by exact rfl) (@j5_ _ _ _ _ _ (@z3_ _ _ _ _ _ (pv 0))) (fun s H fp=>(@y3_ _ _ _ _ 2 _ (by exact(show 2≤2 by decide)) (by exact nd4) (by exact rfl) (by first|exact Or.inl rfl|exact Or.inr rfl) (by first|exact .inl rfl|exact .inr rfl|assumption))) (fun s H fp=>(@a0I _ _)) (fun s H fp=>(@u2_ _ _ _ _ _ _ _ (@z3_ _ _ _ _ _ (pv 2)) (@z3_ _ _ _ _ _ (pv 1)) (fun _ _=>rfl))) (by intro _;rfl))) (@q7_ _ _) (by exact z1_ rfl)) (by decide) (by decide) (by exact z1_ rfl) (by exact q1_ rfl))) (by intro _;rfl))) (@q7_ _ _) (by exact z1_ rfl)) (by decide) (by decide) (by exact z1_ rfl) (by exact q1_ rfl))))
theorem a8Y:FnScope ["row","sums","number"] ["row"] (y1_ a8o):=x4_
def a8Z:Mo Fl:=(z9_ (a0d 1 (a1v (z5_ (mC (.int 0)) z7_))) (z9_ (j8_ (y6_ (z0_ 0)) (gN 2) (a1N 1 (z2_ v8_ (j9_ 1 (a1L (mC (.int 1)))) (z0_ 2)))) (v3_ (mCB a0S (z5_ (z0_ 1) z7_)))))
def a4J:Fn:=fnM 3 a8Z
theorem b9G{f:Addr}{fd:FuncData}(F:Fun K "running_sums" "running_sums" a8o f fd)(T:Txt K mg):FnOk P w K mg base CX0 1 f fd ["row"] (SpF K 1 a4J):=
 x3_ F a8Y fun cdv A outer s H E hr=>(@q6_ _ _ _ _ _ _ (@a5I _ _ _ _ _ 1 _ _ (by exact a8Y.nd) (by exact rfl) (by first|exact Or.inl rfl|exact Or.inr rfl) (@a2D _ _ _ _ _ (@q3_ _ _ _ _ _ _ (@q2_ _ _ _ _ _) (@q7_ _ _) (by exact z1_ rfl))) (by rfl) (by first|exact .inl rfl|exact .inr rfl|assumption)) (@q6_ _ _ _ _ _ _ (@a0w _ _ _ _ _ _ _ _ _ (by exact Qo) (by exact rfl) (@j5_ _ _ _ _ _ (@z3_ _ _ _ _ _ (pv 0))) (@y3_ _ _ _ _ 2 _ (by exact(show 0≤2 by decide)) (by exact a8Y.nd) (by exact rfl) (by first|exact Or.inl rfl|exact Or.inr rfl) (by first|exact .inl rfl|exact .inr rfl|assumption)) (@q9_ _ _ _ _ (@a4o _ _ _ _ _ _ _ _ _ _ (pv 1) (@q3_ _ _ _ _ _ _ (@v1_ _ _ _ _ _ _ _ _ _ _ (by exact w0_) (by exact w1_) (@a2d _ _ _ _ _ _ _ _ (pv 1) (@a7y _ _ _ _ _ (@q2_ _ _ _ _ _)) (fun _ _=>rfl) (by exact(b7Y a2k))) (@z3_ _ _ _ _ _ (pv 2))) (@q7_ _ _) (by exact z1_ rfl)) (by rfl) (by rfl) (by rfl) (by exact z1_ rfl) (by exact q1_ rfl) (by rfl))) (by intro _;rfl)) (@q9_ _ _ _ _ (@y5_ _ _ _ _ _ (@a2e _ _ _ _ _ _ _ _ _ _ _ (by exact a2B) (by exact a2E) (by exact rfl) (by exact T.g_tuple) (by exact a1k) (@q3_ _ _ _ _ _ _ (@z3_ _ _ _ _ _ (pv 1)) (@q7_ _ _) (by exact z1_ rfl)) (by decide) (by decide) (by exact z1_ rfl) (by exact q1_ rfl))))))
theorem b9H:FnScope ["grid"] ["grid"] (y1_ a8p):=x4_
theorem nd5:(["-0","row"]:List Str).Nodup:=by decide+kernel
def b2w:Mo Fl:=(v3_ (mCB a0S (z5_ (mF (y9_ (y6_ (z0_ 0)) [false] 1 (gN 1) x7_ (mCD 1 a4J (z4_ (z0_ 1) z6_)))) z7_)))
def a4K:Fn:=fnM 1 b2w
theorem b9I{f:Addr}{fd:FuncData}(F:Fun K "sums_across" "sums_across" a8p f fd)(T:Txt K mg)(d_running_sums:Def P w K mg base "running_sums" 1 1 a4J):FnOk P w K mg base CX0 2 f fd ["grid"] (SpF K 1 a4K):=
 x3_ F b9H fun cdv A outer s H E hr=>(@q9_ _ _ _ _ (@y5_ _ _ _ _ _ (@a2e _ _ _ _ _ _ _ _ _ _ _ (by exact a2B) (by exact a2E) (by exact rfl) (by exact T.g_tuple) (by exact a1k) (@q3_ _ _ _ _ _ _ (@j4_ _ _ _ _ (@a0o _ _ ["-0","row"] _ [false] 1 _ _ _ _ _ _ _ _ _ (by exact(u6_ rfl rfl)) (by exact rfl) (@j5_ _ _ _ _ _ (@z3_ _ _ _ _ _ (pv 0))) (fun s H fp=>(@y3_ _ _ _ _ 1 _ (by exact(show 1≤1 by decide)) (by exact nd5) (by exact rfl) (by first|exact Or.inl rfl|exact Or.inr rfl) (by first|exact .inl rfl|exact .inr rfl|assumption))) (fun s H fp=>(@a0I _ _)) (fun s H fp=>(@v7_ _ _ _ _ _ _ _ _ _ _ _ (by exact d_running_sums) (by exact(hr.mono (show 1≤1 by decide))) (by exact rfl) (@q0_ _ _ _ _ _ _ (@z3_ _ _ _ _ _ (pv 1)) (@v0_ _ _) (by exact z1_ rfl)) (by decide) (by exact z1_ rfl) (by exact q1_ rfl))) (by intro _;rfl))) (@q7_ _ _) (by exact z1_ rfl)) (by decide) (by decide) (by exact z1_ rfl) (by exact q1_ rfl))))
theorem b9J:FnScope ["grid"] ["grid"] (y1_ a8q):=x4_
def a9a:Mo Fl:=(v3_ (mCD 1 a0Z (z4_ (mCD 1 a4K (z4_ (mCD 1 a0Z (z4_ (z0_ 0) z6_)) z6_)) z6_)))
def a4L:Fn:=fnM 1 a9a
theorem b9K{f:Addr}{fd:FuncData}(F:Fun K "sums_down" "sums_down" a8q f fd)(T:Txt K mg)(d_flipped:Def P w K mg base "flipped" 1 1 a0Z)(d_sums_across:Def P w K mg base "sums_across" 2 1 a4K):FnOk P w K mg base CX0 3 f fd ["grid"] (SpF K 1 a4L):=
 x3_ F b9J fun cdv A outer s H E hr=>(@q9_ _ _ _ _ (@y5_ _ _ _ _ _ (@v7_ _ _ _ _ _ _ _ _ _ _ _ (by exact d_flipped) (by exact(hr.mono (show 1≤2 by decide))) (by exact rfl) (@q0_ _ _ _ _ _ _ (@v7_ _ _ _ _ _ _ _ _ _ _ _ (by exact d_sums_across) (by exact(hr.mono (show 2≤2 by decide))) (by exact rfl) (@q0_ _ _ _ _ _ _ (@v7_ _ _ _ _ _ _ _ _ _ _ _ (by exact d_flipped) (by exact(hr.mono (show 1≤2 by decide))) (by exact rfl) (@q0_ _ _ _ _ _ _ (@z3_ _ _ _ _ _ (pv 0)) (@v0_ _ _) (by exact z1_ rfl)) (by decide) (by exact z1_ rfl) (by exact q1_ rfl)) (@v0_ _ _) (by exact z1_ rfl)) (by decide) (by exact z1_ rfl) (by exact q1_ rfl)) (@v0_ _ _) (by exact z1_ rfl)) (by decide) (by exact z1_ rfl) (by exact q1_ rfl))))
theorem a6k:FnScope ["line","total","number"] ["line"] (y1_ a8r):=x4_
def a4M:Mo Fl:=(z9_ (v2_ 1 (mC (.int 0))) (z9_ (j8_ (y6_ (z0_ 0)) (gN 2) (z9_ (g1_ 1 a1J (z0_ 2)) (y2_ (mT (z2_ (dIn true) (z0_ 1) (y4_ (z5_ (mC (.int 0)) (z5_ (mC (.int 1)) z7_))))) (v3_ (mC (.bl false))) mNx))) (v3_ (z2_ (dEq false) (z0_ 1) (mC (.int 1))))))
def a2V:Fn:=fnM 3 a4M
theorem b9L{f:Addr}{fd:FuncData}(F:Fun K "takes_turns" "takes_turns" a8r f fd)(T:Txt K mg):FnOk P w K mg base CX0 1 f fd ["line"] (SpF K 1 a2V):=
 x3_ F a6k fun cdv A outer s H E hr=>(@q6_ _ _ _ _ _ _ (@x2_ _ _ _ _ _ 1 _ _ (by exact a6k.nd) (by exact rfl) (by first|exact Or.inl rfl|exact Or.inr rfl) (@q2_ _ _ _ _ _) (by rfl) (by first|exact .inl rfl|exact .inr rfl|assumption)) (@q6_ _ _ _ _ _ _ (@a0w _ _ _ _ _ _ _ _ _ (by exact Qo) (by exact rfl) (@j5_ _ _ _ _ _ (@z3_ _ _ _ _ _ (pv 0))) (@y3_ _ _ _ _ 2 _ (by exact(show 0≤2 by decide)) (by exact a6k.nd) (by exact rfl) (by first|exact Or.inl rfl|exact Or.inr rfl) (by first|exact .inl rfl|exact .inr rfl|assumption)) (@q6_ _ _ _ _ _ _ (@a2F _ _ _ _ _ 1 _ _ _ _ _ (by exact a6k.nd) (by exact rfl) (by first|exact Or.inl rfl|exact Or.inr rfl) (@z3_ _ _ _ _ _ (pv 2)) (by exact a7g) (by exact a5B) (by first|exact .inl rfl|exact .inr rfl|assumption)) (@q9_ _ _ _ _ (@w7_ _ _ _ _ _ _ _ _ _ (@k0_ _ _ _ _ _ _ _ _ _ _ (by exact b0M) (by exact a4v) (@z3_ _ _ _ _ _ (pv 1)) (@k5_ _ _ _ _ _ _ (@q3_ _ _ _ _ _ _ (@q2_ _ _ _ _ _) (@q3_ _ _ _ _ _ _ (@q2_ _ _ _ _ _) (@q7_ _ _) (by exact z1_ rfl)) (by exact z1_ rfl))) (by with_unfolding_all rfl)) (@q9_ _ _ _ _ (@y5_ _ _ _ _ _ (@a0k _ _ _ _ _))) (@w6_ _ _)))) (by intro _;rfl)) (@q9_ _ _ _ _ (@y5_ _ _ _ _ _ (@a3m _ _ _ _ _ _ _ _ _ _ (by exact(op_eqD hr.units)) (by exact opd_eq) (@z3_ _ _ _ _ _ (pv 1)) (@q2_ _ _ _ _ _) (by exact(nomark _)))))))
theorem b9M:FnScope ["thing"] ["thing"] (y1_ a8s):=x4_
theorem nd6:(["-0","line"]:List Str).Nodup:=by decide+kernel
def a9b:Mo Fl:=(z9_ (y2_ (w4_ (mT (mCD 3 a3S (z4_ (z0_ 0) (z4_ (mC (.int 1)) (z4_ (mC (.int 6)) z6_)))))) (v3_ (mC (.bl false))) mNx) (v3_ (mCB a3C (z5_ (mF (y9_ (y6_ (z2_ v8_ (z0_ 0) (mCD 1 a0Z (z4_ (z0_ 0) z6_)))) [false] 1 (gN 1) x7_ (mCD 1 a2V (z4_ (z0_ 1) z6_)))) z7_))))
def a6l:Fn:=fnM 1 a9b
theorem b9N{f:Addr}{fd:FuncData}(F:Fun K "is_table" "is_table" a8s f fd)(T:Txt K mg)(d_is_square:Def P w K mg base "is_square" 4 3 a3S)(d_takes_turns:Def P w K mg base "takes_turns" 1 1 a2V)(d_flipped:Def P w K mg base "flipped" 1 1 a0Z):FnOk P w K mg base CX0 5 f fd ["thing"] (SpF K 1 a6l):=
 x3_ F b9M fun cdv A outer s H E hr=>(@q6_ _ _ _ _ _ _ (@w7_ _ _ _ _ _ _ _ _ _ (@a1t _ _ _ _ _ (@a1s _ _ _ _ (@v7_ _ _ _ _ _ _ _ _ _ _ _ (by exact d_is_square) (by exact(hr.mono (show 4≤4 by decide))) (by exact rfl) (@q0_ _ _ _ _ _ _ (@z3_ _ _ _ _ _ (pv 0)) (@q0_ _ _ _ _ _ _ (@q2_ _ _ _ _ _) (@q0_ _ _ _ _ _ _ (@a4z _ _ _ _ _ (by exact rfl) (by exact T.c_GREATEST_SIDE) (by decide)) (@v0_ _ _) (by exact z1_ rfl)) (by exact z1_ rfl)) (by exact z1_ rfl)) (by decide) (by exact z1_ rfl) (by exact q1_ rfl)) (by intro _;rfl))) (@q9_ _ _ _ _ (@y5_ _ _ _ _ _ (@a0k _ _ _ _ _))) (@w6_ _ _)) (@q9_ _ _ _ _ (@y5_ _ _ _ _ _ (@w5_ _ _ _ _ _ _ _ _ _ _ _ (by exact(a7I rfl)) (by exact a7J) (by exact rfl) (by exact T.g_all) (by exact a7O) (@q3_ _ _ _ _ _ _ (@j4_ _ _ _ _ (@a0o _ _ ["-0","line"] _ [false] 1 _ _ _ _ _ _ _ _ _ (by exact(u6_ rfl rfl)) (by exact rfl) (@j5_ _ _ _ _ _ (@v1_ _ _ _ _ _ _ _ _ _ _ (by exact w0_) (by exact w1_) (@z3_ _ _ _ _ _ (pv 0)) (@v7_ _ _ _ _ _ _ _ _ _ _ _ (by exact d_flipped) (by exact(hr.mono (show 1≤4 by decide))) (by exact rfl) (@q0_ _ _ _ _ _ _ (@z3_ _ _ _ _ _ (pv 0)) (@v0_ _ _) (by exact z1_ rfl)) (by decide) (by exact z1_ rfl) (by exact q1_ rfl)))) (fun s H fp=>(@y3_ _ _ _ _ 1 _ (by exact(show 1≤1 by decide)) (by exact nd6) (by exact rfl) (by first|exact Or.inl rfl|exact Or.inr rfl) (by first|exact .inl rfl|exact .inr rfl|assumption))) (fun s H fp=>(@a0I _ _)) (fun s H fp=>(@v7_ _ _ _ _ _ _ _ _ _ _ _ (by exact d_takes_turns) (by exact(hr.mono (show 1≤4 by decide))) (by exact rfl) (@q0_ _ _ _ _ _ _ (@z3_ _ _ _ _ _ (pv 1)) (@v0_ _ _) (by exact z1_ rfl)) (by decide) (by exact z1_ rfl) (by exact q1_ rfl))) (by intro _;rfl))) (@q7_ _ _) (by exact z1_ rfl)) (by decide) (by decide) (by exact z1_ rfl) (by exact q1_ rfl)))))
theorem b9O:FnScope ["thing"] ["thing"] (y1_ a8t):=x4_
def a4N:Mo Fl:=(y2_ (w4_ (mT (mCD 1 a6l (z4_ (z0_ 0) z6_)))) a3s mNx)
def a6m:Fn:=fnM 1 a4N
theorem b9P{f:Addr}{fd:FuncData}(F:Fun K "must_be_table" "must_be_table" a8t f fd)(T:Txt K mg)(d_is_table:Def P w K mg base "is_table" 5 1 a6l):FnOk P w K mg base CX0 6 f fd ["thing"] (SpF K 1 a6m):=
 x3_ F b9O fun cdv A outer s H E hr=>(@q9_ _ _ _ _ (@w7_ _ _ _ _ _ _ _ _ _ (@a1t _ _ _ _ _ (@a1s _ _ _ _ (@v7_ _ _ _ _ _ _ _ _ _ _ _ (by exact d_is_table) (by exact(hr.mono (show 5≤5 by decide))) (by exact rfl) (@q0_ _ _ _ _ _ _ (@z3_ _ _ _ _ _ (pv 0)) (@v0_ _ _) (by exact z1_ rfl)) (by decide) (by exact z1_ rfl) (by exact q1_ rfl)) (by intro _;rfl))) (@q9_ _ _ _ _ (@a5H _ _ _)) (@w6_ _ _)))
theorem b9Q:FnScope ["thing","least","greatest","name"] ["thing","least","greatest","name"] (y1_ a8u):=x4_
def a4O:Mo Fl:=(y2_ (w4_ (mT (mCD 3 a6j (z4_ (z0_ 0) (z4_ (z0_ 1) (z4_ (z0_ 2) z6_)))))) a3s mNx)
def a0q:Fn:=fnM 4 a4O
theorem b9R{f:Addr}{fd:FuncData}(F:Fun K "must_be_within" "must_be_within" a8u f fd)(T:Txt K mg)(d_is_within:Def P w K mg base "is_within" 2 3 a6j):FnOk P w K mg base CX0 3 f fd ["thing","least","greatest","name"] (SpF K 4 a0q):=
 x3_ F b9Q fun cdv A outer s H E hr=>(@q9_ _ _ _ _ (@w7_ _ _ _ _ _ _ _ _ _ (@a1t _ _ _ _ _ (@a1s _ _ _ _ (@v7_ _ _ _ _ _ _ _ _ _ _ _ (by exact d_is_within) (by exact(hr.mono (show 2≤2 by decide))) (by exact rfl) (@q0_ _ _ _ _ _ _ (@z3_ _ _ _ _ _ (pv 0)) (@q0_ _ _ _ _ _ _ (@z3_ _ _ _ _ _ (pv 1)) (@q0_ _ _ _ _ _ _ (@z3_ _ _ _ _ _ (pv 2)) (@v0_ _ _) (by exact z1_ rfl)) (by exact z1_ rfl)) (by exact z1_ rfl)) (by decide) (by exact z1_ rfl) (by exact q1_ rfl)) (by intro _;rfl))) (@q9_ _ _ _ _ (@a5H _ _ _)) (@w6_ _ _)))
theorem a6n:FnScope ["number","product","factor"] ["number"] (y1_ a8v):=x4_
def a9c:Mo Fl:=(z9_ (v2_ 1 (mC (.int 1))) (z9_ (j8_ (a4p (z5_ (mC (.int 2)) (z5_ (z2_ v8_ (z0_ 0) (mC (.int 1))) z7_))) (gN 2) (g1_ 1 a2q (z0_ 2))) (v3_ (z0_ 1))))
def a1S:Fn:=fnM 3 a9c
theorem b9S{f:Addr}{fd:FuncData}(F:Fun K "factorial" "factorial" a8v f fd)(T:Txt K mg):FnOk P w K mg base CX0 1 f fd ["number"] (SpF K 1 a1S):=
 x3_ F a6n fun cdv A outer s H E hr=>(@q6_ _ _ _ _ _ _ (@x2_ _ _ _ _ _ 1 _ _ (by exact a6n.nd) (by exact rfl) (by first|exact Or.inl rfl|exact Or.inr rfl) (@q2_ _ _ _ _ _) (by rfl) (by first|exact .inl rfl|exact .inr rfl|assumption)) (@q6_ _ _ _ _ _ _ (@a0w _ _ _ _ _ _ _ _ _ (by exact Qo) (by exact rfl) (@b1f _ _ _ _ _ _ _ _ (by exact rfl) (by exact T.g_range) (@q3_ _ _ _ _ _ _ (@q2_ _ _ _ _ _) (@q3_ _ _ _ _ _ _ (@v1_ _ _ _ _ _ _ _ _ _ _ (by exact w0_) (by exact w1_) (@z3_ _ _ _ _ _ (pv 0)) (@q2_ _ _ _ _ _)) (@q7_ _ _) (by exact z1_ rfl)) (by exact z1_ rfl)) (by exact se2 rfl rfl) (by exact se1 rfl)) (@y3_ _ _ _ _ 2 _ (by exact(show 0≤2 by decide)) (by exact a6n.nd) (by exact rfl) (by first|exact Or.inl rfl|exact Or.inr rfl) (by first|exact .inl rfl|exact .inr rfl|assumption)) (@q9_ _ _ _ _ (@a2F _ _ _ _ _ 1 _ _ _ _ _ (by exact a6n.nd) (by exact rfl) (by first|exact Or.inl rfl|exact Or.inr rfl) (@z3_ _ _ _ _ _ (pv 2)) (by exact a8b) (by exact a8c) (by first|exact .inl rfl|exact .inr rfl|assumption))) (by intro _;rfl)) (@q9_ _ _ _ _ (@y5_ _ _ _ _ _ (@z3_ _ _ _ _ _ (pv 1))))))
theorem a3T:FnScope ["side","top","bottom","at"] ["side"] (y1_ a8w):=x4_
def a9d:Mo Fl:=(z9_ (v2_ 1 (mC (.int 1))) (z9_ (v2_ 2 (mC (.int 1))) (z9_ (j8_ (a0m (z5_ (z0_ 0) z7_)) (gN 3) (z9_ (g1_ 1 a2q (mCD 1 a1S (z4_ (z2_ v8_ (z2_ y0_ (mC (.int 3)) (z0_ 3)) (mC (.int 1))) z6_))) (g1_ 2 a2q (mCD 1 a1S (z4_ (z2_ v8_ (z0_ 0) (z0_ 3)) z6_))))) (v3_ (z2_ a2r (z0_ 1) (z0_ 2))))))
def a1n:Fn:=fnM 4 a9d
theorem b9T{f:Addr}{fd:FuncData}(F:Fun K "counted" "counted" a8w f fd)(T:Txt K mg)(d_factorial:Def P w K mg base "factorial" 1 1 a1S):FnOk P w K mg base CX0 2 f fd ["side"] (SpF K 1 a1n):=
 x3_ F a3T fun cdv A outer s H E hr=>(@q6_ _ _ _ _ _ _ (@x2_ _ _ _ _ _ 1 _ _ (by exact a3T.nd) (by exact rfl) (by first|exact Or.inl rfl|exact Or.inr rfl) (@q2_ _ _ _ _ _) (by rfl) (by first|exact .inl rfl|exact .inr rfl|assumption)) (@q6_ _ _ _ _ _ _ (@x2_ _ _ _ _ _ 2 _ _ (by exact a3T.nd) (by exact rfl) (by first|exact Or.inl rfl|exact Or.inr rfl) (@q2_ _ _ _ _ _) (by rfl) (by first|exact .inl rfl|exact .inr rfl|assumption)) (@q6_ _ _ _ _ _ _ (@a0w _ _ _ _ _ _ _ _ _ (by exact Qo) (by exact rfl) (@a4q _ _ _ _ _ _ _ (by exact rfl) (by exact T.g_range) (@q3_ _ _ _ _ _ _ (@z3_ _ _ _ _ _ (pv 0)) (@q7_ _ _) (by exact z1_ rfl)) (by exact se1 rfl)) (@y3_ _ _ _ _ 3 _ (by exact(show 0≤3 by decide)) (by exact a3T.nd) (by exact rfl) (by first|exact Or.inl rfl|exact Or.inr rfl) (by first|exact .inl rfl|exact .inr rfl|assumption)) (@q6_ _ _ _ _ _ _ (@a2F _ _ _ _ _ 1 _ _ _ _ _ (by exact a3T.nd) (by exact rfl) (by first|exact Or.inl rfl|exact Or.inr rfl) (@v7_ _ _ _ _ _ _ _ _ _ _ _ (by exact d_factorial) (by exact(hr.mono (show 1≤1 by decide))) (by exact rfl) (@q0_ _ _ _ _ _ _ (@v1_ _ _ _ _ _ _ _ _ _ _ (by exact w0_) (by exact w1_) (@v1_ _ _ _ _ _ _ _ _ _ _ (by exact g7_) (by exact g8_) (@q2_ _ _ _ _ _) (@z3_ _ _ _ _ _ (pv 3))) (@q2_ _ _ _ _ _)) (@v0_ _ _) (by exact z1_ rfl)) (by decide) (by exact z1_ rfl) (by exact q1_ rfl)) (by exact a8b) (by exact a8c) (by first|exact .inl rfl|exact .inr rfl|assumption)) (@q9_ _ _ _ _ (@a2F _ _ _ _ _ 2 _ _ _ _ _ (by exact a3T.nd) (by exact rfl) (by first|exact Or.inl rfl|exact Or.inr rfl) (@v7_ _ _ _ _ _ _ _ _ _ _ _ (by exact d_factorial) (by exact(hr.mono (show 1≤1 by decide))) (by exact rfl) (@q0_ _ _ _ _ _ _ (@v1_ _ _ _ _ _ _ _ _ _ _ (by exact w0_) (by exact w1_) (@z3_ _ _ _ _ _ (pv 0)) (@z3_ _ _ _ _ _ (pv 3))) (@v0_ _ _) (by exact z1_ rfl)) (by decide) (by exact z1_ rfl) (by exact q1_ rfl)) (by exact a8b) (by exact a8c) (by first|exact .inl rfl|exact .inr rfl|assumption)))) (by intro _;rfl)) (@q9_ _ _ _ _ (@y5_ _ _ _ _ _ (@v1_ _ _ _ _ _ _ _ _ _ _ (by exact a4E) (by exact a4F) (@z3_ _ _ _ _ _ (pv 1)) (@z3_ _ _ _ _ _ (pv 2))))))))
theorem b9U:FnScope ["side"] ["side"] (y1_ a8x):=x4_
def a9e:Mo Fl:=(z9_ (a0U (mCD 4 a0q (z4_ (z0_ 0) (z4_ (mC (.int 1)) (z4_ (mC (.int 40)) (z4_ (mC (.str "side")) z6_)))))) (v3_ (mCD 1 a1n (z4_ (z0_ 0) z6_))))
def a0A:Fn:=fnM 1 a9e
theorem b9V{f:Addr}{fd:FuncData}(F:Fun K "many_tables" "many_tables" a8x f fd)(T:Txt K mg)(d_must_be_within:Def P w K mg base "must_be_within" 3 4 a0q)(d_counted:Def P w K mg base "counted" 2 1 a1n):FnOk P w K mg base CX0 4 f fd ["side"] (SpF K 1 a0A):=
 x3_ F b9U fun cdv A outer s H E hr=>(@q6_ _ _ _ _ _ _ (@a2L _ _ _ _ _ (@v7_ _ _ _ _ _ _ _ _ _ _ _ (by exact d_must_be_within) (by exact(hr.mono (show 3≤3 by decide))) (by exact rfl) (@q0_ _ _ _ _ _ _ (@z3_ _ _ _ _ _ (pv 0)) (@q0_ _ _ _ _ _ _ (@q2_ _ _ _ _ _) (@q0_ _ _ _ _ _ _ (@a4z _ _ _ _ _ (by exact rfl) (by exact T.c_GREATEST_COUNTED) (by decide)) (@q0_ _ _ _ _ _ _ (@a3l _ _ _ _ _ (by decide)) (@v0_ _ _) (by exact z1_ rfl)) (by exact z1_ rfl)) (by exact z1_ rfl)) (by exact z1_ rfl)) (by decide) (by exact z1_ rfl) (by exact q1_ rfl)) (by rfl)) (@q9_ _ _ _ _ (@y5_ _ _ _ _ _ (@v7_ _ _ _ _ _ _ _ _ _ _ _ (by exact d_counted) (by exact(hr.mono (show 2≤3 by decide))) (by exact rfl) (@q0_ _ _ _ _ _ _ (@z3_ _ _ _ _ _ (pv 0)) (@v0_ _ _) (by exact z1_ rfl)) (by decide) (by exact z1_ rfl) (by exact q1_ rfl)))))
theorem a6o:FnScope ["side","column","many","at"] ["side","column"] (y1_ a8y):=x4_
def a4P:Mo Fl:=(z9_ (a0U (mCD 4 a0q (z4_ (z0_ 0) (z4_ (mC (.int 1)) (z4_ (mC (.int 40)) (z4_ (mC (.str "side")) z6_)))))) (z9_ (a0U (mCD 4 a0q (z4_ (z0_ 1) (z4_ (mC (.int 1)) (z4_ (z0_ 0) (z4_ (mC (.str "column")) z6_)))))) (z9_ (y2_ (mT (z2_ (dEq false) (z0_ 0) (mC (.int 1)))) (v3_ (mC (.int 1))) mNx) (z9_ (v2_ 2 (mCD 1 a1n (z4_ (z2_ k4_ (z0_ 0) (mC (.int 1))) z6_))) (z9_ (j8_ (a4p (z5_ (mC (.int 1)) (z5_ (z0_ 1) z7_))) (gN 3) (v2_ 2 (z2_ a1I (z2_ y0_ (z2_ y0_ (z0_ 2) (z2_ k4_ (z0_ 0) (z0_ 3))) (z2_ k4_ (z2_ v8_ (z0_ 0) (z0_ 3)) (mC (.int 1)))) (z2_ y0_ (z0_ 3) (z2_ k4_ (z2_ k4_ (z2_ y0_ (mC (.int 2)) (z0_ 0)) (z0_ 3)) (mC (.int 1))))))) (v3_ (z0_ 2)))))))
def a3U:Fn:=fnM 4 a4P
theorem b9W{f:Addr}{fd:FuncData}(F:Fun K "many_first" "many_first" a8y f fd)(T:Txt K mg)(d_must_be_within:Def P w K mg base "must_be_within" 3 4 a0q)(d_counted:Def P w K mg base "counted" 2 1 a1n):FnOk P w K mg base CX0 4 f fd ["side","column"] (SpF K 2 a3U):=
 x3_ F a6o fun cdv A outer s H E hr=>(@q6_ _ _ _ _ _ _ (@a2L _ _ _ _ _ (@v7_ _ _ _ _ _ _ _ _ _ _ _ (by exact d_must_be_within) (by exact(hr.mono (show 3≤3 by decide))) (by exact rfl) (@q0_ _ _ _ _ _ _ (@z3_ _ _ _ _ _ (pv 0)) (@q0_ _ _ _ _ _ _ (@q2_ _ _ _ _ _) (@q0_ _ _ _ _ _ _ (@a4z _ _ _ _ _ (by exact rfl) (by exact T.c_GREATEST_COUNTED) (by decide)) (@q0_ _ _ _ _ _ _ (@a3l _ _ _ _ _ (by decide)) (@v0_ _ _) (by exact z1_ rfl)) (by exact z1_ rfl)) (by exact z1_ rfl)) (by exact z1_ rfl)) (by decide) (by exact z1_ rfl) (by exact q1_ rfl)) (by rfl)) (@q6_ _ _ _ _ _ _ (@a2L _ _ _ _ _ (@v7_ _ _ _ _ _ _ _ _ _ _ _ (by exact d_must_be_within) (by exact(hr.mono (show 3≤3 by decide))) (by exact rfl) (@q0_ _ _ _ _ _ _ (@z3_ _ _ _ _ _ (pv 1)) (@q0_ _ _ _ _ _ _ (@q2_ _ _ _ _ _) (@q0_ _ _ _ _ _ _ (@z3_ _ _ _ _ _ (pv 0)) (@q0_ _ _ _ _ _ _ (@a3l _ _ _ _ _ (by decide)) (@v0_ _ _) (by exact z1_ rfl)) (by exact z1_ rfl)) (by exact z1_ rfl)) (by exact z1_ rfl)) (by decide) (by exact z1_ rfl) (by exact q1_ rfl)) (by rfl)) (@q6_ _ _ _ _ _ _ (@w7_ _ _ _ _ _ _ _ _ _ (@k0_ _ _ _ _ _ _ _ _ _ _ (by exact(op_eqD hr.units)) (by exact opd_eq) (@z3_ _ _ _ _ _ (pv 0)) (@q2_ _ _ _ _ _) (by exact(nomark _))) (@q9_ _ _ _ _ (@y5_ _ _ _ _ _ (@q2_ _ _ _ _ _))) (@w6_ _ _)) (@q6_ _ _ _ _ _ _ (@x2_ _ _ _ _ _ 2 _ _ (by exact a6o.nd) (by exact rfl) (by first|exact Or.inl rfl|exact Or.inr rfl) (@v7_ _ _ _ _ _ _ _ _ _ _ _ (by exact d_counted) (by exact(hr.mono (show 2≤3 by decide))) (by exact rfl) (@q0_ _ _ _ _ _ _ (@v1_ _ _ _ _ _ _ _ _ _ _ (by exact a0r) (by exact a0l) (@z3_ _ _ _ _ _ (pv 0)) (@q2_ _ _ _ _ _)) (@v0_ _ _) (by exact z1_ rfl)) (by decide) (by exact z1_ rfl) (by exact q1_ rfl)) (by rfl) (by first|exact .inl rfl|exact .inr rfl|assumption)) (@q6_ _ _ _ _ _ _ (@a0w _ _ _ _ _ _ _ _ _ (by exact Qo) (by exact rfl) (@b1f _ _ _ _ _ _ _ _ (by exact rfl) (by exact T.g_range) (@q3_ _ _ _ _ _ _ (@q2_ _ _ _ _ _) (@q3_ _ _ _ _ _ _ (@z3_ _ _ _ _ _ (pv 1)) (@q7_ _ _) (by exact z1_ rfl)) (by exact z1_ rfl)) (by exact se2 rfl rfl) (by exact se1 rfl)) (@y3_ _ _ _ _ 3 _ (by exact(show 0≤3 by decide)) (by exact a6o.nd) (by exact rfl) (by first|exact Or.inl rfl|exact Or.inr rfl) (by first|exact .inl rfl|exact .inr rfl|assumption)) (@q9_ _ _ _ _ (@x2_ _ _ _ _ _ 2 _ _ (by exact a6o.nd) (by exact rfl) (by first|exact Or.inl rfl|exact Or.inr rfl) (@v1_ _ _ _ _ _ _ _ _ _ _ (by exact a7f) (by exact a7u) (@v1_ _ _ _ _ _ _ _ _ _ _ (by exact g7_) (by exact g8_) (@v1_ _ _ _ _ _ _ _ _ _ _ (by exact g7_) (by exact g8_) (@z3_ _ _ _ _ _ (pv 2)) (@v1_ _ _ _ _ _ _ _ _ _ _ (by exact a0r) (by exact a0l) (@z3_ _ _ _ _ _ (pv 0)) (@z3_ _ _ _ _ _ (pv 3)))) (@v1_ _ _ _ _ _ _ _ _ _ _ (by exact a0r) (by exact a0l) (@v1_ _ _ _ _ _ _ _ _ _ _ (by exact w0_) (by exact w1_) (@z3_ _ _ _ _ _ (pv 0)) (@z3_ _ _ _ _ _ (pv 3))) (@q2_ _ _ _ _ _))) (@v1_ _ _ _ _ _ _ _ _ _ _ (by exact g7_) (by exact g8_) (@z3_ _ _ _ _ _ (pv 3)) (@v1_ _ _ _ _ _ _ _ _ _ _ (by exact a0r) (by exact a0l) (@v1_ _ _ _ _ _ _ _ _ _ _ (by exact a0r) (by exact a0l) (@v1_ _ _ _ _ _ _ _ _ _ _ (by exact g7_) (by exact g8_) (@q2_ _ _ _ _ _) (@z3_ _ _ _ _ _ (pv 0))) (@z3_ _ _ _ _ _ (pv 3))) (@q2_ _ _ _ _ _)))) (by rfl) (by first|exact .inl rfl|exact .inr rfl|assumption))) (by intro _;rfl)) (@q9_ _ _ _ _ (@y5_ _ _ _ _ _ (@z3_ _ _ _ _ _ (pv 2)))))))))
theorem a6p:FnScope ["sums","rows","above"] ["sums"] (y1_ a8z):=x4_
theorem nd7:(["-0","-1","-2","row"]:List Str).Nodup:=by decide+kernel
theorem nd8:(["-0","-1","above","row","number"]:List Str).Nodup:=by decide+kernel
def b9X:Mo Fl:=(z9_ (v2_ 1 (mF (a1v (z5_ (y4_ z7_) z7_)))) (z9_ (j8_ (y6_ (z0_ 0)) (gN 2) (a0d 1 (a2O (y6_ (z0_ 1)) [false,false,true] 2 (gN 3) x7_ (aIn (y6_ (y4_ (z5_ (a1L (mC (.int 1))) (z5_ (mC (.int 0)) (z5_ (mC (.int 1)) z7_))))) (gN 4) (a0t (mT (z2_ (dIn false) (z2_ v8_ (z0_ 2) (z0_ 4)) (y4_ (z5_ (mC (.int 0)) (z5_ (mC (.int 1)) z7_))))) (mT (z2_ (dIn false) (z2_ v8_ (mCB a0V (z5_ (z0_ 3) z7_)) (z0_ 4)) (y4_ (z5_ (mC (.int 0)) (z5_ (mC (.int 1)) z7_)))))) (a0J (z2_ v8_ (z0_ 3) (y4_ (z5_ (z0_ 4) z7_)))))))) (a1w (y9_ (y6_ (z0_ 1)) [false,false,false] 1 (gN 3) (mT (z2_ (dEq false) (mCB a0V (z5_ (z0_ 3) z7_)) (mC (.int 1)))) (z0_ 3)))))
def a1D:Fn:=fnM 3 b9X
theorem b9Y{f:Addr}{fd:FuncData}(F:Fun K "rows_on" "rows_on" a8z f fd)(T:Txt K mg):FnOk P w K mg base CX0 1 f fd ["sums"] (SpF K 1 a1D):=
 x3_ F a6p fun cdv A outer s H E hr=>(@q6_ _ _ _ _ _ _ (@x2_ _ _ _ _ _ 1 _ _ (by exact a6p.nd) (by exact rfl) (by first|exact Or.inl rfl|exact Or.inr rfl) (@j4_ _ _ _ _ (@a2D _ _ _ _ _ (@q3_ _ _ _ _ _ _ (@k5_ _ _ _ _ _ _ (@q7_ _ _)) (@q7_ _ _) (by exact z1_ rfl)))) (by rfl) (by first|exact .inl rfl|exact .inr rfl|assumption)) (@q6_ _ _ _ _ _ _ (@a0w _ _ _ _ _ _ _ _ _ (by exact Qo) (by exact rfl) (@j5_ _ _ _ _ _ (@z3_ _ _ _ _ _ (pv 0))) (@y3_ _ _ _ _ 2 _ (by exact(show 0≤2 by decide)) (by exact a6p.nd) (by exact rfl) (by first|exact Or.inl rfl|exact Or.inr rfl) (by first|exact .inl rfl|exact .inr rfl|assumption)) (@q9_ _ _ _ _ (@b2i _ _ ["-0","-1","above","row","number"] _ [false,false,true] 2 _ _ _ _ _ _ _ _ _ _ 1 _ _ _ (by exact(u6_ rfl rfl)) (by exact rfl) (by exact a6p.nd) (by exact rfl) (by exact rfl) (by exact rfl) (@j5_ _ _ _ _ _ (@z3_ _ _ _ _ _ (pv 1))) (fun s H fp=>(@y3_ _ _ _ _ 3 _ (by exact(show 3≤3 by decide)) (by exact nd8) (by exact rfl) (by first|exact Or.inl rfl|exact Or.inr rfl) (by first|exact .inl rfl|exact .inr rfl|assumption))) (fun s H fp=>(@a0I _ _)) (fun s H fp p=>(@b8t _ _ _ _ _ _ _ _ _ _ _ _ _ _ _ _ _ _ _ _ _ (by exact rfl) (by exact rfl) (@j5_ _ _ _ _ _ (@k5_ _ _ _ _ _ _ (@q3_ _ _ _ _ _ _ (@a7y _ _ _ _ _ (@q2_ _ _ _ _ _)) (@q3_ _ _ _ _ _ _ (@q2_ _ _ _ _ _) (@q3_ _ _ _ _ _ _ (@q2_ _ _ _ _ _) (@q7_ _ _) (by exact z1_ rfl)) (by exact z1_ rfl)) (by exact z1_ rfl)))) (@y3_ _ _ _ _ 4 _ (by exact(show 3≤4 by decide)) (by exact nd8) (by exact rfl) (by first|exact Or.inl rfl|exact Or.inr rfl) (by first|exact .inl rfl|exact .inr rfl|assumption)) (@a4u _ _ _ _ (@a1K _ _ _ _ (@a4m _ _ _ _ _ _ _ _ (@k0_ _ _ _ _ _ _ _ _ _ _ (by exact a7m) (by exact a4v) (@v1_ _ _ _ _ _ _ _ _ _ _ (by exact w0_) (by exact w1_) (@z3_ _ _ _ _ _ (pv 2)) (@z3_ _ _ _ _ _ (pv 4))) (@k5_ _ _ _ _ _ _ (@q3_ _ _ _ _ _ _ (@q2_ _ _ _ _ _) (@q3_ _ _ _ _ _ _ (@q2_ _ _ _ _ _) (@q7_ _ _) (by exact z1_ rfl)) (by exact z1_ rfl))) (by with_unfolding_all rfl)) (@a4l _ _ _ _ _ (@k0_ _ _ _ _ _ _ _ _ _ _ (by exact a7m) (by exact a4v) (@v1_ _ _ _ _ _ _ _ _ _ _ (by exact w0_) (by exact w1_) (@w5_ _ _ _ _ _ _ _ _ _ _ _ (by exact(a5Y rfl)) (by exact a5Z) (by exact rfl) (by exact T.g_sum) (by exact a6a) (@q3_ _ _ _ _ _ _ (@z3_ _ _ _ _ _ (pv 3)) (@q7_ _ _) (by exact z1_ rfl)) (by decide) (by decide) (by exact z1_ rfl) (by exact q1_ rfl)) (@z3_ _ _ _ _ _ (pv 4))) (@k5_ _ _ _ _ _ _ (@q3_ _ _ _ _ _ _ (@q2_ _ _ _ _ _) (@q3_ _ _ _ _ _ _ (@q2_ _ _ _ _ _) (@q7_ _ _) (by exact z1_ rfl)) (by exact z1_ rfl))) (by with_unfolding_all rfl)))))) (@a7V _ _ _ _ _ _ _ _ _ _ _ _ _ _ _ (by exact rfl) (@v1_ _ _ _ _ _ _ _ _ _ _ (by exact w0_) (by exact w1_) (@z3_ _ _ _ _ _ (pv 3)) (@k5_ _ _ _ _ _ _ (@q3_ _ _ _ _ _ _ (@z3_ _ _ _ _ _ (pv 4)) (@q7_ _ _) (by exact z1_ rfl))))) (by intro _;rfl))) (by intro _;rfl))) (by intro _;rfl)) (@q9_ _ _ _ _ (@a3t _ _ _ _ _ (@a0o _ _ ["-0","-1","-2","row"] _ [false,false,false] 1 _ _ _ _ _ _ _ _ _ (by exact(u6_ rfl rfl)) (by exact rfl) (@j5_ _ _ _ _ _ (@z3_ _ _ _ _ _ (pv 1))) (fun s H fp=>(@y3_ _ _ _ _ 3 _ (by exact(show 3≤3 by decide)) (by exact nd7) (by exact rfl) (by first|exact Or.inl rfl|exact Or.inr rfl) (by first|exact .inl rfl|exact .inr rfl|assumption))) (fun s H fp=>(@a4u _ _ _ _ (@k0_ _ _ _ _ _ _ _ _ _ _ (by exact(op_eqD hr.units)) (by exact opd_eq) (@w5_ _ _ _ _ _ _ _ _ _ _ _ (by exact(a5Y rfl)) (by exact a5Z) (by exact rfl) (by exact T.g_sum) (by exact a6a) (@q3_ _ _ _ _ _ _ (@z3_ _ _ _ _ _ (pv 3)) (@q7_ _ _) (by exact z1_ rfl)) (by decide) (by decide) (by exact z1_ rfl) (by exact q1_ rfl)) (@q2_ _ _ _ _ _) (by exact(nomark _))))) (fun s H fp=>(@z3_ _ _ _ _ _ (pv 3))) (by intro _;rfl))))))
theorem b9Z:FnScope ["sums","row"] ["sums","row"] (y1_ a8A):=x4_
theorem nd9:(["-0","-1","above","number"]:List Str).Nodup:=by decide+kernel
def a9f:Mo Fl:=(v3_ (mCB a0S (z5_ (mF (y9_ (a2K (z5_ (z0_ 0) (z5_ (z0_ 1) z7_))) [false,false] 2 (gT 2 (gCn (gN 2) (gCn (gN 3) gNl))) x7_ (z2_ v8_ (z0_ 2) (z0_ 3)))) z7_)))
def a1a:Fn:=fnM 2 a9f
theorem c0a{f:Addr}{fd:FuncData}(F:Fun K "added" "added" a8A f fd)(T:Txt K mg):FnOk P w K mg base CX0 1 f fd ["sums","row"] (SpF K 2 a1a):=
 x3_ F b9Z fun cdv A outer s H E hr=>(@q9_ _ _ _ _ (@y5_ _ _ _ _ _ (@a2e _ _ _ _ _ _ _ _ _ _ _ (by exact a2B) (by exact a2E) (by exact rfl) (by exact T.g_tuple) (by exact a1k) (@q3_ _ _ _ _ _ _ (@j4_ _ _ _ _ (@a0o _ _ ["-0","-1","above","number"] _ [false,false] 2 _ _ _ _ _ _ _ _ _ (by exact(u6_ rfl rfl)) (by exact rfl) (@a7N _ _ _ _ _ _ _ _ _ _ (by exact rfl) (by exact T.g_zip) (@q3_ _ _ _ _ _ _ (@z3_ _ _ _ _ _ (pv 0)) (@q3_ _ _ _ _ _ _ (@z3_ _ _ _ _ _ (pv 1)) (@q7_ _ _) (by exact z1_ rfl)) (by exact z1_ rfl)) (by exact se2 rfl rfl) (by exact se1 rfl)) (fun s H fp=>(@a0v _ _ _ _ _ _ _ _ (by exact rfl) (@k9_ _ _ _ _ _ _ _ (@y3_ _ _ _ _ 2 _ (by exact(show 2≤2 by decide)) (by exact nd9) (by exact rfl) (by first|exact Or.inl rfl|exact Or.inr rfl) (by first|exact .inl rfl|exact .inr rfl|assumption)) (@k9_ _ _ _ _ _ _ _ (@y3_ _ _ _ _ 3 _ (by exact(show 2≤3 by decide)) (by exact nd9) (by exact rfl) (by first|exact Or.inl rfl|exact Or.inr rfl) (by first|exact .inl rfl|exact .inr rfl|assumption)) (@a0u _ _ _) (by rfl)) (by rfl)) (by rfl) (by rfl))) (fun s H fp=>(@a0I _ _)) (fun s H fp=>(@v1_ _ _ _ _ _ _ _ _ _ _ (by exact w0_) (by exact w1_) (@z3_ _ _ _ _ _ (pv 2)) (@z3_ _ _ _ _ _ (pv 3)))) (by intro _;rfl))) (@q7_ _ _) (by exact z1_ rfl)) (by decide) (by decide) (by exact z1_ rfl) (by exact q1_ rfl))))
theorem c0b:FnScope ["sums","known"] ["sums","known"] (y1_ a6i):=x4_
theorem c0c:(["sums","known","row"]:List Str).Nodup:=by decide+kernel
def a9g(r_:Fn):Mo Fl:=(a1w (y9_ (y6_ (mF (k8_ 1 a1D (z4_ (z0_ 0) z6_)))) [true,true] 1 (gN 2) x7_ (y4_ (z5_ (z0_ 2) (z5_ (mCD 2 r_ (z4_ (mCD 2 a1a (z4_ (z0_ 0) (z4_ (z0_ 2) z6_))) (k1_ 1 z6_))) z7_)))))
def u0_(r_:Fn):Fn:=fnM 2 (a9g r_)
theorem b2x{f:Addr}{fd:FuncData}{k_:Nat}{r_:Fn}(F:Fun K "choices_on" "choices_on" a6i f fd)(T:Txt K mg)(d_rows_on:Def P w K mg base "rows_on" 1 1 a1D)(d_added:Def P w K mg base "added" 1 2 a1a)(hk_:1≤k_)(d_ways_on:Def P w K mg base "ways_on" k_ 2 r_):FnOk P w K mg base CX0 (k_+1) f fd ["sums","known"] (SpF K 2 (u0_ r_)):=
 x3_ F c0b fun cdv A outer s H E hr=>(@q9_ _ _ _ _ (@a3t _ _ _ _ _ (@a0o _ _ ["sums","known","row"] _ [true,true] 1 _ _ _ _ _ _ _ _ _ (by exact(u6_ rfl rfl)) (by exact rfl) (@j5_ _ _ _ _ _ (@j4_ _ _ _ _ (@a1y _ _ _ _ _ _ _ _ _ _ _ (by exact d_rows_on) (by exact(hr.mono (show 1≤k_ by omega))) (by exact rfl) (@q0_ _ _ _ _ _ _ (@z3_ _ _ _ _ _ (pv 0)) (@v0_ _ _) (by exact z1_ rfl)) (by decide) (by exact z1_ rfl) (by exact q1_ rfl)))) (fun s H fp=>(@y3_ _ _ _ _ 2 _ (by exact(show 2≤2 by decide)) (by exact c0c) (by exact rfl) (by first|exact Or.inl rfl|exact Or.inr rfl) (by first|exact .inl rfl|exact .inr rfl|assumption))) (fun s H fp=>(@a0I _ _)) (fun s H fp=>(@k5_ _ _ _ _ _ _ (@q3_ _ _ _ _ _ _ (@z3_ _ _ _ _ _ (pv 2)) (@q3_ _ _ _ _ _ _ (@v7_ _ _ _ _ _ _ _ _ _ _ _ (by exact d_ways_on) (by exact(hr.mono (Qp _))) (by exact rfl) (@q0_ _ _ _ _ _ _ (@v7_ _ _ _ _ _ _ _ _ _ _ _ (by exact d_added) (by exact(hr.mono (show 1≤k_ by omega))) (by exact rfl) (@q0_ _ _ _ _ _ _ (@z3_ _ _ _ _ _ (pv 0)) (@q0_ _ _ _ _ _ _ (@z3_ _ _ _ _ _ (pv 2)) (@v0_ _ _) (by exact z1_ rfl)) (by exact z1_ rfl)) (by decide) (by exact z1_ rfl) (by exact q1_ rfl)) (@a1e _ _ _ _ _ _ _ (pv 1) (@v0_ _ _) (by exact z1_ rfl)) (by exact z1_ rfl)) (by decide) (by exact z1_ rfl) (by exact q1_ rfl)) (@q7_ _ _) (by exact z1_ rfl)) (by exact z1_ rfl)))) (by intro _;rfl))))
theorem c0d:FnScope ["sums","known"] ["sums","known"] (y1_ a8B):=x4_
theorem b2y:(["-0","-1","row","ways"]:List Str).Nodup:=by decide+kernel
def a1T(r_:Fn):Mo Fl:=(z9_ (y2_ (mT (z2_ (dIn true) (mC (.int 0)) (z0_ 0))) (v3_ (mC (.int 1))) mNx) (z9_ (y2_ (mT (a3L true 1 (z0_ 0))) (w8_ (mCB a0V (z5_ (mF (y9_ (y6_ (mF (k8_ 2 (u0_ r_) (z4_ (z0_ 0) (k1_ 1 z6_))))) [false,false] 2 (gT 2 (gCn (gN 2) (gCn (gN 3) gNl))) x7_ (z0_ 3))) z7_)) (gSD 1 (z0_ 0))) mNx) (v3_ (b2e 1 (z0_ 0)))))
def k3_:Nat->Fn
 |0=>fun _=>none
 |n_+1=>fnM 2 (a1T (k3_ n_))
theorem b2z{f f2:Addr}{fd fd2:FuncData}(F:Fun K "ways_on" "ways_on" a8B f fd)(F2:Fun K "choices_on" "choices_on" a6i f2 fd2)(T:Txt K mg)(d_rows_on:Def P w K mg base "rows_on" 1 1 a1D)(d_added:Def P w K mg base "added" 1 2 a1a)(hmg:mg "ways_on"=some (.ref f))(hkp:PySem.W.keepIn K (.ref f)=true)(hbd:a0s K fd ["sums","known"] [])(hmg2:mg "choices_on"=some (.ref f2))(hkp2:PySem.W.keepIn K (.ref f2)=true)(hbd2:a0s K fd2 ["sums","known"] []):∀n_:Nat,FnOk P w K mg base CX0 (1+2 * n_) f fd ["sums","known"] (SpF K 2 (k3_ n_))
 |0=>b8e
 |n_+1=>by
  have d_ways_on:Def P w K mg base "ways_on" (1+2 * n_) 2 (k3_ n_):=⟨_,_,_,b2z F F2 T d_rows_on d_added hmg hkp hbd hmg2 hkp2 hbd2 n_,rfl,hmg,hkp,hbd⟩
  have d_choices_on:Def P w K mg base "choices_on" (1+2 * n_+1) 2 (u0_ (k3_ n_)):=⟨_,_,_,b2x F2 T d_rows_on d_added (by omega) d_ways_on,rfl,hmg2,hkp2,hbd2⟩
  exact(show FnOk P w K mg base CX0 (1+2 * n_+1+1) f fd ["sums","known"] (SpF K 2 (k3_ (n_+1)))from x3_ F c0d fun cdv A outer s H E hr=>(@q6_ _ _ _ _ _ _ (@w7_ _ _ _ _ _ _ _ _ _ (@k0_ _ _ _ _ _ _ _ _ _ _ (by exact b0M) (by exact a4v) (@q2_ _ _ _ _ _) (@z3_ _ _ _ _ _ (pv 0)) (by with_unfolding_all rfl)) (@q9_ _ _ _ _ (@y5_ _ _ _ _ _ (@q2_ _ _ _ _ _))) (@w6_ _ _)) (@q6_ _ _ _ _ _ _ (@w7_ _ _ _ _ _ _ _ _ _ (@b8F _ _ _ _ _ _ _ _ (by exact hr.units) (@z3_ _ _ _ _ _ (pv 0)) (pv 1) (by with_unfolding_all rfl)) (@q9_ _ _ _ _ (@a2f _ _ _ _ _ _ _ (@w5_ _ _ _ _ _ _ _ _ _ _ _ (by exact(a5Y rfl)) (by exact a5Z) (by exact rfl) (by exact T.g_sum) (by exact a6a) (@q3_ _ _ _ _ _ _ (@j4_ _ _ _ _ (@a0o _ _ ["-0","-1","row","ways"] _ [false,false] 2 _ _ _ _ _ _ _ _ _ (by exact(u6_ rfl rfl)) (by exact rfl) (@j5_ _ _ _ _ _ (@j4_ _ _ _ _ (@a1y _ _ _ _ _ _ _ _ _ _ _ (by exact d_choices_on) (by exact(hr.mono (Qp _))) (by exact rfl) (@q0_ _ _ _ _ _ _ (@z3_ _ _ _ _ _ (pv 0)) (@a1e _ _ _ _ _ _ _ (pv 1) (@v0_ _ _) (by exact z1_ rfl)) (by exact z1_ rfl)) (by decide) (by exact z1_ rfl) (by exact q1_ rfl)))) (fun s H fp=>(@a0v _ _ _ _ _ _ _ _ (by exact rfl) (@k9_ _ _ _ _ _ _ _ (@y3_ _ _ _ _ 2 _ (by exact(show 2≤2 by decide)) (by exact b2y) (by exact rfl) (by first|exact Or.inl rfl|exact Or.inr rfl) (by first|exact .inl rfl|exact .inr rfl|assumption)) (@k9_ _ _ _ _ _ _ _ (@y3_ _ _ _ _ 3 _ (by exact(show 2≤3 by decide)) (by exact b2y) (by exact rfl) (by first|exact Or.inl rfl|exact Or.inr rfl) (by first|exact .inl rfl|exact .inr rfl|assumption)) (@a0u _ _ _) (by rfl)) (by rfl)) (by rfl) (by rfl))) (fun s H fp=>(@a0I _ _)) (fun s H fp=>(@z3_ _ _ _ _ _ (pv 3))) (by intro _;rfl))) (@q7_ _ _) (by exact z1_ rfl)) (by decide) (by decide) (by exact z1_ rfl) (by exact q1_ rfl)) (@b8I _ _ _ _ _ _ _ _ _ (by exact hr.units) (pv 1) (@z3_ _ _ _ _ _ (pv 0)) (by intro _;rfl)) (by rfl) (by rfl) (by rfl))) (@w6_ _ _)) (@q9_ _ _ _ _ (@y5_ _ _ _ _ _ (@b8B _ _ _ _ _ _ _ _ (by exact hr.units) (pv 1) (@z3_ _ _ _ _ _ (pv 0)) (fun _ _=>rfl) (by exact(b7Z (by decide)))))))))
theorem a6q:FnScope ["choices","number","at"] ["choices","number"] (y1_ a8C):=x4_
def a9h:Mo Fl:=(z9_ (v2_ 2 (mC (.int 0))) (z9_ (a2N 60 (mT (z2_ dGe (z0_ 1) (z2_ dIx (z2_ dIx (z0_ 0) (z0_ 2)) (mC (.int 1))))) (z9_ (g1_ 1 k4_ (z2_ dIx (z2_ dIx (z0_ 0) (z0_ 2)) (mC (.int 1)))) (g1_ 2 a1J (mC (.int 1))))) (v3_ (y4_ (z5_ (z2_ dIx (z2_ dIx (z0_ 0) (z0_ 2)) (mC (.int 0))) (z5_ (z0_ 1) z7_))))))
def a4Q:Fn:=fnM 3 a9h
theorem c0e{f:Addr}{fd:FuncData}(F:Fun K "chosen" "chosen" a8C f fd)(T:Txt K mg):FnOk P w K mg base CX0 1 f fd ["choices","number"] (SpF K 2 a4Q):=
 x3_ F a6q fun cdv A outer s H E hr=>(@q6_ _ _ _ _ _ _ (@x2_ _ _ _ _ _ 2 _ _ (by exact a6q.nd) (by exact rfl) (by first|exact Or.inl rfl|exact Or.inr rfl) (@q2_ _ _ _ _ _) (by rfl) (by first|exact .inl rfl|exact .inr rfl|assumption)) (@q6_ _ _ _ _ _ _ (@a3F _ _ _ _ _ _ _ _ (by exact Qo) (@k0_ _ _ _ _ _ _ _ _ _ _ (by exact b0v) (by exact b0X) (@z3_ _ _ _ _ _ (pv 1)) (@u2_ _ _ _ _ _ _ _ (@u2_ _ _ _ _ _ _ _ (@z3_ _ _ _ _ _ (pv 0)) (@z3_ _ _ _ _ _ (pv 2)) (fun _ _=>rfl)) (@q2_ _ _ _ _ _) (fun _ _=>rfl)) (by exact(nomark _))) (@q6_ _ _ _ _ _ _ (@a2F _ _ _ _ _ 1 _ _ _ _ _ (by exact a6q.nd) (by exact rfl) (by first|exact Or.inl rfl|exact Or.inr rfl) (@u2_ _ _ _ _ _ _ _ (@u2_ _ _ _ _ _ _ _ (@z3_ _ _ _ _ _ (pv 0)) (@z3_ _ _ _ _ _ (pv 2)) (fun _ _=>rfl)) (@q2_ _ _ _ _ _) (fun _ _=>rfl)) (by exact b6b) (by exact a0l) (by first|exact .inl rfl|exact .inr rfl|assumption)) (@q9_ _ _ _ _ (@a2F _ _ _ _ _ 2 _ _ _ _ _ (by exact a6q.nd) (by exact rfl) (by first|exact Or.inl rfl|exact Or.inr rfl) (@q2_ _ _ _ _ _) (by exact a7g) (by exact a5B) (by first|exact .inl rfl|exact .inr rfl|assumption))))) (@q9_ _ _ _ _ (@y5_ _ _ _ _ _ (@k5_ _ _ _ _ _ _ (@q3_ _ _ _ _ _ _ (@u2_ _ _ _ _ _ _ _ (@u2_ _ _ _ _ _ _ _ (@z3_ _ _ _ _ _ (pv 0)) (@z3_ _ _ _ _ _ (pv 2)) (fun _ _=>rfl)) (@q2_ _ _ _ _ _) (fun _ _=>rfl)) (@q3_ _ _ _ _ _ _ (@z3_ _ _ _ _ _ (pv 1)) (@q7_ _ _) (by exact z1_ rfl)) (by exact z1_ rfl)))))))
theorem a3V:FnScope ["side","number","known","rows","sums","row"] ["side","number","known"] (y1_ a8D):=x4_
def a9i:Mo Fl:=(z9_ (a0d 3 (a1v z7_)) (z9_ (v2_ 4 (z2_ y0_ (y4_ (z5_ (mC (.int 0)) z7_)) (z0_ 0))) (z9_ (a2N 60 (mT (z2_ (dIn false) (mC (.int 0)) (z0_ 4))) (z9_ (w8_ (mCD 2 a4Q (z4_ (mF (k8_ 2 (u0_ (k3_ 8)) (z4_ (z0_ 4) (k1_ 2 z6_)))) (z4_ (z0_ 1) z6_))) (gT 2 (gCn (gN 5) (gCn (gN 1) gNl)))) (z9_ (a1N 3 (z0_ 5)) (v2_ 4 (mCD 2 a1a (z4_ (z0_ 4) (z4_ (z0_ 5) z6_))))))) (v3_ (mCB a0S (z5_ (z0_ 3) z7_))))))
def a4R:Fn:=fnM 6 a9i
theorem c0f{f:Addr}{fd:FuncData}(F:Fun K "laid" "laid" a8D f fd)(T:Txt K mg)(d_chosen:Def P w K mg base "chosen" 1 2 a4Q)(d_added:Def P w K mg base "added" 1 2 a1a)(d_choices_on:Def P w K mg base "choices_on" 18 2 (u0_ (k3_ 8))):FnOk P w K mg base CX0 19 f fd ["side","number","known"] (SpF K 3 a4R):=
 x3_ F a3V fun cdv A outer s H E hr=>(@q6_ _ _ _ _ _ _ (@a5I _ _ _ _ _ 3 _ _ (by exact a3V.nd) (by exact rfl) (by first|exact Or.inl rfl|exact Or.inr rfl) (@a2D _ _ _ _ _ (@q7_ _ _)) (by rfl) (by first|exact .inl rfl|exact .inr rfl|assumption)) (@q6_ _ _ _ _ _ _ (@x2_ _ _ _ _ _ 4 _ _ (by exact a3V.nd) (by exact rfl) (by first|exact Or.inl rfl|exact Or.inr rfl) (@v1_ _ _ _ _ _ _ _ _ _ _ (by exact g7_) (by exact g8_) (@k5_ _ _ _ _ _ _ (@q3_ _ _ _ _ _ _ (@q2_ _ _ _ _ _) (@q7_ _ _) (by exact z1_ rfl))) (@z3_ _ _ _ _ _ (pv 0))) (by rfl) (by first|exact .inl rfl|exact .inr rfl|assumption)) (@q6_ _ _ _ _ _ _ (@a3F _ _ _ _ _ _ _ _ (by exact Qo) (@k0_ _ _ _ _ _ _ _ _ _ _ (by exact a7m) (by exact a4v) (@q2_ _ _ _ _ _) (@z3_ _ _ _ _ _ (pv 4)) (by with_unfolding_all rfl)) (@q6_ _ _ _ _ _ _ (@a2f _ _ _ _ _ _ _ (@v7_ _ _ _ _ _ _ _ _ _ _ _ (by exact d_chosen) (by exact(hr.mono (show 1≤18 by decide))) (by exact rfl) (@q0_ _ _ _ _ _ _ (@j4_ _ _ _ _ (@a1y _ _ _ _ _ _ _ _ _ _ _ (by exact d_choices_on) (by exact(hr.mono (show 18≤18 by decide))) (by exact rfl) (@q0_ _ _ _ _ _ _ (@z3_ _ _ _ _ _ (pv 4)) (@a1e _ _ _ _ _ _ _ (pv 2) (@v0_ _ _) (by exact z1_ rfl)) (by exact z1_ rfl)) (by decide) (by exact z1_ rfl) (by exact q1_ rfl))) (@q0_ _ _ _ _ _ _ (@z3_ _ _ _ _ _ (pv 1)) (@v0_ _ _) (by exact z1_ rfl)) (by exact z1_ rfl)) (by decide) (by exact z1_ rfl) (by exact q1_ rfl)) (@a0v _ _ _ _ _ _ _ _ (by exact rfl) (@k9_ _ _ _ _ _ _ _ (@y3_ _ _ _ _ 5 _ (by exact(show 0≤5 by decide)) (by exact a3V.nd) (by exact rfl) (by first|exact Or.inl rfl|exact Or.inr rfl) (by first|exact .inl rfl|exact .inr rfl|assumption)) (@k9_ _ _ _ _ _ _ _ (@y3_ _ _ _ _ 1 _ (by exact(show 0≤1 by decide)) (by exact a3V.nd) (by exact rfl) (by first|exact Or.inl rfl|exact Or.inr rfl) (by first|exact .inl rfl|exact .inr rfl|assumption)) (@a0u _ _ _) (by rfl)) (by rfl)) (by rfl) (by rfl)) (by rfl) (by rfl) (by rfl)) (@q6_ _ _ _ _ _ _ (@a4o _ _ _ _ _ _ _ _ _ _ (pv 3) (@q3_ _ _ _ _ _ _ (@z3_ _ _ _ _ _ (pv 5)) (@q7_ _ _) (by exact z1_ rfl)) (by rfl) (by rfl) (by rfl) (by exact z1_ rfl) (by exact q1_ rfl) (by rfl)) (@q9_ _ _ _ _ (@x2_ _ _ _ _ _ 4 _ _ (by exact a3V.nd) (by exact rfl) (by first|exact Or.inl rfl|exact Or.inr rfl) (@v7_ _ _ _ _ _ _ _ _ _ _ _ (by exact d_added) (by exact(hr.mono (show 1≤18 by decide))) (by exact rfl) (@q0_ _ _ _ _ _ _ (@z3_ _ _ _ _ _ (pv 4)) (@q0_ _ _ _ _ _ _ (@z3_ _ _ _ _ _ (pv 5)) (@v0_ _ _) (by exact z1_ rfl)) (by exact z1_ rfl)) (by decide) (by exact z1_ rfl) (by exact q1_ rfl)) (by rfl) (by first|exact .inl rfl|exact .inr rfl|assumption)))))) (@q9_ _ _ _ _ (@y5_ _ _ _ _ _ (@a2e _ _ _ _ _ _ _ _ _ _ _ (by exact a2B) (by exact a2E) (by exact rfl) (by exact T.g_tuple) (by exact a1k) (@q3_ _ _ _ _ _ _ (@z3_ _ _ _ _ _ (pv 3)) (@q7_ _ _) (by exact z1_ rfl)) (by decide) (by decide) (by exact z1_ rfl) (by exact q1_ rfl)))))))
theorem a3W:FnScope ["table","known","number","sums","row"] ["table"] (y1_ a8E):=x4_
theorem b2A:(["-0","-1","-2","-3","row","other","ways"]:List Str).Nodup:=by decide+kernel
def a9j:Mo Fl:=(z9_ (a0U (mCD 1 a6m (z4_ (z0_ 0) z6_))) (z9_ (a7Y 1) (z9_ (v2_ 2 (mC (.int 0))) (z9_ (j8_ (a2K (z5_ (mCD 1 a4L (z4_ (z0_ 0) z6_)) (z5_ (z0_ 0) z7_))) (gT 2 (gCn (gN 3) (gCn (gN 4) gNl))) (g1_ 2 a1J (mCB a0V (z5_ (mF (y9_ (y6_ (mF (k8_ 2 (u0_ (k3_ 8)) (z4_ (z0_ 3) (k1_ 1 z6_))))) [false,false,false,false,true] 2 (gT 2 (gCn (gN 5) (gCn (gN 6) gNl))) (mT (z2_ a3O (z0_ 5) (z0_ 4))) (z0_ 6))) z7_)))) (v3_ (z0_ 2))))))
def a6r:Fn:=fnM 5 a9j
theorem c0g{f:Addr}{fd:FuncData}(F:Fun K "number_of" "number_of" a8E f fd)(T:Txt K mg)(d_must_be_table:Def P w K mg base "must_be_table" 6 1 a6m)(d_sums_down:Def P w K mg base "sums_down" 3 1 a4L)(d_choices_on:Def P w K mg base "choices_on" 18 2 (u0_ (k3_ 8))):FnOk P w K mg base CX0 19 f fd ["table"] (SpF K 1 a6r):=
 x3_ F a3W fun cdv A outer s H E hr=>(@q6_ _ _ _ _ _ _ (@a2L _ _ _ _ _ (@v7_ _ _ _ _ _ _ _ _ _ _ _ (by exact d_must_be_table) (by exact(hr.mono (show 6≤18 by decide))) (by exact rfl) (@q0_ _ _ _ _ _ _ (@z3_ _ _ _ _ _ (pv 0)) (@v0_ _ _) (by exact z1_ rfl)) (by decide) (by exact z1_ rfl) (by exact q1_ rfl)) (by rfl)) (@q6_ _ _ _ _ _ _ (@b2d _ _ _ 1 _ _ _ (by exact a3W.nd) (by exact rfl) (by first|exact Or.inl rfl|exact Or.inr rfl) (by rfl) (by first|exact .inl rfl|exact .inr rfl|assumption)) (@q6_ _ _ _ _ _ _ (@x2_ _ _ _ _ _ 2 _ _ (by exact a3W.nd) (by exact rfl) (by first|exact Or.inl rfl|exact Or.inr rfl) (@q2_ _ _ _ _ _) (by rfl) (by first|exact .inl rfl|exact .inr rfl|assumption)) (@q6_ _ _ _ _ _ _ (@a0w _ _ _ _ _ _ _ _ _ (by exact Qo) (by exact rfl) (@a7N _ _ _ _ _ _ _ _ _ _ (by exact rfl) (by exact T.g_zip) (@q3_ _ _ _ _ _ _ (@v7_ _ _ _ _ _ _ _ _ _ _ _ (by exact d_sums_down) (by exact(hr.mono (show 3≤18 by decide))) (by exact rfl) (@q0_ _ _ _ _ _ _ (@z3_ _ _ _ _ _ (pv 0)) (@v0_ _ _) (by exact z1_ rfl)) (by decide) (by exact z1_ rfl) (by exact q1_ rfl)) (@q3_ _ _ _ _ _ _ (@z3_ _ _ _ _ _ (pv 0)) (@q7_ _ _) (by exact z1_ rfl)) (by exact z1_ rfl)) (by exact se2 rfl rfl) (by exact se1 rfl)) (@a0v _ _ _ _ _ _ _ _ (by exact rfl) (@k9_ _ _ _ _ _ _ _ (@y3_ _ _ _ _ 3 _ (by exact(show 0≤3 by decide)) (by exact a3W.nd) (by exact rfl) (by first|exact Or.inl rfl|exact Or.inr rfl) (by first|exact .inl rfl|exact .inr rfl|assumption)) (@k9_ _ _ _ _ _ _ _ (@y3_ _ _ _ _ 4 _ (by exact(show 0≤4 by decide)) (by exact a3W.nd) (by exact rfl) (by first|exact Or.inl rfl|exact Or.inr rfl) (by first|exact .inl rfl|exact .inr rfl|assumption)) (@a0u _ _ _) (by rfl)) (by rfl)) (by rfl) (by rfl)) (@q9_ _ _ _ _ (@a2F _ _ _ _ _ 2 _ _ _ _ _ (by exact a3W.nd) (by exact rfl) (by first|exact Or.inl rfl|exact Or.inr rfl) (@w5_ _ _ _ _ _ _ _ _ _ _ _ (by exact(a5Y rfl)) (by exact a5Z) (by exact rfl) (by exact T.g_sum) (by exact a6a) (@q3_ _ _ _ _ _ _ (@j4_ _ _ _ _ (@a0o _ _ ["-0","-1","-2","-3","row","other","ways"] _ [false,false,false,false,true] 2 _ _ _ _ _ _ _ _ _ (by exact(u6_ rfl rfl)) (by exact rfl) (@j5_ _ _ _ _ _ (@j4_ _ _ _ _ (@a1y _ _ _ _ _ _ _ _ _ _ _ (by exact d_choices_on) (by exact(hr.mono (show 18≤18 by decide))) (by exact rfl) (@q0_ _ _ _ _ _ _ (@z3_ _ _ _ _ _ (pv 3)) (@a1e _ _ _ _ _ _ _ (pv 1) (@v0_ _ _) (by exact z1_ rfl)) (by exact z1_ rfl)) (by decide) (by exact z1_ rfl) (by exact q1_ rfl)))) (fun s H fp=>(@a0v _ _ _ _ _ _ _ _ (by exact rfl) (@k9_ _ _ _ _ _ _ _ (@y3_ _ _ _ _ 5 _ (by exact(show 5≤5 by decide)) (by exact b2A) (by exact rfl) (by first|exact Or.inl rfl|exact Or.inr rfl) (by first|exact .inl rfl|exact .inr rfl|assumption)) (@k9_ _ _ _ _ _ _ _ (@y3_ _ _ _ _ 6 _ (by exact(show 5≤6 by decide)) (by exact b2A) (by exact rfl) (by first|exact Or.inl rfl|exact Or.inr rfl) (by first|exact .inl rfl|exact .inr rfl|assumption)) (@a0u _ _ _) (by rfl)) (by rfl)) (by rfl) (by rfl))) (fun s H fp=>(@a4u _ _ _ _ (@k0_ _ _ _ _ _ _ _ _ _ _ (by exact(b8U hr.units)) (by exact b8V) (@z3_ _ _ _ _ _ (pv 5)) (@z3_ _ _ _ _ _ (pv 4)) (by exact(nomark _))))) (fun s H fp=>(@z3_ _ _ _ _ _ (pv 6))) (by intro _;rfl))) (@q7_ _ _) (by exact z1_ rfl)) (by decide) (by decide) (by exact z1_ rfl) (by exact q1_ rfl)) (by exact a7g) (by exact a5B) (by first|exact .inl rfl|exact .inr rfl|assumption))) (by intro _;rfl)) (@q9_ _ _ _ _ (@y5_ _ _ _ _ _ (@z3_ _ _ _ _ _ (pv 2))))))))
theorem c0h:FnScope ["side","number"] ["side","number"] (y1_ a8F):=x4_
def a9k:Mo Fl:=(z9_ (a0U (mCD 4 a0q (z4_ (z0_ 0) (z4_ (mC (.int 1)) (z4_ (mC (.int 6)) (z4_ (mC (.str "side")) z6_)))))) (z9_ (a0U (mCD 4 a0q (z4_ (z0_ 1) (z4_ (mC (.int 0)) (z4_ (z2_ k4_ (mCD 1 a1n (z4_ (z0_ 0) z6_)) (mC (.int 1))) (z4_ (mC (.str "number")) z6_)))))) (v3_ (a3M 3 a4R (z5_ (z0_ 0) (z5_ (z0_ 1) z7_))))))
def a1U:Fn:=fnM 2 a9k
theorem c0i{f:Addr}{fd:FuncData}(F:Fun K "table_at" "table_at" a8F f fd)(T:Txt K mg)(d_must_be_within:Def P w K mg base "must_be_within" 3 4 a0q)(d_laid:Def P w K mg base "laid" 19 3 a4R)(d_counted:Def P w K mg base "counted" 2 1 a1n):FnOk P w K mg base CX0 20 f fd ["side","number"] (SpF K 2 a1U):=
 x3_ F c0h fun cdv A outer s H E hr=>(@q6_ _ _ _ _ _ _ (@a2L _ _ _ _ _ (@v7_ _ _ _ _ _ _ _ _ _ _ _ (by exact d_must_be_within) (by exact(hr.mono (show 3≤19 by decide))) (by exact rfl) (@q0_ _ _ _ _ _ _ (@z3_ _ _ _ _ _ (pv 0)) (@q0_ _ _ _ _ _ _ (@q2_ _ _ _ _ _) (@q0_ _ _ _ _ _ _ (@a4z _ _ _ _ _ (by exact rfl) (by exact T.c_GREATEST_SIDE) (by decide)) (@q0_ _ _ _ _ _ _ (@a3l _ _ _ _ _ (by decide)) (@v0_ _ _) (by exact z1_ rfl)) (by exact z1_ rfl)) (by exact z1_ rfl)) (by exact z1_ rfl)) (by decide) (by exact z1_ rfl) (by exact q1_ rfl)) (by rfl)) (@q6_ _ _ _ _ _ _ (@a2L _ _ _ _ _ (@v7_ _ _ _ _ _ _ _ _ _ _ _ (by exact d_must_be_within) (by exact(hr.mono (show 3≤19 by decide))) (by exact rfl) (@q0_ _ _ _ _ _ _ (@z3_ _ _ _ _ _ (pv 1)) (@q0_ _ _ _ _ _ _ (@q2_ _ _ _ _ _) (@q0_ _ _ _ _ _ _ (@v1_ _ _ _ _ _ _ _ _ _ _ (by exact a0r) (by exact a0l) (@v7_ _ _ _ _ _ _ _ _ _ _ _ (by exact d_counted) (by exact(hr.mono (show 2≤19 by decide))) (by exact rfl) (@q0_ _ _ _ _ _ _ (@z3_ _ _ _ _ _ (pv 0)) (@v0_ _ _) (by exact z1_ rfl)) (by decide) (by exact z1_ rfl) (by exact q1_ rfl)) (@q2_ _ _ _ _ _)) (@q0_ _ _ _ _ _ _ (@a3l _ _ _ _ _ (by decide)) (@v0_ _ _) (by exact z1_ rfl)) (by exact z1_ rfl)) (by exact z1_ rfl)) (by exact z1_ rfl)) (by decide) (by exact z1_ rfl) (by exact q1_ rfl)) (by rfl)) (@q9_ _ _ _ _ (@y5_ _ _ _ _ _ (@b2h _ _ _ _ _ _ _ _ _ _ _ (by exact d_laid) (by exact(hr.mono (show 19≤19 by decide))) (by exact rfl) (@a7Z _ _ _ _ _ _ (@z3_ _ _ _ _ _ (pv 0)) (@a7Z _ _ _ _ _ _ (@z3_ _ _ _ _ _ (pv 1)) (@b2f _ _ _ (by rfl)) (by exact z1_ rfl)) (by exact z1_ rfl)) (by decide) (by exact z1_ rfl) (by exact q1_ rfl))))))
theorem c0j:FnScope ["thing","width"] ["thing","width"] (y1_ a8G):=x4_
def a9l:Mo Fl:=(v3_ (a1u (mIs "tuple" (z0_ 0)) (mCD 3 a2U (z4_ (z0_ 0) (z4_ (mCB k2_ (z5_ (z0_ 0) z7_)) (z4_ (z0_ 1) z6_))))))
def a6s:Fn:=fnM 2 a9l
theorem c0k{f:Addr}{fd:FuncData}(F:Fun K "is_rows" "is_rows" a8G f fd)(T:Txt K mg)(d_is_grid:Def P w K mg base "is_grid" 3 3 a2U):FnOk P w K mg base CX0 4 f fd ["thing","width"] (SpF K 2 a6s):=
 x3_ F c0j fun cdv A outer s H E hr=>(@q9_ _ _ _ _ (@y5_ _ _ _ _ _ (@a5G _ _ _ _ _ _ _ _ (@a3B _ _ _ _ _ _ _ _ _ (by exact a5Q) (@z3_ _ _ _ _ _ (pv 0)) (by exact rfl) (by exact T.g_isinstance) (by exact rfl) (by exact T.g_tuple) (by exact a1k) (by decide) (by decide) (by exact se2 rfl rfl)) (@a3q _ _ _ _ _ _ (@v7_ _ _ _ _ _ _ _ _ _ _ _ (by exact d_is_grid) (by exact(hr.mono (show 3≤3 by decide))) (by exact rfl) (@q0_ _ _ _ _ _ _ (@z3_ _ _ _ _ _ (pv 0)) (@q0_ _ _ _ _ _ _ (@w5_ _ _ _ _ _ _ _ _ _ _ _ (by exact a0P) (by exact a0R) (by exact rfl) (by exact T.g_len) (by exact Yv) (@q3_ _ _ _ _ _ _ (@z3_ _ _ _ _ _ (pv 0)) (@q7_ _ _) (by exact z1_ rfl)) (by decide) (by decide) (by exact z1_ rfl) (by exact q1_ rfl)) (@q0_ _ _ _ _ _ _ (@z3_ _ _ _ _ _ (pv 1)) (@v0_ _ _) (by exact z1_ rfl)) (by exact z1_ rfl)) (by exact z1_ rfl)) (by decide) (by exact z1_ rfl) (by exact q1_ rfl))))))
theorem a6t:FnScope ["side","rows","sums","row"] ["side","rows"] (y1_ a8H):=x4_
def a9m:Mo Fl:=(z9_ (a0U (mCD 4 a0q (z4_ (z0_ 0) (z4_ (mC (.int 1)) (z4_ (mC (.int 6)) (z4_ (mC (.str "side")) z6_)))))) (z9_ (y2_ (w4_ (mT (mCD 2 a6s (z4_ (z0_ 1) (z4_ (z0_ 0) z6_))))) a3s mNx) (z9_ (v2_ 2 (z2_ y0_ (y4_ (z5_ (mC (.int 0)) z7_)) (z0_ 0))) (z9_ (j8_ (y6_ (z0_ 1)) (gN 3) (z9_ (y2_ (mT (z2_ (a4D true) (z0_ 3) (mF (k8_ 1 a1D (z4_ (z0_ 2) z6_))))) a3s mNx) (v2_ 2 (mCD 2 a1a (z4_ (z0_ 2) (z4_ (z0_ 3) z6_)))))) (v3_ (z0_ 2))))))
def a3X:Fn:=fnM 4 a9m
theorem c0l{f:Addr}{fd:FuncData}(F:Fun K "sums_behind" "sums_behind" a8H f fd)(T:Txt K mg)(d_must_be_within:Def P w K mg base "must_be_within" 3 4 a0q)(d_is_rows:Def P w K mg base "is_rows" 4 2 a6s)(d_added:Def P w K mg base "added" 1 2 a1a)(d_rows_on:Def P w K mg base "rows_on" 1 1 a1D):FnOk P w K mg base CX0 5 f fd ["side","rows"] (SpF K 2 a3X):=
 x3_ F a6t fun cdv A outer s H E hr=>(@q6_ _ _ _ _ _ _ (@a2L _ _ _ _ _ (@v7_ _ _ _ _ _ _ _ _ _ _ _ (by exact d_must_be_within) (by exact(hr.mono (show 3≤4 by decide))) (by exact rfl) (@q0_ _ _ _ _ _ _ (@z3_ _ _ _ _ _ (pv 0)) (@q0_ _ _ _ _ _ _ (@q2_ _ _ _ _ _) (@q0_ _ _ _ _ _ _ (@a4z _ _ _ _ _ (by exact rfl) (by exact T.c_GREATEST_SIDE) (by decide)) (@q0_ _ _ _ _ _ _ (@a3l _ _ _ _ _ (by decide)) (@v0_ _ _) (by exact z1_ rfl)) (by exact z1_ rfl)) (by exact z1_ rfl)) (by exact z1_ rfl)) (by decide) (by exact z1_ rfl) (by exact q1_ rfl)) (by rfl)) (@q6_ _ _ _ _ _ _ (@w7_ _ _ _ _ _ _ _ _ _ (@a1t _ _ _ _ _ (@a1s _ _ _ _ (@v7_ _ _ _ _ _ _ _ _ _ _ _ (by exact d_is_rows) (by exact(hr.mono (show 4≤4 by decide))) (by exact rfl) (@q0_ _ _ _ _ _ _ (@z3_ _ _ _ _ _ (pv 1)) (@q0_ _ _ _ _ _ _ (@z3_ _ _ _ _ _ (pv 0)) (@v0_ _ _) (by exact z1_ rfl)) (by exact z1_ rfl)) (by decide) (by exact z1_ rfl) (by exact q1_ rfl)) (by intro _;rfl))) (@q9_ _ _ _ _ (@a5H _ _ _)) (@w6_ _ _)) (@q6_ _ _ _ _ _ _ (@x2_ _ _ _ _ _ 2 _ _ (by exact a6t.nd) (by exact rfl) (by first|exact Or.inl rfl|exact Or.inr rfl) (@v1_ _ _ _ _ _ _ _ _ _ _ (by exact g7_) (by exact g8_) (@k5_ _ _ _ _ _ _ (@q3_ _ _ _ _ _ _ (@q2_ _ _ _ _ _) (@q7_ _ _) (by exact z1_ rfl))) (@z3_ _ _ _ _ _ (pv 0))) (by rfl) (by first|exact .inl rfl|exact .inr rfl|assumption)) (@q6_ _ _ _ _ _ _ (@a0w _ _ _ _ _ _ _ _ _ (by exact Qo) (by exact rfl) (@j5_ _ _ _ _ _ (@z3_ _ _ _ _ _ (pv 1))) (@y3_ _ _ _ _ 3 _ (by exact(show 0≤3 by decide)) (by exact a6t.nd) (by exact rfl) (by first|exact Or.inl rfl|exact Or.inr rfl) (by first|exact .inl rfl|exact .inr rfl|assumption)) (@q6_ _ _ _ _ _ _ (@w7_ _ _ _ _ _ _ _ _ _ (@k0_ _ _ _ _ _ _ _ _ _ _ (by exact(b8v hr.units)) (by exact b8w) (@z3_ _ _ _ _ _ (pv 3)) (@j4_ _ _ _ _ (@a1y _ _ _ _ _ _ _ _ _ _ _ (by exact d_rows_on) (by exact(hr.mono (show 1≤4 by decide))) (by exact rfl) (@q0_ _ _ _ _ _ _ (@z3_ _ _ _ _ _ (pv 2)) (@v0_ _ _) (by exact z1_ rfl)) (by decide) (by exact z1_ rfl) (by exact q1_ rfl))) (by with_unfolding_all rfl)) (@q9_ _ _ _ _ (@a5H _ _ _)) (@w6_ _ _)) (@q9_ _ _ _ _ (@x2_ _ _ _ _ _ 2 _ _ (by exact a6t.nd) (by exact rfl) (by first|exact Or.inl rfl|exact Or.inr rfl) (@v7_ _ _ _ _ _ _ _ _ _ _ _ (by exact d_added) (by exact(hr.mono (show 1≤4 by decide))) (by exact rfl) (@q0_ _ _ _ _ _ _ (@z3_ _ _ _ _ _ (pv 2)) (@q0_ _ _ _ _ _ _ (@z3_ _ _ _ _ _ (pv 3)) (@v0_ _ _) (by exact z1_ rfl)) (by exact z1_ rfl)) (by decide) (by exact z1_ rfl) (by exact q1_ rfl)) (by rfl) (by first|exact .inl rfl|exact .inr rfl|assumption)))) (by intro _;rfl)) (@q9_ _ _ _ _ (@y5_ _ _ _ _ _ (@z3_ _ _ _ _ _ (pv 2))))))))
theorem a9n:FnScope ["top","bottom","common","rest"] ["top","bottom"] (y1_ a8I):=x4_
def a9o:Mo Fl:=(z9_ (a2g 2 3 (z5_ (z0_ 0) (z5_ (z0_ 1) z7_))) (z9_ (a2N 60 (mT (z2_ dGt (z0_ 3) (mC (.int 0)))) (a2g 2 3 (z5_ (z0_ 3) (z5_ (z2_ a0b (z0_ 2) (z0_ 3)) z7_)))) (v3_ (y4_ (z5_ (z2_ a2r (z0_ 0) (z0_ 2)) (z5_ (z2_ a2r (z0_ 1) (z0_ 2)) z7_))))))
def a2s:Fn:=fnM 4 a9o
theorem c0m{f:Addr}{fd:FuncData}(F:Fun K "fraction" "fraction" a8I f fd)(T:Txt K mg):FnOk P w K mg base CX0 1 f fd ["top","bottom"] (SpF K 2 a2s):=
 x3_ F a9n fun cdv A outer s H E hr=>(@q6_ _ _ _ _ _ _ (@a5K _ _ _ _ _ _ 2 3 _ _ _ _ _ _ _ _ (by exact rfl) (by exact a9n.nd) (by exact rfl) (by exact rfl) (by decide) (by exact rfl) (by exact rfl) (@q3_ _ _ _ _ _ _ (@z3_ _ _ _ _ _ (pv 0)) (@q3_ _ _ _ _ _ _ (@z3_ _ _ _ _ _ (pv 1)) (@q7_ _ _) (by exact z1_ rfl)) (by exact z1_ rfl)) (by exact rfl) (by rfl)) (@q6_ _ _ _ _ _ _ (@a3F _ _ _ _ _ _ _ _ (by exact Qo) (@k0_ _ _ _ _ _ _ _ _ _ _ (by exact a7h) (by exact a7v) (@z3_ _ _ _ _ _ (pv 3)) (@q2_ _ _ _ _ _) (by exact(nomark _))) (@q9_ _ _ _ _ (@a5K _ _ _ _ _ _ 2 3 _ _ _ _ _ _ _ _ (by exact rfl) (by exact a9n.nd) (by exact rfl) (by exact rfl) (by decide) (by exact rfl) (by exact rfl) (@q3_ _ _ _ _ _ _ (@z3_ _ _ _ _ _ (pv 3)) (@q3_ _ _ _ _ _ _ (@v1_ _ _ _ _ _ _ _ _ _ _ (by exact a1Y) (by exact a2b) (@z3_ _ _ _ _ _ (pv 2)) (@z3_ _ _ _ _ _ (pv 3))) (@q7_ _ _) (by exact z1_ rfl)) (by exact z1_ rfl)) (by exact rfl) (by rfl)))) (@q9_ _ _ _ _ (@y5_ _ _ _ _ _ (@k5_ _ _ _ _ _ _ (@q3_ _ _ _ _ _ _ (@v1_ _ _ _ _ _ _ _ _ _ _ (by exact a4E) (by exact a4F) (@z3_ _ _ _ _ _ (pv 0)) (@z3_ _ _ _ _ _ (pv 2))) (@q3_ _ _ _ _ _ _ (@v1_ _ _ _ _ _ _ _ _ _ _ (by exact a4E) (by exact a4F) (@z3_ _ _ _ _ _ (pv 1)) (@z3_ _ _ _ _ _ (pv 2))) (@q7_ _ _) (by exact z1_ rfl)) (by exact z1_ rfl)))))))
theorem c0n:FnScope ["side","rows"] ["side","rows"] (y1_ a8J):=x4_
def a9p:Mo Fl:=(v3_ (a3M 2 (k3_ 8) (z5_ (mCD 2 a3X (z4_ (z0_ 0) (z4_ (z0_ 1) z6_))) z7_)))
def j0_:Fn:=fnM 2 a9p
theorem c0o{f:Addr}{fd:FuncData}(F:Fun K "many_so" "many_so" a8J f fd)(T:Txt K mg)(d_ways_on:Def P w K mg base "ways_on" 17 2 (k3_ 8))(d_sums_behind:Def P w K mg base "sums_behind" 5 2 a3X):FnOk P w K mg base CX0 18 f fd ["side","rows"] (SpF K 2 j0_):=
 x3_ F c0n fun cdv A outer s H E hr=>(@q9_ _ _ _ _ (@y5_ _ _ _ _ _ (@b2h _ _ _ _ _ _ _ _ _ _ _ (by exact d_ways_on) (by exact(hr.mono (show 17≤17 by decide))) (by exact rfl) (@a7Z _ _ _ _ _ _ (@v7_ _ _ _ _ _ _ _ _ _ _ _ (by exact d_sums_behind) (by exact(hr.mono (show 5≤17 by decide))) (by exact rfl) (@q0_ _ _ _ _ _ _ (@z3_ _ _ _ _ _ (pv 0)) (@q0_ _ _ _ _ _ _ (@z3_ _ _ _ _ _ (pv 1)) (@v0_ _ _) (by exact z1_ rfl)) (by exact z1_ rfl)) (by decide) (by exact z1_ rfl) (by exact q1_ rfl)) (@b2f _ _ _ (by rfl)) (by exact z1_ rfl)) (by decide) (by exact z1_ rfl) (by exact q1_ rfl))))
theorem c0p:FnScope ["side","rows"] ["side","rows"] (y1_ a8K):=x4_
def a9q:Mo Fl:=(v3_ (mCD 2 a2s (z4_ (mCD 2 j0_ (z4_ (z0_ 0) (z4_ (z0_ 1) z6_))) (z4_ (mCD 1 a1n (z4_ (z0_ 0) z6_)) z6_))))
def a2W:Fn:=fnM 2 a9q
theorem c0q{f:Addr}{fd:FuncData}(F:Fun K "share_so" "share_so" a8K f fd)(T:Txt K mg)(d_fraction:Def P w K mg base "fraction" 1 2 a2s)(d_many_so:Def P w K mg base "many_so" 18 2 j0_)(d_counted:Def P w K mg base "counted" 2 1 a1n):FnOk P w K mg base CX0 19 f fd ["side","rows"] (SpF K 2 a2W):=
 x3_ F c0p fun cdv A outer s H E hr=>(@q9_ _ _ _ _ (@y5_ _ _ _ _ _ (@v7_ _ _ _ _ _ _ _ _ _ _ _ (by exact d_fraction) (by exact(hr.mono (show 1≤18 by decide))) (by exact rfl) (@q0_ _ _ _ _ _ _ (@v7_ _ _ _ _ _ _ _ _ _ _ _ (by exact d_many_so) (by exact(hr.mono (show 18≤18 by decide))) (by exact rfl) (@q0_ _ _ _ _ _ _ (@z3_ _ _ _ _ _ (pv 0)) (@q0_ _ _ _ _ _ _ (@z3_ _ _ _ _ _ (pv 1)) (@v0_ _ _) (by exact z1_ rfl)) (by exact z1_ rfl)) (by decide) (by exact z1_ rfl) (by exact q1_ rfl)) (@q0_ _ _ _ _ _ _ (@v7_ _ _ _ _ _ _ _ _ _ _ _ (by exact d_counted) (by exact(hr.mono (show 2≤18 by decide))) (by exact rfl) (@q0_ _ _ _ _ _ _ (@z3_ _ _ _ _ _ (pv 0)) (@v0_ _ _) (by exact z1_ rfl)) (by decide) (by exact z1_ rfl) (by exact q1_ rfl)) (@v0_ _ _) (by exact z1_ rfl)) (by exact z1_ rfl)) (by decide) (by exact z1_ rfl) (by exact q1_ rfl))))
theorem a6u:FnScope ["side","rows","sums","known","many"] ["side","rows"] (y1_ a8L):=x4_
theorem b2B:(["-0","-1","-2","-3","many","row","ways"]:List Str).Nodup:=by decide+kernel
def a9r:Mo Fl:=(z9_ (v2_ 2 (mCD 2 a3X (z4_ (z0_ 0) (z4_ (z0_ 1) z6_)))) (z9_ (a7Y 3) (z9_ (v2_ 4 (mCD 2 (k3_ 8) (z4_ (z0_ 2) (k1_ 3 z6_)))) (a1w (y9_ (y6_ (mF (k8_ 2 (u0_ (k3_ 8)) (z4_ (z0_ 2) (k1_ 3 z6_))))) [false,false,false,false,true] 2 (gT 2 (gCn (gN 5) (gCn (gN 6) gNl))) x7_ (y4_ (z5_ (z0_ 5) (z5_ (mCD 2 a2s (z4_ (z0_ 6) (z4_ (z0_ 4) z6_))) z7_))))))))
def a1V:Fn:=fnM 5 a9r
theorem c0r{f:Addr}{fd:FuncData}(F:Fun K "next_rows" "next_rows" a8L f fd)(T:Txt K mg)(d_sums_behind:Def P w K mg base "sums_behind" 5 2 a3X)(d_ways_on:Def P w K mg base "ways_on" 17 2 (k3_ 8))(d_fraction:Def P w K mg base "fraction" 1 2 a2s)(d_choices_on:Def P w K mg base "choices_on" 18 2 (u0_ (k3_ 8))):FnOk P w K mg base CX0 19 f fd ["side","rows"] (SpF K 2 a1V):=
 x3_ F a6u fun cdv A outer s H E hr=>(@q6_ _ _ _ _ _ _ (@x2_ _ _ _ _ _ 2 _ _ (by exact a6u.nd) (by exact rfl) (by first|exact Or.inl rfl|exact Or.inr rfl) (@v7_ _ _ _ _ _ _ _ _ _ _ _ (by exact d_sums_behind) (by exact(hr.mono (show 5≤18 by decide))) (by exact rfl) (@q0_ _ _ _ _ _ _ (@z3_ _ _ _ _ _ (pv 0)) (@q0_ _ _ _ _ _ _ (@z3_ _ _ _ _ _ (pv 1)) (@v0_ _ _) (by exact z1_ rfl)) (by exact z1_ rfl)) (by decide) (by exact z1_ rfl) (by exact q1_ rfl)) (by rfl) (by first|exact .inl rfl|exact .inr rfl|assumption)) (@q6_ _ _ _ _ _ _ (@b2d _ _ _ 3 _ _ _ (by exact a6u.nd) (by exact rfl) (by first|exact Or.inl rfl|exact Or.inr rfl) (by rfl) (by first|exact .inl rfl|exact .inr rfl|assumption)) (@q6_ _ _ _ _ _ _ (@x2_ _ _ _ _ _ 4 _ _ (by exact a6u.nd) (by exact rfl) (by first|exact Or.inl rfl|exact Or.inr rfl) (@v7_ _ _ _ _ _ _ _ _ _ _ _ (by exact d_ways_on) (by exact(hr.mono (show 17≤18 by decide))) (by exact rfl) (@q0_ _ _ _ _ _ _ (@z3_ _ _ _ _ _ (pv 2)) (@a1e _ _ _ _ _ _ _ (pv 3) (@v0_ _ _) (by exact z1_ rfl)) (by exact z1_ rfl)) (by decide) (by exact z1_ rfl) (by exact q1_ rfl)) (by rfl) (by first|exact .inl rfl|exact .inr rfl|assumption)) (@q9_ _ _ _ _ (@a3t _ _ _ _ _ (@a0o _ _ ["-0","-1","-2","-3","many","row","ways"] _ [false,false,false,false,true] 2 _ _ _ _ _ _ _ _ _ (by exact(u6_ rfl rfl)) (by exact rfl) (@j5_ _ _ _ _ _ (@j4_ _ _ _ _ (@a1y _ _ _ _ _ _ _ _ _ _ _ (by exact d_choices_on) (by exact(hr.mono (show 18≤18 by decide))) (by exact rfl) (@q0_ _ _ _ _ _ _ (@z3_ _ _ _ _ _ (pv 2)) (@a1e _ _ _ _ _ _ _ (pv 3) (@v0_ _ _) (by exact z1_ rfl)) (by exact z1_ rfl)) (by decide) (by exact z1_ rfl) (by exact q1_ rfl)))) (fun s H fp=>(@a0v _ _ _ _ _ _ _ _ (by exact rfl) (@k9_ _ _ _ _ _ _ _ (@y3_ _ _ _ _ 5 _ (by exact(show 5≤5 by decide)) (by exact b2B) (by exact rfl) (by first|exact Or.inl rfl|exact Or.inr rfl) (by first|exact .inl rfl|exact .inr rfl|assumption)) (@k9_ _ _ _ _ _ _ _ (@y3_ _ _ _ _ 6 _ (by exact(show 5≤6 by decide)) (by exact b2B) (by exact rfl) (by first|exact Or.inl rfl|exact Or.inr rfl) (by first|exact .inl rfl|exact .inr rfl|assumption)) (@a0u _ _ _) (by rfl)) (by rfl)) (by rfl) (by rfl))) (fun s H fp=>(@a0I _ _)) (fun s H fp=>(@k5_ _ _ _ _ _ _ (@q3_ _ _ _ _ _ _ (@z3_ _ _ _ _ _ (pv 5)) (@q3_ _ _ _ _ _ _ (@v7_ _ _ _ _ _ _ _ _ _ _ _ (by exact d_fraction) (by exact(hr.mono (show 1≤18 by decide))) (by exact rfl) (@q0_ _ _ _ _ _ _ (@z3_ _ _ _ _ _ (pv 6)) (@q0_ _ _ _ _ _ _ (@z3_ _ _ _ _ _ (pv 4)) (@v0_ _ _) (by exact z1_ rfl)) (by exact z1_ rfl)) (by decide) (by exact z1_ rfl) (by exact q1_ rfl)) (@q7_ _ _) (by exact z1_ rfl)) (by exact z1_ rfl)))) (by intro _;rfl)))))))
theorem c0s:FnScope ["_law_script","_law_k"] ["_law_script","_law_k"] (y1_ a8M):=x4_
def a4S:Mo Fl:=(z9_ (y2_ (mT (z2_ dLt (z0_ 1) (mCB k2_ (z5_ (z0_ 0) z7_)))) (v3_ (z2_ dIx (z0_ 0) (z0_ 1))) mNx) (v3_ (mC (.int 0))))
def a4T:Fn:=fnM 2 a4S
theorem c0t{f:Addr}{fd:FuncData}(F:Fun K "_law_cell_at" "_law_cell_at" a8M f fd)(T:Txt K mg):FnOk P w K mg base CX0 1 f fd ["_law_script","_law_k"] (SpF K 2 a4T):=
 x3_ F c0s fun cdv A outer s H E hr=>(@q6_ _ _ _ _ _ _ (@w7_ _ _ _ _ _ _ _ _ _ (@k0_ _ _ _ _ _ _ _ _ _ _ (by exact a5o) (by exact a5C) (@z3_ _ _ _ _ _ (pv 1)) (@w5_ _ _ _ _ _ _ _ _ _ _ _ (by exact a0P) (by exact a0R) (by exact rfl) (by exact T.g_len) (by exact Yv) (@q3_ _ _ _ _ _ _ (@z3_ _ _ _ _ _ (pv 0)) (@q7_ _ _) (by exact z1_ rfl)) (by decide) (by decide) (by exact z1_ rfl) (by exact q1_ rfl)) (by exact(nomark _))) (@q9_ _ _ _ _ (@y5_ _ _ _ _ _ (@u2_ _ _ _ _ _ _ _ (@z3_ _ _ _ _ _ (pv 0)) (@z3_ _ _ _ _ _ (pv 1)) (fun _ _=>rfl)))) (@w6_ _ _)) (@q9_ _ _ _ _ (@y5_ _ _ _ _ _ (@q2_ _ _ _ _ _))))
theorem b2C:FnScope ["_law_script","_law_k","_law_cell"] ["_law_script","_law_k"] (y1_ a8N):=x4_
def a4U:Mo Fl:=(z9_ (v2_ 2 (mCD 2 a4T (z4_ (z0_ 0) (z4_ (z0_ 1) z6_)))) (z9_ (y2_ (mT (z2_ dGe (z0_ 2) (z2_ a2a (mC (.int 10)) (mC (.int 18))))) (a1w (a1v (z5_ (z2_ k4_ (z0_ 2) (z2_ a2a (mC (.int 10)) (mC (.int 18)))) (z5_ (mC (.bl true)) z7_)))) mNx) (a1w (a1v (z5_ (z2_ a0b (z0_ 2) (mC (.int 2147483647))) (z5_ (mC (.bl false)) z7_))))))
def a4V:Fn:=fnM 3 a4U
theorem c0u{f:Addr}{fd:FuncData}(F:Fun K "_law_state" "_law_state" a8N f fd)(T:Txt K mg)(d__law_cell_at:Def P w K mg base "_law_cell_at" 1 2 a4T):FnOk P w K mg base CX0 2 f fd ["_law_script","_law_k"] (SpF K 2 a4V):=
 x3_ F b2C fun cdv A outer s H E hr=>(@q6_ _ _ _ _ _ _ (@x2_ _ _ _ _ _ 2 _ _ (by exact b2C.nd) (by exact rfl) (by first|exact Or.inl rfl|exact Or.inr rfl) (@v7_ _ _ _ _ _ _ _ _ _ _ _ (by exact d__law_cell_at) (by exact(hr.mono (show 1≤1 by decide))) (by exact rfl) (@q0_ _ _ _ _ _ _ (@z3_ _ _ _ _ _ (pv 0)) (@q0_ _ _ _ _ _ _ (@z3_ _ _ _ _ _ (pv 1)) (@v0_ _ _) (by exact z1_ rfl)) (by exact z1_ rfl)) (by decide) (by exact z1_ rfl) (by exact q1_ rfl)) (by rfl) (by first|exact .inl rfl|exact .inr rfl|assumption)) (@q6_ _ _ _ _ _ _ (@w7_ _ _ _ _ _ _ _ _ _ (@k0_ _ _ _ _ _ _ _ _ _ _ (by exact b0v) (by exact b0X) (@z3_ _ _ _ _ _ (pv 2)) (@v1_ _ _ _ _ _ _ _ _ _ _ (by exact b0u) (by exact b0W) (@q2_ _ _ _ _ _) (@q2_ _ _ _ _ _)) (by exact(nomark _))) (@q9_ _ _ _ _ (@a3t _ _ _ _ _ (@a2D _ _ _ _ _ (@q3_ _ _ _ _ _ _ (@v1_ _ _ _ _ _ _ _ _ _ _ (by exact a0r) (by exact a0l) (@z3_ _ _ _ _ _ (pv 2)) (@v1_ _ _ _ _ _ _ _ _ _ _ (by exact b0u) (by exact b0W) (@q2_ _ _ _ _ _) (@q2_ _ _ _ _ _))) (@q3_ _ _ _ _ _ _ (@a0k _ _ _ _ _) (@q7_ _ _) (by exact z1_ rfl)) (by exact z1_ rfl))))) (@w6_ _ _)) (@q9_ _ _ _ _ (@a3t _ _ _ _ _ (@a2D _ _ _ _ _ (@q3_ _ _ _ _ _ _ (@v1_ _ _ _ _ _ _ _ _ _ _ (by exact a1Y) (by exact a2b) (@z3_ _ _ _ _ _ (pv 2)) (@q2_ _ _ _ _ _)) (@q3_ _ _ _ _ _ _ (@a0k _ _ _ _ _) (@q7_ _ _) (by exact z1_ rfl)) (by exact z1_ rfl)))))))
theorem a6v:FnScope ["_law_state_here","_law_many","_law_mixed","_law_found"] ["_law_state_here","_law_many"] (y1_ a8O):=x4_
def a4W:Mo Fl:=(z9_ (y2_ (mT (j9_ 0 (mC (.int 1)))) (z9_ (v2_ 3 (z2_ a0b (j9_ 0 (mC (.int 0))) (z0_ 1))) (z9_ (w8_ (z2_ a1I (j9_ 0 (mC (.int 0))) (z0_ 1)) (gS 0 (mC (.int 0)))) (v3_ (z0_ 3)))) mNx) (z9_ (w8_ (z2_ a0b (z2_ v8_ (z2_ y0_ (j9_ 0 (mC (.int 0))) (mC (.int 48271))) (mC (.int 29))) (mC (.int 2147483647))) (gS 0 (mC (.int 0)))) (z9_ (v2_ 2 (z2_ a0b (z2_ v8_ (z2_ v8_ (z2_ y0_ (j9_ 0 (mC (.int 0))) (j9_ 0 (mC (.int 0)))) (z2_ y0_ (mC (.int 39373)) (j9_ 0 (mC (.int 0))))) (mC (.int 7))) (mC (.int 2147483629)))) (z9_ (v2_ 2 (z2_ a0b (z2_ v8_ (z2_ y0_ (z0_ 2) (z0_ 2)) (z2_ y0_ (mC (.int 16807)) (z0_ 2))) (mC (.int 2147483587)))) (v3_ (z2_ a0b (z2_ a1I (z0_ 2) (mC (.int 8))) (z0_ 1)))))))
def g4_:Fn:=fnM 4 a4W
theorem c0v{f:Addr}{fd:FuncData}(F:Fun K "_law_take" "_law_take" a8O f fd)(T:Txt K mg):FnOk P w K mg base CX0 1 f fd ["_law_state_here","_law_many"] (SpF K 2 g4_):=
 x3_ F a6v fun cdv A outer s H E hr=>(@q6_ _ _ _ _ _ _ (@w7_ _ _ _ _ _ _ _ _ _ (@a1s _ _ _ _ (@a2d _ _ _ _ _ _ _ _ (pv 0) (@q2_ _ _ _ _ _) (fun _ _=>rfl) (by exact a2k)) (by intro _;rfl)) (@q6_ _ _ _ _ _ _ (@x2_ _ _ _ _ _ 3 _ _ (by exact a6v.nd) (by exact rfl) (by first|exact Or.inl rfl|exact Or.inr rfl) (@v1_ _ _ _ _ _ _ _ _ _ _ (by exact a1Y) (by exact a2b) (@a2d _ _ _ _ _ _ _ _ (pv 0) (@q2_ _ _ _ _ _) (fun _ _=>rfl) (by exact a2k)) (@z3_ _ _ _ _ _ (pv 1))) (by rfl) (by first|exact .inl rfl|exact .inr rfl|assumption)) (@q6_ _ _ _ _ _ _ (@a2f _ _ _ _ _ _ _ (@v1_ _ _ _ _ _ _ _ _ _ _ (by exact a7f) (by exact a7u) (@a2d _ _ _ _ _ _ _ _ (pv 0) (@q2_ _ _ _ _ _) (fun _ _=>rfl) (by exact a2k)) (@z3_ _ _ _ _ _ (pv 1))) (@b1d _ _ _ _ _ _ _ _ _ (pv 0) (@q2_ _ _ _ _ _) (by intro _;rfl)) (by rfl) (by rfl) (by rfl)) (@q9_ _ _ _ _ (@y5_ _ _ _ _ _ (@z3_ _ _ _ _ _ (pv 3)))))) (@w6_ _ _)) (@q6_ _ _ _ _ _ _ (@a2f _ _ _ _ _ _ _ (@v1_ _ _ _ _ _ _ _ _ _ _ (by exact a1Y) (by exact a2b) (@v1_ _ _ _ _ _ _ _ _ _ _ (by exact w0_) (by exact w1_) (@v1_ _ _ _ _ _ _ _ _ _ _ (by exact g7_) (by exact g8_) (@a2d _ _ _ _ _ _ _ _ (pv 0) (@q2_ _ _ _ _ _) (fun _ _=>rfl) (by exact a2k)) (@q2_ _ _ _ _ _)) (@q2_ _ _ _ _ _)) (@q2_ _ _ _ _ _)) (@b1d _ _ _ _ _ _ _ _ _ (pv 0) (@q2_ _ _ _ _ _) (by intro _;rfl)) (by rfl) (by rfl) (by rfl)) (@q6_ _ _ _ _ _ _ (@x2_ _ _ _ _ _ 2 _ _ (by exact a6v.nd) (by exact rfl) (by first|exact Or.inl rfl|exact Or.inr rfl) (@v1_ _ _ _ _ _ _ _ _ _ _ (by exact a1Y) (by exact a2b) (@v1_ _ _ _ _ _ _ _ _ _ _ (by exact w0_) (by exact w1_) (@v1_ _ _ _ _ _ _ _ _ _ _ (by exact w0_) (by exact w1_) (@v1_ _ _ _ _ _ _ _ _ _ _ (by exact g7_) (by exact g8_) (@a2d _ _ _ _ _ _ _ _ (pv 0) (@q2_ _ _ _ _ _) (fun _ _=>rfl) (by exact a2k)) (@a2d _ _ _ _ _ _ _ _ (pv 0) (@q2_ _ _ _ _ _) (fun _ _=>rfl) (by exact a2k))) (@v1_ _ _ _ _ _ _ _ _ _ _ (by exact g7_) (by exact g8_) (@q2_ _ _ _ _ _) (@a2d _ _ _ _ _ _ _ _ (pv 0) (@q2_ _ _ _ _ _) (fun _ _=>rfl) (by exact a2k)))) (@q2_ _ _ _ _ _)) (@q2_ _ _ _ _ _)) (by rfl) (by first|exact .inl rfl|exact .inr rfl|assumption)) (@q6_ _ _ _ _ _ _ (@x2_ _ _ _ _ _ 2 _ _ (by exact a6v.nd) (by exact rfl) (by first|exact Or.inl rfl|exact Or.inr rfl) (@v1_ _ _ _ _ _ _ _ _ _ _ (by exact a1Y) (by exact a2b) (@v1_ _ _ _ _ _ _ _ _ _ _ (by exact w0_) (by exact w1_) (@v1_ _ _ _ _ _ _ _ _ _ _ (by exact g7_) (by exact g8_) (@z3_ _ _ _ _ _ (pv 2)) (@z3_ _ _ _ _ _ (pv 2))) (@v1_ _ _ _ _ _ _ _ _ _ _ (by exact g7_) (by exact g8_) (@q2_ _ _ _ _ _) (@z3_ _ _ _ _ _ (pv 2)))) (@q2_ _ _ _ _ _)) (by rfl) (by first|exact .inl rfl|exact .inr rfl|assumption)) (@q9_ _ _ _ _ (@y5_ _ _ _ _ _ (@v1_ _ _ _ _ _ _ _ _ _ _ (by exact a1Y) (by exact a2b) (@v1_ _ _ _ _ _ _ _ _ _ _ (by exact a7f) (by exact a7u) (@z3_ _ _ _ _ _ (pv 2)) (@q2_ _ _ _ _ _)) (@z3_ _ _ _ _ _ (pv 1)))))))))
theorem a2X:FnScope ["_law_held_here","_law_found","_law_bit","_law_longer","_law_row","_law_here"] ["_law_held_here"] (y1_ a8P):=x4_
theorem b2D:(["-0","-1","-2","-3","-4","-5","_law_row","_law_here"]:List Str).Nodup:=by decide+kernel
def c0w:Mo Fl:=(z9_ (v2_ 1 (mF (a1v (z5_ (y4_ (z5_ (y4_ z7_) (z5_ (mC (.int 0)) z7_))) z7_)))) (z9_ (j8_ (y6_ (z0_ 0)) (gN 2) (z9_ (a0d 3 (a1v z7_)) (z9_ (j8_ (y6_ (z0_ 1)) (gT 2 (gCn (gN 4) (gCn (gN 5) gNl))) (z9_ (y2_ (a0t (mT (z2_ (dEq false) (z0_ 5) (mC (.int 1)))) (mT (z2_ (dEq false) (z0_ 2) (mC (.int 1))))) (a1N 3 (y4_ (z5_ (z2_ v8_ (z0_ 4) (y4_ (z5_ (a1L (mC (.int 1))) z7_))) (z5_ (mC (.int 0)) z7_)))) mNx) (z9_ (a1N 3 (y4_ (z5_ (z2_ v8_ (z0_ 4) (y4_ (z5_ (mC (.int 0)) z7_))) (z5_ (z0_ 5) z7_)))) (y2_ (a0t (mT (z2_ (dEq false) (z0_ 5) (mC (.int 0)))) (mT (z2_ (dEq false) (z0_ 2) (mC (.int 0))))) (a1N 3 (y4_ (z5_ (z2_ v8_ (z0_ 4) (y4_ (z5_ (mC (.int 1)) z7_))) (z5_ (mC (.int 1)) z7_)))) mNx)))) (v2_ 1 (z0_ 3))))) (a1w (y9_ (y6_ (z0_ 1)) [false,false,false,false,false,false] 2 (gT 2 (gCn (gN 6) (gCn (gN 7) gNl))) (mT (z2_ (dEq false) (z0_ 7) (mC (.int 1)))) (z0_ 6)))))
def a2Y:Fn:=fnM 6 c0w
theorem c0x{f:Addr}{fd:FuncData}(F:Fun K "_law_rows" "_law_rows" a8P f fd)(T:Txt K mg):FnOk P w K mg base CX0 1 f fd ["_law_held_here"] (SpF K 1 a2Y):=
 x3_ F a2X fun cdv A outer s H E hr=>(@q6_ _ _ _ _ _ _ (@x2_ _ _ _ _ _ 1 _ _ (by exact a2X.nd) (by exact rfl) (by first|exact Or.inl rfl|exact Or.inr rfl) (@j4_ _ _ _ _ (@a2D _ _ _ _ _ (@q3_ _ _ _ _ _ _ (@k5_ _ _ _ _ _ _ (@q3_ _ _ _ _ _ _ (@k5_ _ _ _ _ _ _ (@q7_ _ _)) (@q3_ _ _ _ _ _ _ (@q2_ _ _ _ _ _) (@q7_ _ _) (by exact z1_ rfl)) (by exact z1_ rfl))) (@q7_ _ _) (by exact z1_ rfl)))) (by rfl) (by first|exact .inl rfl|exact .inr rfl|assumption)) (@q6_ _ _ _ _ _ _ (@a0w _ _ _ _ _ _ _ _ _ (by exact Qo) (by exact rfl) (@j5_ _ _ _ _ _ (@z3_ _ _ _ _ _ (pv 0))) (@y3_ _ _ _ _ 2 _ (by exact(show 0≤2 by decide)) (by exact a2X.nd) (by exact rfl) (by first|exact Or.inl rfl|exact Or.inr rfl) (by first|exact .inl rfl|exact .inr rfl|assumption)) (@q6_ _ _ _ _ _ _ (@a5I _ _ _ _ _ 3 _ _ (by exact a2X.nd) (by exact rfl) (by first|exact Or.inl rfl|exact Or.inr rfl) (@a2D _ _ _ _ _ (@q7_ _ _)) (by rfl) (by first|exact .inl rfl|exact .inr rfl|assumption)) (@q6_ _ _ _ _ _ _ (@a0w _ _ _ _ _ _ _ _ _ (by exact Qo) (by exact rfl) (@j5_ _ _ _ _ _ (@z3_ _ _ _ _ _ (pv 1))) (@a0v _ _ _ _ _ _ _ _ (by exact rfl) (@k9_ _ _ _ _ _ _ _ (@y3_ _ _ _ _ 4 _ (by exact(show 0≤4 by decide)) (by exact a2X.nd) (by exact rfl) (by first|exact Or.inl rfl|exact Or.inr rfl) (by first|exact .inl rfl|exact .inr rfl|assumption)) (@k9_ _ _ _ _ _ _ _ (@y3_ _ _ _ _ 5 _ (by exact(show 0≤5 by decide)) (by exact a2X.nd) (by exact rfl) (by first|exact Or.inl rfl|exact Or.inr rfl) (by first|exact .inl rfl|exact .inr rfl|assumption)) (@a0u _ _ _) (by rfl)) (by rfl)) (by rfl) (by rfl)) (@q6_ _ _ _ _ _ _ (@w7_ _ _ _ _ _ _ _ _ _ (@a1K _ _ _ _ (@a4m _ _ _ _ _ _ _ _ (@k0_ _ _ _ _ _ _ _ _ _ _ (by exact(op_eqD hr.units)) (by exact opd_eq) (@z3_ _ _ _ _ _ (pv 5)) (@q2_ _ _ _ _ _) (by exact(nomark _))) (@a4l _ _ _ _ _ (@k0_ _ _ _ _ _ _ _ _ _ _ (by exact(op_eqD hr.units)) (by exact opd_eq) (@z3_ _ _ _ _ _ (pv 2)) (@q2_ _ _ _ _ _) (by exact(nomark _)))))) (@q9_ _ _ _ _ (@a4o _ _ _ _ _ _ _ _ _ _ (pv 3) (@q3_ _ _ _ _ _ _ (@k5_ _ _ _ _ _ _ (@q3_ _ _ _ _ _ _ (@v1_ _ _ _ _ _ _ _ _ _ _ (by exact w0_) (by exact w1_) (@z3_ _ _ _ _ _ (pv 4)) (@k5_ _ _ _ _ _ _ (@q3_ _ _ _ _ _ _ (@a7y _ _ _ _ _ (@q2_ _ _ _ _ _)) (@q7_ _ _) (by exact z1_ rfl)))) (@q3_ _ _ _ _ _ _ (@q2_ _ _ _ _ _) (@q7_ _ _) (by exact z1_ rfl)) (by exact z1_ rfl))) (@q7_ _ _) (by exact z1_ rfl)) (by rfl) (by rfl) (by rfl) (by exact z1_ rfl) (by exact q1_ rfl) (by rfl))) (@w6_ _ _)) (@q6_ _ _ _ _ _ _ (@a4o _ _ _ _ _ _ _ _ _ _ (pv 3) (@q3_ _ _ _ _ _ _ (@k5_ _ _ _ _ _ _ (@q3_ _ _ _ _ _ _ (@v1_ _ _ _ _ _ _ _ _ _ _ (by exact w0_) (by exact w1_) (@z3_ _ _ _ _ _ (pv 4)) (@k5_ _ _ _ _ _ _ (@q3_ _ _ _ _ _ _ (@q2_ _ _ _ _ _) (@q7_ _ _) (by exact z1_ rfl)))) (@q3_ _ _ _ _ _ _ (@z3_ _ _ _ _ _ (pv 5)) (@q7_ _ _) (by exact z1_ rfl)) (by exact z1_ rfl))) (@q7_ _ _) (by exact z1_ rfl)) (by rfl) (by rfl) (by rfl) (by exact z1_ rfl) (by exact q1_ rfl) (by rfl)) (@q9_ _ _ _ _ (@w7_ _ _ _ _ _ _ _ _ _ (@a1K _ _ _ _ (@a4m _ _ _ _ _ _ _ _ (@k0_ _ _ _ _ _ _ _ _ _ _ (by exact(op_eqD hr.units)) (by exact opd_eq) (@z3_ _ _ _ _ _ (pv 5)) (@q2_ _ _ _ _ _) (by exact(nomark _))) (@a4l _ _ _ _ _ (@k0_ _ _ _ _ _ _ _ _ _ _ (by exact(op_eqD hr.units)) (by exact opd_eq) (@z3_ _ _ _ _ _ (pv 2)) (@q2_ _ _ _ _ _) (by exact(nomark _)))))) (@q9_ _ _ _ _ (@a4o _ _ _ _ _ _ _ _ _ _ (pv 3) (@q3_ _ _ _ _ _ _ (@k5_ _ _ _ _ _ _ (@q3_ _ _ _ _ _ _ (@v1_ _ _ _ _ _ _ _ _ _ _ (by exact w0_) (by exact w1_) (@z3_ _ _ _ _ _ (pv 4)) (@k5_ _ _ _ _ _ _ (@q3_ _ _ _ _ _ _ (@q2_ _ _ _ _ _) (@q7_ _ _) (by exact z1_ rfl)))) (@q3_ _ _ _ _ _ _ (@q2_ _ _ _ _ _) (@q7_ _ _) (by exact z1_ rfl)) (by exact z1_ rfl))) (@q7_ _ _) (by exact z1_ rfl)) (by rfl) (by rfl) (by rfl) (by exact z1_ rfl) (by exact q1_ rfl) (by rfl))) (@w6_ _ _))))) (by intro _;rfl)) (@q9_ _ _ _ _ (@x2_ _ _ _ _ _ 1 _ _ (by exact a2X.nd) (by exact rfl) (by first|exact Or.inl rfl|exact Or.inr rfl) (@z3_ _ _ _ _ _ (pv 3)) (by rfl) (by first|exact .inl rfl|exact .inr rfl|assumption))))) (by intro _;rfl)) (@q9_ _ _ _ _ (@a3t _ _ _ _ _ (@a0o _ _ ["-0","-1","-2","-3","-4","-5","_law_row","_law_here"] _ [false,false,false,false,false,false] 2 _ _ _ _ _ _ _ _ _ (by exact(u6_ rfl rfl)) (by exact rfl) (@j5_ _ _ _ _ _ (@z3_ _ _ _ _ _ (pv 1))) (fun s H fp=>(@a0v _ _ _ _ _ _ _ _ (by exact rfl) (@k9_ _ _ _ _ _ _ _ (@y3_ _ _ _ _ 6 _ (by exact(show 6≤6 by decide)) (by exact b2D) (by exact rfl) (by first|exact Or.inl rfl|exact Or.inr rfl) (by first|exact .inl rfl|exact .inr rfl|assumption)) (@k9_ _ _ _ _ _ _ _ (@y3_ _ _ _ _ 7 _ (by exact(show 6≤7 by decide)) (by exact b2D) (by exact rfl) (by first|exact Or.inl rfl|exact Or.inr rfl) (by first|exact .inl rfl|exact .inr rfl|assumption)) (@a0u _ _ _) (by rfl)) (by rfl)) (by rfl) (by rfl))) (fun s H fp=>(@a4u _ _ _ _ (@k0_ _ _ _ _ _ _ _ _ _ _ (by exact(op_eqD hr.units)) (by exact opd_eq) (@z3_ _ _ _ _ _ (pv 7)) (@q2_ _ _ _ _ _) (by exact(nomark _))))) (fun s H fp=>(@z3_ _ _ _ _ _ (pv 6))) (by intro _;rfl))))))
theorem c0y:FnScope ["_law_held_here","_law_row"] ["_law_held_here","_law_row"] (y1_ a8Q):=x4_
theorem b2E:(["-0","-1","_law_first","_law_second"]:List Str).Nodup:=by decide+kernel
def a9s:Mo Fl:=(v3_ (mCB a0S (z5_ (mF (y9_ (a2K (z5_ (z0_ 0) (z5_ (z0_ 1) z7_))) [false,false] 2 (gT 2 (gCn (gN 2) (gCn (gN 3) gNl))) x7_ (z2_ v8_ (z0_ 2) (z0_ 3)))) z7_)))
def a3Y:Fn:=fnM 2 a9s
theorem c0z{f:Addr}{fd:FuncData}(F:Fun K "_law_held" "_law_held" a8Q f fd)(T:Txt K mg):FnOk P w K mg base CX0 1 f fd ["_law_held_here","_law_row"] (SpF K 2 a3Y):=
 x3_ F c0y fun cdv A outer s H E hr=>(@q9_ _ _ _ _ (@y5_ _ _ _ _ _ (@a2e _ _ _ _ _ _ _ _ _ _ _ (by exact a2B) (by exact a2E) (by exact rfl) (by exact T.g_tuple) (by exact a1k) (@q3_ _ _ _ _ _ _ (@j4_ _ _ _ _ (@a0o _ _ ["-0","-1","_law_first","_law_second"] _ [false,false] 2 _ _ _ _ _ _ _ _ _ (by exact(u6_ rfl rfl)) (by exact rfl) (@a7N _ _ _ _ _ _ _ _ _ _ (by exact rfl) (by exact T.g_zip) (@q3_ _ _ _ _ _ _ (@z3_ _ _ _ _ _ (pv 0)) (@q3_ _ _ _ _ _ _ (@z3_ _ _ _ _ _ (pv 1)) (@q7_ _ _) (by exact z1_ rfl)) (by exact z1_ rfl)) (by exact se2 rfl rfl) (by exact se1 rfl)) (fun s H fp=>(@a0v _ _ _ _ _ _ _ _ (by exact rfl) (@k9_ _ _ _ _ _ _ _ (@y3_ _ _ _ _ 2 _ (by exact(show 2≤2 by decide)) (by exact b2E) (by exact rfl) (by first|exact Or.inl rfl|exact Or.inr rfl) (by first|exact .inl rfl|exact .inr rfl|assumption)) (@k9_ _ _ _ _ _ _ _ (@y3_ _ _ _ _ 3 _ (by exact(show 2≤3 by decide)) (by exact b2E) (by exact rfl) (by first|exact Or.inl rfl|exact Or.inr rfl) (by first|exact .inl rfl|exact .inr rfl|assumption)) (@a0u _ _ _) (by rfl)) (by rfl)) (by rfl) (by rfl))) (fun s H fp=>(@a0I _ _)) (fun s H fp=>(@v1_ _ _ _ _ _ _ _ _ _ _ (by exact w0_) (by exact w1_) (@z3_ _ _ _ _ _ (pv 2)) (@z3_ _ _ _ _ _ (pv 3)))) (by intro _;rfl))) (@q7_ _ _) (by exact z1_ rfl)) (by decide) (by decide) (by exact z1_ rfl) (by exact q1_ rfl))))
theorem a1o:FnScope ["_law_state_here","_law_side","_law_held_here","_law_found","_law_few","_law_turn","_law_rows_here","_law_row","_law_most"] ["_law_state_here","_law_side"] (y1_ a8R):=x4_
theorem c0A:(["-0","-1","-2","-3","-4","-5","-6","-7","_law_most","_law_row"]:List Str).Nodup:=by decide+kernel
theorem c0B:(["-0","-1","-2","-3","-4","-5","-6","-7","-8","_law_row"]:List Str).Nodup:=by decide+kernel
def a9t:Mo Fl:=(z9_ (v2_ 2 (z2_ y0_ (y4_ (z5_ (mC (.int 0)) z7_)) (z0_ 1))) (z9_ (v2_ 3 (y4_ z7_)) (z9_ (v2_ 4 (mCD 2 g4_ (k1_ 0 (z4_ (mC (.int 3)) z6_)))) (z9_ (j8_ (a0m (z5_ (z0_ 1) z7_)) (gN 5) (z9_ (v2_ 6 (mF (k8_ 1 a2Y (z4_ (z0_ 2) z6_)))) (z9_ (y2_ (mT (z2_ (dEq false) (z0_ 4) (mC (.int 0)))) (z9_ (v2_ 8 (mCB (u8_ false) (z5_ (mF (y9_ (y6_ (z0_ 6)) [false,false,false,false,false,false,false,false,false] 1 (gN 9) x7_ (mCB (u8_ false) (z5_ (z0_ 9) z7_)))) z7_))) (a0d 6 (y9_ (y6_ (z0_ 6)) [false,false,false,false,false,false,false,false,true] 1 (gN 9) (mT (z2_ (dEq false) (mCB (u8_ false) (z5_ (z0_ 9) z7_)) (z0_ 8))) (z0_ 9)))) mNx) (z9_ (v2_ 7 (z2_ dIx (z0_ 6) (mCD 2 g4_ (k1_ 0 (z4_ (mCB k2_ (z5_ (z0_ 6) z7_)) z6_))))) (z9_ (v2_ 3 (z2_ v8_ (z0_ 3) (y4_ (z5_ (z0_ 7) z7_)))) (v2_ 2 (mCD 2 a3Y (z4_ (z0_ 2) (z4_ (z0_ 7) z6_))))))))) (v3_ (z0_ 3))))))
def a4X:Fn:=fnM 9 a9t
theorem c0C{f:Addr}{fd:FuncData}(F:Fun K "_law_table" "_law_table" a8R f fd)(T:Txt K mg)(d__law_take:Def P w K mg base "_law_take" 1 2 g4_)(d__law_rows:Def P w K mg base "_law_rows" 1 1 a2Y)(d__law_held:Def P w K mg base "_law_held" 1 2 a3Y):FnOk P w K mg base CX0 2 f fd ["_law_state_here","_law_side"] (SpF K 2 a4X):=
 x3_ F a1o fun cdv A outer s H E hr=>(@q6_ _ _ _ _ _ _ (@x2_ _ _ _ _ _ 2 _ _ (by exact a1o.nd) (by exact rfl) (by first|exact Or.inl rfl|exact Or.inr rfl) (@v1_ _ _ _ _ _ _ _ _ _ _ (by exact g7_) (by exact g8_) (@k5_ _ _ _ _ _ _ (@q3_ _ _ _ _ _ _ (@q2_ _ _ _ _ _) (@q7_ _ _) (by exact z1_ rfl))) (@z3_ _ _ _ _ _ (pv 1))) (by rfl) (by first|exact .inl rfl|exact .inr rfl|assumption)) (@q6_ _ _ _ _ _ _ (@x2_ _ _ _ _ _ 3 _ _ (by exact a1o.nd) (by exact rfl) (by first|exact Or.inl rfl|exact Or.inr rfl) (@k5_ _ _ _ _ _ _ (@q7_ _ _)) (by rfl) (by first|exact .inl rfl|exact .inr rfl|assumption)) (@q6_ _ _ _ _ _ _ (@x2_ _ _ _ _ _ 4 _ _ (by exact a1o.nd) (by exact rfl) (by first|exact Or.inl rfl|exact Or.inr rfl) (@v7_ _ _ _ _ _ _ _ _ _ _ _ (by exact d__law_take) (by exact(hr.mono (show 1≤1 by decide))) (by exact rfl) (@a1e _ _ _ _ _ _ _ (pv 0) (@q0_ _ _ _ _ _ _ (@q2_ _ _ _ _ _) (@v0_ _ _) (by exact z1_ rfl)) (by exact z1_ rfl)) (by decide) (by exact z1_ rfl) (by exact q1_ rfl)) (by rfl) (by first|exact .inl rfl|exact .inr rfl|assumption)) (@q6_ _ _ _ _ _ _ (@a0w _ _ _ _ _ _ _ _ _ (by exact Qo) (by exact rfl) (@a4q _ _ _ _ _ _ _ (by exact rfl) (by exact T.g_range) (@q3_ _ _ _ _ _ _ (@z3_ _ _ _ _ _ (pv 1)) (@q7_ _ _) (by exact z1_ rfl)) (by exact se1 rfl)) (@y3_ _ _ _ _ 5 _ (by exact(show 0≤5 by decide)) (by exact a1o.nd) (by exact rfl) (by first|exact Or.inl rfl|exact Or.inr rfl) (by first|exact .inl rfl|exact .inr rfl|assumption)) (@q6_ _ _ _ _ _ _ (@x2_ _ _ _ _ _ 6 _ _ (by exact a1o.nd) (by exact rfl) (by first|exact Or.inl rfl|exact Or.inr rfl) (@j4_ _ _ _ _ (@a1y _ _ _ _ _ _ _ _ _ _ _ (by exact d__law_rows) (by exact(hr.mono (show 1≤1 by decide))) (by exact rfl) (@q0_ _ _ _ _ _ _ (@z3_ _ _ _ _ _ (pv 2)) (@v0_ _ _) (by exact z1_ rfl)) (by decide) (by exact z1_ rfl) (by exact q1_ rfl))) (by rfl) (by first|exact .inl rfl|exact .inr rfl|assumption)) (@q6_ _ _ _ _ _ _ (@w7_ _ _ _ _ _ _ _ _ _ (@k0_ _ _ _ _ _ _ _ _ _ _ (by exact(op_eqD hr.units)) (by exact opd_eq) (@z3_ _ _ _ _ _ (pv 4)) (@q2_ _ _ _ _ _) (by exact(nomark _))) (@q6_ _ _ _ _ _ _ (@x2_ _ _ _ _ _ 8 _ _ (by exact a1o.nd) (by exact rfl) (by first|exact Or.inl rfl|exact Or.inr rfl) (@w5_ _ _ _ _ _ _ _ _ _ _ _ (by exact(a7S rfl)) (by exact a7T) (by exact rfl) (by exact T.g_min) (by exact a4A) (@q3_ _ _ _ _ _ _ (@j4_ _ _ _ _ (@a0o _ _ ["-0","-1","-2","-3","-4","-5","-6","-7","-8","_law_row"] _ [false,false,false,false,false,false,false,false,false] 1 _ _ _ _ _ _ _ _ _ (by exact(u6_ rfl rfl)) (by exact rfl) (@j5_ _ _ _ _ _ (@z3_ _ _ _ _ _ (pv 6))) (fun s H fp=>(@y3_ _ _ _ _ 9 _ (by exact(show 9≤9 by decide)) (by exact c0B) (by exact rfl) (by first|exact Or.inl rfl|exact Or.inr rfl) (by first|exact .inl rfl|exact .inr rfl|assumption))) (fun s H fp=>(@a0I _ _)) (fun s H fp=>(@w5_ _ _ _ _ _ _ _ _ _ _ _ (by exact(a7S rfl)) (by exact a7T) (by exact rfl) (by exact T.g_min) (by exact a4A) (@q3_ _ _ _ _ _ _ (@z3_ _ _ _ _ _ (pv 9)) (@q7_ _ _) (by exact z1_ rfl)) (by decide) (by decide) (by exact z1_ rfl) (by exact q1_ rfl))) (by intro _;rfl))) (@q7_ _ _) (by exact z1_ rfl)) (by decide) (by decide) (by exact z1_ rfl) (by exact q1_ rfl)) (by rfl) (by first|exact .inl rfl|exact .inr rfl|assumption)) (@q9_ _ _ _ _ (@b9i _ _ ["-0","-1","-2","-3","-4","-5","-6","-7","_law_most","_law_row"] _ [false,false,false,false,false,false,false,false,true] 1 _ _ _ _ _ _ _ _ _ 6 _ _ _ (by exact(u6_ rfl rfl)) (by exact rfl) (by exact a1o.nd) (by exact rfl) (by exact rfl) (by exact rfl) (@j5_ _ _ _ _ _ (@z3_ _ _ _ _ _ (pv 6))) (fun s H fp=>(@y3_ _ _ _ _ 9 _ (by exact(show 9≤9 by decide)) (by exact c0A) (by exact rfl) (by first|exact Or.inl rfl|exact Or.inr rfl) (by first|exact .inl rfl|exact .inr rfl|assumption))) (fun s H fp=>(@a4u _ _ _ _ (@k0_ _ _ _ _ _ _ _ _ _ _ (by exact(op_eqD hr.units)) (by exact opd_eq) (@w5_ _ _ _ _ _ _ _ _ _ _ _ (by exact(a7S rfl)) (by exact a7T) (by exact rfl) (by exact T.g_min) (by exact a4A) (@q3_ _ _ _ _ _ _ (@z3_ _ _ _ _ _ (pv 9)) (@q7_ _ _) (by exact z1_ rfl)) (by decide) (by decide) (by exact z1_ rfl) (by exact q1_ rfl)) (@z3_ _ _ _ _ _ (pv 8)) (by exact(nomark _))))) (fun s H fp=>(@z3_ _ _ _ _ _ (pv 9))) (by intro _;rfl)))) (@w6_ _ _)) (@q6_ _ _ _ _ _ _ (@x2_ _ _ _ _ _ 7 _ _ (by exact a1o.nd) (by exact rfl) (by first|exact Or.inl rfl|exact Or.inr rfl) (@u2_ _ _ _ _ _ _ _ (@z3_ _ _ _ _ _ (pv 6)) (@v7_ _ _ _ _ _ _ _ _ _ _ _ (by exact d__law_take) (by exact(hr.mono (show 1≤1 by decide))) (by exact rfl) (@a1e _ _ _ _ _ _ _ (pv 0) (@q0_ _ _ _ _ _ _ (@w5_ _ _ _ _ _ _ _ _ _ _ _ (by exact a0P) (by exact a0R) (by exact rfl) (by exact T.g_len) (by exact Yv) (@q3_ _ _ _ _ _ _ (@z3_ _ _ _ _ _ (pv 6)) (@q7_ _ _) (by exact z1_ rfl)) (by decide) (by decide) (by exact z1_ rfl) (by exact q1_ rfl)) (@v0_ _ _) (by exact z1_ rfl)) (by exact z1_ rfl)) (by decide) (by exact z1_ rfl) (by exact q1_ rfl)) (fun _ _=>rfl)) (by rfl) (by first|exact .inl rfl|exact .inr rfl|assumption)) (@q6_ _ _ _ _ _ _ (@x2_ _ _ _ _ _ 3 _ _ (by exact a1o.nd) (by exact rfl) (by first|exact Or.inl rfl|exact Or.inr rfl) (@v1_ _ _ _ _ _ _ _ _ _ _ (by exact w0_) (by exact w1_) (@z3_ _ _ _ _ _ (pv 3)) (@k5_ _ _ _ _ _ _ (@q3_ _ _ _ _ _ _ (@z3_ _ _ _ _ _ (pv 7)) (@q7_ _ _) (by exact z1_ rfl)))) (by rfl) (by first|exact .inl rfl|exact .inr rfl|assumption)) (@q9_ _ _ _ _ (@x2_ _ _ _ _ _ 2 _ _ (by exact a1o.nd) (by exact rfl) (by first|exact Or.inl rfl|exact Or.inr rfl) (@v7_ _ _ _ _ _ _ _ _ _ _ _ (by exact d__law_held) (by exact(hr.mono (show 1≤1 by decide))) (by exact rfl) (@q0_ _ _ _ _ _ _ (@z3_ _ _ _ _ _ (pv 2)) (@q0_ _ _ _ _ _ _ (@z3_ _ _ _ _ _ (pv 7)) (@v0_ _ _) (by exact z1_ rfl)) (by exact z1_ rfl)) (by decide) (by exact z1_ rfl) (by exact q1_ rfl)) (by rfl) (by first|exact .inl rfl|exact .inr rfl|assumption))))))) (by intro _;rfl)) (@q9_ _ _ _ _ (@y5_ _ _ _ _ _ (@z3_ _ _ _ _ _ (pv 3))))))))
theorem a9u:FnScope ["_law_top","_law_bottom","_law_one","_law_other"] ["_law_top","_law_bottom"] (y1_ a8S):=x4_
def a9v:Mo Fl:=(z9_ (a2g 2 3 (z5_ (z0_ 1) (z5_ (z0_ 0) z7_))) (z9_ (a2N 60 (mT (z2_ dGt (z0_ 3) (mC (.int 0)))) (a2g 2 3 (z5_ (z0_ 3) (z5_ (z2_ a0b (z0_ 2) (z0_ 3)) z7_)))) (v3_ (y4_ (z5_ (z2_ a2r (z0_ 0) (z0_ 2)) (z5_ (z2_ a2r (z0_ 1) (z0_ 2)) z7_))))))
def g5_:Fn:=fnM 4 a9v
theorem c0D{f:Addr}{fd:FuncData}(F:Fun K "_law_cut" "_law_cut" a8S f fd)(T:Txt K mg):FnOk P w K mg base CX0 1 f fd ["_law_top","_law_bottom"] (SpF K 2 g5_):=
 x3_ F a9u fun cdv A outer s H E hr=>(@q6_ _ _ _ _ _ _ (@a5K _ _ _ _ _ _ 2 3 _ _ _ _ _ _ _ _ (by exact rfl) (by exact a9u.nd) (by exact rfl) (by exact rfl) (by decide) (by exact rfl) (by exact rfl) (@q3_ _ _ _ _ _ _ (@z3_ _ _ _ _ _ (pv 1)) (@q3_ _ _ _ _ _ _ (@z3_ _ _ _ _ _ (pv 0)) (@q7_ _ _) (by exact z1_ rfl)) (by exact z1_ rfl)) (by exact rfl) (by rfl)) (@q6_ _ _ _ _ _ _ (@a3F _ _ _ _ _ _ _ _ (by exact Qo) (@k0_ _ _ _ _ _ _ _ _ _ _ (by exact a7h) (by exact a7v) (@z3_ _ _ _ _ _ (pv 3)) (@q2_ _ _ _ _ _) (by exact(nomark _))) (@q9_ _ _ _ _ (@a5K _ _ _ _ _ _ 2 3 _ _ _ _ _ _ _ _ (by exact rfl) (by exact a9u.nd) (by exact rfl) (by exact rfl) (by decide) (by exact rfl) (by exact rfl) (@q3_ _ _ _ _ _ _ (@z3_ _ _ _ _ _ (pv 3)) (@q3_ _ _ _ _ _ _ (@v1_ _ _ _ _ _ _ _ _ _ _ (by exact a1Y) (by exact a2b) (@z3_ _ _ _ _ _ (pv 2)) (@z3_ _ _ _ _ _ (pv 3))) (@q7_ _ _) (by exact z1_ rfl)) (by exact z1_ rfl)) (by exact rfl) (by rfl)))) (@q9_ _ _ _ _ (@y5_ _ _ _ _ _ (@k5_ _ _ _ _ _ _ (@q3_ _ _ _ _ _ _ (@v1_ _ _ _ _ _ _ _ _ _ _ (by exact a4E) (by exact a4F) (@z3_ _ _ _ _ _ (pv 0)) (@z3_ _ _ _ _ _ (pv 2))) (@q3_ _ _ _ _ _ _ (@v1_ _ _ _ _ _ _ _ _ _ _ (by exact a4E) (by exact a4F) (@z3_ _ _ _ _ _ (pv 1)) (@z3_ _ _ _ _ _ (pv 2))) (@q7_ _ _) (by exact z1_ rfl)) (by exact z1_ rfl)))))))
theorem a2Z:FnScope ["_law_side","_law_rows_here","_law_top","_law_bottom","_law_row","_law_part"] ["_law_side","_law_rows_here"] (y1_ a8T):=x4_
def a9w:Mo Fl:=(z9_ (w8_ (y4_ (z5_ (mC (.int 0)) (z5_ (mC (.int 1)) z7_))) (gT 2 (gCn (gN 2) (gCn (gN 3) gNl)))) (z9_ (j8_ (y6_ (mF (k8_ 2 a1V (z4_ (z0_ 0) (z4_ (z0_ 1) z6_))))) (gT 2 (gCn (gN 4) (gCn (gN 5) gNl))) (z9_ (y2_ (mT (z2_ (dEq true) (z0_ 5) (mCD 2 g5_ (z4_ (mCD 2 j0_ (z4_ (z0_ 0) (z4_ (z2_ v8_ (z0_ 1) (y4_ (z5_ (z0_ 4) z7_))) z6_))) (z4_ (mCD 2 j0_ (z4_ (z0_ 0) (z4_ (z0_ 1) z6_))) z6_))))) (v3_ (mC (.bl false))) mNx) (w8_ (mCD 2 g5_ (z4_ (z2_ v8_ (z2_ y0_ (z0_ 2) (z2_ dIx (z0_ 5) (mC (.int 1)))) (z2_ y0_ (z2_ dIx (z0_ 5) (mC (.int 0))) (z0_ 3))) (z4_ (z2_ y0_ (z0_ 3) (z2_ dIx (z0_ 5) (mC (.int 1)))) z6_))) (gT 2 (gCn (gN 2) (gCn (gN 3) gNl)))))) (v3_ (z2_ (dEq false) (y4_ (z5_ (z0_ 2) (z5_ (z0_ 3) z7_))) (y4_ (z5_ (mC (.int 1)) (z5_ (mC (.int 1)) z7_)))))))
def a3a:Fn:=fnM 6 a9w
theorem c0E{f:Addr}{fd:FuncData}(F:Fun K "_law_next_right" "_law_next_right" a8T f fd)(T:Txt K mg)(d_next_rows:Def P w K mg base "next_rows" 19 2 a1V)(d__law_cut:Def P w K mg base "_law_cut" 1 2 g5_)(d_many_so:Def P w K mg base "many_so" 18 2 j0_):FnOk P w K mg base CX0 20 f fd ["_law_side","_law_rows_here"] (SpF K 2 a3a):=
 x3_ F a2Z fun cdv A outer s H E hr=>(@q6_ _ _ _ _ _ _ (@a2f _ _ _ _ _ _ _ (@k5_ _ _ _ _ _ _ (@q3_ _ _ _ _ _ _ (@q2_ _ _ _ _ _) (@q3_ _ _ _ _ _ _ (@q2_ _ _ _ _ _) (@q7_ _ _) (by exact z1_ rfl)) (by exact z1_ rfl))) (@a0v _ _ _ _ _ _ _ _ (by exact rfl) (@k9_ _ _ _ _ _ _ _ (@y3_ _ _ _ _ 2 _ (by exact(show 0≤2 by decide)) (by exact a2Z.nd) (by exact rfl) (by first|exact Or.inl rfl|exact Or.inr rfl) (by first|exact .inl rfl|exact .inr rfl|assumption)) (@k9_ _ _ _ _ _ _ _ (@y3_ _ _ _ _ 3 _ (by exact(show 0≤3 by decide)) (by exact a2Z.nd) (by exact rfl) (by first|exact Or.inl rfl|exact Or.inr rfl) (by first|exact .inl rfl|exact .inr rfl|assumption)) (@a0u _ _ _) (by rfl)) (by rfl)) (by rfl) (by rfl)) (by rfl) (by rfl) (by rfl)) (@q6_ _ _ _ _ _ _ (@a0w _ _ _ _ _ _ _ _ _ (by exact Qo) (by exact rfl) (@j5_ _ _ _ _ _ (@j4_ _ _ _ _ (@a1y _ _ _ _ _ _ _ _ _ _ _ (by exact d_next_rows) (by exact(hr.mono (show 19≤19 by decide))) (by exact rfl) (@q0_ _ _ _ _ _ _ (@z3_ _ _ _ _ _ (pv 0)) (@q0_ _ _ _ _ _ _ (@z3_ _ _ _ _ _ (pv 1)) (@v0_ _ _) (by exact z1_ rfl)) (by exact z1_ rfl)) (by decide) (by exact z1_ rfl) (by exact q1_ rfl)))) (@a0v _ _ _ _ _ _ _ _ (by exact rfl) (@k9_ _ _ _ _ _ _ _ (@y3_ _ _ _ _ 4 _ (by exact(show 0≤4 by decide)) (by exact a2Z.nd) (by exact rfl) (by first|exact Or.inl rfl|exact Or.inr rfl) (by first|exact .inl rfl|exact .inr rfl|assumption)) (@k9_ _ _ _ _ _ _ _ (@y3_ _ _ _ _ 5 _ (by exact(show 0≤5 by decide)) (by exact a2Z.nd) (by exact rfl) (by first|exact Or.inl rfl|exact Or.inr rfl) (by first|exact .inl rfl|exact .inr rfl|assumption)) (@a0u _ _ _) (by rfl)) (by rfl)) (by rfl) (by rfl)) (@q6_ _ _ _ _ _ _ (@w7_ _ _ _ _ _ _ _ _ _ (@k0_ _ _ _ _ _ _ _ _ _ _ (by exact(op_neD hr.units)) (by exact opd_eq) (@z3_ _ _ _ _ _ (pv 5)) (@v7_ _ _ _ _ _ _ _ _ _ _ _ (by exact d__law_cut) (by exact(hr.mono (show 1≤19 by decide))) (by exact rfl) (@q0_ _ _ _ _ _ _ (@v7_ _ _ _ _ _ _ _ _ _ _ _ (by exact d_many_so) (by exact(hr.mono (show 18≤19 by decide))) (by exact rfl) (@q0_ _ _ _ _ _ _ (@z3_ _ _ _ _ _ (pv 0)) (@q0_ _ _ _ _ _ _ (@v1_ _ _ _ _ _ _ _ _ _ _ (by exact w0_) (by exact w1_) (@z3_ _ _ _ _ _ (pv 1)) (@k5_ _ _ _ _ _ _ (@q3_ _ _ _ _ _ _ (@z3_ _ _ _ _ _ (pv 4)) (@q7_ _ _) (by exact z1_ rfl)))) (@v0_ _ _) (by exact z1_ rfl)) (by exact z1_ rfl)) (by decide) (by exact z1_ rfl) (by exact q1_ rfl)) (@q0_ _ _ _ _ _ _ (@v7_ _ _ _ _ _ _ _ _ _ _ _ (by exact d_many_so) (by exact(hr.mono (show 18≤19 by decide))) (by exact rfl) (@q0_ _ _ _ _ _ _ (@z3_ _ _ _ _ _ (pv 0)) (@q0_ _ _ _ _ _ _ (@z3_ _ _ _ _ _ (pv 1)) (@v0_ _ _) (by exact z1_ rfl)) (by exact z1_ rfl)) (by decide) (by exact z1_ rfl) (by exact q1_ rfl)) (@v0_ _ _) (by exact z1_ rfl)) (by exact z1_ rfl)) (by decide) (by exact z1_ rfl) (by exact q1_ rfl)) (by exact(nomark _))) (@q9_ _ _ _ _ (@y5_ _ _ _ _ _ (@a0k _ _ _ _ _))) (@w6_ _ _)) (@q9_ _ _ _ _ (@a2f _ _ _ _ _ _ _ (@v7_ _ _ _ _ _ _ _ _ _ _ _ (by exact d__law_cut) (by exact(hr.mono (show 1≤19 by decide))) (by exact rfl) (@q0_ _ _ _ _ _ _ (@v1_ _ _ _ _ _ _ _ _ _ _ (by exact w0_) (by exact w1_) (@v1_ _ _ _ _ _ _ _ _ _ _ (by exact g7_) (by exact g8_) (@z3_ _ _ _ _ _ (pv 2)) (@u2_ _ _ _ _ _ _ _ (@z3_ _ _ _ _ _ (pv 5)) (@q2_ _ _ _ _ _) (fun _ _=>rfl))) (@v1_ _ _ _ _ _ _ _ _ _ _ (by exact g7_) (by exact g8_) (@u2_ _ _ _ _ _ _ _ (@z3_ _ _ _ _ _ (pv 5)) (@q2_ _ _ _ _ _) (fun _ _=>rfl)) (@z3_ _ _ _ _ _ (pv 3)))) (@q0_ _ _ _ _ _ _ (@v1_ _ _ _ _ _ _ _ _ _ _ (by exact g7_) (by exact g8_) (@z3_ _ _ _ _ _ (pv 3)) (@u2_ _ _ _ _ _ _ _ (@z3_ _ _ _ _ _ (pv 5)) (@q2_ _ _ _ _ _) (fun _ _=>rfl))) (@v0_ _ _) (by exact z1_ rfl)) (by exact z1_ rfl)) (by decide) (by exact z1_ rfl) (by exact q1_ rfl)) (@a0v _ _ _ _ _ _ _ _ (by exact rfl) (@k9_ _ _ _ _ _ _ _ (@y3_ _ _ _ _ 2 _ (by exact(show 0≤2 by decide)) (by exact a2Z.nd) (by exact rfl) (by first|exact Or.inl rfl|exact Or.inr rfl) (by first|exact .inl rfl|exact .inr rfl|assumption)) (@k9_ _ _ _ _ _ _ _ (@y3_ _ _ _ _ 3 _ (by exact(show 0≤3 by decide)) (by exact a2Z.nd) (by exact rfl) (by first|exact Or.inl rfl|exact Or.inr rfl) (by first|exact .inl rfl|exact .inr rfl|assumption)) (@a0u _ _ _) (by rfl)) (by rfl)) (by rfl) (by rfl)) (by rfl) (by rfl) (by rfl)))) (by intro _;rfl)) (@q9_ _ _ _ _ (@y5_ _ _ _ _ _ (@a3m _ _ _ _ _ _ _ _ _ _ (by exact(op_eqD hr.units)) (by exact opd_eq) (@k5_ _ _ _ _ _ _ (@q3_ _ _ _ _ _ _ (@z3_ _ _ _ _ _ (pv 2)) (@q3_ _ _ _ _ _ _ (@z3_ _ _ _ _ _ (pv 3)) (@q7_ _ _) (by exact z1_ rfl)) (by exact z1_ rfl))) (@k5_ _ _ _ _ _ _ (@q3_ _ _ _ _ _ _ (@q2_ _ _ _ _ _) (@q3_ _ _ _ _ _ _ (@q2_ _ _ _ _ _) (@q7_ _ _) (by exact z1_ rfl)) (by exact z1_ rfl))) (by exact(nomark _)))))))
theorem a1W:FnScope ["_law_side","_law_rows_here","_law_table_here","_law_first","_law_here","_law_behind","_law_last","_law_many","_law_some"] ["_law_side","_law_rows_here","_law_table_here"] (y1_ a8U):=x4_
def a9x:Mo Fl:=(z9_ (v2_ 3 (mCD 1 a6r (z4_ (z0_ 2) z6_))) (z9_ (v2_ 4 (z0_ 3)) (z9_ (a2N 60 (a0t (mT (z2_ dGt (z0_ 4) (mCB a1O (z5_ (mC (.int 0)) (z5_ (z2_ k4_ (z0_ 3) (mC (.int 12))) z7_))))) (mT (z2_ (dEq false) (mSl (mCD 2 a1U (z4_ (z0_ 0) (z4_ (z2_ k4_ (z0_ 4) (mC (.int 1))) z6_))) g2_ (w9_ (mCB k2_ (z5_ (z0_ 1) z7_)))) (z0_ 1)))) (v2_ 4 (z2_ k4_ (z0_ 4) (mC (.int 1))))) (z9_ (v2_ 5 (z0_ 3)) (z9_ (v2_ 6 (mCB a2J (z5_ (z2_ k4_ (mCD 1 a0A (z4_ (z0_ 0) z6_)) (mC (.int 1))) (z5_ (z2_ v8_ (z0_ 3) (mC (.int 12))) z7_)))) (z9_ (a2N 60 (a0t (mT (z2_ dLt (z0_ 5) (z0_ 6))) (mT (z2_ (dEq false) (mSl (mCD 2 a1U (z4_ (z0_ 0) (z4_ (z2_ v8_ (z0_ 5) (mC (.int 1))) z6_))) g2_ (w9_ (mCB k2_ (z5_ (z0_ 1) z7_)))) (z0_ 1)))) (v2_ 5 (z2_ v8_ (z0_ 5) (mC (.int 1))))) (z9_ (v2_ 7 (mCD 2 j0_ (z4_ (z0_ 0) (z4_ (z0_ 1) z6_)))) (z9_ (v2_ 8 (z2_ v8_ (z2_ k4_ (z0_ 5) (z0_ 4)) (mC (.int 1)))) (v3_ (a2c (z2_ (dEq false) (z0_ 8) (z0_ 7)) (a1u (z2_ dLt (z0_ 8) (z0_ 7)) (a2c (z2_ (dEq false) (z2_ k4_ (z0_ 3) (z0_ 4)) (mC (.int 12))) (z2_ (dEq false) (z2_ k4_ (z0_ 5) (z0_ 3)) (mC (.int 12)))))))))))))))
def a3Z:Fn:=fnM 9 a9x
theorem c0F{f:Addr}{fd:FuncData}(F:Fun K "_law_numbers_right" "_law_numbers_right" a8U f fd)(T:Txt K mg)(d_number_of:Def P w K mg base "number_of" 19 1 a6r)(d_many_so:Def P w K mg base "many_so" 18 2 j0_)(d_many_tables:Def P w K mg base "many_tables" 4 1 a0A)(d_table_at:Def P w K mg base "table_at" 20 2 a1U):FnOk P w K mg base CX0 21 f fd ["_law_side","_law_rows_here","_law_table_here"] (SpF K 3 a3Z):=
 x3_ F a1W fun cdv A outer s H E hr=>(@q6_ _ _ _ _ _ _ (@x2_ _ _ _ _ _ 3 _ _ (by exact a1W.nd) (by exact rfl) (by first|exact Or.inl rfl|exact Or.inr rfl) (@v7_ _ _ _ _ _ _ _ _ _ _ _ (by exact d_number_of) (by exact(hr.mono (show 19≤20 by decide))) (by exact rfl) (@q0_ _ _ _ _ _ _ (@z3_ _ _ _ _ _ (pv 2)) (@v0_ _ _) (by exact z1_ rfl)) (by decide) (by exact z1_ rfl) (by exact q1_ rfl)) (by rfl) (by first|exact .inl rfl|exact .inr rfl|assumption)) (@q6_ _ _ _ _ _ _ (@x2_ _ _ _ _ _ 4 _ _ (by exact a1W.nd) (by exact rfl) (by first|exact Or.inl rfl|exact Or.inr rfl) (@z3_ _ _ _ _ _ (pv 3)) (by rfl) (by first|exact .inl rfl|exact .inr rfl|assumption)) (@q6_ _ _ _ _ _ _ (@a3F _ _ _ _ _ _ _ _ (by exact Qo) (@a1K _ _ _ _ (@a4m _ _ _ _ _ _ _ _ (@k0_ _ _ _ _ _ _ _ _ _ _ (by exact a7h) (by exact a7v) (@z3_ _ _ _ _ _ (pv 4)) (@w5_ _ _ _ _ _ _ _ _ _ _ _ (by exact(b0x rfl)) (by exact b1v) (by exact rfl) (by exact T.g_max) (by exact b1I) (@q3_ _ _ _ _ _ _ (@q2_ _ _ _ _ _) (@q3_ _ _ _ _ _ _ (@v1_ _ _ _ _ _ _ _ _ _ _ (by exact a0r) (by exact a0l) (@z3_ _ _ _ _ _ (pv 3)) (@q2_ _ _ _ _ _)) (@q7_ _ _) (by exact z1_ rfl)) (by exact z1_ rfl)) (by decide) (by decide) (by exact z1_ rfl) (by exact q1_ rfl)) (by exact(nomark _))) (@a4l _ _ _ _ _ (@k0_ _ _ _ _ _ _ _ _ _ _ (by exact(op_eqD hr.units)) (by exact opd_eq) (@a4y _ _ _ _ _ _ _ _ _ _ (@v7_ _ _ _ _ _ _ _ _ _ _ _ (by exact d_table_at) (by exact(hr.mono (show 20≤20 by decide))) (by exact rfl) (@q0_ _ _ _ _ _ _ (@z3_ _ _ _ _ _ (pv 0)) (@q0_ _ _ _ _ _ _ (@v1_ _ _ _ _ _ _ _ _ _ _ (by exact a0r) (by exact a0l) (@z3_ _ _ _ _ _ (pv 4)) (@q2_ _ _ _ _ _)) (@v0_ _ _) (by exact z1_ rfl)) (by exact z1_ rfl)) (by decide) (by exact z1_ rfl) (by exact q1_ rfl)) (@a4w _ _) (@a4x _ _ _ _ (@w5_ _ _ _ _ _ _ _ _ _ _ _ (by exact a0P) (by exact a0R) (by exact rfl) (by exact T.g_len) (by exact Yv) (@q3_ _ _ _ _ _ _ (@z3_ _ _ _ _ _ (pv 1)) (@q7_ _ _) (by exact z1_ rfl)) (by decide) (by decide) (by exact z1_ rfl) (by exact q1_ rfl)))) (@z3_ _ _ _ _ _ (pv 1)) (by exact(nomark _)))))) (@q9_ _ _ _ _ (@x2_ _ _ _ _ _ 4 _ _ (by exact a1W.nd) (by exact rfl) (by first|exact Or.inl rfl|exact Or.inr rfl) (@v1_ _ _ _ _ _ _ _ _ _ _ (by exact a0r) (by exact a0l) (@z3_ _ _ _ _ _ (pv 4)) (@q2_ _ _ _ _ _)) (by rfl) (by first|exact .inl rfl|exact .inr rfl|assumption)))) (@q6_ _ _ _ _ _ _ (@x2_ _ _ _ _ _ 5 _ _ (by exact a1W.nd) (by exact rfl) (by first|exact Or.inl rfl|exact Or.inr rfl) (@z3_ _ _ _ _ _ (pv 3)) (by rfl) (by first|exact .inl rfl|exact .inr rfl|assumption)) (@q6_ _ _ _ _ _ _ (@x2_ _ _ _ _ _ 6 _ _ (by exact a1W.nd) (by exact rfl) (by first|exact Or.inl rfl|exact Or.inr rfl) (@w5_ _ _ _ _ _ _ _ _ _ _ _ (by exact(b0y rfl)) (by exact b1w) (by exact rfl) (by exact T.g_min) (by exact a4A) (@q3_ _ _ _ _ _ _ (@v1_ _ _ _ _ _ _ _ _ _ _ (by exact a0r) (by exact a0l) (@v7_ _ _ _ _ _ _ _ _ _ _ _ (by exact d_many_tables) (by exact(hr.mono (show 4≤20 by decide))) (by exact rfl) (@q0_ _ _ _ _ _ _ (@z3_ _ _ _ _ _ (pv 0)) (@v0_ _ _) (by exact z1_ rfl)) (by decide) (by exact z1_ rfl) (by exact q1_ rfl)) (@q2_ _ _ _ _ _)) (@q3_ _ _ _ _ _ _ (@v1_ _ _ _ _ _ _ _ _ _ _ (by exact w0_) (by exact w1_) (@z3_ _ _ _ _ _ (pv 3)) (@q2_ _ _ _ _ _)) (@q7_ _ _) (by exact z1_ rfl)) (by exact z1_ rfl)) (by decide) (by decide) (by exact z1_ rfl) (by exact q1_ rfl)) (by rfl) (by first|exact .inl rfl|exact .inr rfl|assumption)) (@q6_ _ _ _ _ _ _ (@a3F _ _ _ _ _ _ _ _ (by exact Qo) (@a1K _ _ _ _ (@a4m _ _ _ _ _ _ _ _ (@k0_ _ _ _ _ _ _ _ _ _ _ (by exact a5o) (by exact a5C) (@z3_ _ _ _ _ _ (pv 5)) (@z3_ _ _ _ _ _ (pv 6)) (by exact(nomark _))) (@a4l _ _ _ _ _ (@k0_ _ _ _ _ _ _ _ _ _ _ (by exact(op_eqD hr.units)) (by exact opd_eq) (@a4y _ _ _ _ _ _ _ _ _ _ (@v7_ _ _ _ _ _ _ _ _ _ _ _ (by exact d_table_at) (by exact(hr.mono (show 20≤20 by decide))) (by exact rfl) (@q0_ _ _ _ _ _ _ (@z3_ _ _ _ _ _ (pv 0)) (@q0_ _ _ _ _ _ _ (@v1_ _ _ _ _ _ _ _ _ _ _ (by exact w0_) (by exact w1_) (@z3_ _ _ _ _ _ (pv 5)) (@q2_ _ _ _ _ _)) (@v0_ _ _) (by exact z1_ rfl)) (by exact z1_ rfl)) (by decide) (by exact z1_ rfl) (by exact q1_ rfl)) (@a4w _ _) (@a4x _ _ _ _ (@w5_ _ _ _ _ _ _ _ _ _ _ _ (by exact a0P) (by exact a0R) (by exact rfl) (by exact T.g_len) (by exact Yv) (@q3_ _ _ _ _ _ _ (@z3_ _ _ _ _ _ (pv 1)) (@q7_ _ _) (by exact z1_ rfl)) (by decide) (by decide) (by exact z1_ rfl) (by exact q1_ rfl)))) (@z3_ _ _ _ _ _ (pv 1)) (by exact(nomark _)))))) (@q9_ _ _ _ _ (@x2_ _ _ _ _ _ 5 _ _ (by exact a1W.nd) (by exact rfl) (by first|exact Or.inl rfl|exact Or.inr rfl) (@v1_ _ _ _ _ _ _ _ _ _ _ (by exact w0_) (by exact w1_) (@z3_ _ _ _ _ _ (pv 5)) (@q2_ _ _ _ _ _)) (by rfl) (by first|exact .inl rfl|exact .inr rfl|assumption)))) (@q6_ _ _ _ _ _ _ (@x2_ _ _ _ _ _ 7 _ _ (by exact a1W.nd) (by exact rfl) (by first|exact Or.inl rfl|exact Or.inr rfl) (@v7_ _ _ _ _ _ _ _ _ _ _ _ (by exact d_many_so) (by exact(hr.mono (show 18≤20 by decide))) (by exact rfl) (@q0_ _ _ _ _ _ _ (@z3_ _ _ _ _ _ (pv 0)) (@q0_ _ _ _ _ _ _ (@z3_ _ _ _ _ _ (pv 1)) (@v0_ _ _) (by exact z1_ rfl)) (by exact z1_ rfl)) (by decide) (by exact z1_ rfl) (by exact q1_ rfl)) (by rfl) (by first|exact .inl rfl|exact .inr rfl|assumption)) (@q6_ _ _ _ _ _ _ (@x2_ _ _ _ _ _ 8 _ _ (by exact a1W.nd) (by exact rfl) (by first|exact Or.inl rfl|exact Or.inr rfl) (@v1_ _ _ _ _ _ _ _ _ _ _ (by exact w0_) (by exact w1_) (@v1_ _ _ _ _ _ _ _ _ _ _ (by exact a0r) (by exact a0l) (@z3_ _ _ _ _ _ (pv 5)) (@z3_ _ _ _ _ _ (pv 4))) (@q2_ _ _ _ _ _)) (by rfl) (by first|exact .inl rfl|exact .inr rfl|assumption)) (@q9_ _ _ _ _ (@y5_ _ _ _ _ _ (@b0Y _ _ _ _ _ _ _ _ (@a3m _ _ _ _ _ _ _ _ _ _ (by exact(op_eqD hr.units)) (by exact opd_eq) (@z3_ _ _ _ _ _ (pv 8)) (@z3_ _ _ _ _ _ (pv 7)) (by exact(nomark _))) (@a3q _ _ _ _ _ _ (@a5G _ _ _ _ _ _ _ _ (@a3m _ _ _ _ _ _ _ _ _ _ (by exact a5o) (by exact a5C) (@z3_ _ _ _ _ _ (pv 8)) (@z3_ _ _ _ _ _ (pv 7)) (by exact(nomark _))) (@a3q _ _ _ _ _ _ (@b0Y _ _ _ _ _ _ _ _ (@a3m _ _ _ _ _ _ _ _ _ _ (by exact(op_eqD hr.units)) (by exact opd_eq) (@v1_ _ _ _ _ _ _ _ _ _ _ (by exact a0r) (by exact a0l) (@z3_ _ _ _ _ _ (pv 3)) (@z3_ _ _ _ _ _ (pv 4))) (@q2_ _ _ _ _ _) (by exact(nomark _))) (@a3q _ _ _ _ _ _ (@a3m _ _ _ _ _ _ _ _ _ _ (by exact(op_eqD hr.units)) (by exact opd_eq) (@v1_ _ _ _ _ _ _ _ _ _ _ (by exact a0r) (by exact a0l) (@z3_ _ _ _ _ _ (pv 5)) (@z3_ _ _ _ _ _ (pv 3))) (@q2_ _ _ _ _ _) (by exact(nomark _)))))))))))))))))))
theorem a1b:FnScope ["_law_script","_law_k","_law_state_here","_law_side","_law_table_here","_law_many","_law_top","_law_bottom","_law_rows_here","_law_part"] ["_law_script"] (y1_ a3R):=x4_
def b2F:Mo Fl:=(z9_ (j8_ (a0m (z5_ (mCB a1O (z5_ (mC (.int 1)) (z5_ (mCB a2J (z5_ (mCB k2_ (z5_ (z0_ 0) z7_)) (z5_ (mC (.int 5)) z7_))) z7_))) z7_)) (gN 1) (z9_ (a0d 2 (k8_ 2 a4V (z4_ (z0_ 0) (z4_ (z0_ 1) z6_)))) (z9_ (v2_ 3 (z2_ v8_ (mC (.int 1)) (mCD 2 g4_ (k1_ 2 (z4_ (mC (.int 6)) z6_))))) (z9_ (v2_ 4 (mCD 2 a4X (k1_ 2 (z4_ (z0_ 3) z6_)))) (z9_ (y2_ (a0c (mT (z2_ (dEq true) (mCD 2 j0_ (z4_ (z0_ 3) (z4_ (y4_ z7_) z6_))) (mCD 1 a0A (z4_ (z0_ 3) z6_)))) (mT (z2_ (dEq true) (mCD 2 j0_ (z4_ (z0_ 3) (z4_ (z0_ 4) z6_))) (mC (.int 1))))) (v3_ (mC (.bl false))) mNx) (z9_ (y2_ (mT (z2_ (dEq true) (mCD 2 j0_ (z4_ (z0_ 3) (z4_ (mSl (z0_ 4) g2_ (w9_ (mC (.int 1)))) z6_))) (mCD 2 a3U (z4_ (z0_ 3) (z4_ (z2_ v8_ (z2_ a2S (z2_ dIx (z0_ 4) (mC (.int 0))) (mC (.int 1))) (mC (.int 1))) z6_))))) (v3_ (mC (.bl false))) mNx) (z9_ (w8_ (y4_ (z5_ (mC (.int 1)) (z5_ (mC (.int 1)) z7_))) (gT 2 (gCn (gN 6) (gCn (gN 7) gNl)))) (z9_ (j8_ (a0m (z5_ (z0_ 3) z7_)) (gN 5) (z9_ (v2_ 8 (mSl (z0_ 4) g2_ (w9_ (z0_ 5)))) (z9_ (y2_ (w4_ (mT (mCD 2 a3a (z4_ (z0_ 3) (z4_ (z0_ 8) z6_))))) (v3_ (mC (.bl false))) mNx) (z9_ (y2_ (mT (z2_ (dEq true) (mCD 2 a2W (z4_ (z0_ 3) (z4_ (z0_ 8) z6_))) (mCD 2 g5_ (z4_ (mCD 2 j0_ (z4_ (z0_ 3) (z4_ (z0_ 8) z6_))) (z4_ (mCD 1 a0A (z4_ (z0_ 3) z6_)) z6_))))) (v3_ (mC (.bl false))) mNx) (z9_ (v2_ 9 (z2_ a2P (mCB a2T (z5_ (mF (k8_ 2 a1V (z4_ (z0_ 3) (z4_ (z0_ 8) z6_)))) z7_)) (z2_ dIx (z0_ 4) (z0_ 5)))) (w8_ (mCD 2 g5_ (z4_ (z2_ y0_ (z0_ 6) (z2_ dIx (z0_ 9) (mC (.int 0)))) (z4_ (z2_ y0_ (z0_ 7) (z2_ dIx (z0_ 9) (mC (.int 1)))) z6_))) (gT 2 (gCn (gN 6) (gCn (gN 7) gNl))))))))) (z9_ (y2_ (mT (z2_ (dEq true) (y4_ (z5_ (z0_ 6) (z5_ (z0_ 7) z7_))) (y4_ (z5_ (mC (.int 1)) (z5_ (mCD 1 a0A (z4_ (z0_ 3) z6_)) z7_))))) (v3_ (mC (.bl false))) mNx) (y2_ (w4_ (mT (mCD 3 a3Z (z4_ (z0_ 3) (z4_ (mSl (z0_ 4) g2_ (w9_ (mCD 2 g4_ (k1_ 2 (z4_ (z2_ v8_ (z0_ 3) (mC (.int 1))) z6_))))) (z4_ (z0_ 4) z6_)))))) (v3_ (mC (.bl false))) mNx)))))))))) (v3_ (mC (.bl true))))
def a6w:Fn:=fnM 10 b2F
theorem c0G{f:Addr}{fd:FuncData}(F:Fun K "law" "law" a3R f fd)(T:Txt K mg)(d__law_state:Def P w K mg base "_law_state" 2 2 a4V)(d__law_table:Def P w K mg base "_law_table" 2 2 a4X)(d__law_take:Def P w K mg base "_law_take" 1 2 g4_)(d_many_so:Def P w K mg base "many_so" 18 2 j0_)(d_many_first:Def P w K mg base "many_first" 4 2 a3U)(d__law_cut:Def P w K mg base "_law_cut" 1 2 g5_)(d__law_numbers_right:Def P w K mg base "_law_numbers_right" 21 3 a3Z)(d_many_tables:Def P w K mg base "many_tables" 4 1 a0A)(d__law_next_right:Def P w K mg base "_law_next_right" 20 2 a3a)(d_share_so:Def P w K mg base "share_so" 19 2 a2W)(d_next_rows:Def P w K mg base "next_rows" 19 2 a1V):FnOk P w K mg base CX0 22 f fd ["_law_script"] (SpF K 1 a6w):=
 x3_ (N:=["_law_script","_law_k","_law_state_here","_law_side","_law_table_here","_law_many","_law_top","_law_bottom","_law_rows_here","_law_part"]) (mb:=b2F) F a1b fun cdv A outer s H E hr=>(@q6_ _ _ _ _ _ _ (@a0w _ _ _ _ _ _ _ _ _ (by exact Qo) (by exact rfl) (@a4q _ _ _ _ _ _ _ (by exact rfl) (by exact T.g_range) (@q3_ _ _ _ _ _ _ (@w5_ _ _ _ _ _ _ _ _ _ _ _ (by exact(b0x rfl)) (by exact b1v) (by exact rfl) (by exact T.g_max) (by exact b1I) (@q3_ _ _ _ _ _ _ (@q2_ _ _ _ _ _) (@q3_ _ _ _ _ _ _ (@w5_ _ _ _ _ _ _ _ _ _ _ _ (by exact(b0y rfl)) (by exact b1w) (by exact rfl) (by exact T.g_min) (by exact a4A) (@q3_ _ _ _ _ _ _ (@w5_ _ _ _ _ _ _ _ _ _ _ _ (by exact a0P) (by exact a0R) (by exact rfl) (by exact T.g_len) (by exact Yv) (@q3_ _ _ _ _ _ _ (@z3_ _ _ _ _ _ (pv 0)) (@q7_ _ _) (by exact z1_ rfl)) (by decide) (by decide) (by exact z1_ rfl) (by exact q1_ rfl)) (@q3_ _ _ _ _ _ _ (@q2_ _ _ _ _ _) (@q7_ _ _) (by exact z1_ rfl)) (by exact z1_ rfl)) (by decide) (by decide) (by exact z1_ rfl) (by exact q1_ rfl)) (@q7_ _ _) (by exact z1_ rfl)) (by exact z1_ rfl)) (by decide) (by decide) (by exact z1_ rfl) (by exact q1_ rfl)) (@q7_ _ _) (by exact z1_ rfl)) (by exact se1 rfl)) (@y3_ _ _ _ _ 1 _ (by exact(show 0≤1 by decide)) (by exact a1b.nd) (by exact rfl) (by first|exact Or.inl rfl|exact Or.inr rfl) (by first|exact .inl rfl|exact .inr rfl|assumption)) (@q6_ _ _ _ _ _ _ (@a5I _ _ _ _ _ 2 _ _ (by exact a1b.nd) (by exact rfl) (by first|exact Or.inl rfl|exact Or.inr rfl) (@a1y _ _ _ _ _ _ _ _ _ _ _ (by exact d__law_state) (by exact(hr.mono (show 2≤21 by decide))) (by exact rfl) (@q0_ _ _ _ _ _ _ (@z3_ _ _ _ _ _ (pv 0)) (@q0_ _ _ _ _ _ _ (@z3_ _ _ _ _ _ (pv 1)) (@v0_ _ _) (by exact z1_ rfl)) (by exact z1_ rfl)) (by decide) (by exact z1_ rfl) (by exact q1_ rfl)) (by rfl) (by first|exact .inl rfl|exact .inr rfl|assumption)) (@q6_ _ _ _ _ _ _ (@x2_ _ _ _ _ _ 3 _ _ (by exact a1b.nd) (by exact rfl) (by first|exact Or.inl rfl|exact Or.inr rfl) (@v1_ _ _ _ _ _ _ _ _ _ _ (by exact w0_) (by exact w1_) (@q2_ _ _ _ _ _) (@v7_ _ _ _ _ _ _ _ _ _ _ _ (by exact d__law_take) (by exact(hr.mono (show 1≤21 by decide))) (by exact rfl) (@a1e _ _ _ _ _ _ _ (pv 2) (@q0_ _ _ _ _ _ _ (@q2_ _ _ _ _ _) (@v0_ _ _) (by exact z1_ rfl)) (by exact z1_ rfl)) (by decide) (by exact z1_ rfl) (by exact q1_ rfl))) (by rfl) (by first|exact .inl rfl|exact .inr rfl|assumption)) (@q6_ _ _ _ _ _ _ (@x2_ _ _ _ _ _ 4 _ _ (by exact a1b.nd) (by exact rfl) (by first|exact Or.inl rfl|exact Or.inr rfl) (@v7_ _ _ _ _ _ _ _ _ _ _ _ (by exact d__law_table) (by exact(hr.mono (show 2≤21 by decide))) (by exact rfl) (@a1e _ _ _ _ _ _ _ (pv 2) (@q0_ _ _ _ _ _ _ (@z3_ _ _ _ _ _ (pv 3)) (@v0_ _ _) (by exact z1_ rfl)) (by exact z1_ rfl)) (by decide) (by exact z1_ rfl) (by exact q1_ rfl)) (by rfl) (by first|exact .inl rfl|exact .inr rfl|assumption)) (@q6_ _ _ _ _ _ _ (@w7_ _ _ _ _ _ _ _ _ _ (@a1K _ _ _ _ (@a5F _ _ _ _ _ _ _ _ (@k0_ _ _ _ _ _ _ _ _ _ _ (by exact(op_neD hr.units)) (by exact opd_eq) (@v7_ _ _ _ _ _ _ _ _ _ _ _ (by exact d_many_so) (by exact(hr.mono (show 18≤21 by decide))) (by exact rfl) (@q0_ _ _ _ _ _ _ (@z3_ _ _ _ _ _ (pv 3)) (@q0_ _ _ _ _ _ _ (@k5_ _ _ _ _ _ _ (@q7_ _ _)) (@v0_ _ _) (by exact z1_ rfl)) (by exact z1_ rfl)) (by decide) (by exact z1_ rfl) (by exact q1_ rfl)) (@v7_ _ _ _ _ _ _ _ _ _ _ _ (by exact d_many_tables) (by exact(hr.mono (show 4≤21 by decide))) (by exact rfl) (@q0_ _ _ _ _ _ _ (@z3_ _ _ _ _ _ (pv 3)) (@v0_ _ _) (by exact z1_ rfl)) (by decide) (by exact z1_ rfl) (by exact q1_ rfl)) (by exact(nomark _))) (@a5E _ _ _ _ _ (@k0_ _ _ _ _ _ _ _ _ _ _ (by exact(op_neD hr.units)) (by exact opd_eq) (@v7_ _ _ _ _ _ _ _ _ _ _ _ (by exact d_many_so) (by exact(hr.mono (show 18≤21 by decide))) (by exact rfl) (@q0_ _ _ _ _ _ _ (@z3_ _ _ _ _ _ (pv 3)) (@q0_ _ _ _ _ _ _ (@z3_ _ _ _ _ _ (pv 4)) (@v0_ _ _) (by exact z1_ rfl)) (by exact z1_ rfl)) (by decide) (by exact z1_ rfl) (by exact q1_ rfl)) (@q2_ _ _ _ _ _) (by exact(nomark _)))))) (@q9_ _ _ _ _ (@y5_ _ _ _ _ _ (@a0k _ _ _ _ _))) (@w6_ _ _)) (@q6_ _ _ _ _ _ _ (@w7_ _ _ _ _ _ _ _ _ _ (@k0_ _ _ _ _ _ _ _ _ _ _ (by exact(op_neD hr.units)) (by exact opd_eq) (@v7_ _ _ _ _ _ _ _ _ _ _ _ (by exact d_many_so) (by exact(hr.mono (show 18≤21 by decide))) (by exact rfl) (@q0_ _ _ _ _ _ _ (@z3_ _ _ _ _ _ (pv 3)) (@q0_ _ _ _ _ _ _ (@a4y _ _ _ _ _ _ _ _ _ _ (@z3_ _ _ _ _ _ (pv 4)) (@a4w _ _) (@a4x _ _ _ _ (@q2_ _ _ _ _ _))) (@v0_ _ _) (by exact z1_ rfl)) (by exact z1_ rfl)) (by decide) (by exact z1_ rfl) (by exact q1_ rfl)) (@v7_ _ _ _ _ _ _ _ _ _ _ _ (by exact d_many_first) (by exact(hr.mono (show 4≤21 by decide))) (by exact rfl) (@q0_ _ _ _ _ _ _ (@z3_ _ _ _ _ _ (pv 3)) (@q0_ _ _ _ _ _ _ (@v1_ _ _ _ _ _ _ _ _ _ _ (by exact w0_) (by exact w1_) (@b8Y _ _ _ _ _ _ _ _ (@u2_ _ _ _ _ _ _ _ (@z3_ _ _ _ _ _ (pv 4)) (@q2_ _ _ _ _ _) (fun _ _=>rfl)) (@q2_ _ _ _ _ _) (by rfl) (by rfl) (by rfl) (by exact z1_ rfl) (by exact q1_ rfl)) (@q2_ _ _ _ _ _)) (@v0_ _ _) (by exact z1_ rfl)) (by exact z1_ rfl)) (by decide) (by exact z1_ rfl) (by exact q1_ rfl)) (by exact(nomark _))) (@q9_ _ _ _ _ (@y5_ _ _ _ _ _ (@a0k _ _ _ _ _))) (@w6_ _ _)) (@q6_ _ _ _ _ _ _ (@a2f _ _ _ _ _ _ _ (@k5_ _ _ _ _ _ _ (@q3_ _ _ _ _ _ _ (@q2_ _ _ _ _ _) (@q3_ _ _ _ _ _ _ (@q2_ _ _ _ _ _) (@q7_ _ _) (by exact z1_ rfl)) (by exact z1_ rfl))) (@a0v _ _ _ _ _ _ _ _ (by exact rfl) (@k9_ _ _ _ _ _ _ _ (@y3_ _ _ _ _ 6 _ (by exact(show 0≤6 by decide)) (by exact a1b.nd) (by exact rfl) (by first|exact Or.inl rfl|exact Or.inr rfl) (by first|exact .inl rfl|exact .inr rfl|assumption)) (@k9_ _ _ _ _ _ _ _ (@y3_ _ _ _ _ 7 _ (by exact(show 0≤7 by decide)) (by exact a1b.nd) (by exact rfl) (by first|exact Or.inl rfl|exact Or.inr rfl) (by first|exact .inl rfl|exact .inr rfl|assumption)) (@a0u _ _ _) (by rfl)) (by rfl)) (by rfl) (by rfl)) (by rfl) (by rfl) (by rfl)) (@q6_ _ _ _ _ _ _ (@a0w _ _ _ _ _ _ _ _ _ (by exact Qo) (by exact rfl) (@a4q _ _ _ _ _ _ _ (by exact rfl) (by exact T.g_range) (@q3_ _ _ _ _ _ _ (@z3_ _ _ _ _ _ (pv 3)) (@q7_ _ _) (by exact z1_ rfl)) (by exact se1 rfl)) (@y3_ _ _ _ _ 5 _ (by exact(show 0≤5 by decide)) (by exact a1b.nd) (by exact rfl) (by first|exact Or.inl rfl|exact Or.inr rfl) (by first|exact .inl rfl|exact .inr rfl|assumption)) (@q6_ _ _ _ _ _ _ (@x2_ _ _ _ _ _ 8 _ _ (by exact a1b.nd) (by exact rfl) (by first|exact Or.inl rfl|exact Or.inr rfl) (@a4y _ _ _ _ _ _ _ _ _ _ (@z3_ _ _ _ _ _ (pv 4)) (@a4w _ _) (@a4x _ _ _ _ (@z3_ _ _ _ _ _ (pv 5)))) (by rfl) (by first|exact .inl rfl|exact .inr rfl|assumption)) (@q6_ _ _ _ _ _ _ (@w7_ _ _ _ _ _ _ _ _ _ (@a1t _ _ _ _ _ (@a1s _ _ _ _ (@v7_ _ _ _ _ _ _ _ _ _ _ _ (by exact d__law_next_right) (by exact(hr.mono (show 20≤21 by decide))) (by exact rfl) (@q0_ _ _ _ _ _ _ (@z3_ _ _ _ _ _ (pv 3)) (@q0_ _ _ _ _ _ _ (@z3_ _ _ _ _ _ (pv 8)) (@v0_ _ _) (by exact z1_ rfl)) (by exact z1_ rfl)) (by decide) (by exact z1_ rfl) (by exact q1_ rfl)) (by intro _;rfl))) (@q9_ _ _ _ _ (@y5_ _ _ _ _ _ (@a0k _ _ _ _ _))) (@w6_ _ _)) (@q6_ _ _ _ _ _ _ (@w7_ _ _ _ _ _ _ _ _ _ (@k0_ _ _ _ _ _ _ _ _ _ _ (by exact(op_neD hr.units)) (by exact opd_eq) (@v7_ _ _ _ _ _ _ _ _ _ _ _ (by exact d_share_so) (by exact(hr.mono (show 19≤21 by decide))) (by exact rfl) (@q0_ _ _ _ _ _ _ (@z3_ _ _ _ _ _ (pv 3)) (@q0_ _ _ _ _ _ _ (@z3_ _ _ _ _ _ (pv 8)) (@v0_ _ _) (by exact z1_ rfl)) (by exact z1_ rfl)) (by decide) (by exact z1_ rfl) (by exact q1_ rfl)) (@v7_ _ _ _ _ _ _ _ _ _ _ _ (by exact d__law_cut) (by exact(hr.mono (show 1≤21 by decide))) (by exact rfl) (@q0_ _ _ _ _ _ _ (@v7_ _ _ _ _ _ _ _ _ _ _ _ (by exact d_many_so) (by exact(hr.mono (show 18≤21 by decide))) (by exact rfl) (@q0_ _ _ _ _ _ _ (@z3_ _ _ _ _ _ (pv 3)) (@q0_ _ _ _ _ _ _ (@z3_ _ _ _ _ _ (pv 8)) (@v0_ _ _) (by exact z1_ rfl)) (by exact z1_ rfl)) (by decide) (by exact z1_ rfl) (by exact q1_ rfl)) (@q0_ _ _ _ _ _ _ (@v7_ _ _ _ _ _ _ _ _ _ _ _ (by exact d_many_tables) (by exact(hr.mono (show 4≤21 by decide))) (by exact rfl) (@q0_ _ _ _ _ _ _ (@z3_ _ _ _ _ _ (pv 3)) (@v0_ _ _) (by exact z1_ rfl)) (by decide) (by exact z1_ rfl) (by exact q1_ rfl)) (@v0_ _ _) (by exact z1_ rfl)) (by exact z1_ rfl)) (by decide) (by exact z1_ rfl) (by exact q1_ rfl)) (by exact(nomark _))) (@q9_ _ _ _ _ (@y5_ _ _ _ _ _ (@a0k _ _ _ _ _))) (@w6_ _ _)) (@q6_ _ _ _ _ _ _ (@x2_ _ _ _ _ _ 9 _ _ (by exact a1b.nd) (by exact rfl) (by first|exact Or.inl rfl|exact Or.inr rfl) (@b8C _ _ _ _ _ _ _ (by exact hr.units) (@a2e _ _ _ _ _ _ _ _ _ _ _ (by exact(b9d rfl hr.units)) (by exact b9g) (by exact rfl) (by exact T.g_dict) (by exact b9k) (@q3_ _ _ _ _ _ _ (@j4_ _ _ _ _ (@a1y _ _ _ _ _ _ _ _ _ _ _ (by exact d_next_rows) (by exact(hr.mono (show 19≤21 by decide))) (by exact rfl) (@q0_ _ _ _ _ _ _ (@z3_ _ _ _ _ _ (pv 3)) (@q0_ _ _ _ _ _ _ (@z3_ _ _ _ _ _ (pv 8)) (@v0_ _ _) (by exact z1_ rfl)) (by exact z1_ rfl)) (by decide) (by exact z1_ rfl) (by exact q1_ rfl))) (@q7_ _ _) (by exact z1_ rfl)) (by decide) (by decide) (by exact z1_ rfl) (by exact q1_ rfl)) (@u2_ _ _ _ _ _ _ _ (@z3_ _ _ _ _ _ (pv 4)) (@z3_ _ _ _ _ _ (pv 5)) (fun _ _=>rfl)) (fun _ _=>rfl)) (by rfl) (by first|exact .inl rfl|exact .inr rfl|assumption)) (@q9_ _ _ _ _ (@a2f _ _ _ _ _ _ _ (@v7_ _ _ _ _ _ _ _ _ _ _ _ (by exact d__law_cut) (by exact(hr.mono (show 1≤21 by decide))) (by exact rfl) (@q0_ _ _ _ _ _ _ (@v1_ _ _ _ _ _ _ _ _ _ _ (by exact g7_) (by exact g8_) (@z3_ _ _ _ _ _ (pv 6)) (@u2_ _ _ _ _ _ _ _ (@z3_ _ _ _ _ _ (pv 9)) (@q2_ _ _ _ _ _) (fun _ _=>rfl))) (@q0_ _ _ _ _ _ _ (@v1_ _ _ _ _ _ _ _ _ _ _ (by exact g7_) (by exact g8_) (@z3_ _ _ _ _ _ (pv 7)) (@u2_ _ _ _ _ _ _ _ (@z3_ _ _ _ _ _ (pv 9)) (@q2_ _ _ _ _ _) (fun _ _=>rfl))) (@v0_ _ _) (by exact z1_ rfl)) (by exact z1_ rfl)) (by decide) (by exact z1_ rfl) (by exact q1_ rfl)) (@a0v _ _ _ _ _ _ _ _ (by exact rfl) (@k9_ _ _ _ _ _ _ _ (@y3_ _ _ _ _ 6 _ (by exact(show 0≤6 by decide)) (by exact a1b.nd) (by exact rfl) (by first|exact Or.inl rfl|exact Or.inr rfl) (by first|exact .inl rfl|exact .inr rfl|assumption)) (@k9_ _ _ _ _ _ _ _ (@y3_ _ _ _ _ 7 _ (by exact(show 0≤7 by decide)) (by exact a1b.nd) (by exact rfl) (by first|exact Or.inl rfl|exact Or.inr rfl) (by first|exact .inl rfl|exact .inr rfl|assumption)) (@a0u _ _ _) (by rfl)) (by rfl)) (by rfl) (by rfl)) (by rfl) (by rfl) (by rfl))))))) (by intro _;rfl)) (@q6_ _ _ _ _ _ _ (@w7_ _ _ _ _ _ _ _ _ _ (@k0_ _ _ _ _ _ _ _ _ _ _ (by exact(op_neD hr.units)) (by exact opd_eq) (@k5_ _ _ _ _ _ _ (@q3_ _ _ _ _ _ _ (@z3_ _ _ _ _ _ (pv 6)) (@q3_ _ _ _ _ _ _ (@z3_ _ _ _ _ _ (pv 7)) (@q7_ _ _) (by exact z1_ rfl)) (by exact z1_ rfl))) (@k5_ _ _ _ _ _ _ (@q3_ _ _ _ _ _ _ (@q2_ _ _ _ _ _) (@q3_ _ _ _ _ _ _ (@v7_ _ _ _ _ _ _ _ _ _ _ _ (by exact d_many_tables) (by exact(hr.mono (show 4≤21 by decide))) (by exact rfl) (@q0_ _ _ _ _ _ _ (@z3_ _ _ _ _ _ (pv 3)) (@v0_ _ _) (by exact z1_ rfl)) (by decide) (by exact z1_ rfl) (by exact q1_ rfl)) (@q7_ _ _) (by exact z1_ rfl)) (by exact z1_ rfl))) (by exact(nomark _))) (@q9_ _ _ _ _ (@y5_ _ _ _ _ _ (@a0k _ _ _ _ _))) (@w6_ _ _)) (@q9_ _ _ _ _ (@w7_ _ _ _ _ _ _ _ _ _ (@a1t _ _ _ _ _ (@a1s _ _ _ _ (@v7_ _ _ _ _ _ _ _ _ _ _ _ (by exact d__law_numbers_right) (by exact(hr.mono (show 21≤21 by decide))) (by exact rfl) (@q0_ _ _ _ _ _ _ (@z3_ _ _ _ _ _ (pv 3)) (@q0_ _ _ _ _ _ _ (@a4y _ _ _ _ _ _ _ _ _ _ (@z3_ _ _ _ _ _ (pv 4)) (@a4w _ _) (@a4x _ _ _ _ (@v7_ _ _ _ _ _ _ _ _ _ _ _ (by exact d__law_take) (by exact(hr.mono (show 1≤21 by decide))) (by exact rfl) (@a1e _ _ _ _ _ _ _ (pv 2) (@q0_ _ _ _ _ _ _ (@v1_ _ _ _ _ _ _ _ _ _ _ (by exact w0_) (by exact w1_) (@z3_ _ _ _ _ _ (pv 3)) (@q2_ _ _ _ _ _)) (@v0_ _ _) (by exact z1_ rfl)) (by exact z1_ rfl)) (by decide) (by exact z1_ rfl) (by exact q1_ rfl)))) (@q0_ _ _ _ _ _ _ (@z3_ _ _ _ _ _ (pv 4)) (@v0_ _ _) (by exact z1_ rfl)) (by exact z1_ rfl)) (by exact z1_ rfl)) (by decide) (by exact z1_ rfl) (by exact q1_ rfl)) (by intro _;rfl))) (@q9_ _ _ _ _ (@y5_ _ _ _ _ _ (@a0k _ _ _ _ _))) (@w6_ _ _))))))))))) (by intro _;rfl)) (@q9_ _ _ _ _ (@y5_ _ _ _ _ _ (@a0k _ _ _ _ _))))
end
def isW:D->Bool
 |.int _=>true
 |_=>false
theorem b2G(d:D):a1C [.dat d]=some (.d (.bl (isW d)),[.dat d]):=by cases d<;>rfl
def isR(d:D)(n:Int):Bool:=match d with
 |.tup es=>(es.length:Int)==n&&es.all isW
 |_=>false
theorem c0H(d:D)(n:Int)(hn:n≤1000):a1R [.dat d,.dat (.int n)]=some (.d (.bl (isR d n)),[.dat d,.dat (.int n)]):=by
 cases d with
 |tup es=>
  by_cases h:(es.length:Int)=n
  ·have t:(a0c (w4_ (mT (mIs "tuple" (z0_ 0)))) (mT (z2_ (dEq true) (mCB k2_ (z5_ (z0_ 0) z7_)) (z0_ 1)))) [.dat (.tup es),.dat (.int n)]=some (false,[.dat (.tup es),.dat (.int n)]):=by
    show some (!((es.length:Int)==n),_)=_;rw[h];simp
   obtain⟨e',h1,w,rfl⟩:=a7P (g:=gN 2) (m:=mCD 1 a1C (z4_ (z0_ 2) z6_)) (P:=fun e=>∃w,e=[.nil,.nil,w]) (f:=fun d=>.bl (isW d)) (ds:=es) (env:=[.nil,.nil,.nil])
    (fun d _ e ⟨w,he⟩=>by
     subst he;refine⟨[.nil,.nil,.dat d],[.nil,.nil,.dat d],rfl,?_,_,rfl⟩;show((a1C [.dat d]).map fun q=>(q.1,_)).bind asD=_
     rw[b2G];rfl) ⟨.nil,rfl⟩
   have hl:es.length≤100000:=by omega
   have c:(y9_ (y6_ (z0_ 0)) [false,false] 1 (gN 2) x7_ (mCD 1 a1C (z4_ (z0_ 2) z6_))) [.dat (.tup es),.dat (.int n)]=some (es.map fun d=>.bl (isW d),[.dat (.tup es),.dat (.int n)]):=by
    show(if es.length≤100000 then(j7_ _ _ _ es [.nil,.nil,.nil]).bind _ else none)=_
    rw[Qg hl,h1];rfl
   unfold a1R fnM a8W;show(match z9_ _ _ [.dat (.tup es),.dat (.int n)]with|some (.ret d,env)=>_|some (.retL ds,env)=>_|some (.nx,env)=>_|_=>none)=_
   rw[j1_ (by rw[a2m t];rfl)]
   have r:(v3_ (mCB a3C (z5_ (mF (y9_ (y6_ (z0_ 0)) [false,false] 1 (gN 2) x7_ (mCD 1 a1C (z4_ (z0_ 2) z6_)))) z7_))) [.dat (.tup es),.dat (.int n)]=some (.ret (.bl (es.all isW)),[.dat (.tup es),.dat (.int n)]):=by
    unfold v3_ mCB z5_ mF;rw[c];show(((a1i (es.map fun d=>.bl (isW d))).map fun k=>D.bl k).map _).map _=_
    rw[a5U];rfl
   rw[r];show some (Rr.d (.bl (es.all isW)),_)=_
   simp[isR,h];rfl
  ·have t:(a0c (w4_ (mT (mIs "tuple" (z0_ 0)))) (mT (z2_ (dEq true) (mCB k2_ (z5_ (z0_ 0) z7_)) (z0_ 1)))) [.dat (.tup es),.dat (.int n)]=some (true,[.dat (.tup es),.dat (.int n)]):=by
    show some (!((es.length:Int)==n),_)=_
    simp[h]
   unfold a1R fnM a8W;show(match z9_ _ _ [.dat (.tup es),.dat (.int n)]with|some (.ret d,env)=>_|some (.retL ds,env)=>_|some (.nx,env)=>_|_=>none)=_
   rw[a1z (d:=.bl false) (by rw[a2l t];rfl)]
   simp[isR,h];rfl
 |_=>rfl
def isG(d:D)(m n:Int):Bool:=match d with
 |.tup es=>(es.length:Int)==m&&es.all fun r=>isR r n
 |_=>false
theorem b2H(d:D)(k n:Int)(hk:k≤1000)(hn:n≤1000):a2U [.dat d,.dat (.int k),.dat (.int n)]=some (.d (.bl (isG d k n)),[.dat d,.dat (.int k),.dat (.int n)]):=by
 cases d with
 |tup es=>
  by_cases h:(es.length:Int)=k
  ·have t:(a0c (w4_ (mT (mIs "tuple" (z0_ 0)))) (mT (z2_ (dEq true) (mCB k2_ (z5_ (z0_ 0) z7_)) (z0_ 1)))) [.dat (.tup es),.dat (.int k),.dat (.int n)]=some (false,[.dat (.tup es),.dat (.int k),.dat (.int n)]):=by
    show some (!((es.length:Int)==k),_)=_;rw[h];simp
   obtain⟨e',h1,w,rfl⟩:=a7P (g:=gN 3) (m:=mCD 2 a1R (z4_ (z0_ 3) (z4_ (z0_ 2) z6_))) (P:=fun e=>∃w,e=[.nil,.nil,.dat (.int n),w]) (f:=fun d=>.bl (isR d n)) (ds:=es) (env:=[.nil,.nil,.dat (.int n),.nil])
    (fun d _ e ⟨w,he⟩=>by
     subst he;refine⟨[.nil,.nil,.dat (.int n),.dat d],[.nil,.nil,.dat (.int n),.dat d],rfl,?_,_,rfl⟩;show((a1R [.dat d,.dat (.int n)]).map fun q=>(q.1,_)).bind asD=_
     rw[c0H d n hn];rfl) ⟨.nil,rfl⟩
   have hl:es.length≤100000:=by omega
   have c:(y9_ (y6_ (z0_ 0)) [false,false,true] 1 (gN 3) x7_ (mCD 2 a1R (z4_ (z0_ 3) (z4_ (z0_ 2) z6_)))) [.dat (.tup es),.dat (.int k),.dat (.int n)]=some (es.map fun d=>.bl (isR d n),[.dat (.tup es),.dat (.int k),.dat (.int n)]):=by
    show(if es.length≤100000 then(j7_ _ _ _ es [.nil,.nil,.dat (.int n),.nil]).bind _ else none)=_
    rw[Qg hl,h1];rfl
   refine(x9_ (d:=.bl (isG (.tup es) k n)) (env:=[.dat (.tup es),.dat (.int k),.dat (.int n)]) ?_).trans rfl;show a4H [.dat (.tup es),.dat (.int k),.dat (.int n)]=_;unfold a4H;rw[j1_ (by rw[a2m t];rfl)]
   unfold v3_ mCB z5_ mF;rw[c];show(((a1i (es.map fun d=>.bl (isR d n))).map fun k=>D.bl k).map _).map _=_
   rw[a5U]
   simp[isG,h]
  ·have t:(a0c (w4_ (mT (mIs "tuple" (z0_ 0)))) (mT (z2_ (dEq true) (mCB k2_ (z5_ (z0_ 0) z7_)) (z0_ 1)))) [.dat (.tup es),.dat (.int k),.dat (.int n)]=some (true,[.dat (.tup es),.dat (.int k),.dat (.int n)]):=by
    show some (!((es.length:Int)==k),_)=_
    simp[h]
   refine(x9_ (d:=.bl (isG (.tup es) k n)) (env:=[.dat (.tup es),.dat (.int k),.dat (.int n)]) ?_).trans rfl;show a4H [.dat (.tup es),.dat (.int k),.dat (.int n)]=_;unfold a4H;rw[a1z (d:=.bl false) (by rw[a2l t];rfl)]
   simp[isG,h]
 |_=>rfl
def isS(d:D)(a b:Int):Bool:=match d with
 |.tup es=>(decide (a≤(es.length:Int))&&decide ((es.length:Int)≤b))&&es.all fun r=>isR r es.length
 |_=>false
theorem c0I(d:D)(a b:Int)(hb:b≤1000):a3S [.dat d,.dat (.int a),.dat (.int b)]=some (.d (.bl (isS d a b)),[.dat d,.dat (.int a),.dat (.int b)]):=by
 cases d with
 |tup es=>
  have t:(a0c (w4_ (mT (mIs "tuple" (z0_ 0)))) (w4_ (mT (a1M dLe dLe (z0_ 1) (mCB k2_ (z5_ (z0_ 0) z7_)) (z0_ 2))))) [.dat (.tup es),.dat (.int a),.dat (.int b)]=some (!(decide (a≤(es.length:Int))&&decide ((es.length:Int)≤b)),[.dat (.tup es),.dat (.int a),.dat (.int b)]):=by
   by_cases h1:a≤(es.length:Int)
   ·have e1:dLe (.int a) (.int es.length)=some (.bl true):=by show some (D.bl (decide _))=_;simp[h1]
    show(((match dLe (.int a) (.int es.length)with|some (.bl true)=>_|some (.bl false)=>_|_=>none:Option (D×Env')).bind asB).map _)=_
    rw[e1,Qe h1];rfl
   ·have e1:dLe (.int a) (.int es.length)=some (.bl false):=by show some (D.bl (decide _))=_;simp[h1]
    show(((match dLe (.int a) (.int es.length)with|some (.bl true)=>_|some (.bl false)=>_|_=>none:Option (D×Env')).bind asB).map _)=_
    rw[e1,Qs h1];rfl
  by_cases h:(decide (a≤(es.length:Int))&&decide ((es.length:Int)≤b))=true
  ·rw[h]at t
   refine(x9_ (d:=.bl (isS (.tup es) a b)) (env:=[.dat (.tup es),.dat (.int a),.dat (.int b)]) ?_).trans rfl;show a4I [.dat (.tup es),.dat (.int a),.dat (.int b)]=_;unfold a4I;rw[j1_ (by rw[a2m t];rfl)]
   have hl:(es.length:Int)≤1000:=by
    rw[Qk,Qr,Qr]at h
    omega
   show(((a2U [.dat (.tup es),.dat (.int es.length),.dat (.int es.length)]).map fun q=>(q.1,_)).bind asD).map _=_
   rw[b2H _ _ _ hl hl]
   simp[isS,isG,h,asD]
  ·have h':(decide (a≤(es.length:Int))&&decide ((es.length:Int)≤b))=false:=by simpa using h
   rw[h']at t;refine(x9_ (d:=.bl (isS (.tup es) a b)) (env:=[.dat (.tup es),.dat (.int a),.dat (.int b)]) ?_).trans rfl;show a4I [.dat (.tup es),.dat (.int a),.dat (.int b)]=_;unfold a4I;rw[a1z (d:=.bl false) (by rw[a2l t];rfl)]
   simp[isS,h']
 |_=>rfl
def dR(l:List Int):D:=.tup (l.map .int)
def dT(R:OI):D:=.tup (R.map dR)
def unI:D->Int
 |.int i=>i
 |_=>0
def unR:D->List Int
 |.tup es=>es.map unI
 |.lst es=>es.map unI
 |_=>[]
def unT:D->OI
 |.tup es=>es.map unR
 |_=>[]
theorem c0J{d:D}(h:isW d=true):d=.int (unI d):=by cases d<;>first|rfl|cases h
theorem c0K{es:List D}(h:es.all isW=true):es=(es.map unI).map .int:=by
 induction es with
 |nil=>rfl
 |cons d es ih=>
  rw[Xq,Qk]at h;rw[Qy,Qy,←c0J h.1,←ih h.2]
theorem a9y{d:D}{n:Int}(h:isR d n=true):d=dR (unR d)/\((unR d).length:Int)=n:=by
 cases d<;>first|cases h|skip
 rename_i es;simp only[isR,Qk,Xp]at h;refine⟨?_,by simp[unR,h.1]⟩
 show D.tup es=.tup ((es.map unI).map .int);rw[←c0K h.2]
theorem b2I{d:D}{a b:Int}(h:isS d a b=true):d=dT (unT d)/\a≤((unT d).length:Int)/\((unT d).length:Int)≤b/\∀r∈unT d,r.length=(unT d).length:=by
 cases d<;>first|cases h|skip
 rename_i es;simp only[isS,Qk,Qr,Qu]at h;refine⟨?_,by simpa [unT]using h.1.1,by simpa [unT]using h.1.2,fun r hr=>?_⟩
 ·show D.tup es=.tup ((es.map unR).map dR)
  congr 1
  rw[Zb]
  conv=>lhs;rw[←Xm es]
  exact Zc fun x hx=>(a9y (h.2 x hx)).1
 ·obtain⟨x,hx,rfl⟩:=Zx.mp hr
  have:=(a9y (h.2 x hx)).2;simp only[unT,Qw]
  omega
theorem c0L(l:List Int):(l.map D.int).map unI=l:=by rw[Zb];exact Xm l
theorem c0M(l:List Int):unR (dR l)=l:=c0L l
theorem a6x(R:OI):unT (dT R)=R:=by
 show(R.map dR).map unR=R;rw[Zb]
 conv=>rhs;rw[←Xm R]
 exact Zc fun r _=>c0M r
theorem b2J(l:List Int):isR (dR l) l.length=true:=by
 simp[isR,dR,isW]
theorem b2K{R:OI}{a b:Int}(h1:a≤R.length)(h2:(R.length:Int)≤b)(h:∀r∈R,r.length=R.length):isS (dT R) a b=true:=by
 simp only[isS,dT,Qw,Qk,Qr,Qu];refine⟨⟨h1,h2⟩,fun x hx=>?_⟩
 obtain⟨r,hr,rfl⟩:=Zx.mp hx;have:=b2J r;rw[h r hr]at this;exact this
theorem a4a{α:Type}{xs:List α}{j:Nat}{x:α}(h:xs[j]? =some x):atI xs (j:Int)=some x:=by
 have hj:j<xs.length:=(Qb.mp h).1
 unfold atI ixN;rw[Qg (by omega),Qg (by omega)]
 simpa using h
theorem a6y(n:Nat):a0e 0 n=(List.range n).map fun(i:Nat)=>D.int i:=by
 unfold a0e;exact Zc fun i _=>by simp
theorem a4Y{α:Type}{g:OZ}{m:Mo D}{P:Env'->Prop}{q:α->D}{f:α->D}{l:List α}{env:Env'}(h:∀a∈l,∀e,P e->∃e1 e2,g (q a) e=some e1/\m e1=some (f a,e2)/\P e2)(p:P env):
  ∃env',j7_ g x7_ m (l.map q) env=some (l.map f,env')/\P env':=by
 induction l generalizing env with
 |nil=>exact⟨env,rfl,p⟩
 |cons a l ih=>
  obtain⟨e1,e2,h1,h2,h3⟩:=h a (by simp) env p
  obtain⟨e3,h4,h5⟩:=ih (fun x hx=>h x (by simp[hx])) h3
  refine⟨e3,?_,h5⟩;rw[Qy,Qy];unfold j7_;rw[h1];simp only[Qj,x7_,Zm];rw[h2];simp only[Qj];rw[h4];rfl
def flip(n:Nat)(R:OI):OI:=(List.range n).map fun j=>R.map fun r=>r.getD j 0
theorem c0N{R:OI}{n:Nat}(h:∀r∈R,r.length=n){j:Nat}(hj:j<n){r:List Int}(hr:r∈R):dIx (dR r) (.int (j:Int))=some (.int (r.getD j 0)):=by
 show atI (r.map D.int) (j:Int)=_
 apply a4a
 have:=h r hr
 simp[Yk (show j<r.length by omega)]
theorem b2L{R:OI}{n:Nat}(hR:R≠[])(h:∀r∈R,r.length=n)(hn:n≤1000)(hl:R.length≤1000):a0Z [.dat (dT R)]=some (.d (dT (flip n R)),[.dat (dT R)]):=by
 obtain⟨r0,R',rfl⟩:∃r0 R',R=r0::R':=by
  cases R with
  |nil=>exact absurd rfl hR
  |cons a b=>exact⟨a,b,rfl⟩
 have h0:r0.length=n:=h r0 (by simp)
 have inner:∀j,j<n->(mCB a0S (z5_ (mF (y9_ (y6_ (z0_ 0)) [false,true] 1 (gN 2) x7_ (z2_ dIx (z0_ 2) (z0_ 1)))) z7_)) [.dat (dT (r0::R')),.dat (.int (j:Int))]=some (dR ((r0::R').map fun r=>r.getD j 0),[.dat (dT (r0::R')),.dat (.int (j:Int))]):=fun j hj=>by
  obtain⟨e',h1,w',rfl⟩:=a4Y (g:=gN 2) (m:=z2_ dIx (z0_ 2) (z0_ 1)) (P:=fun e=>∃w,e=[.nil,.dat (.int (j:Int)),w]) (q:=dR) (f:=fun r=>.int (r.getD j 0)) (l:=r0::R') (env:=[.nil,.dat (.int (j:Int)),.nil])
   (fun r hr e ⟨w,he⟩=>by
    subst he;refine⟨[.nil,.dat (.int (j:Int)),.dat (dR r)],[.nil,.dat (.int (j:Int)),.dat (dR r)],rfl,?_,_,rfl⟩;show(dIx (dR r) (.int (j:Int))).map _=_;rw[c0N h hj hr];rfl) ⟨.nil,rfl⟩
  have hl':((r0::R').map dR).length≤100000:=by rw[Qw];omega
  have c:(y9_ (y6_ (z0_ 0)) [false,true] 1 (gN 2) x7_ (z2_ dIx (z0_ 2) (z0_ 1))) [.dat (dT (r0::R')),.dat (.int (j:Int))]=some ((r0::R').map fun r=>.int (r.getD j 0),[.dat (dT (r0::R')),.dat (.int (j:Int))]):=by
   show(if((r0::R').map dR).length≤100000 then(j7_ _ _ _ ((r0::R').map dR) [.nil,.dat (.int (j:Int)),.nil]).bind _ else none)=_
   rw[Qg hl',h1];rfl
  unfold mCB z5_ mF;rw[c];show some (D.tup _,_)=_;unfold dR;rw[Zb];rfl
 obtain⟨e',h1,w,rfl⟩:=a4Y (g:=gN 1) (m:=mCB a0S (z5_ (mF (y9_ (y6_ (z0_ 0)) [false,true] 1 (gN 2) x7_ (z2_ dIx (z0_ 2) (z0_ 1)))) z7_)) (P:=fun e=>∃w,e=[.dat (dT (r0::R')),w]) (q:=fun(j:Nat)=>D.int j) (f:=fun j=>dR ((r0::R').map fun r=>r.getD j 0)) (l:=List.range n) (env:=[.dat (dT (r0::R')),.nil])
  (fun j hj e ⟨w,he⟩=>by
   subst he;exact⟨_,_,rfl,inner j (Zt.mp hj),_,rfl⟩) ⟨.nil,rfl⟩
 refine(x9_ (d:=dT (flip n (r0::R'))) (env:=[.dat (dT (r0::R'))]) ?_).trans rfl;show a8X [.dat (dT (r0::R'))]=_;unfold a8X;have hrg:(a0m (z5_ (mCB k2_ (z5_ (z2_ dIx (z0_ 0) (mC (.int 0))) z7_)) z7_)) [.dat (dT (r0::R'))]=some (a0e 0 n,[.dat (dT (r0::R'))]):=by
  have e:(z5_ (mCB k2_ (z5_ (z2_ dIx (z0_ 0) (mC (.int 0))) z7_)) z7_) [.dat (dT (r0::R'))]=some ([.int (n:Int)],[.dat (dT (r0::R'))]):=by
   refine x1_ (g3_ (x1_ (q4_ rfl rfl (show dIx (dT (r0::R')) (.int 0)=some (dR r0)from a4a (xs:=(r0::R').map dR) (j:=0) rfl)) rfl) ?_) rfl
   show some (D.int ((r0.map D.int).length:Nat))=_;rw[Qw,h0]
  have:=a7Q e (by omega) (by omega)
  rwa [Yn]at this
 have c:(y9_ (a0m (z5_ (mCB k2_ (z5_ (z2_ dIx (z0_ 0) (mC (.int 0))) z7_)) z7_)) [true] 1 (gN 1) x7_ (mCB a0S (z5_ (mF (y9_ (y6_ (z0_ 0)) [false,true] 1 (gN 2) x7_ (z2_ dIx (z0_ 2) (z0_ 1)))) z7_))) [.dat (dT (r0::R'))]=some ((List.range n).map fun j=>dR ((r0::R').map fun r=>r.getD j 0),[.dat (dT (r0::R'))]):=by
  refine a2o (e2:=[.dat (dT (r0::R')),w]) hrg (by rw[a6y];simp;omega) ?_ rfl
  rw[a6y];exact h1
 refine j3_ (g3_ (x1_ (a0g c) rfl) ?_);show some (D.tup _)=_;unfold dT flip;rw[Zb];rfl
def tt:Int->List Int->Bool
 |s,[]=>s==1
 |s,x::l=>(s+x==0||s+x==1)&&tt (s+x) l
abbrev a1c:Mo Fl:=(z9_ (g1_ 1 a1J (z0_ 2)) (y2_ (mT (z2_ (dIn true) (z0_ 1) (y4_ (z5_ (mC (.int 0)) (z5_ (mC (.int 1)) z7_))))) (v3_ (mC (.bl false))) mNx))
theorem c0O(L:D)(s x:Int):a1c [.dat L,.dat (.int s),.dat (.int x)]=some (stop (s+x==0||s+x==1) (.bl false),[.dat L,.dat (.int (s+x)),.dat (.int x)]):=by
 have t:(mT (z2_ (dIn true) (z0_ 1) (y4_ (z5_ (mC (.int 0)) (z5_ (mC (.int 1)) z7_))))) [.dat L,.dat (.int (s+x)),.dat (.int x)]=some (!(s+x==0||s+x==1),[.dat L,.dat (.int (s+x)),.dat (.int x)]):=by
  show some (!(List.contains [(0:Int),1] (s+x)),_)=_;rw[Ye,Ye,List.contains_nil,Bool.or_false]
 unfold a1c;rw[j1_ (e1:=[.dat L,.dat (.int (s+x)),.dat (.int x)]) rfl];cases hb:(s+x==0||s+x==1)with
 |true=>rw[hb]at t;rw[a2m t];rfl
 |false=>rw[hb]at t;rw[a2l t];rfl
theorem b2M(L:D):∀(l:List Int) (s:Int) (w:W),(∃s' w',loop (gN 2) a1c (l.map .int) [.dat L,.dat (.int s),w]=some (.nx,[.dat L,.dat (.int s'),w'])/\tt s l=(s'==1))∨(tt s l=false/\∃e,loop (gN 2) a1c (l.map .int) [.dat L,.dat (.int s),w]=some (.ret (.bl false),e)/\e.length=3/\e[0]? =some (.dat L))
 |[],s,w=>.inl ⟨s,w,rfl,rfl⟩
 |x::l,s,w=>by
  have h:=c0O L s x
  cases hb:(s+x==0||s+x==1)with
  |true=>
   rw[hb]at h;have e:∀r,loop (gN 2) a1c ((x::l).map .int) [.dat L,.dat (.int s),w]=r↔loop (gN 2) a1c (l.map .int) [.dat L,.dat (.int (s+x)),.dat (.int x)]=r:=fun r=>by
    rw[Qy];have:loop (gN 2) a1c (D.int x::l.map .int) [.dat L,.dat (.int s),w]=loop (gN 2) a1c (l.map .int) [.dat L,.dat (.int (s+x)),.dat (.int x)]:=by
     show(a1c [.dat L,.dat (.int s),.dat (.int x)]).bind _=_;rw[h];rfl
    rw[this]
   have et:tt s (x::l)=tt (s+x) l:=by simp[tt,hb]
   rw[et]
   rcases b2M L l (s+x) (.dat (.int x))with⟨s',w',h1,h2⟩|⟨h1,e',h2,h3⟩
   ·exact .inl ⟨s',w',(e _).mpr h1,h2⟩
   ·exact .inr ⟨h1,e',(e _).mpr h2,h3⟩
  |false=>
   rw[hb]at h;refine .inr ⟨by simp[tt,hb],[.dat L,.dat (.int (s+x)),.dat (.int x)],?_,rfl,rfl⟩
   rw[Qy];show(a1c [.dat L,.dat (.int s),.dat (.int x)]).bind _=_;rw[h];rfl
theorem c0P(l:List Int):a2V [.dat (dR l)]=some (.d (.bl (tt 0 l)),[.dat (dR l)]):=by
 have hi:(j8_ (y6_ (z0_ 0)) (gN 2) a1c) [.dat (dR l),.dat (.int 0),.nil]=loop (gN 2) a1c (l.map .int) [.dat (dR l),.dat (.int 0),.nil]:=rfl
 rcases b2M (dR l) l 0 .nil with⟨s',w',h1,h2⟩|⟨h1,e',h2,h3,h4⟩
 ·refine(x9_ (d:=.bl (tt 0 l)) (env:=[.dat (dR l),.dat (.int s'),w']) ?_).trans rfl
  show a4M [.dat (dR l),.nil,.nil]=_;unfold a4M;rw[j1_ (e1:=[.dat (dR l),.dat (.int 0),.nil]) rfl,j1_ (hi.trans h1)];show some (Fl.ret (.bl (s'==1)),_)=_;rw[h2]
 ·refine(x9_ (d:=.bl (tt 0 l)) (env:=e') ?_).trans ?_
  ·show a4M [.dat (dR l),.nil,.nil]=_
   unfold a4M;rw[j1_ (e1:=[.dat (dR l),.dat (.int 0),.nil]) rfl,a1z (hi.trans h2),h1]
  ·match e',h3,h4 with
   |[a,b,c],_,h4=>cases h4;rfl
def isT(d:D):Bool:=isS d 1 6&&(unT d++flip (unT d).length (unT d)).all (tt 0)
theorem b2N{n:Nat}{R:OI}:(flip n R).length=n:=by simp[flip]
theorem c0Q(d:D):a6l [.dat d]=some (.d (.bl (isT d)),[.dat d]):=by
 have t:(w4_ (mT (mCD 3 a3S (z4_ (z0_ 0) (z4_ (mC (.int 1)) (z4_ (mC (.int 6)) z6_)))))) [.dat d]=some (!isS d 1 6,[.dat d]):=by
  show((((a3S [.dat d,.dat (.int 1),.dat (.int 6)]).map fun q=>(q.1,_)).bind asD).bind asB).map _=_
  rw[c0I d 1 6 (by decide)];rfl
 refine(x9_ (d:=.bl (isT d)) (env:=[.dat d]) ?_).trans rfl;show a9b [.dat d]=_;unfold a9b;cases hs:isS d 1 6 with
 |false=>
  rw[hs]at t;rw[a1z (d:=.bl false) (by rw[a2l t];rfl)]
  simp[isT,hs]
 |true=>
  rw[hs]at t;rw[j1_ (by rw[a2m t];rfl)]
  obtain⟨h1,h2,h3,h4⟩:=b2I hs;generalize unT d=R at h1 h2 h3 h4;subst h1;have fl:a0Z [.dat (dT R)]=some (.d (dT (flip R.length R)),[.dat (dT R)]):=b2L (by intro z;subst z;simp at h2) h4 (by omega) (by omega)
  have it:(y6_ (z2_ v8_ (z0_ 0) (mCD 1 a0Z (z4_ (z0_ 0) z6_)))) [.dat (dT R)]=some ((R++flip R.length R).map dR,[.dat (dT R)]):=by
   show(((((a0Z [.dat (dT R)]).map fun q=>(q.1,_)).bind asD).bind fun q=>(v8_ (dT R) q.1).map fun d=>(d,q.2)).bind _)=_
   rw[fl];show((v8_ (dT R) (dT (flip R.length R))).map fun d=>(d,([.dat (dT R)]:Env'))).bind _=_
   have:v8_ (dT R) (dT (flip R.length R))=some (.tup ((R++flip R.length R).map dR)):=by
    show(if(R.map dR).length+((flip R.length R).map dR).length≤10000 then _ else none)=_
    rw[Qg (by rw[Qw,Qw,b2N];omega),Zg]
   rw[this];rfl
  obtain⟨e',h5,w,rfl⟩:=a4Y (g:=gN 1) (m:=mCD 1 a2V (z4_ (z0_ 1) z6_)) (P:=fun e=>∃w,e=[.nil,w]) (q:=dR) (f:=fun r=>.bl (tt 0 r)) (l:=R++flip R.length R) (env:=[.nil,.nil])
   (fun r _ e ⟨w,he⟩=>by
    subst he;refine⟨[.nil,.dat (dR r)],[.nil,.dat (dR r)],rfl,?_,_,rfl⟩;show((a2V [.dat (dR r)]).map fun q=>(q.1,_)).bind asD=_
    rw[c0P];rfl) ⟨.nil,rfl⟩
  have c:(y9_ (y6_ (z2_ v8_ (z0_ 0) (mCD 1 a0Z (z4_ (z0_ 0) z6_)))) [false] 1 (gN 1) x7_ (mCD 1 a2V (z4_ (z0_ 1) z6_))) [.dat (dT R)]=some ((R++flip R.length R).map fun r=>.bl (tt 0 r),[.dat (dT R)]):=by
   unfold y9_;rw[it];show(if((R++flip R.length R).map dR).length≤100000 then(j7_ _ _ _ ((R++flip R.length R).map dR) [.nil,.nil]).bind _ else none)=_
   rw[Qg (by rw[Qw,Zz,b2N];omega),h5];rfl
  unfold v3_ mCB z5_ mF;rw[c];show(((a1i ((R++flip R.length R).map fun r=>.bl (tt 0 r))).map fun k=>D.bl k).map _).map _=_
  rw[a5U];simp only[isT,hs,a6x,Vv];rfl
theorem a4b{i j:Int}(h:a1d i j=true):y0_ (.int i) (.int j)=some (.int (i * j)):=by
 unfold y0_ fOr a5A fI;simp only[h,Zm]
theorem a4Z{i j:Int}(h1: -18446744073709551616<i)(h2:i<18446744073709551616):a1d i j=true:=by
 unfold a1d;rw[show((2:Int)^64)=18446744073709551616 from rfl]
 simp[h1,h2]
theorem c0R{i j:Int}(h1: -18446744073709551616<j)(h2:j<18446744073709551616):a1d i j=true:=by
 unfold a1d;rw[show((2:Int)^64)=18446744073709551616 from rfl]
 simp[h1,h2]
theorem a3b:∀l:List Int,x0_ (l.map D.int)=l.map PyData.int
 |[]=>rfl
 |x::l=>by show PyData.int x::x0_ (l.map D.int)=_;rw[a3b l];rfl
theorem a2Q:∀l:List Int,PyData.canLayAll0 (l.map PyData.int)=true
 |[]=>rfl
 |x::l=>by show(true&&PyData.canLayAll0 (l.map PyData.int))=true;rw[a2Q l];rfl
theorem a6z:∀l:List Int,PyData.depthAll (l.map PyData.int)=0
 |[]=>rfl
 |x::l=>by show max 0 (PyData.depthAll (l.map PyData.int))=0;rw[a6z l];rfl
theorem b2O:∀l k:List Int,PyData.eqvAll (l.map PyData.int) (k.map PyData.int)=decide (l=k)
 |[],[]=>rfl
 |[],_::_=>rfl
 |_::_,[]=>rfl
 |x::l,y::k=>by
  show((x==y)&&PyData.eqvAll (l.map PyData.int) (k.map PyData.int))=_;rw[b2O l k]
  by_cases h:x=y
  ·subst h;simp
  ·simp[h]
theorem c0S{i j k:Int}(h:a5z i j=true)(e:i^j.toNat=k):a2a (.int i) (.int j)=some (.int k):=by
 show(if a5z i j=true then some (D.int (i^j.toNat))else none)=_
 rw[Qg h,e]
theorem b2P:a2a (.int 10) (.int 18)=some (.int 1000000000000000000):=c0S (by decide+kernel) (by decide+kernel)
theorem a6A{a m:Int}{b:Bool}(ha:0≤a)(h1:1≤m)(h2:m<1073741824):∃v a',g4_ [.par [.int a,.bl b],.dat (.int m)]=some (.d (.int v),[.par [.int a',.bl b],.dat (.int m)])/\0≤v/\v<m/\0≤a':=by
 have dm:∀x:Int,a0b (.int x) (.int m)=some (.int (x%m)):=fun x=>by
  show(if decide (0<m)=true then _ else none)=_
  rw[Qg (by simp;omega)]
 have dd:∀x:Int,a1I (.int x) (.int m)=some (.int (x/m)):=fun x=>by
  show(if a3p x m=true then _ else none)=_
  rw[Qg (by unfold a3p;simp;omega)]
 cases b with
 |true=>
  refine⟨a%m,a/m,?_,Jo _ (by omega),Us _ (by omega),Int.ediv_nonneg ha (by omega)⟩
  refine(x9_ (d:=.int (a%m)) (env:=[.par [.int (a/m),.bl true],.dat (.int m),.nil,.dat (.int (a%m))]) ?_).trans rfl;show a4W [.par [.int a,.bl true],.dat (.int m),.nil,.nil]=_;unfold a4W;have t:(mT (j9_ 0 (mC (.int 1)))) [.par [.int a,.bl true],.dat (.int m),.nil,.nil]=some (true,[.par [.int a,.bl true],.dat (.int m),.nil,.nil]):=rfl;have s1:(v2_ 3 (z2_ a0b (j9_ 0 (mC (.int 0))) (z0_ 1))) [.par [.int a,.bl true],.dat (.int m),.nil,.nil]=some (.nx,[.par [.int a,.bl true],.dat (.int m),.nil,.dat (.int (a%m))]):=a0h (e1:=[.par [.int a,.bl true],.dat (.int m),.nil,.nil]) (q4_ rfl rfl (dm a));have s2:(w8_ (z2_ a1I (j9_ 0 (mC (.int 0))) (z0_ 1)) (gS 0 (mC (.int 0)))) [.par [.int a,.bl true],.dat (.int m),.nil,.dat (.int (a%m))]=some (.nx,[.par [.int (a/m),.bl true],.dat (.int m),.nil,.dat (.int (a%m))]):=by
   unfold w8_;rw[q4_ (c:=.int (a/m)) rfl rfl (dd a)];rfl
  rw[a1z (d:=.int (a%m)) (by rw[a2l t,j1_ s1,j1_ s2];rfl)]
 |false=>
  have e1:∀x:Int,y0_ (.int x) (.int 48271)=some (.int (x * 48271)):=fun x=>a4b (c0R (by decide) (by decide))
  have md:∀(x k:Int),0<k->a0b (.int x) (.int k)=some (.int (x%k)):=fun x k hk=>by
   show(if decide (0<k)=true then _ else none)=_
   rw[Qg (by simp;omega)]
  let p:Int:=(a * 48271+29)%2147483647
  have hp:0≤p/\p<2147483647:=⟨Jo _ (by decide),Us _ (by decide)⟩
  let q:Int:=(p * p+39373 * p+7)%2147483629
  have hq:0≤q/\q<2147483629:=⟨Jo _ (by decide),Us _ (by decide)⟩
  let r:Int:=(q * q+16807 * q)%2147483587
  have hr:0≤r:=Jo _ (by decide)
  refine⟨r/8%m,p,?_,Jo _ (by omega),Us _ (by omega),hp.1⟩
  refine(x9_ (d:=.int (r/8%m)) (env:=[.par [.int p,.bl false],.dat (.int m),.dat (.int r),.nil]) ?_).trans rfl;show a4W [.par [.int a,.bl false],.dat (.int m),.nil,.nil]=_;unfold a4W;have t:(mT (j9_ 0 (mC (.int 1)))) [.par [.int a,.bl false],.dat (.int m),.nil,.nil]=some (false,[.par [.int a,.bl false],.dat (.int m),.nil,.nil]):=rfl;have s1:(w8_ (z2_ a0b (z2_ v8_ (z2_ y0_ (j9_ 0 (mC (.int 0))) (mC (.int 48271))) (mC (.int 29))) (mC (.int 2147483647))) (gS 0 (mC (.int 0)))) [.par [.int a,.bl false],.dat (.int m),.nil,.nil]=some (.nx,[.par [.int p,.bl false],.dat (.int m),.nil,.nil]):=by
   unfold w8_;rw[q4_ (c:=.int p) (q4_ (c:=.int (a * 48271+29)) (q4_ rfl rfl (e1 a)) rfl rfl) rfl (md _ _ (by decide))];rfl
  have s2:(v2_ 2 (z2_ a0b (z2_ v8_ (z2_ v8_ (z2_ y0_ (j9_ 0 (mC (.int 0))) (j9_ 0 (mC (.int 0)))) (z2_ y0_ (mC (.int 39373)) (j9_ 0 (mC (.int 0))))) (mC (.int 7))) (mC (.int 2147483629)))) [.par [.int p,.bl false],.dat (.int m),.nil,.nil]=some (.nx,[.par [.int p,.bl false],.dat (.int m),.dat (.int q),.nil]):=
   a0h (e1:=[.par [.int p,.bl false],.dat (.int m),.nil,.nil]) (q4_ (c:=.int q) (q4_ (c:=.int (p * p+39373 * p+7)) (q4_ (c:=.int (p * p+39373 * p)) (q4_ rfl rfl (a4b (i:=p) (j:=p) (a4Z (by omega) (by omega)))) (q4_ rfl rfl (a4b (i:=39373) (j:=p) (a4Z (by decide) (by decide)))) rfl) rfl rfl) rfl (md _ _ (by decide)))
  have s3:(v2_ 2 (z2_ a0b (z2_ v8_ (z2_ y0_ (z0_ 2) (z0_ 2)) (z2_ y0_ (mC (.int 16807)) (z0_ 2))) (mC (.int 2147483587)))) [.par [.int p,.bl false],.dat (.int m),.dat (.int q),.nil]=some (.nx,[.par [.int p,.bl false],.dat (.int m),.dat (.int r),.nil]):=
   a0h (e1:=[.par [.int p,.bl false],.dat (.int m),.dat (.int q),.nil]) (q4_ (c:=.int r) (q4_ (c:=.int (q * q+16807 * q)) (q4_ rfl rfl (a4b (i:=q) (j:=q) (a4Z (by omega) (by omega)))) (q4_ rfl rfl (a4b (i:=16807) (j:=q) (a4Z (by decide) (by decide)))) rfl) rfl (md _ _ (by decide)))
  rw[j1_ (by rw[a2m t];rfl),j1_ s1,j1_ s2,j1_ s3]
  exact j3_ (q4_ (c:=.int (r/8%m)) (q4_ (c:=.int (r/8)) rfl rfl rfl) rfl (dm _))
theorem c0T(ns:List Int)(k:Nat)(hk:k<1000):∃c,a4T [.dat (.lst (ns.map .int)),.dat (.int k)]=some (.d (.int c),[.dat (.lst (ns.map .int)),.dat (.int k)]):=by
 have t:(mT (z2_ dLt (z0_ 1) (mCB k2_ (z5_ (z0_ 0) z7_)))) [.dat (.lst (ns.map .int)),.dat (.int k)]=some (decide ((k:Int)<(ns.length:Int)),[.dat (.lst (ns.map .int)),.dat (.int k)]):=by
  show some (decide ((k:Int)<((ns.map D.int).length:Nat)),_)=_;rw[Qw]
 by_cases h:k<ns.length
 ·have hd:decide ((k:Int)<(ns.length:Int))=true:=by simp;omega
  rw[hd]at t;refine⟨ns[k],(x9_ (d:=.int ns[k]) (env:=[.dat (.lst (ns.map .int)),.dat (.int k)]) ?_).trans rfl⟩;show a4S [.dat (.lst (ns.map .int)),.dat (.int k)]=_;unfold a4S;rw[a1z (d:=.int ns[k]) (by
   rw[a2l t];exact j3_ (q4_ rfl rfl (show atI (ns.map D.int) (k:Int)=_ from a4a (by simp[h]))))]
 ·have hd:decide ((k:Int)<(ns.length:Int))=false:=by simp;omega
  rw[hd]at t;refine⟨0,(x9_ (d:=.int 0) (env:=[.dat (.lst (ns.map .int)),.dat (.int k)]) ?_).trans rfl⟩;show a4S [.dat (.lst (ns.map .int)),.dat (.int k)]=_;unfold a4S;rw[j1_ (by rw[a2m t];rfl)];rfl
theorem c0U(ns:List Int)(k:Nat)(hk:k<1000):∃a b,0≤a/\a4V [.dat (.lst (ns.map .int)),.dat (.int k)]=some (.l [.int a,.bl b],[.dat (.lst (ns.map .int)),.dat (.int k)]):=by
 obtain⟨c,hc⟩:=c0T ns k hk;have s1:(v2_ 2 (mCD 2 a4T (z4_ (z0_ 0) (z4_ (z0_ 1) z6_)))) [.dat (.lst (ns.map .int)),.dat (.int k),.nil]=some (.nx,[.dat (.lst (ns.map .int)),.dat (.int k),.dat (.int c)]):=
  a0h (e1:=[.dat (.lst (ns.map .int)),.dat (.int k),.nil]) (a0z (a0y (av:=[.d (.lst (ns.map .int)),.d (.int k)]) rfl rfl rfl hc))
 have t:(mT (z2_ dGe (z0_ 2) (z2_ a2a (mC (.int 10)) (mC (.int 18))))) [.dat (.lst (ns.map .int)),.dat (.int k),.dat (.int c)]=some (decide (1000000000000000000≤c),[.dat (.lst (ns.map .int)),.dat (.int k),.dat (.int c)]):=by
  refine w2_ (q4_ (b:=.int 1000000000000000000) rfl ?_ rfl);exact q4_ rfl rfl b2P
 by_cases h:1000000000000000000≤c
 ·rw[Qe h]at t
  refine⟨c-1000000000000000000,true,by omega,(a5V (d:=[.int (c-1000000000000000000),.bl true]) (env:=[.dat (.lst (ns.map .int)),.dat (.int k),.dat (.int c)]) ?_).trans rfl⟩
  show a4U [.dat (.lst (ns.map .int)),.dat (.int k),.nil]=_;unfold a4U;rw[j1_ s1];have r:(a1w (a1v (z5_ (z2_ k4_ (z0_ 2) (z2_ a2a (mC (.int 10)) (mC (.int 18)))) (z5_ (mC (.bl true)) z7_)))) [.dat (.lst (ns.map .int)),.dat (.int k),.dat (.int c)]=some (.retL [.int (c-1000000000000000000),.bl true],[.dat (.lst (ns.map .int)),.dat (.int k),.dat (.int c)]):=by
   have b:=q4_ (f:=k4_) (ma:=z0_ 2) (mb:=z2_ a2a (mC (.int 10)) (mC (.int 18))) (env:=[.dat (.lst (ns.map .int)),.dat (.int k),.dat (.int c)]) (b:=.int 1000000000000000000) (c:=.int (c-1000000000000000000)) rfl (q4_ rfl rfl b2P) rfl
   refine a7R ?_
   unfold a1v;rw[x1_ b (x1_ rfl rfl)];rfl
  unfold z9_;rw[a2l t,r];rfl
 ·rw[Qs h]at t
  refine⟨c%2147483647,false,Jo _ (by decide),(a5V (d:=[.int (c%2147483647),.bl false]) (env:=[.dat (.lst (ns.map .int)),.dat (.int k),.dat (.int c)]) ?_).trans rfl⟩
  show a4U [.dat (.lst (ns.map .int)),.dat (.int k),.nil]=_;unfold a4U;rw[j1_ s1,j1_ (by rw[a2m t];rfl)];rfl
def bits:Nat->OI
 |0=>[[]]
 |n+1=>(bits n).map (fun l=>0::l)++(bits n).map (fun l=>1::l)
def q5_(h r:List Int):List Int:=List.zipWith (· + ·) h r
def b2Q(h:List Int)(d:D):Bool:=isR d h.length&&(tt 0 (unR d)&&(q5_ h (unR d)).all fun x=>x==0||x==1)
def chk(h:List Int):Bool:=match a2Y [.dat (dR h)]with
 |some (.l ds,_)=>ds.all (b2Q h)&&((h.all fun x=>x==1)||(decide (1≤ds.length)&&decide (ds.length≤1000)))
 |_=>false
theorem c0V:(bits 1).all chk=true:=by decide+kernel
theorem c0W:(bits 2).all chk=true:=by decide+kernel
theorem c0X:(bits 3).all chk=true:=by decide+kernel
theorem c0Y:(bits 4).all chk=true:=by decide+kernel
theorem c0Z:(bits 5).all chk=true:=by decide+kernel
theorem c1a:(bits 6).all chk=true:=by decide+kernel
end K83
namespace L2.Mir
open PySem L2
abbrev rgD(n:Nat):List D:=(List.range n).map fun(i:Nat)=>D.int (i:Int)
theorem c1b(n:Nat):a0e 0 n=rgD n:=by
 unfold a0e rgD;exact Zc fun i _=>by simp
theorem a9z{M:Mo D}{e e1:Env'}{n:Nat}{j:Int}(hM:M e=some (.int j,e1))(hj:j=(n:Int))(hn:n≤10000):a0m (z5_ M z7_) e=some (rgD n,e1):=by
 subst hj;have:=a7Q (ms:=z5_ M z7_) (env:=e) (e1:=e1) (j:=(n:Int)) (by unfold z5_ z7_;rw[hM];rfl) (by omega) (by omega)
 rw[this,Yn,c1b]
theorem c1c{base:Env'}{w v:W}{k:Nat}(h:base.length=k):(base++[w]).set k v=base++[v]:=by
 subst h;simp
theorem c1d{base:Env'}{w w2 v v2:W}{k:Nat}(h:base.length=k):((base++[w,w2]).set k v).set (k+1) v2=base++[v,v2]:=by
 subst h;rw[List.set_append_right _ _ (Qp _),Nat.sub_self,List.set_append_right _ _ (by omega)]
 simp
theorem b2R{α:Type}{t:Mo Bool}{m:Mo D}{base:Env'}{q f:α->D}{p:α->Bool}{k:Nat}(hk:base.length=k):∀{l:List α},(∀a∈l,t (base++[.dat (q a)])=some (p a,base++[.dat (q a)])/\(p a=true->m (base++[.dat (q a)])=some (f a,base++[.dat (q a)])))->∀w,∃w',j7_ (gN k) t m (l.map q) (base++[w])=some ((l.filter p).map f,base++[w'])
 |[],_,w=>⟨w,rfl⟩
 |a::l,h,w=>by
  obtain⟨h1,h2⟩:=h a (by simp)
  obtain⟨w',e⟩:=b2R hk (l:=l) (fun x hx=>h x (by simp[hx])) (.dat (q a))
  refine⟨w',?_⟩;rw[Qy];unfold j7_ gN;rw[Qj,c1c hk,h1,Qj];cases hp:p a with
  |false=>simp only[Zj,Yc];rw[Zl (by simp[hp])];exact e
  |true=>
   simp only[Zm];rw[h2 hp,Qj,Zp hp,Qy];show(j7_ (gN k) t m (l.map q) (base++[.dat (q a)])).map _=_;rw[e];rfl
theorem b2S{α:Type}{mi:Mo (List D)}{keep:List Bool}{t:Mo Bool}{m:Mo D}{env base:Env'}{l:List α}{q f:α->D}{p:α->Bool}{k:Nat}(hi:mi env=some (l.map q,env))(hl:l.length≤100000)(hb:g0_ keep 0 env=base)(hk:base.length=k)
  (h:∀a∈l,t (base++[.dat (q a)])=some (p a,base++[.dat (q a)])/\(p a=true->m (base++[.dat (q a)])=some (f a,base++[.dat (q a)])))(ho:∀w,j6_ keep env (base++[w])=some env):y9_ mi keep 1 (gN k) t m env=some ((l.filter p).map f,env):=by
 obtain⟨w',e⟩:=b2R hk h .nil;refine a2o hi (by simpa using hl) (e2:=base++[w']) ?_ (ho w')
 have:g0_ keep 1 env=base++[.nil]:=by rw[←hb];unfold g0_;simp
 rw[this];exact e
theorem c1e{α:Type}{mi:Mo (List D)}{keep:List Bool}{m:Mo D}{env base:Env'}{l:List α}{q f:α->D}{k:Nat}(hi:mi env=some (l.map q,env))(hl:l.length≤100000)(hb:g0_ keep 0 env=base)(hk:base.length=k)
  (h:∀a∈l,m (base++[.dat (q a)])=some (f a,base++[.dat (q a)]))(ho:∀w,j6_ keep env (base++[w])=some env):y9_ mi keep 1 (gN k) x7_ m env=some (l.map f,env):=by
 have:=b2S (p:=fun _=>true) (t:=x7_) hi hl hb hk (fun a ha=>⟨rfl,fun _=>h a ha⟩) ho
 rw[this,Ug.mpr (fun _ _=>rfl)]
theorem a5a{α:Type}{t:Mo Bool}{m:Mo D}{base:Env'}{q q2 f:α->D}{p:α->Bool}{k:Nat}(hk:base.length=k):∀{l:List α},(∀a∈l,t (base++[.dat (q a),.dat (q2 a)])=some (p a,base++[.dat (q a),.dat (q2 a)])/\(p a=true->m (base++[.dat (q a),.dat (q2 a)])=some (f a,base++[.dat (q a),.dat (q2 a)])))->∀w w2,∃w' w2',j7_ (gT 2 (gCn (gN k) (gCn (gN (k+1)) gNl))) t m (l.map fun a=>.tup [q a,q2 a]) (base++[w,w2])=some ((l.filter p).map f,base++[w',w2'])
 |[],_,w,w2=>⟨w,w2,rfl⟩
 |a::l,h,w,w2=>by
  obtain⟨h1,h2⟩:=h a (by simp)
  obtain⟨w',w2',e⟩:=a5a hk (l:=l) (fun x hx=>h x (by simp[hx])) (.dat (q a)) (.dat (q2 a))
  refine⟨w',w2',?_⟩;rw[Qy];unfold j7_;have hg:gT 2 (gCn (gN k) (gCn (gN (k+1)) gNl)) (.tup [q a,q2 a]) (base++[w,w2])=some (base++[.dat (q a),.dat (q2 a)]):=by
   show some (((base++[w,w2]).set k _).set (k+1) _)=_;rw[c1d hk]
  rw[hg,Qj,h1,Qj];cases hp:p a with
  |false=>simp only[Zj,Yc];rw[Zl (by simp[hp])];exact e
  |true=>
   simp only[Zm];rw[h2 hp,Qj,Zp hp,Qy];show(j7_ _ t m (l.map _) (base++[.dat (q a),.dat (q2 a)])).map _=_;rw[e];rfl
theorem c1f{α:Type}{mi:Mo (List D)}{keep:List Bool}{t:Mo Bool}{m:Mo D}{env base:Env'}{l:List α}{q q2 f:α->D}{p:α->Bool}{k:Nat}(hi:mi env=some (l.map (fun a=>.tup [q a,q2 a]),env))(hl:l.length≤100000)(hb:g0_ keep 0 env=base)(hk:base.length=k)
  (h:∀a∈l,t (base++[.dat (q a),.dat (q2 a)])=some (p a,base++[.dat (q a),.dat (q2 a)])/\(p a=true->m (base++[.dat (q a),.dat (q2 a)])=some (f a,base++[.dat (q a),.dat (q2 a)])))(ho:∀w w2,j6_ keep env (base++[w,w2])=some env):
  y9_ mi keep 2 (gT 2 (gCn (gN k) (gCn (gN (k+1)) gNl))) t m env=some ((l.filter p).map f,env):=by
 obtain⟨w',w2',e⟩:=a5a hk h .nil .nil;refine a2o hi (by simpa using hl) (e2:=base++[w',w2']) ?_ (ho w' w2')
 have:g0_ keep 2 env=base++[.nil,.nil]:=by rw[←hb];unfold g0_;simp
 rw[this];exact e
theorem b2T{α:Type}{mi:Mo (List D)}{keep:List Bool}{m:Mo D}{env base:Env'}{l:List α}{q q2 f:α->D}{k:Nat}(hi:mi env=some (l.map (fun a=>.tup [q a,q2 a]),env))(hl:l.length≤100000)(hb:g0_ keep 0 env=base)(hk:base.length=k)
  (h:∀a∈l,m (base++[.dat (q a),.dat (q2 a)])=some (f a,base++[.dat (q a),.dat (q2 a)]))(ho:∀w w2,j6_ keep env (base++[w,w2])=some env):y9_ mi keep 2 (gT 2 (gCn (gN k) (gCn (gN (k+1)) gNl))) x7_ m env=some (l.map f,env):=by
 have:=c1f (p:=fun _=>true) (t:=x7_) hi hl hb hk (fun a ha=>⟨rfl,fun _=>h a ha⟩) ho
 rw[this,Ug.mpr (fun _ _=>rfl)]
theorem a9A{g:OZ}{b:Mo Fl}:∀{ds:List D}{P:Nat->Env'->Prop}{env:Env'},(∀i d e,ds[i]? =some d->P i e->∃e1 e2,g d e=some e1/\b e1=some (.nx,e2)/\P (i+1) e2)->P 0 env->∃env',loop g b ds env=some (.nx,env')/\P ds.length env'
 |[],P,env,_,p=>⟨env,rfl,p⟩
 |d::ds,P,env,h,p=>by
  obtain⟨e1,e2,h1,h2,h3⟩:=h 0 d env rfl p;obtain⟨e3,h4,h5⟩:=a9A (ds:=ds) (P:=fun i e=>P (i+1) e) (fun i x e hi q=>h (i+1) x e (by simpa using hi) q) h3
  refine⟨e3,?_,h5⟩;unfold loop;rw[h1];simp only[Qj];rw[h2];exact h4
theorem a9B{g:OZ}{b:Mo Fl}{n:Nat}(P:Nat->Env'->Prop){env:Env'}(h:∀i<n,∀e,P i e->∃e1 e2,g (.int (i:Int)) e=some e1/\b e1=some (.nx,e2)/\P (i+1) e2)(p:P 0 env):∃env',loop g b (rgD n) env=some (.nx,env')/\P n env':=by
 obtain⟨e',h1,h2⟩:=a9A (ds:=rgD n) (g:=g) (b:=b) (P:=P) (env:=env) (fun i d e hi q=>by
  unfold rgD at hi;rw[Zu]at hi
  by_cases hl:i<n
  ·rw[List.getElem?_range hl]at hi
   cases hi;exact h i hl e q
  ·rw[List.getElem?_eq_none (by simpa using hl)]at hi;cases hi) p
 refine⟨e',h1,?_⟩;have:(rgD n).length=n:=by simp[rgD]
 rw[this]at h2;exact h2
theorem a9C{xs:List D}{i:Nat}:a1P xs none (some (i:Int))=xs.take i:=by
 unfold a1P;rw[HT.sIx_nat,HT.sIx_none];simp only[List.drop_zero,Nat.sub_zero]
 by_cases h:i≤xs.length
 ·rw[Nat.min_eq_left h]
 ·rw[Nat.min_eq_right (by omega),Jx (Qp _),Jx (by omega)]
theorem a5s{m:Mo D}{ml mh:Mo (Option Int)}{e:Env'}{xs:List D}{lo hi:Option Int}(h:m e=some (.tup xs,e))(h1:ml e=some (lo,e))(h2:mh e=some (hi,e)):mSl m ml mh e=some (.tup (a1P xs lo hi),e):=by
 unfold mSl;rw[h,Qj,h1,Qj,h2];rfl
theorem a1p(l:List Int):ints? (l.map D.int)=some l:=by
 induction l with
 |nil=>rfl
 |cons a l ih=>show(ints? (l.map D.int)).map _=_;rw[ih];rfl
theorem v4_{m n:Mo Fl}{e e1:Env'}{r:Option (Fl×Env')}(h:m e=some (.nx,e1))(h2:n e1=r):z9_ m n e=r:=by unfold z9_;rw[h];exact h2
theorem a5b{t:Mo Bool}{m n:Mo Fl}{e e1:Env'}{r:Option (Fl×Env')}(h:t e=some (true,e1))(h2:m e1=r):y2_ t m n e=r:=by unfold y2_;rw[h];exact h2
theorem a0i{t:Mo Bool}{m n:Mo Fl}{e e1:Env'}{r:Option (Fl×Env')}(h:t e=some (false,e1))(h2:n e1=r):y2_ t m n e=r:=by unfold y2_;rw[h];exact h2
theorem a6B{t u:Mo Bool}{e e1:Env'}{r:Option (Bool×Env')}(h:t e=some (true,e1))(h2:u e1=r):a0t t u e=r:=by unfold a0t;rw[h];exact h2
theorem b2U{t u:Mo Bool}{e e1:Env'}(h:t e=some (false,e1)):a0t t u e=some (false,e1):=by unfold a0t;rw[h];rfl
theorem y7_{n:Nat}{f:Fn}{as:Mo (List Ar)}{env e1:Env'}{av:List Ar}{r:D}{ws':List W}(h:as env=some (av,e1))(hn:av.length=n)(hs:slots av=[])(hf:f (av.map (u4_ (.l [])))=some (.d r,ws')):mCD n f as env=some (r,e1):=a0z (a0y h hn hs hf)
theorem c1g{C N:Nat}(hC:1≤C)(hC2:C≤900){body last:Mo Fl}{ns:List Int}(hb:∀k:Nat,k<1000->∀ws:List W,ws.length=N->∃ws':List W,ws'.length=N+1/\body (.dat (.lst (ns.map D.int))::.dat (.int (k:Int))::ws)=some (.nx,.dat (.lst (ns.map D.int))::ws'))
  (hl:∀ws:List W,ws.length=N+1->∃e,last (.dat (.lst (ns.map D.int))::ws)=some (.ret (.bl true),e)):
  ∃ws',fnM (N+2) (z9_ (j8_ (a0m (z5_ (mCB a1O (z5_ (mC (.int 1)) (z5_ (mCB a2J (z5_ (mCB k2_ (z5_ (z0_ 0) z7_)) (z5_ (mC (.int (C:Int))) z7_))) z7_))) z7_)) (gN 1) body) last) [.dat (.lst (ns.map D.int))]=some (.d (.bl true),ws'):=by
 obtain⟨K,hK,hr⟩:∃K:Nat,K≤C/\(a0m (z5_ (mCB a1O (z5_ (mC (.int 1)) (z5_ (mCB a2J (z5_ (mCB k2_ (z5_ (z0_ 0) z7_)) (z5_ (mC (.int (C:Int))) z7_))) z7_))) z7_)) (.dat (.lst (ns.map D.int))::List.replicate (N+1) .nil)=some (rgD K,.dat (.lst (ns.map D.int))::List.replicate (N+1) .nil):=by
  let q:Int:=if(C:Int)<(ns.length:Int)then C else(ns.length:Int)
  let p:Int:=if q>1 then q else 1
  have hq:q≤C:=by simp only[q];split<;>omega
  have hp:1≤p/\p≤C:=by simp only[p];split<;>omega
  refine⟨p.toNat,by omega,a9z (j:=p) (g3_ (x1_ rfl (x1_ (g3_ (x1_ (g3_ (x1_ rfl rfl) (show k2_ [.lst (ns.map .int)]=some (.int (ns.length:Int))from ?_)) (x1_ rfl rfl)) (show a2J [.int (ns.length:Int),.int C]=some (.int q)from rfl)) rfl)) (show a1O [.int 1,.int q]=some (.int p)from rfl)) (by omega) (by omega)⟩
  show some (D.int ((ns.map D.int).length:Nat))=_;rw[Qw]
 obtain⟨e',h1,ws,hws,rfl⟩:=a9B (g:=gN 1) (b:=body) (n:=K) (fun _ e=>∃ws:List W,ws.length=N+1/\e=.dat (.lst (ns.map D.int))::ws) (env:=.dat (.lst (ns.map D.int))::List.replicate (N+1) .nil)
  (fun i hi e ⟨ws,hw,he⟩=>by
   subst he
   match ws,hw with
   |w::ws,hw=>
    obtain⟨ws',h1,h2⟩:=hb i (by omega) ws (by simpa using hw)
    exact⟨_,_,rfl,h2,ws',h1,rfl⟩) ⟨_,by simp,rfl⟩
 obtain⟨e2,h2⟩:=hl ws hws;refine⟨_,x9_ (d:=.bl true) (env:=e2) ?_⟩;show z9_ _ _ (.dat (.lst (ns.map D.int))::List.replicate (N+1) .nil)=_;exact v4_ ((a1A hr).trans h1) h2
end L2.Mir
namespace K83
open PySem L2 L2.Mir
structure HB(h:List Int)(n:Nat):Prop where
 len:h.length=n
 bit:∀x∈h,x=0∨x=1
theorem HB.mem:∀{n:Nat}{h:List Int},HB h n->h∈bits n
 |0,h,H=>by
  have:=H.len;cases h with
  |nil=>simp[bits]
  |cons _ _=>simp at this
 |n+1,h,H=>by
  cases h with
  |nil=>have:=H.len;simp at this
  |cons x l=>
   have hl:HB l n:=⟨by have:=H.len;simpa using this,fun y hy=>H.bit y (by simp[hy])⟩
   have:=hl.mem;unfold bits;rw[Yp,Zx,Zx]
   rcases H.bit x (by simp)with rfl|rfl
   ·exact .inl ⟨l,this,rfl⟩
   ·exact .inr ⟨l,this,rfl⟩
theorem c1h{n:Nat}{h:List Int}(h1:1≤n)(h6:n≤6)(H:HB h n):chk h=true:=by
 have hm:=H.mem
 match n,h1,h6 with
 |1,_,_=>exact Qu.mp c0V h hm
 |2,_,_=>exact Qu.mp c0W h hm
 |3,_,_=>exact Qu.mp c0X h hm
 |4,_,_=>exact Qu.mp c0Y h hm
 |5,_,_=>exact Qu.mp c0Z h hm
 |6,_,_=>exact Qu.mp c1a h hm
structure LineOk(h r:List Int):Prop where
 len:r.length=h.length
 tt:tt 0 r=true
 bit:∀x∈q5_ h r,x=0∨x=1
theorem c1i{n:Nat}{h:List Int}(h1:1≤n)(h6:n≤6)(H:HB h n)(hs:∃x∈h,x≠1):∃(rows:OI) (ws':List W),a2Y [.dat (dR h)]=some (.l (rows.map dR),ws')/\1≤rows.length/\rows.length≤1000/\∀r∈rows,LineOk h r:=by
 have hc:=c1h h1 h6 H
 unfold chk at hc;split at hc
 ·rename_i ds ws' e
  rw[Qk]at hc;have hl:1≤ds.length/\ds.length≤1000:=by
   have h2:=hc.2
   rw[Vl]at h2
   rcases h2 with h2|h2
   ·obtain⟨x,hx,hne⟩:=hs
    have:=Qu.mp h2 x hx
    simp at this
    exact absurd this hne
   ·rw[Qk,Qr,Qr]at h2
    exact h2
  have ok:∀d∈ds,d=dR (unR d)/\LineOk h (unR d):=fun d hd=>by
   have:=Qu.mp hc.1 d hd;unfold b2Q at this;rw[Qk,Qk]at this;obtain⟨a1,a2⟩:=a9y this.1;exact⟨a1,by omega,this.2.1,fun x hx=>by simpa using Qu.mp this.2.2 x hx⟩
  refine⟨ds.map unR,ws',?_,by rw[Qw];exact hl.1,by rw[Qw];exact hl.2,fun r hr=>?_⟩
  ·rw[e,Zb]
   have:ds.map (dR∘unR)=ds:=by
    conv=>rhs;rw[←Xm ds]
    exact Zc fun d hd=>(ok d hd).1.symm
   rw[this]
  ·obtain⟨d,hd,rfl⟩:=Zx.mp hr
   exact(ok d hd).2
 ·cases hc
theorem b2V(l:List Int):∀s,tt s l=true->s+l.sum=1:=by
 induction l with
 |nil=>intro s h;simpa [tt]using h
 |cons x l ih=>
  intro s h;simp only[tt,Qk]at h;have:=ih (s+x) h.2;simp only[Ze]
  omega
theorem a9D{h r:List Int}(e:r.length=h.length):(q5_ h r).length=h.length:=by simp[q5_,e]
theorem a9E:∀{h r:List Int},r.length=h.length->(q5_ h r).sum=h.sum+r.sum
 |[],[],_=>rfl
 |x::h,y::r,e=>by
  have:=a9E (h:=h) (r:=r) (by simpa using e)
  simp only[q5_,Uz,Ze]at this ⊢
  omega
 |[],_::_,e=>by simp at e
 |_::_,[],e=>by simp at e
def run:Int->List Int->Option Int
 |s,[]=>some s
 |s,x::l=>if s+x=0∨s+x=1 then run (s+x) l else none
theorem c1j(l:List Int):∀s,tt s l=(run s l==some 1):=by
 induction l with
 |nil=>intro s;rfl
 |cons x l ih=>
  intro s;simp only[tt,run]
  by_cases h:s+x=0∨s+x=1
  ·rw[Qg h,←ih]
   have:(s+x==0||s+x==1)=true:=by simpa using h
   rw[this,Vv]
  ·rw[Qt h]
   have:(s+x==0||s+x==1)=false:=by simpa using h
   rw[this];rfl
theorem c1k(l:List Int)(x:Int):∀s t,run s l=some t->(t+x=0∨t+x=1)->run s (l++[x])=some (t+x):=by
 induction l with
 |nil=>intro s t h hx;cases h;simp[run,hx]
 |cons y l ih=>
  intro s t h hx;simp only[run,Xf]at h ⊢;split at h
  ·rename_i hy
   rw[Qg hy];exact ih (s+y) t h hx
  ·cases h
theorem b2W:∀{h:List Int},(∀x∈h,x=0∨x=1)->h.sum≤h.length/\(h.sum=h.length->∀x∈h,x=1)
 |[],_=>⟨by simp,fun _ x hx=>by cases hx⟩
 |y::h,H=>by
  obtain⟨h1,h2⟩:=b2W (h:=h) fun x hx=>H x (by simp[hx])
  have hy:=H y (by simp)
  simp only[Ze,Zk];refine⟨by omega,fun e x hx=>?_⟩
  rcases Qi.mp hx with rfl|hx
  ·omega
  ·exact h2 (by omega) x hx
theorem a9F{g:OZ}{b:Mo Fl}:∀{ds:List D}{P:Nat->Env'->Prop}{env:Env'},(∀i d e,ds[i]? =some d->P i e->∃e1 e2,g d e=some e1/\b e1=some (.nx,e2)/\P (i+1) e2)->P 0 env->∃env',loop g b ds env=some (.nx,env')/\P ds.length env'
 |[],P,env,_,p=>⟨env,rfl,p⟩
 |d::ds,P,env,h,p=>by
  obtain⟨e1,e2,h1,h2,h3⟩:=h 0 d env rfl p;obtain⟨e3,h4,h5⟩:=a9F (ds:=ds) (P:=fun i e=>P (i+1) e) (fun i x e hi q=>h (i+1) x e (by simpa using hi) q) h3
  refine⟨e3,?_,h5⟩;unfold loop;rw[h1];simp only[Qj];rw[h2];exact h4
theorem b2X{h r:List Int}{j:Nat}(e:r.length=h.length)(hj:j<h.length):(q5_ h r).getD j 0=h.getD j 0+r.getD j 0:=by
 have hj2:j<r.length:=by omega
 simp[q5_,Jp,Yk hj,Yk hj2]
theorem b2Y{h r:List Int}:u5_ (h.map D.int) (r.map D.int)=(h.zip r).map fun p=>.tup [.int p.1,.int p.2]:=by
 unfold u5_;rw[List.zip_map,Zb];rfl
theorem b2Z(f:Nat->Nat->Bool):∀k,argBest f k≤k
 |0=>Qp _
 |k+1=>by
  have:=b2Z f k;unfold argBest;split<;>omega
theorem c1l{l:List Int}(h:1≤l.length):u7_ false l∈l:=by
 unfold u7_;have hl:=b2Z (fun i j=>if false then decide (l.getD i 0>l.getD j 0)else decide (l.getD i 0<l.getD j 0)) (l.length-1)
 rw[List.getD_eq_getElem?_getD,Yk (by omega)]
 exact Up _
theorem b3a{l:List Int}(h:1≤l.length):u8_ false [dR l]=some (.int (u7_ false l)):=by
 unfold dR;show(ints? (l.map D.int)).bind _=_;rw[a1p,Qj,Qt];cases l with
 |nil=>simp at h
 |cons _ _=>simp
theorem c1m{l:List Int}(h:1≤l.length):u8_ false [.lst (l.map D.int)]=some (.int (u7_ false l)):=by
 show(ints? (l.map D.int)).bind _=_;rw[a1p,Qj,Qt];cases l with
 |nil=>simp at h
 |cons _ _=>simp
abbrev a9G:Mo Fl:=(z9_ (v2_ 6 (mF (k8_ 1 a2Y (z4_ (z0_ 2) z6_)))) (z9_ (y2_ (mT (z2_ (dEq false) (z0_ 4) (mC (.int 0)))) (z9_ (v2_ 8 (mCB (u8_ false) (z5_ (mF (y9_ (y6_ (z0_ 6)) [false,false,false,false,false,false,false,false,false] 1 (gN 9) x7_ (mCB (u8_ false) (z5_ (z0_ 9) z7_)))) z7_))) (a0d 6 (y9_ (y6_ (z0_ 6)) [false,false,false,false,false,false,false,false,true] 1 (gN 9) (mT (z2_ (dEq false) (mCB (u8_ false) (z5_ (z0_ 9) z7_)) (z0_ 8))) (z0_ 9)))) mNx) (z9_ (v2_ 7 (z2_ dIx (z0_ 6) (mCD 2 g4_ (k1_ 0 (z4_ (mCB k2_ (z5_ (z0_ 6) z7_)) z6_))))) (z9_ (v2_ 3 (z2_ v8_ (z0_ 3) (y4_ (z5_ (z0_ 7) z7_)))) (v2_ 2 (mCD 2 a3Y (z4_ (z0_ 2) (z4_ (z0_ 7) z6_))))))))
abbrev c1n:Mo Fl:=(y2_ (mT (z2_ (dEq false) (z0_ 4) (mC (.int 0)))) (z9_ (v2_ 8 (mCB (u8_ false) (z5_ (mF (y9_ (y6_ (z0_ 6)) [false,false,false,false,false,false,false,false,false] 1 (gN 9) x7_ (mCB (u8_ false) (z5_ (z0_ 9) z7_)))) z7_))) (a0d 6 (y9_ (y6_ (z0_ 6)) [false,false,false,false,false,false,false,false,true] 1 (gN 9) (mT (z2_ (dEq false) (mCB (u8_ false) (z5_ (z0_ 9) z7_)) (z0_ 8))) (z0_ 9)))) mNx)
def LW(w:W)(ds:List D):Prop:=w=.dat (.lst ds)∨w=.own ds
theorem c1o{b:Bool}{a few:Int}{w1 w2 w3 w5 w7 w8:W}{rows:OI}(h1:1≤rows.length)(h2:rows.length≤1000)(hr:∀r∈rows,1≤r.length):
  ∃(rows':OI) (w6 x8:W),c1n [.par [.int a,.bl b],w1,w2,w3,.dat (.int few),w5,.dat (.lst (rows.map dR)),w7,w8]=some (.nx,[.par [.int a,.bl b],w1,w2,w3,.dat (.int few),w5,w6,w7,x8])/\LW w6 (rows'.map dR)/\1≤rows'.length/\rows'.length≤1000/\∀r∈rows',r∈rows:=by
 by_cases hf:few=0
 ·subst hf
  let most:Int:=u7_ false (rows.map (u7_ false))
  have hm:most∈rows.map (u7_ false):=c1l (by simpa using h1)
  obtain⟨r0,hr0,e0⟩:=Zx.mp hm;refine⟨rows.filter fun r=>(u7_ false r==most),.own ((rows.filter fun r=>(u7_ false r==most)).map dR),.dat (.int most),?_,.inr rfl,?_,?_,fun r hq=>(Ji.mp hq).1⟩
  ·refine a5b (e1:=[.par [.int a,.bl b],w1,w2,w3,.dat (.int 0),w5,.dat (.lst (rows.map dR)),w7,w8]) rfl ?_
   have c1:=c1e (mi:=y6_ (z0_ 6)) (keep:=[false,false,false,false,false,false,false,false,false]) (m:=mCB (u8_ false) (z5_ (z0_ 9) z7_)) (env:=[.par [.int a,.bl b],w1,w2,w3,.dat (.int 0),w5,.dat (.lst (rows.map dR)),w7,w8]) (base:=[.nil,.nil,.nil,.nil,.nil,.nil,.nil,.nil,.nil]) (l:=rows) (q:=dR) (f:=fun r=>.int (u7_ false r)) (k:=9) rfl (by omega) rfl rfl
    (fun r hq=>g3_ (x1_ (e1:=[.nil,.nil,.nil,.nil,.nil,.nil,.nil,.nil,.nil,.dat (dR r)]) rfl rfl) (b3a (hr r hq))) (fun w=>rfl)
   have s1:(v2_ 8 (mCB (u8_ false) (z5_ (mF (y9_ (y6_ (z0_ 6)) [false,false,false,false,false,false,false,false,false] 1 (gN 9) x7_ (mCB (u8_ false) (z5_ (z0_ 9) z7_)))) z7_))) [.par [.int a,.bl b],w1,w2,w3,.dat (.int 0),w5,.dat (.lst (rows.map dR)),w7,w8]=some (.nx,[.par [.int a,.bl b],w1,w2,w3,.dat (.int 0),w5,.dat (.lst (rows.map dR)),w7,.dat (.int most)]):=by
    refine a0h (e1:=[.par [.int a,.bl b],w1,w2,w3,.dat (.int 0),w5,.dat (.lst (rows.map dR)),w7,w8]) (g3_ (x1_ (a0g c1) rfl) ?_);have:=c1m (l:=rows.map (u7_ false)) (by simpa using h1)
    rw[Zb]at this;exact this
   have c2:=b2S (mi:=y6_ (z0_ 6)) (keep:=[false,false,false,false,false,false,false,false,true]) (t:=mT (z2_ (dEq false) (mCB (u8_ false) (z5_ (z0_ 9) z7_)) (z0_ 8))) (m:=z0_ 9) (env:=[.par [.int a,.bl b],w1,w2,w3,.dat (.int 0),w5,.dat (.lst (rows.map dR)),w7,.dat (.int most)]) (base:=[.nil,.nil,.nil,.nil,.nil,.nil,.nil,.nil,.dat (.int most)]) (l:=rows) (q:=dR) (f:=dR) (p:=fun r=>(u7_ false r==most)) (k:=9) rfl (by omega) rfl rfl
    (fun r hq=>⟨w2_ (q4_ (a:=.int (u7_ false r)) (b:=.int most) (e1:=[.nil,.nil,.nil,.nil,.nil,.nil,.nil,.nil,.dat (.int most),.dat (dR r)]) (g3_ (x1_ (e1:=[.nil,.nil,.nil,.nil,.nil,.nil,.nil,.nil,.dat (.int most),.dat (dR r)]) rfl rfl) (b3a (hr r hq))) rfl rfl),fun _=>rfl⟩) (fun w=>rfl)
   refine v4_ s1 ?_
   unfold a0d;rw[c2];rfl
  ·have:r0∈rows.filter fun r=>(u7_ false r==most):=Ji.mpr ⟨hr0,by simp[e0]⟩
   exact List.length_pos_of_mem this
  ·exact Yj (List.length_filter_le _ _) h2
 ·refine⟨rows,.dat (.lst (rows.map dR)),w8,?_,.inl rfl,h1,h2,fun r hq=>hq⟩
  refine a0i (e1:=[.par [.int a,.bl b],w1,w2,w3,.dat (.int few),w5,.dat (.lst (rows.map dR)),w7,w8]) ?_ rfl;refine w2_ (q4_ rfl rfl ?_);rw[a2n]
  simp[hf]
theorem c1p{w0 w1 w2 w3 w4 w5 w6 w7 w8:W}{ds:List D}(h:LW w6 ds):z0_ 6 [w0,w1,w2,w3,w4,w5,w6,w7,w8]=some (.lst ds,[w0,w1,w2,w3,w4,w5,.dat (.lst ds),w7,w8]):=by
 rcases h with rfl|rfl<;>rfl
theorem c1q{h r:List Int}(hl:r.length=h.length)(h6:h.length≤6):∃ws',a3Y [.dat (dR h),.dat (dR r)]=some (.d (dR (q5_ h r)),ws'):=by
 have ez:(h.zip r).map (fun p=>D.int (p.1+p.2))=(q5_ h r).map D.int:=by
  unfold q5_;rw[Vp,List.zip_eq_zipWith,Vp]
 have c:=b2T (mi:=a2K (z5_ (z0_ 0) (z5_ (z0_ 1) z7_))) (keep:=[false,false]) (m:=z2_ v8_ (z0_ 2) (z0_ 3)) (env:=[.dat (dR h),.dat (dR r)]) (base:=[.nil,.nil]) (l:=h.zip r) (q:=fun p=>D.int p.1) (q2:=fun p=>D.int p.2) (f:=fun p=>.int (p.1+p.2)) (k:=2) (by
   show some (u5_ (h.map D.int) (r.map D.int),_)=_;rw[b2Y]) (by rw[List.length_zip];omega) rfl rfl (fun p _=>rfl) (fun w w2=>rfl)
 rw[ez]at c;refine⟨_,(x9_ (d:=dR (q5_ h r)) (env:=[.dat (dR h),.dat (dR r)]) ?_).trans rfl⟩;show a9s [.dat (dR h),.dat (dR r)]=_;unfold a9s;exact j3_ (g3_ (x1_ (a0g c) rfl) rfl)
structure TbI(b:Bool)(n i:Nat)(few:Int)(e:Env')(a:Int)(h:List Int)(rows:OI)(w5 w6 w7 w8:W):Prop where
 eq:e=[.par [.int a,.bl b],.dat (.int n),.dat (dR h),.dat (dT rows),.dat (.int few),w5,w6,w7,w8]
 a0:0≤a
 hb:HB h n
 len:rows.length=i
 row:∀r∈rows,r.length=n/\tt 0 r=true
 sum:h.sum=i
 col:∀j,j<n->run 0 (rows.map fun r=>r.getD j 0)=some (h.getD j 0)
theorem c1r{b:Bool}{n i:Nat}{few:Int}{e:Env'}{a:Int}{h:List Int}{rows:OI}{w5 w6 w7 w8:W}(h1:1≤n)(h6:n≤6)(hi:i<n)(I:TbI b n i few e a h rows w5 w6 w7 w8):
  ∃e2 a' h' rows' x5 x6 x7 x8,a9G e=some (.nx,e2)/\TbI b n (i+1) few e2 a' h' rows' x5 x6 x7 x8:=by
 obtain⟨rfl,a0,hb,hlen,hrow,hsum,hcol⟩:=I;have hs:∃x∈h,x≠1:=by
  refine Uh fun hn=>?_
  have hall:∀x∈h,x=1:=fun x hx=>Uh fun z=>hn ⟨x,hx,z⟩
  have:h.sum=h.length:=by
   clear hcol hsum hn hb
   induction h with
   |nil=>rfl
   |cons y h ih=>
    have h1:=hall y (by simp)
    have:=ih fun x hx=>hall x (by simp[hx])
    simp only[Ze,Zk]
    omega
  have:=hb.len
  omega
 obtain⟨lines0,ws',el,l10,l20,lok0⟩:=c1i h1 h6 hb hs;have hnl:h.length=n:=hb.len;obtain⟨lines,w6',x8,ef,lw,l1,l2,lsub⟩:=c1o (b:=b) (a:=a) (few:=few) (w1:=.dat (.int n)) (w2:=.dat (dR h)) (w3:=.dat (dT rows)) (w5:=w5) (w7:=w7) (w8:=w8) l10 l20 (fun r hq=>by rw[(lok0 r hq).len,hnl];exact h1)
 have lok:∀r∈lines,LineOk h r:=fun r hq=>lok0 r (lsub r hq)
 obtain⟨v,a',et,v0,v1,a0'⟩:=a6A (a:=a) (m:=(lines.length:Int)) (b:=b) a0 (by omega) (by omega)
 have hv:v.toNat<lines.length:=by omega
 have hvv:((v.toNat:Nat):Int)=v:=by omega
 generalize hr:lines[v.toNat]=r;have rok:LineOk h r:=lok r (by rw[←hr];exact Up hv)
 have rl:r.length=n:=by rw[rok.len,hb.len]
 obtain⟨wh,eh⟩:=c1q (h:=h) (r:=r) rok.len (by omega)
 refine⟨[.par [.int a',.bl b],.dat (.int n),.dat (dR (q5_ h r)),.dat (dT (rows++[r])),.dat (.int few),w5,.dat (.lst (lines.map dR)),.dat (dR r),x8],a',q5_ h r,rows++[r],w5,.dat (.lst (lines.map dR)),.dat (dR r),x8,?_,rfl,a0',⟨by rw[a9D rok.len];exact hnl,rok.bit⟩,by simp[hlen],?_,?_,?_⟩
 ·have s1:(v2_ 6 (mF (k8_ 1 a2Y (z4_ (z0_ 2) z6_)))) [.par [.int a,.bl b],.dat (.int n),.dat (dR h),.dat (dT rows),.dat (.int few),w5,w6,w7,w8]=some (.nx,[.par [.int a,.bl b],.dat (.int n),.dat (dR h),.dat (dT rows),.dat (.int few),w5,.dat (.lst (lines0.map dR)),w7,w8]):=
   a0h (e1:=[.par [.int a,.bl b],.dat (.int n),.dat (dR h),.dat (dT rows),.dat (.int few),w5,w6,w7,w8]) (a0g (a1B (a0y (av:=[.d (dR h)]) rfl rfl rfl el)))
  have tk:(mCD 2 g4_ (k1_ 0 (z4_ (mCB k2_ (z5_ (z0_ 6) z7_)) z6_))) [.par [.int a,.bl b],.dat (.int n),.dat (dR h),.dat (dT rows),.dat (.int few),w5,.dat (.lst (lines.map dR)),w7,x8]=some (.int v,[.par [.int a',.bl b],.dat (.int n),.dat (dR h),.dat (dT rows),.dat (.int few),w5,.dat (.lst (lines.map dR)),w7,x8]):=by
   refine a0z ((a5W (e1:=[.par [.int a,.bl b],.dat (.int n),.dat (dR h),.dat (dT rows),.dat (.int few),w5,.dat (.lst (lines.map dR)),w7,x8]) (w:=.par [.int a,.bl b]) (av:=[.sl 0,.d (.int (lines.length:Int))]) (i:=0) (c:=[.int a,.bl b]) (c':=[.int a',.bl b]) ?_ rfl rfl rfl rfl et rfl).trans rfl);show some ([Ar.sl 0,Ar.d (.int ((lines.map dR).length:Nat))],_)=_;rw[Qw]
  have s2:(v2_ 7 (z2_ dIx (z0_ 6) (mCD 2 g4_ (k1_ 0 (z4_ (mCB k2_ (z5_ (z0_ 6) z7_)) z6_))))) [.par [.int a,.bl b],.dat (.int n),.dat (dR h),.dat (dT rows),.dat (.int few),w5,w6',w7,x8]=some (.nx,[.par [.int a',.bl b],.dat (.int n),.dat (dR h),.dat (dT rows),.dat (.int few),w5,.dat (.lst (lines.map dR)),.dat (dR r),x8]):=by
   refine a0h (e1:=[.par [.int a',.bl b],.dat (.int n),.dat (dR h),.dat (dT rows),.dat (.int few),w5,.dat (.lst (lines.map dR)),w7,x8]) (q4_ (c1p lw) tk ?_);rw[←hvv];exact a4a (xs:=lines.map dR) (by rw[Zu,Yk hv,hr];rfl)
  have s4:(v2_ 3 (z2_ v8_ (z0_ 3) (y4_ (z5_ (z0_ 7) z7_)))) [.par [.int a',.bl b],.dat (.int n),.dat (dR h),.dat (dT rows),.dat (.int few),w5,.dat (.lst (lines.map dR)),.dat (dR r),x8]=some (.nx,[.par [.int a',.bl b],.dat (.int n),.dat (dR h),.dat (dT (rows++[r])),.dat (.int few),w5,.dat (.lst (lines.map dR)),.dat (dR r),x8]):=by
   refine a0h (e1:=[.par [.int a',.bl b],.dat (.int n),.dat (dR h),.dat (dT rows),.dat (.int few),w5,.dat (.lst (lines.map dR)),.dat (dR r),x8]) (q4_ rfl rfl ?_);show(if(rows.map dR).length+[dR r].length≤10000 then _ else none)=_
   rw[Qg (by rw[Qw];simp;omega)]
   unfold dT;rw[Zg];rfl
  have s3:(v2_ 2 (mCD 2 a3Y (z4_ (z0_ 2) (z4_ (z0_ 7) z6_)))) [.par [.int a',.bl b],.dat (.int n),.dat (dR h),.dat (dT (rows++[r])),.dat (.int few),w5,.dat (.lst (lines.map dR)),.dat (dR r),x8]=some (.nx,[.par [.int a',.bl b],.dat (.int n),.dat (dR (q5_ h r)),.dat (dT (rows++[r])),.dat (.int few),w5,.dat (.lst (lines.map dR)),.dat (dR r),x8]):=
   a0h (e1:=[.par [.int a',.bl b],.dat (.int n),.dat (dR h),.dat (dT (rows++[r])),.dat (.int few),w5,.dat (.lst (lines.map dR)),.dat (dR r),x8]) (a0z (a0y (av:=[.d (dR h),.d (dR r)]) rfl rfl rfl eh))
  unfold a9G;exact v4_ s1 (v4_ ef (v4_ s2 (v4_ s4 s3)))
 ·intro r' hr'
  rcases Yp.mp hr' with z|z
  ·exact hrow r' z
  ·have:r'=r:=by simpa using z
   subst this;exact⟨rl,rok.tt⟩
 ·have:=b2V r 0 rok.tt
  rw[a9E rok.len]
  omega
 ·intro j hj
  rw[Zg,Qy,Uc,b2X rok.len (by omega)]
  refine c1k _ _ 0 _ (hcol j hj) ?_
  rw[←b2X rok.len (by omega)]
  have hjl:j<(q5_ h r).length:=by rw[a9D rok.len];omega
  have:(q5_ h r).getD j 0=(q5_ h r)[j]:=by simp[hjl]
  rw[this];exact rok.bit _ (Up hjl)
structure Tab(T:OI):Prop where
 lo:1≤T.length
 hi:T.length≤6
 len:∀r∈T,r.length=T.length
 ok:isT (dT T)=true
theorem c1s{a:Int}{n:Nat}{b:Bool}(ha:0≤a)(n1:1≤n)(n6:n≤6):∃T a',a4X [.par [.int a,.bl b],.dat (.int n)]=some (.d (dT T),[.par [.int a',.bl b],.dat (.int n)])/\0≤a'/\Tab T/\T.length=n:=by
 obtain⟨v,a1,et,v0,v1,a10⟩:=a6A (a:=a) (m:=3) (b:=b) ha (by omega) (by omega)
 have s1:(v2_ 2 (z2_ y0_ (y4_ (z5_ (mC (.int 0)) z7_)) (z0_ 1))) [.par [.int a,.bl b],.dat (.int n),.nil,.nil,.nil,.nil,.nil,.nil,.nil]=some (.nx,[.par [.int a,.bl b],.dat (.int n),.dat (dR (List.replicate n 0)),.nil,.nil,.nil,.nil,.nil,.nil]):=by
  refine a0h (e1:=[.par [.int a,.bl b],.dat (.int n),.nil,.nil,.nil,.nil,.nil,.nil,.nil]) (q4_ rfl rfl ?_);show(if 1≤(n:Int)/\(n:Int)≤1000 then some (D.tup (List.replicate (n:Int).toNat (.int 0)))else none)=_
  rw[Qg (by omega),Yn]
  unfold dR;rw[List.map_replicate]
 have s2:(v2_ 3 (y4_ z7_)) [.par [.int a,.bl b],.dat (.int n),.dat (dR (List.replicate n 0)),.nil,.nil,.nil,.nil,.nil,.nil]=some (.nx,[.par [.int a,.bl b],.dat (.int n),.dat (dR (List.replicate n 0)),.dat (dT []),.nil,.nil,.nil,.nil,.nil]):=rfl
 have s3:(v2_ 4 (mCD 2 g4_ (k1_ 0 (z4_ (mC (.int 3)) z6_)))) [.par [.int a,.bl b],.dat (.int n),.dat (dR (List.replicate n 0)),.dat (dT []),.nil,.nil,.nil,.nil,.nil]=some (.nx,[.par [.int a1,.bl b],.dat (.int n),.dat (dR (List.replicate n 0)),.dat (dT []),.dat (.int v),.nil,.nil,.nil,.nil]):=
  a0h (e1:=[.par [.int a1,.bl b],.dat (.int n),.dat (dR (List.replicate n 0)),.dat (dT []),.nil,.nil,.nil,.nil,.nil]) (a0z ((a5W (e1:=[.par [.int a,.bl b],.dat (.int n),.dat (dR (List.replicate n 0)),.dat (dT []),.nil,.nil,.nil,.nil,.nil]) (w:=.par [.int a,.bl b]) (av:=[.sl 0,.d (.int 3)]) (i:=0) (c:=[.int a,.bl b]) (c':=[.int a1,.bl b]) rfl rfl rfl rfl rfl et rfl).trans rfl))
 have start:TbI b n 0 v [.par [.int a1,.bl b],.dat (.int n),.dat (dR (List.replicate n 0)),.dat (dT []),.dat (.int v),.nil,.nil,.nil,.nil] a1 (List.replicate n 0) [] .nil .nil .nil .nil:=by
  refine⟨rfl,a10,⟨by simp,fun x hx=>.inl (List.eq_of_mem_replicate hx)⟩,rfl,fun r hr=>(by cases hr),by simp,fun j hj=>?_⟩
  simp[run,Ua,hj]
 obtain⟨e',h1,a',h',rows',x5,x6,x7,x8,I⟩:=a9F (g:=gN 5) (b:=a9G) (ds:=a0e 0 n) (P:=fun i e=>∃a h rows w5 w6 w7 w8,TbI b n i v e a h rows w5 w6 w7 w8) (env:=[.par [.int a1,.bl b],.dat (.int n),.dat (dR (List.replicate n 0)),.dat (dT []),.dat (.int v),.nil,.nil,.nil,.nil])
  (fun i d e hi ⟨a,h,rows,w5,w6,w7,w8,I⟩=>by
   have hil:i<n:=by
    have:=(Qb.mp hi).1;rw[a6y]at this
    simpa using this
   obtain⟨rfl,r1,r2,r3,r4,r5,r6⟩:=I;obtain⟨e2,a',h',rows',x5,x6,x7,x8,t1,t2⟩:=c1r (b:=b) (few:=v) (w5:=.dat d) (w6:=w6) (w7:=w7) (w8:=w8) n1 n6 hil ⟨rfl,r1,r2,r3,r4,r5,r6⟩;exact⟨_,e2,rfl,t1,a',h',rows',x5,x6,x7,x8,t2⟩) ⟨_,_,_,_,_,_,_,start⟩
 have hlen:(a0e 0 n).length=n:=by rw[a6y];simp
 rw[hlen]at I;obtain⟨rfl,r1,r2,r3,r4,r5,r6⟩:=I;have ones:=(b2W r2.bit).2 (by rw[r2.len];exact r5)
 have tab:Tab rows':=by
  refine⟨by omega,by omega,fun r hr=>by rw[r3];exact(r4 r hr).1,?_⟩
  unfold isT;rw[b2K (by omega) (by omega) (fun r hr=>by rw[r3];exact(r4 r hr).1),a6x,Vv,List.all_append,Qk,Qu,Qu]
  refine⟨fun r hr=>(r4 r hr).2,fun c hc=>?_⟩
  unfold flip at hc;obtain⟨j,hj,rfl⟩:=Zx.mp hc;have hj':j<n:=by rw[r3]at hj;exact Zt.mp hj
  rw[c1j,r6 j hj'];have hjl:j<h'.length:=by rw[r2.len];exact hj'
  have:h'.getD j 0=h'[j]:=by simp[hjl]
  rw[this,ones _ (Up hjl)];rfl
 refine⟨rows',a',(x9_ (d:=dT rows') (env:=[.par [.int a',.bl b],.dat (.int n),.dat (dR h'),.dat (dT rows'),.dat (.int v),x5,x6,x7,x8]) ?_).trans rfl,r1,tab,r3⟩;show a9t [.par [.int a,.bl b],.dat (.int n),.nil,.nil,.nil,.nil,.nil,.nil,.nil]=_;unfold a9t;have rg:=a7Q (ms:=z5_ (z0_ 1) z7_) (env:=[.par [.int a1,.bl b],.dat (.int n),.dat (dR (List.replicate n 0)),.dat (dT []),.dat (.int v),.nil,.nil,.nil,.nil]) (e1:=[.par [.int a1,.bl b],.dat (.int n),.dat (dR (List.replicate n 0)),.dat (dT []),.dat (.int v),.nil,.nil,.nil,.nil]) (j:=(n:Int)) rfl (by omega) (by omega)
 rw[Yn]at rg;rw[j1_ s1,j1_ s2,j1_ s3,j1_ ((a1A rg).trans h1)];rfl
def S(g:Nat->Int):Nat->Int
 |0=>0
 |k+1=>S g k+g k
def U(h:OO)(i j:Nat):Int:=(h (i+1) (j+1)-h i (j+1))-(h (i+1) j-h i j)
theorem c1t(g:Nat->Int):∀n,S (fun k=>g (k+1)-g k) n=g n-g 0
 |0=>by show(0:Int)=_;omega
 |n+1=>by
  show S (fun k=>g (k+1)-g k) n+(g (n+1)-g n)=_
  rw[c1t g n];omega
theorem a5c(g:Nat->Int):∀n,S g (n+1)=g 0+S (fun k=>g (k+1)) n
 |0=>by show(0:Int)+g 0=g 0+0;omega
 |n+1=>by
  show S g (n+1)+g (n+1)=g 0+(S (fun k=>g (k+1)) n+g (n+1))
  rw[a5c g n];omega
structure TabF(n:Nat)(f:OO):Prop where
 row:∀i<n,∀k≤n,S (f i) k=0∨S (f i) k=1
 rowN:∀i<n,S (f i) n=1
 col:∀j<n,∀k≤n,S (fun r=>f r j) k=0∨S (fun r=>f r j) k=1
 colN:∀j<n,S (fun r=>f r j) n=1
structure HtF(n:Nat)(h:OO):Prop where
 r0:∀i≤n,h i 0=0
 d0:∀j≤n,h 0 j=0
 rN:∀i≤n,h i n=i
 dN:∀j≤n,h n j=j
 dd:∀i<n,∀j≤n,h (i+1) j=h i j∨h (i+1) j=h i j+1
 rr:∀i≤n,∀j<n,h i (j+1)=h i j∨h i (j+1)=h i j+1
def tr(n:Nat)(h:OO)(i j:Nat):Int:=(i:Int)+j-n+h (n-i) (n-j)
theorem a6C:∀(n:Nat) (g:Nat->Int) (s:Int),tt s ((List.range n).map g)=true↔(∀k<n,s+S g (k+1)=0∨s+S g (k+1)=1)/\s+S g n=1
 |0,g,s=>by
  show(s==1)=true↔_;rw[Xp]
  constructor
  ·intro h;exact⟨fun k hk=>by omega,by show s+0=1;omega⟩
  ·rintro⟨_,h⟩;have:S g 0=0:=rfl;omega
 |n+1,g,s=>by
  rw[Vk,Qy,Zb];show((s+g 0==0||s+g 0==1)&&tt (s+g 0) ((List.range n).map fun k=>g (k+1)))=true↔_
  rw[Qk,Vl,Xp,Xp,a6C n (fun k=>g (k+1)) (s+g 0),a5c g n]
  constructor
  ·rintro⟨h1,h2,h3⟩
   refine⟨fun k hk=>?_,by omega⟩
   rw[a5c g k];cases k with
   |zero=>show s+(g 0+0)=0∨s+(g 0+0)=1;omega
   |succ k=>have:=h2 k (by omega);omega
  ·rintro⟨h1,h2⟩
   refine⟨?_,fun k hk=>?_,by omega⟩
   ·have:=h1 0 (by omega)
    rw[a5c g 0]at this;have e:S (fun k=>g (k+1)) 0=0:=rfl
    omega
   ·have:=h1 (k+1) (by omega)
    rw[a5c g (k+1)]at this;omega
def gm(n m:Nat)(f:OO):OI:=(List.range n).map fun i=>(List.range m).map (f i)
theorem a1X{n m:Nat}{f:OO}:(gm n m f).length=n:=by simp[gm]
theorem b3b{n m:Nat}{f:OO}:∀r∈gm n m f,r.length=m:=by
 intro r hr;obtain⟨i,_,rfl⟩:=Zx.mp hr
 simp
def at2(R:OI)(i j:Nat):Int:=(R.getD i []).getD j 0
theorem c1u{R:OI}{n:Nat}(h1:R.length=n)(h2:∀r∈R,r.length=n):R=gm n n (at2 R):=by
 subst h1;unfold gm
 apply List.ext_getElem
 ·simp
 ·intro i hi hi'
  have hr:=h2 R[i] (Up hi)
  rw[List.getElem_map,List.getElem_range]
  apply List.ext_getElem
  ·simp[hr]
  ·intro j hj hj'
   rw[List.getElem_map,List.getElem_range]
   simp[at2,hi,hj]
theorem b3c(n m:Nat)(f:OO):flip m (gm n m f)=gm m n (fun i j=>f j i):=by
 unfold flip gm
 apply Zc
 intro j hj;have hj:=Zt.mp hj;rw[Zb]
 apply Zc
 intro i hi
 simp[hj]
theorem b3d{n:Nat}{f:OO}:isT (dT (gm n n f))=true↔(1≤n/\n≤6)/\TabF n f:=by
 unfold isT;rw[a6x,a1X,b3c,Qk,List.all_append,Qk,Qu,Qu];have row:∀g:OO,(∀x∈gm n n g,tt 0 x=true)↔ ∀i<n,(∀k≤n,S (g i) k=0∨S (g i) k=1)/\S (g i) n=1:=by
  intro g
  constructor
  ·intro h i hi
   have h1:=(a6C n (g i) 0).mp (h _ (Zx.mpr ⟨i,Zt.mpr hi,rfl⟩))
   refine⟨fun k hk=>?_,by have:=h1.2;omega⟩
   cases k with
   |zero=>exact .inl rfl
   |succ k=>have:=h1.1 k (by omega);omega
  ·intro h x hx
   obtain⟨i,hi,rfl⟩:=Zx.mp hx;have h1:=h i (Zt.mp hi);refine(a6C n (g i) 0).mpr ⟨fun k hk=>?_,by have:=h1.2;omega⟩
   have:=h1.1 (k+1) (by omega);omega
 rw[row,row]
 constructor
 ·rintro⟨h1,h2,h3⟩
  have:=b2I h1;rw[a6x,a1X]at this;exact⟨⟨by omega,by omega⟩,⟨fun i hi=>(h2 i hi).1,fun i hi=>(h2 i hi).2,fun i hi=>(h3 i hi).1,fun i hi=>(h3 i hi).2⟩⟩
 ·rintro⟨⟨h1,h2⟩,T⟩
  refine⟨b2K (by rw[a1X];omega) (by rw[a1X];omega) (by rw[a1X];exact b3b),fun i hi=>⟨T.row i hi,T.rowN i hi⟩,fun i hi=>⟨T.col i hi,T.colN i hi⟩⟩
theorem c1v{α:Type}(xs:List α)(x:α):atI (xs++[x]) (-1)=some x:=by
 unfold atI ixN;rw[Qt (by omega),Qg (by rw[Zz];simp;omega)]
 have:((-1:Int)+((xs++[x]).length:Nat)).toNat=xs.length:=by rw[Zz];simp;omega
 rw[this]
 simp
abbrev rw'(n:Nat)(g:Nat->Int):List Int:=(List.range n).map g
theorem b3e{n m:Nat}{f:OO}{j:Nat}(h:j<n):dIx (dT (gm n m f)) (.int (j:Int))=some (dR (rw' m (f j))):=by
 show atI ((gm n m f).map dR) (j:Int)=_;exact a4a (by simp[gm,h])
theorem c1w(n:Nat)(g:Nat->Int)(hn:n≤1000):a4J [.dat (dR (rw' n g))]=some (.d (dR (rw' (n+1) (S g))),[.dat (dR (rw' n g))]):=by
 generalize hL:dR (rw' n g)=L;have hLi:L.items=some ((rw' n g).map D.int):=by rw[←hL];rfl
 obtain⟨e',h1,w,rfl⟩:=a9F (g:=gN 2) (b:=a1N 1 (z2_ v8_ (j9_ 1 (a1L (mC (.int 1)))) (z0_ 2))) (ds:=(rw' n g).map D.int) (P:=fun i e=>∃w,e=[.dat L,.own ((rw' (i+1) (S g)).map D.int),w]) (env:=[.dat L,.own [.int 0],.nil])
  (fun i d e hi ⟨w,he⟩=>by
   subst he;have hil:i<n:=by
    have:=(Qb.mp hi).1
    simpa using this
   have hd:d=.int (g i):=by
    simp[hil]at hi
    exact hi.symm
   subst hd;have ea:(rw' (i+1) (S g)).map D.int=(rw' i (S g)).map D.int++[D.int (S g i)]:=by
    unfold rw';rw[Vd,Zg,Zg];rfl
   have eb:(rw' (i+1+1) (S g)).map D.int=(rw' (i+1) (S g)).map D.int++[D.int (S g i+g i)]:=by
    unfold rw';rw[Vd (n:=i+1),Zg,Zg];rfl
   have ix:(j9_ 1 (a1L (mC (.int 1)))) [.dat L,.own ((rw' (i+1) (S g)).map D.int),.dat (.int (g i))]=some (.int (S g i),[.dat L,.own ((rw' (i+1) (S g)).map D.int),.dat (.int (g i))]):=by
    show(atI ((rw' (i+1) (S g)).map D.int) (-1)).map _=_;rw[ea,c1v];rfl
   refine⟨[.dat L,.own ((rw' (i+1) (S g)).map D.int),.dat (.int (g i))],[.dat L,.own ((rw' (i+1+1) (S g)).map D.int),.dat (.int (g i))],rfl,?_,_,rfl⟩;unfold a1N;show((z2_ v8_ (j9_ 1 (a1L (mC (.int 1)))) (z0_ 2)) [.dat L,.own ((rw' (i+1) (S g)).map D.int),.dat (.int (g i))]).bind _=_;rw[q4_ ix (b:=.int (g i)) (e2:=[.dat L,.own ((rw' (i+1) (S g)).map D.int),.dat (.int (g i))]) rfl (c:=.int (S g i+g i)) rfl];show(if((rw' (i+1) (S g)).map D.int).length<100000 then some (Fl.nx,[W.dat L,.own ((rw' (i+1) (S g)).map D.int++[D.int (S g i+g i)]),.dat (.int (g i))])else none)=_
   rw[Qg (by simp;omega),eb]) ⟨.nil,rfl⟩
 have hlen:((rw' n g).map D.int).length=n:=by simp
 rw[hlen]at h1;refine(x9_ (d:=dR (rw' (n+1) (S g))) (env:=[.dat L,.dat (.lst ((rw' (n+1) (S g)).map D.int)),w]) ?_).trans rfl;show a8Z [.dat L,.nil,.nil]=_;unfold a8Z;rw[j1_ (e1:=[.dat L,.own [.int 0],.nil]) rfl,j1_ ((a1A (a2p rfl hLi)).trans h1)]
 rfl
theorem c1x{f:Fn}{n m m':Nat}{h k:OO}(hf:∀i,i<n->f [.dat (dR (rw' m (h i)))]=some (.d (dR (rw' m' (k i))),[.dat (dR (rw' m (h i)))]))(hn:n≤1000):fnM 1 (v3_ (mCB a0S (z5_ (mF (y9_ (y6_ (z0_ 0)) [false] 1 (gN 1) x7_ (mCD 1 f (z4_ (z0_ 1) z6_)))) z7_))) [.dat (dT (gm n m h))]=some (.d (dT (gm n m' k)),[.dat (dT (gm n m h))]):=by
 obtain⟨e',h1,w,rfl⟩:=a4Y (g:=gN 1) (m:=mCD 1 f (z4_ (z0_ 1) z6_)) (P:=fun e=>∃w,e=[.nil,w]) (q:=fun(i:Nat)=>dR (rw' m (h i))) (f:=fun i=>dR (rw' m' (k i))) (l:=List.range n) (env:=[.nil,.nil])
  (fun i hi e ⟨w,he⟩=>by
   subst he;refine⟨[.nil,.dat (dR (rw' m (h i)))],[.nil,.dat (dR (rw' m (h i)))],rfl,a0z (a0y (av:=[.d (dR (rw' m (h i)))]) rfl rfl rfl (hf i (Zt.mp hi))),_,rfl⟩) ⟨.nil,rfl⟩
 have it:(y6_ (z0_ 0)) [.dat (dT (gm n m h))]=some ((List.range n).map fun(i:Nat)=>dR (rw' m (h i)),[.dat (dT (gm n m h))]):=by
  refine a2p rfl ?_
  show some ((gm n m h).map dR)=_;unfold gm;rw[Zb];rfl
 refine(x9_ (d:=dT (gm n m' k)) (env:=[.dat (dT (gm n m h))]) ?_).trans rfl;refine j3_ (g3_ (x1_ (a0g (a2o (e2:=[.nil,w]) it (by simp;omega) h1 rfl)) rfl) ?_)
 show some (D.tup _)=_;unfold dT gm;rw[Zb];rfl
theorem c1y{n m:Nat}(f:OO)(hn:n≤1000)(hm:m≤1000):a4K [.dat (dT (gm n m f))]=some (.d (dT (gm n (m+1) fun i=>S (f i))),[.dat (dT (gm n m f))]):=by
 unfold a4K b2w;exact c1x (f:=a4J) (h:=f) (k:=fun i=>S (f i)) (fun i _=>c1w m (f i) hm) hn
theorem b3f{n m:Nat}(f:OO)(h1:1≤n)(hn:n≤1000)(hm:m≤1000):a0Z [.dat (dT (gm n m f))]=some (.d (dT (gm m n fun i j=>f j i)),[.dat (dT (gm n m f))]):=by
 have q:=b2L (R:=gm n m f) (n:=m) (by intro z;have:=a1X (n:=n) (m:=m) (f:=f);rw[z]at this;simp at this;omega) b3b hm (by rw[a1X];exact hn)
 rw[b3c]at q;exact q
theorem c1{f:Fn}{m:Mo D}{env:Env'}{d r:D}{ws:List W}(h:m env=some (d,env))(hf:f [.dat d]=some (.d r,ws)):mCD 1 f (z4_ m z6_) env=some (r,env):=
 a0z (a0y (av:=[.d d]) (k6_ h rfl) rfl rfl hf)
theorem c1z{n m:Nat}(f:OO)(h1:1≤n)(h2:1≤m)(hn:n≤900)(hm:m≤900):a4L [.dat (dT (gm n m f))]=some (.d (dT (gm (n+1) m fun i j=>S (fun k=>f k j) i)),[.dat (dT (gm n m f))]):=by
 have q1:=b3f f h1 (by omega:n≤1000) (by omega:m≤1000)
 have q2:=c1y (fun i j=>f j i) (by omega:m≤1000) (by omega:n≤1000)
 have q3:=b3f (fun i=>S ((fun i j=>f j i) i)) h2 (by omega:m≤1000) (by omega:n+1≤1000)
 refine(x9_ (d:=dT (gm (n+1) m fun i j=>S (fun k=>f k j) i)) (env:=[.dat (dT (gm n m f))]) ?_).trans rfl
 show a9a [.dat (dT (gm n m f))]=_;unfold a9a;have p1:=c1 (m:=z0_ 0) (env:=[.dat (dT (gm n m f))]) rfl q1;exact j3_ (c1 (c1 p1 q2) q3)
theorem a9H(l:List Int):shp (dR l)=true:=by
 unfold shp SeqAt.shaped;show(PyData.canLayAll0 (x0_ (l.map D.int))&&decide (PyData.depthAll (x0_ (l.map D.int))+1≤64))=true;rw[a3b,a2Q,a6z];rfl
theorem a9I(l k:List Int):PyData.eqv (toP (dR l)) (toP (dR k))=decide (l=k):=by
 show PyData.eqvAll (x0_ (l.map D.int)) (x0_ (k.map D.int))=_;rw[a3b,a3b,b2O]
theorem a9J(neg:Bool)(l k:List Int):dEq neg (dR l) (dR k)=some (.bl (if neg then !decide (l=k)else decide (l=k))):=by
 unfold dEq;rw[a9H,a9H,a9I];rfl
theorem a9K:∀R:OI,PyData.canLayAll0 (x0_ (R.map dR))=true
 |[]=>rfl
 |r::R=>by
  show(PyData.canLayAll0 (x0_ (r.map D.int))&&PyData.canLayAll0 (x0_ (R.map dR)))=true;rw[a9K R,a3b,a2Q];rfl
theorem b3g:∀R:OI,PyData.depthAll (x0_ (R.map dR))≤1
 |[]=>by decide
 |r::R=>by
  show max (PyData.depthAll (x0_ (r.map D.int))+1) (PyData.depthAll (x0_ (R.map dR)))≤1;have:=b3g R;rw[a3b,a6z];omega
theorem b3h(R:OI):shp (dT R)=true:=by
 unfold shp SeqAt.shaped;show(PyData.canLayAll0 (x0_ (R.map dR))&&decide (PyData.depthAll (x0_ (R.map dR))+1≤64))=true;have:=b3g R;rw[a9K,Vv,Qr];omega
theorem b3i:∀A B:OI,PyData.eqvAll (x0_ (A.map dR)) (x0_ (B.map dR))=decide (A=B)
 |[],[]=>rfl
 |[],_::_=>rfl
 |_::_,[]=>rfl
 |x::l,y::k=>by
  show(PyData.eqv (toP (dR x)) (toP (dR y))&&PyData.eqvAll (x0_ (l.map dR)) (x0_ (k.map dR)))=_;rw[b3i l k,a9I]
  by_cases h:x=y
  ·subst h;simp
  ·simp[h]
theorem c1A(neg:Bool)(A B:OI):dEq neg (dT A) (dT B)=some (.bl (if neg then !decide (A=B)else decide (A=B))):=by
 unfold dEq;rw[b3h,b3h];show some (D.bl (if neg then !PyData.eqvAll (x0_ (A.map dR)) (x0_ (B.map dR))else PyData.eqvAll (x0_ (A.map dR)) (x0_ (B.map dR))))=_
 rw[b3i]
end K83
namespace L2.Mir
open PySem L2
theorem b3j(l:List Int):a0V [.lst (l.map D.int)]=some (.int l.sum):=by
 show(ints? _).map _=_;rw[a1p];rfl
theorem c1B{m:Mo D}{i j:Nat}{env e1:Env'}{a b:D}(h:m env=some (.tup [a,b],e1)):w8_ m (gT 2 (gCn (gN i) (gCn (gN j) gNl))) env=some (.nx,(e1.set i (.dat a)).set j (.dat b)):=by
 unfold w8_;rw[h];rfl
theorem a4c{ms:Mo (List D)}{env e1:Env'}{ds:List D}(h:ms env=some (ds,e1))(hl:ds.length≤1000):y4_ ms env=some (.tup ds,e1):=by unfold y4_;rw[h,Qj];simp only[hl,Zm]
theorem c1C{α:Type}(l:List α)(p q:α->D):u5_ (l.map p) (l.map q)=l.map fun a=>.tup [p a,q a]:=by
 unfold u5_
 induction l with
 |nil=>rfl
 |cons a l ih=>rw[Qy,Qy,Jv,Qy,ih,Qy]
theorem a9L{m n:Mo D}{e e1:Env'}{r:Option (D×Env')}(h:m e=some (.bl true,e1))(h2:n e1=r):a1u m n e=r:=by unfold a1u;rw[h];exact h2
theorem c1D{m n:Mo D}{e e1:Env'}(h:m e=some (.bl false,e1)):a1u m n e=some (.bl false,e1):=by unfold a1u;rw[h];rfl
theorem b3k{m n:Mo D}{e e1:Env'}(h:m e=some (.bl true,e1)):a2c m n e=some (.bl true,e1):=by unfold a2c;rw[h];rfl
theorem b3l{m n:Mo D}{e e1:Env'}{r:Option (D×Env')}(h:m e=some (.bl false,e1))(h2:n e1=r):a2c m n e=r:=by unfold a2c;rw[h];exact h2
theorem c1E{m:Mo D}{i j:Nat}{env e1 e2:Env'}{a b:D}(h:m env=some (.tup [a,b],e1))(he:(e1.set i (.dat a)).set j (.dat b)=e2):w8_ m (gT 2 (gCn (gN i) (gCn (gN j) gNl))) env=some (.nx,e2):=by
 rw[c1B h,he]
theorem a0L{i:Nat}{m:Mo D}{env e1 e2:Env'}{d:D}(h:m env=some (d,e1))(he:e1.set i (.dat d)=e2):v2_ i m env=some (.nx,e2):=by rw[a0h h,he]
theorem c1F{i:Nat}{m:Mo (List D)}{env e1 e2:Env'}{d:List D}(h:m env=some (d,e1))(he:e1.set i (.own d)=e2):a0d i m env=some (.nx,e2):=by rw[b8d h,he]
theorem a9M{i j:Nat}{ms:Mo (List D)}{env e1 e2:Env'}{a b:D}(h:ms env=some ([a,b],e1))(he:(e1.set i (.dat a)).set j (.dat b)=e2):a2g i j ms env=some (.nx,e2):=by
 unfold a2g;rw[h,←he];rfl
theorem a4d{N:Nat}{mb:Mo Fl}{ws env ws':List W}{d:D}(h:mb (ws++List.replicate (N-ws.length) .nil)=some (.ret d,env))(he:a0G ws env=ws'):fnM N mb ws=some (.d d,ws'):=by rw[x9_ h,he]
theorem c1G{N:Nat}{mb:Mo Fl}{ws env ws':List W}{d:List D}(h:mb (ws++List.replicate (N-ws.length) .nil)=some (.retL d,env))(he:a0G ws env=ws'):fnM N mb ws=some (.l d,ws'):=by rw[a5V h,he]
abbrev up(a n:Nat):List Nat:=(List.range (n-a)).map (a+ ·)
abbrev qN:Nat->D:=fun i=>.int (i:Int)
theorem c1H{a n i:Nat}(h:i∈up a n):i<n/\a≤i:=by
 obtain⟨k,hk,rfl⟩:=Zx.mp h;have:=Zt.mp hk
 constructor<;>omega
theorem b3m{e:Env'}{M N:Mo D}{a n:Nat}{i j:Int}(hM:M e=some (.int i,e))(hN:N e=some (.int j,e))(hi:i=(a:Int))(hj:j=(n:Int))(hn:n≤1000)(ha:a≤1000):a4p (z5_ M (z5_ N z7_)) e=some ((up a n).map qN,e):=by
 subst hi hj;unfold a4p;rw[x1_ hM (x1_ hN rfl),Qj];show(if _ then some (a0e a ((n:Int)-a).toNat,_)else none)=_
 rw[Qg (by omega)]
 have:((n:Int)-a).toNat=n-a:=by omega
 rw[this];unfold a0e up;rw[Zb];refine Yb (fun l=>some (l,e)) (Zc fun k _=>?_)
 show D.int _=D.int _
 congr 1
theorem c1I{xs ys:List D}(h:xs.length+ys.length≤10000):v8_ (.tup xs) (.tup ys)=some (.tup (xs++ys)):=by
 show(if xs.length+ys.length≤10000 then _ else none)=_
 rw[Qg h]
theorem a6D{a n i:Nat}:i∈up a n↔a≤i/\i<n:=by
 constructor
 ·intro h;have:=c1H h;exact⟨this.2,this.1⟩
 ·rintro⟨h1,h2⟩
  exact Zx.mpr ⟨i-a,Zt.mpr (by omega),by omega⟩
end L2.Mir
namespace K83
open PySem L2 L2.Mir
def bts:Nat->OI
 |0=>[[]]
 |n+1=>(bts n).map (fun s=>0::s)++(bts n).map fun s=>1::s
theorem a6E:∀{n:Nat}{s:List Int},s.length=n->(∀x∈s,x=0∨x=1)->s∈bts n
 |0,[],_,_=>by simp[bts]
 |0,_::_,h,_=>by simp at h
 |n+1,[],h,_=>by simp at h
 |n+1,x::s,h,hx=>by
  have ih:=a6E (n:=n) (s:=s) (by simpa using h) fun y hy=>hx y (Qm _ hy)
  unfold bts;rw[Yp]
  rcases hx x (Qd ..)with rfl|rfl
  ·exact .inl (Zx.mpr ⟨s,ih,rfl⟩)
  ·exact .inr (Zx.mpr ⟨s,ih,rfl⟩)
theorem a6F:∀{n:Nat}{s:List Int},s∈bts n->s.length=n/\∀x∈s,x=0∨x=1
 |0,s,h=>by
  have:s=[]:=by simpa [bts]using h
  subst this;exact⟨rfl,fun x hx=>nomatch hx⟩
 |n+1,s,h=>by
  unfold bts at h
  rcases Yp.mp h with h|h
  ·obtain⟨t,ht,rfl⟩:=Zx.mp h
   obtain⟨h1,h2⟩:=a6F ht;exact⟨by simp[h1],fun x hx=>(Qi.mp hx).elim (fun e=>.inl e) (h2 x)⟩
  ·obtain⟨t,ht,rfl⟩:=Zx.mp h
   obtain⟨h1,h2⟩:=a6F ht;exact⟨by simp[h1],fun x hx=>(Qi.mp hx).elim (fun e=>.inr e) (h2 x)⟩
theorem b3n:∀n:Nat,(bts n).length=2^n
 |0=>rfl
 |n+1=>by unfold bts;rw[Zz,Qw,Qw,b3n n];omega
def ext(rows:OI)(a:Int):OI:=rows.flatMap fun row=>([-1,0,1].filter fun n=>(a+n==0||a+n==1)&&(row.sum+n==0||row.sum+n==1)).map fun n=>row++[n]
def R(s:List Int):OI:=(s.foldl ext [[]]).filter fun r=>r.sum==1
def T64:List Int:=[7436,429,1287,42,2002,105,203,7,2002,135,300,14,322,23,34,2,1287,105,250,14,300,26,41,3,203,23,41,4,34,5,6,1,429,42,105,7,135,14,23,2,105,14,26,3,23,4,5,1,42,7,14,2,14,3,4,1,7,2,3,1,2,1,1,1]
def idx(s:List Int):Nat:=s.foldl (fun a b=>2 * a+b.toNat) 0
def Wy(s:List Int):Int:=T64.getD (64-2^s.length+idx s) 0
def srt:OI->Bool
 |[]=>true
 |a::l=>l.all (fun b=>HT.lexLt a b)&&srt l
def a0B(s:List Int):Bool:=
 ((R s).all fun r=>decide (r.length=s.length)&&decide (r.sum=1)&&(q5_ s r).all fun x=>x==0||x==1)&&srt (R s)&&decide ((R s).length≤50)&&(s.contains 0||(R s).isEmpty)
  &&decide (Wy s=if s.contains 0 then((R s).map fun r=>Wy (q5_ s r)).sum else 1)&&decide (1≤Wy s)
theorem ck1:(bts 1).all a0B=true:=by decide+kernel
theorem ck2:(bts 2).all a0B=true:=by decide+kernel
theorem ck3:(bts 3).all a0B=true:=by decide+kernel
theorem ck4:(bts 4).all a0B=true:=by decide+kernel
theorem ck5:(bts 5).all a0B=true:=by decide+kernel
theorem ck6:(bts 6).all a0B=true:=by decide+kernel
def a5d:List D->Option (List Int)
 |[]=>some []
 |.int i::r=>(a5d r).map (i:: ·)
 |_::_=>none
def a6G:List D->Option (OI)
 |[]=>some []
 |.tup x::r=>(a5d x).bind fun a=>(a6G r).map (a:: ·)
 |_::_=>none
theorem b3o:∀{l:List D}{r:List Int},a5d l=some r->l=r.map .int
 |[],r,h=>by cases h;rfl
 |d::l,r,h=>by
  cases d with
  |int i=>
   obtain⟨a,h1,h2⟩:=Vx.mp (show(a5d l).map (i:: ·)=some r from h)
   rw[←h2,Qy,←b3o h1]
  |_=>cases h
theorem b3p:∀{l:List D}{r:OI},a6G l=some r->l=r.map dR
 |[],r,h=>by cases h;rfl
 |d::l,r,h=>by
  cases d with
  |tup x=>
   obtain⟨a,h0,h'⟩:=Option.bind_eq_some_iff.mp (show(a5d x).bind (fun a=>(a6G l).map (a:: ·))=some r from h)
   obtain⟨b,h1,h2⟩:=Vx.mp h';rw[←h2,Qy,←b3p h1,b3o h0];rfl
  |_=>cases h
def a9N(o:Option (Rr×List W)):Option (OI):=match o with
 |some (.l ds,[_])=>a6G ds
 |_=>none
theorem c1J{o:Option (Rr×List W)}{L:OI}(h:a9N o=some L):∃w,o=some (.l (L.map dR),[w]):=by
 unfold a9N at h;split at h
 ·rename_i ds w
  exact⟨w,by rw[b3p h]⟩
 ·cases h
theorem c1K{N:Nat}{m:Mo Fl}{d:D}{r:Rr}{w:W}(h:fnM N m [.dat d]=some (r,[w])):fnM N m [.dat d]=some (r,[.dat d]):=by
 have key:∀env:Env',a0G [.dat d] env=[w]->w=.dat d:=fun env e=>by
  cases env with
  |nil=>cases e
  |cons a as=>
   have e':[a4r (.dat d) a]=[w]:=by
    cases as<;>exact e
   injection e' with e1 _
   rw[←e1];rfl
 suffices hw:w=.dat d by rw[h,hw]
 unfold fnM at h;split at h<;>first|(cases h;done)|(injection h with h;injection h with _ h;exact key _ h)
def a2t(s:List Int):Bool:=a9N (a1D [.dat (dR s)])==some (R s)
theorem cp1:(bts 1).all a2t=true:=by decide+kernel
theorem cp2:(bts 2).all a2t=true:=by decide+kernel
theorem cp3:(bts 3).all a2t=true:=by decide+kernel
theorem cp4:(bts 4).all a2t=true:=by decide+kernel
theorem cp5:(bts 5).all a2t=true:=by decide+kernel
theorem cp6:(bts 6).all a2t=true:=by decide+kernel
structure Bt(n:Nat)(s:List Int):Prop where
 lo:1≤n
 hi:n≤6
 mem:s∈bts n
theorem Bt.all{n:Nat}{s:List Int}(b:Bt n s):a0B s=true/\a2t s=true:=by
 obtain⟨h1,h6,hm⟩:=b;have:n=1∨n=2∨n=3∨n=4∨n=5∨n=6:=by omega
 rcases this with rfl|rfl|rfl|rfl|rfl|rfl
 ·exact⟨Qu.mp ck1 s hm,Qu.mp cp1 s hm⟩
 ·exact⟨Qu.mp ck2 s hm,Qu.mp cp2 s hm⟩
 ·exact⟨Qu.mp ck3 s hm,Qu.mp cp3 s hm⟩
 ·exact⟨Qu.mp ck4 s hm,Qu.mp cp4 s hm⟩
 ·exact⟨Qu.mp ck5 s hm,Qu.mp cp5 s hm⟩
 ·exact⟨Qu.mp ck6 s hm,Qu.mp cp6 s hm⟩
theorem Bt.len{n:Nat}{s:List Int}(b:Bt n s):s.length=n:=(a6F b.mem).1
theorem Bt.bit{n:Nat}{s:List Int}(b:Bt n s):∀x∈s,x=0∨x=1:=(a6F b.mem).2
theorem Bt.row{n:Nat}{s r:List Int}(b:Bt n s)(hr:r∈R s):r.length=s.length/\r.sum=1/\Bt n (q5_ s r):=by
 have h:=b.all.1
 unfold a0B at h;simp only[Qk]at h;have h1:=Qu.mp h.1.1.1.1.1 r hr;rw[Qk,Qk,Qr,Qr]at h1;refine⟨h1.1.1,h1.1.2,b.lo,b.hi,a6E (by rw[a9D h1.1.1,b.len]) fun x hx=>?_⟩
 have:=Qu.mp h1.2 x hx
 simpa using this
theorem Bt.srt{n:Nat}{s:List Int}(b:Bt n s):srt (R s)=true:=by
 have h:=b.all.1
 unfold a0B at h;simp only[Qk]at h;exact h.1.1.1.1.2
theorem Bt.few{n:Nat}{s:List Int}(b:Bt n s):(R s).length≤50:=by
 have h:=b.all.1
 unfold a0B at h;simp only[Qk,Qr]at h;exact h.1.1.1.2
theorem Bt.done{n:Nat}{s:List Int}(b:Bt n s)(h0:s.contains 0=false):R s=[]/\Wy s=1:=by
 have h:=b.all.1
 unfold a0B at h;simp only[Qk,Qr]at h;refine⟨?_,?_⟩
 ·have:=h.1.1.2
  rw[h0,Xj]at this
  simpa using this
 ·have:=h.1.2
  rw[h0]at this
  simpa using this
theorem Bt.sum{n:Nat}{s:List Int}(b:Bt n s)(h0:s.contains 0=true):Wy s=((R s).map fun r=>Wy (q5_ s r)).sum:=by
 have h:=b.all.1
 unfold a0B at h;simp only[Qk,Qr]at h;have:=h.1.2;rw[h0]at this
 simpa using this
theorem Bt.pos{n:Nat}{s:List Int}(b:Bt n s):1≤Wy s:=by
 have h:=b.all.1
 unfold a0B at h;simp only[Qk,Qr]at h;exact h.2
theorem Bt.zero{n:Nat}{s r:List Int}(b:Bt n s)(hr:r∈R s):s.contains 0=true:=by
 cases h:s.contains 0 with
 |true=>rfl
 |false=>rw[(b.done h).1]at hr;cases hr
theorem Bt.none{n:Nat}{s:List Int}(b:Bt n s)(h:(n:Int)≤s.sum):s.contains 0=false:=by
 have key:∀l:List Int,(∀x∈l,x=0∨x=1)->l.sum≤l.length/\((l.length:Int)≤l.sum->l.contains 0=false):=by
  intro l
  induction l with
  |nil=>intro _;exact⟨by simp,fun _=>rfl⟩
  |cons x l ih=>
   intro hx;obtain⟨h1,h2⟩:=ih fun y hy=>hx y (Qm _ hy)
   simp only[Ze,Zk,Ye]
   rcases hx x (Qd ..)with rfl|rfl
   ·exact⟨by omega,fun h=>by omega⟩
   ·exact⟨by omega,fun h=>by rw[h2 (by omega)];rfl⟩
 exact(key s b.bit).2 (by rw[b.len];exact h)
theorem Bt.next{n:Nat}{s r:List Int}(b:Bt n s)(hr:r∈R s):(q5_ s r).sum=s.sum+1:=by
 obtain⟨h1,h2,_⟩:=b.row hr;rw[a9E h1,h2]
def okE:Int->List Int->List Int->Bool
 |_,[],[]=>true
 |q,a::s,x::t=>(x== -1||x==0||x==1)&&(a+x==0||a+x==1)&&(q+x==0||q+x==1)&&okE (q+x) s t
 |_,_,_=>false
theorem b3q:∀(s t:List Int) {rows:OI}{r0:List Int},r0∈rows->okE r0.sum s t=true->r0++t∈s.foldl ext rows
 |[],[],rows,r0,h,_=>by simpa using h
 |[],_::_,_,_,_,h=>by simp[okE]at h
 |_::_,[],_,_,_,h=>by simp[okE]at h
 |a::s,x::t,rows,r0,h,e=>by
  simp only[okE,Qk]at e;obtain⟨⟨⟨e1,e2⟩,e3⟩,e4⟩:=e;have hm:r0++[x]∈ext rows a:=by
   unfold ext;refine List.mem_flatMap.mpr ⟨r0,h,Zx.mpr ⟨x,Ji.mpr ⟨?_,?_⟩,rfl⟩⟩
   ·have:x= -1∨x=0∨x=1:=by simpa [or_assoc]using e1
    rcases this with rfl|rfl|rfl<;>simp
   ·rw[Qk];exact⟨e2,e3⟩
  have:=b3q s t (rows:=ext rows a) (r0:=r0++[x]) hm (by
   have:(r0++[x]).sum=r0.sum+x:=by rw[List.sum_append];simp
   rw[this];exact e4)
  rw[Uo]at this;exact this
theorem b3r:∀(s t:List Int) (q:Int),t.length=s.length->(∀x∈s,x=0∨x=1)->tt q t=true->(∀x∈q5_ s t,x=0∨x=1)->okE q s t=true
 |[],[],_,_,_,_,_=>rfl
 |[],_::_,_,h,_,_,_=>by simp at h
 |_::_,[],_,h,_,_,_=>by simp at h
 |a::s,x::t,q,hl,hs,ht,ha=>by
  simp only[tt,Qk]at ht;have ih:=b3r s t (q+x) (by simpa using hl) (fun y hy=>hs y (Qm _ hy)) ht.2 fun y hy=>ha y (by
   show y∈List.zipWith _ (a::s) (x::t);rw[Uz];exact Qm _ hy)
  have h1:=hs a (Qd ..)
  have h2:=ha (a+x) (by
   show a+x∈List.zipWith _ (a::s) (x::t);rw[Uz];exact Qd ..)
  simp only[okE,Qk,Vl,Xp];refine⟨⟨⟨?_,?_⟩,?_⟩,ih⟩
  ·rcases h1 with rfl|rfl<;>omega
  ·exact h2
  ·simpa using ht.1
theorem c1L{s r:List Int}(hl:r.length=s.length)(hs:∀x∈s,x=0∨x=1)(ht:tt 0 r=true)(ha:∀x∈q5_ s r,x=0∨x=1):r∈R s:=by
 refine Ji.mpr ⟨?_,?_⟩
 ·have:=b3q s r (rows:=[[]]) (r0:=[]) (by simp) (b3r s r 0 hl hs ht ha)
  simpa using this
 ·have:=b2V r 0 ht
  simp;omega
theorem a5e:∀a:List Int,HT.lexLt a a=false
 |[]=>rfl
 |x::a=>by rw[HT.lexLt_cons,Qg rfl,a5e a]
theorem b3s:∀{a b:List Int},HT.lexLt a b=true->HT.lexLt b a=false
 |[],[],h=>by cases h
 |[],_::_,_=>rfl
 |_::_,[],h=>by cases h
 |x::a,y::b,h=>by
  rw[HT.lexLt_cons]at h ⊢
  by_cases e:x=y
  ·subst e
   rw[Qg rfl]at h ⊢;exact b3s h
  ·rw[Qt e]at h
   rw[Qt (fun z=>e z.symm)]
   simp at h ⊢;omega
def sm(w:List Int->Int)(l:OI):Int:=(l.map w).sum
theorem a1E(w:List Int->Int)(a:List Int)(l:OI):sm w (a::l)=w a+sm w l:=by simp[sm]
theorem a6H{w:List Int->Int}{p q:List Int->Bool}:∀{l:OI},(∀x∈l,0≤w x)->(∀x∈l,p x=true->q x=true)->sm w (l.filter p)≤sm w (l.filter q)
 |[],_,_=>by simp
 |a::l,hw,h=>by
  have ih:=a6H (l:=l) (fun x hx=>hw x (Qm _ hx)) fun x hx=>h x (Qm _ hx)
  have h0:=hw a (Qd ..)
  have h1:=h a (Qd ..)
  cases hp:p a with
  |true=>rw[Zp hp,Zp (h1 hp),a1E,a1E];omega
  |false=>
   rw[Zl (by simp[hp])]
   cases hq:q a with
   |true=>rw[Zp hq,a1E];omega
   |false=>rw[Zl (by simp[hq])];exact ih
theorem b3t{w:List Int->Int}{p q:List Int->Bool}{r:List Int}:∀{l:OI},(∀x∈l,0≤w x)->r∈l->p r=false->q r=true->(∀x∈l,p x=true->q x=true)->sm w (l.filter p)+w r≤sm w (l.filter q)
 |[],_,h,_,_,_=>nomatch h
 |a::l,hw,hr,hp,hq,h=>by
  have hw':∀x∈l,0≤w x:=fun x hx=>hw x (Qm _ hx)
  have h':∀x∈l,p x=true->q x=true:=fun x hx=>h x (Qm _ hx)
  by_cases e:r=a
  ·subst e
   have:=a6H hw' h';rw[Zl (by simp[hp]),Zp hq,a1E];omega
  ·have hr':r∈l:=(Qi.mp hr).elim (fun z=>absurd z e) id
   have ih:=b3t hw' hr' hp hq h'
   have h0:=hw a (Qd ..)
   cases hpa:p a with
   |true=>rw[Zp hpa,Zp (h a (Qd ..) hpa),a1E,a1E];omega
   |false=>
    rw[Zl (by simp[hpa])]
    cases hqa:q a with
    |true=>rw[Zp hqa,a1E];omega
    |false=>rw[Zl (by simp[hqa])];exact ih
def pick(w:List Int->Int):OI->Int->Option (List Int×Int)
 |[],_=>none
 |r::l,k=>if k<w r then some (r,k)else pick w l (k-w r)
def les(r:List Int):List Int->Bool:=fun o=>HT.lexLt o r
theorem b3u{a:List Int}{l:OI}(h:∀b∈l,HT.lexLt a b=true):l.filter (les a)=[]:=by
 rw[List.filter_eq_nil_iff];intro x hx;unfold les;rw[b3s (h x hx)]
 simp
theorem a9O{a:List Int}{l:OI}(h:srt (a::l)=true):(∀b∈l,HT.lexLt a b=true)/\srt l=true:=by
 unfold srt at h;rw[Qk,Qu]at h;exact h
theorem b3v{w:List Int->Int}{r:List Int}{m:Int}:∀{l:OI},srt l=true->(∀x∈l,0≤w x)->r∈l->0≤m->m<w r->pick w l (sm w (l.filter (les r))+m)=some (r,m)
 |[],_,_,h,_,_=>nomatch h
 |a::l,hs,hw,hr,m0,m1=>by
  obtain⟨h1,h2⟩:=a9O hs;unfold pick
  by_cases e:r=a
  ·subst e
   have:(r::l).filter (les r)=[]:=by
    rw[Zl (by unfold les;rw[a5e];simp),b3u h1]
   rw[this];show(if 0+m<w r then some (r,0+m)else _)=_
   rw[Int.zero_add,Qg m1]
  ·have hr':r∈l:=(Qi.mp hr).elim (fun z=>absurd z e) id
   have hl:les r a=true:=h1 r hr'
   have hw':∀x∈l,0≤w x:=fun x hx=>hw x (Qm _ hx)
   have hp:0≤sm w (l.filter (les r)):=by
    have:=a6H (w:=w) (p:=fun _=>false) (q:=les r) hw' (fun x _ h=>by cases h)
    have e0:l.filter (fun _=>false)=[]:=by simp
    rw[e0]at this
    simpa [sm]using this
   rw[Zp hl,a1E,Qt (by omega)]
   have:=b3v h2 hw' hr' m0 m1;have e2:w a+sm w (l.filter (les r))+m-w a=sm w (l.filter (les r))+m:=by omega
   rw[e2];exact this
theorem a9P{w:List Int->Int}:∀{l:OI}{k:Int},srt l=true->0≤k->k<sm w l->∃r m,pick w l k=some (r,m)/\r∈l/\0≤m/\m<w r/\k=sm w (l.filter (les r))+m
 |[],k,_,h0,h1=>by simp[sm]at h1;omega
 |a::l,k,hs,h0,h1=>by
  obtain⟨s1,s2⟩:=a9O hs;unfold pick
  by_cases h:k<w a
  ·refine⟨a,k,Qg h,Qd ..,h0,h,?_⟩
   rw[Zl (by unfold les;rw[a5e];simp),b3u s1]
   simp[sm]
  ·rw[a1E]at h1
   obtain⟨r,m,e,hr,m0,m1,hk⟩:=a9P (w:=w) (l:=l) (k:=k-w a) s2 (by omega) (by omega)
   refine⟨r,m,by rw[Qt h];exact e,Qm _ hr,m0,m1,?_⟩
   rw[Zp (show les r a=true from s1 r hr),a1E];omega
def Pth:List Int->OI->Prop
 |s,[]=>s.contains 0=false
 |s,r::T=>r∈R s/\Pth (q5_ s r) T
def wt(s:List Int)(r:List Int):Int:=Wy (q5_ s r)
def num:List Int->OI->Int
 |_,[]=>0
 |s,r::T=>sm (wt s) ((R s).filter (les r))+num (q5_ s r) T
def lay:Nat->List Int->Int->OI
 |0,_,_=>[]
 |k+1,s,m=>if s.contains 0 then match pick (wt s) (R s) m with
  |some (r,m')=>r::lay k (q5_ s r) m'
  |none=>[]else[]
theorem a9Q{n:Nat}{s:List Int}(b:Bt n s):∀r∈R s,0≤wt s r:=fun r hr=>by
 have:=(b.row hr).2.2.pos;unfold wt;omega
theorem a3c{n:Nat}:∀{T:OI}{s:List Int},Bt n s->Pth s T->0≤num s T/\num s T<Wy s
 |[],s,b,h=>by
  rw[(b.done h).2];exact⟨by simp[num],by simp[num]⟩
 |r::T,s,b,⟨hr,hp⟩=>by
  obtain⟨_,_,b'⟩:=b.row hr;obtain⟨i1,i2⟩:=a3c b' hp;have h1:=b3t (w:=wt s) (p:=les r) (q:=fun _=>true) (r:=r) (l:=R s) (a9Q b) hr (a5e r) rfl fun _ _ _=>rfl
  have h2:=a6H (w:=wt s) (p:=fun _=>false) (q:=les r) (a9Q b) (fun x _ h=>by cases h)
  have e0:(R s).filter (fun _=>false)=[]:=by simp
  rw[e0]at h2;have e1:(R s).filter (fun _=>true)=R s:=by simp
  rw[e1]at h1;have hW:Wy s=sm (wt s) (R s):=b.sum (b.zero hr);have h3:0≤sm (wt s) ((R s).filter (les r)):=by simpa [sm]using h2
  have h4:wt s r=Wy (q5_ s r):=rfl
  show 0≤sm (wt s) ((R s).filter (les r))+num (q5_ s r) T/\_<_
  constructor
  ·omega
  ·show sm (wt s) ((R s).filter (les r))+num (q5_ s r) T<Wy s
   omega
theorem a9R{n:Nat}:∀{k:Nat}{T:OI}{s:List Int},Bt n s->Pth s T->T.length≤k->lay k s (num s T)=T
 |0,[],_,_,_,_=>rfl
 |0,_::_,_,_,_,h=>by simp at h
 |k+1,[],s,b,h,_=>by
  unfold lay;rw[show s.contains 0=false from h];rfl
 |k+1,r::T,s,b,⟨hr,hp⟩,hl=>by
  obtain⟨_,_,b'⟩:=b.row hr;obtain⟨i1,i2⟩:=a3c b' hp;unfold lay;rw[b.zero hr];have:=b3v (w:=wt s) (r:=r) (m:=num (q5_ s r) T) b.srt (a9Q b) hr i1 i2;show(match pick (wt s) (R s) (sm (wt s) ((R s).filter (les r))+num (q5_ s r) T)with|some (r,m')=>r::lay k (q5_ s r) m'|none=>[])=_
  rw[this];show r::lay k (q5_ s r) (num (q5_ s r) T)=_;rw[a9R b' hp (by simpa using hl)]
theorem a6I{n:Nat}:∀{k:Nat}{s:List Int}{m:Int},Bt n s->(n:Int)≤s.sum+k->0≤m->m<Wy s->Pth s (lay k s m)/\num s (lay k s m)=m/\((lay k s m).length:Int)+s.sum=n
 |0,s,m,b,h,m0,m1=>by
  have h0:=b.none (by omega)
  have hW:=(b.done h0).2
  have hs:s.sum≤n:=by
   have key:∀l:List Int,(∀x∈l,x=0∨x=1)->l.sum≤l.length:=by
    intro l
    induction l with
    |nil=>intro _;simp
    |cons x l ih=>
     intro hx;have:=ih fun y hy=>hx y (Qm _ hy)
     simp only[Ze,Zk]
     rcases hx x (Qd ..)with rfl|rfl<;>omega
   have:=key s b.bit;rw[b.len]at this;exact this
  refine⟨h0,?_,?_⟩
  ·show(0:Int)=m
   omega
  ·show((0:Nat):Int)+s.sum=n
   omega
 |k+1,s,m,b,h,m0,m1=>by
  unfold lay;cases h0:s.contains 0 with
  |false=>
   have hW:=(b.done h0).2
   have hs:(n:Int)=s.sum:=by
    have key:∀l:List Int,(∀x∈l,x=0∨x=1)->l.contains 0=false->l.sum=l.length:=by
     intro l
     induction l with
     |nil=>intro _ _;simp
     |cons x l ih=>
      intro hx hc;rw[Ye,Bool.or_eq_false_iff]at hc;have:=ih (fun y hy=>hx y (Qm _ hy)) hc.2
      simp only[Ze,Zk]
      rcases hx x (Qd ..)with rfl|rfl
      ·simp at hc
      ·omega
    have:=key s b.bit h0;rw[b.len]at this;exact this.symm
   refine⟨h0,?_,?_⟩
   ·show(0:Int)=m
    omega
   ·show((0:Nat):Int)+s.sum=n
    omega
  |true=>
   have hW:Wy s=sm (wt s) (R s):=b.sum h0
   obtain⟨r,m',e,hr,h1,h2,h3⟩:=a9P (w:=wt s) (l:=R s) (k:=m) b.srt m0 (by omega)
   obtain⟨_,_,b'⟩:=b.row hr;obtain⟨i1,i2,i3⟩:=a6I (k:=k) (s:=q5_ s r) (m:=m') b' (by rw[b.next hr];omega) h1 h2
   have hs:=b.next hr
   simp only[Zm];rw[e];refine⟨⟨hr,i1⟩,?_,?_⟩
   ·show sm (wt s) ((R s).filter (les r))+num (q5_ s r) (lay k (q5_ s r) m')=m
    rw[i2];omega
   ·rw[Zk];omega
theorem b3w{n:Nat}{s:List Int}(b:Bt n s):a1D [.dat (dR s)]=some (.l ((R s).map dR),[.dat (dR s)]):=by
 have h:=b.all.2
 unfold a2t at h;obtain⟨w,e⟩:=c1J (eq_of_beq h);exact c1K e
theorem a9S{n:Nat}{s r:List Int}(b:Bt n s)(hr:r∈R s):a1a [.dat (dR s),.dat (dR r)]=some (.d (dR (q5_ s r)),[.dat (dR s),.dat (dR r)]):=by
 have ez:(s.zip r).map (fun p=>D.int (p.1+p.2))=(q5_ s r).map D.int:=by
  unfold q5_;rw[Vp,List.zip_eq_zipWith,Vp]
 have hl:=b.len
 have h6:=b.hi
 have c:=b2T (mi:=a2K (z5_ (z0_ 0) (z5_ (z0_ 1) z7_))) (keep:=[false,false]) (m:=z2_ v8_ (z0_ 2) (z0_ 3)) (env:=[.dat (dR s),.dat (dR r)]) (base:=[.nil,.nil]) (l:=s.zip r) (q:=fun p=>D.int p.1) (q2:=fun p=>D.int p.2) (f:=fun p=>.int (p.1+p.2)) (k:=2) (by
   show some (u5_ (s.map D.int) (r.map D.int),_)=_;rw[b2Y]) (by rw[List.length_zip];omega) rfl rfl (fun p _=>rfl) (fun w w2=>rfl)
 rw[ez]at c;refine(x9_ (d:=dR (q5_ s r)) (env:=[.dat (dR s),.dat (dR r)]) ?_).trans rfl;show a9f [.dat (dR s),.dat (dR r)]=_;unfold a9f;exact j3_ (g3_ (x1_ (a0g c) rfl) rfl)
structure KOk(n:Nat)(ks:OI)(vs:List D):Prop where
 nd:ks.Nodup
 sub:∀k∈ks,k∈bts n
 val:∀k,ks.contains k=true->lkD ks vs k=some (.int (Wy k))
theorem b3x:∀{l m:OI},l.Nodup->(∀x∈l,x∈m)->l.length≤m.length
 |[],_,_,_=>by simp
 |a::l,m,hn,h=>by
  rw[Jt]at hn;have ha:=h a (Qd ..);have:=b3x (l:=l) (m:=m.erase a) hn.2 fun x hx=>(List.mem_erase_of_ne (fun e=>hn.1 (by rw[←e];exact hx))).mpr (h x (Qm _ hx))
  rw[List.length_erase_of_mem ha]at this;have:=List.length_pos_of_mem ha;simp only[Zk];omega
theorem KOk.len{n:Nat}{ks:OI}{vs:List D}(h6:n≤6)(h:KOk n ks vs):ks.length<100000:=by
 have:=b3x h.nd h.sub;rw[b3n]at this;have:2^n≤2^6:=Nat.pow_le_pow_right (by decide) h6
 omega
theorem KOk.nil(n:Nat):KOk n [] []:=⟨List.nodup_nil,(fun k h=>nomatch h),fun k h=>by simp at h⟩
theorem b3y:∀{ks:OI}{vs:List D}{k:List Int}{d:D},ks.length=vs.length->ks.contains k=false->lkD (ks++[k]) (vs++[d]) k=some d
 |[],[],k,d,_,_=>by simp[lkD]
 |[],_::_,_,_,h,_=>by simp at h
 |_::_,[],_,_,h,_=>by simp at h
 |a::ks,v::vs,k,d,hl,h=>by
  rw[Ye,Bool.or_eq_false_iff]at h;show(if a=k then some v else lkD (ks++[k]) (vs++[d]) k)=_
  rw[Qt (fun z=>by rw[z]at h;simp at h),b3y (by simpa using hl) h.2]
theorem b3z:∀{ks:OI}{vs:List D}{k k':List Int}{d x:D},lkD ks vs k'=some x->lkD (ks++[k]) (vs++[d]) k'=some x
 |[],_,_,_,_,_,h=>by simp[lkD]at h
 |_::_,[],_,_,_,_,h=>by simp[lkD]at h
 |a::ks,v::vs,k,k',d,x,h=>by
  show(if a=k' then some v else lkD (ks++[k]) (vs++[d]) k')=_
  have h':(if a=k' then some v else lkD ks vs k')=some x:=h
  by_cases e:a=k'
  ·rw[Qg e]at h' ⊢;exact h'
  ·rw[Qt e]at h' ⊢;exact b3z h'
def KL(n:Nat)(ks:OI)(vs:List D):Prop:=KOk n ks vs/\ks.length=vs.length
theorem KL.nil(n:Nat):KL n [] []:=⟨KOk.nil n,rfl⟩
theorem KL.put{n:Nat}{ks:OI}{vs:List D}{k:List Int}(h:KL n ks vs)(hk:k∈bts n)(hc:ks.contains k=false):KL n (g9_ ks k) (u9_ ks vs k (.int (Wy k))):=by
 obtain⟨h,hl⟩:=h;unfold g9_ u9_;rw[hc];simp only[Zj,Yc];have hn:k∉ks:=fun z=>by rw[Uw.mpr z]at hc;cases hc
 refine⟨⟨?_,fun x hx=>?_,fun x hx=>?_⟩,by simp[hl]⟩
 ·rw[List.nodup_append]
  exact⟨h.nd,by simp,fun a ha b hb=>by
   have:b=k:=by simpa using hb
   subst this;exact fun e=>hn (by rw[←e];exact ha)⟩
 ·rcases Yp.mp hx with hx|hx
  ·exact h.sub x hx
  ·have:x=k:=by simpa using hx
   subst this;exact hk
 ·by_cases e:x=k
  ·subst e;exact b3y hl hc
  ·refine b3z (h.val x ?_)
   have:x∈ks++[k]:=Uw.mp hx
   rcases Yp.mp this with z|z
   ·exact Uw.mpr z
   ·exact absurd (by simpa using z) e
theorem a6J(s:List Int):a0K (dR s)=some s:=a1p s
def chD(s:List Int):List D:=(R s).map fun r=>.tup [dR r,.int (wt s r)]
def WOk(n:Nat)(f:Fn)(s:List Int):Prop:=∀ks vs,KL n ks vs->∃ks' vs',f [.dat (dR s),.parD ks vs]=some (.d (.int (Wy s)),[.dat (dR s),.parD ks' vs'])/\KL n ks' vs'
theorem a6K{n:Nat}{f:Fn}{s:List Int}(b:Bt n s)(hf:∀r∈R s,WOk n f (q5_ s r)){ks:OI}{vs:List D}(hk:KL n ks vs):
  ∃ks' vs',u0_ f [.dat (dR s),.parD ks vs]=some (.l (chD s),[.dat (dR s),.parD ks' vs'])/\KL n ks' vs':=by
 obtain⟨e',h1,ks',vs',w',rfl,hk'⟩:=a4Y (g:=gN 2) (m:=y4_ (z5_ (z0_ 2) (z5_ (mCD 2 f (z4_ (mCD 2 a1a (z4_ (z0_ 0) (z4_ (z0_ 2) z6_))) (k1_ 1 z6_))) z7_))) (P:=fun e=>∃ks vs w,e=[.dat (dR s),.parD ks vs,w]/\KL n ks vs) (q:=dR) (f:=fun r=>.tup [dR r,.int (wt s r)]) (l:=R s) (env:=[.dat (dR s),.parD ks vs,.nil])
  (fun r hr e ⟨ks,vs,w,he,hk⟩=>by
   subst he;obtain⟨ks',vs',e1,hk'⟩:=hf r hr ks vs hk;refine⟨[.dat (dR s),.parD ks vs,.dat (dR r)],[.dat (dR s),.parD ks' vs',.dat (dR r)],rfl,?_,_,_,_,rfl,hk'⟩;refine a4c (x1_ (e1:=[.dat (dR s),.parD ks vs,.dat (dR r)]) rfl (x1_ (d:=.int (wt s r)) (e1:=[.dat (dR s),.parD ks' vs',.dat (dR r)]) ?_ rfl)) (by simp)
   refine a0z ((a3E (i:=1) (w:=.parD ks vs) (c:=.d ks vs) (c':=.d ks' vs') (e1:=[.dat (dR s),.parD ks vs,.dat (dR r)]) (av:=[.d (dR (q5_ s r)),.sl 1]) ?_ rfl rfl rfl rfl e1 rfl).trans rfl);refine k6_ (e1:=[.dat (dR s),.parD ks vs,.dat (dR r)]) (a0z (a0y (av:=[.d (dR s),.d (dR r)]) rfl rfl rfl (a9S b hr))) rfl) ⟨_,_,_,rfl,hk⟩
 refine⟨ks',vs',(a5V (d:=chD s) (env:=[.dat (dR s),.parD ks' vs']) ?_).trans rfl,hk'⟩;show a9g f [.dat (dR s),.parD ks vs]=_;unfold a9g;refine a7R (a2o (e1:=[.dat (dR s),.parD ks vs]) (ds:=(R s).map dR) (e2:=[.dat (dR s),.parD ks' vs',w']) ?_ ?_ h1 rfl)
 ·exact a2p (a0g (a1B (a0y (e1:=[.dat (dR s),.parD ks vs]) (av:=[.d (dR s)]) rfl rfl rfl (b3w b)))) rfl
 ·have:=b.few
  rw[Qw];omega
theorem b3A:∀{ks:OI}{vs:List D}{k:List Int}{d:D},k∉ks->reD ks vs k d=vs
 |[],_,_,_,_=>rfl
 |_::_,[],_,_,_=>rfl
 |a::ks,v::vs,k,d,h=>by
  show(if a=k then d::reD ks vs k d else v::reD ks vs k d)=_
  rw[Qt (fun z=>h (by rw[z];exact Qd ..)),b3A fun z=>h (Qm _ z)]
theorem b3B:∀{ks:OI}{vs:List D}{k:List Int}{d:D},ks.length=vs.length->lkD ks vs k=some d->ks.Nodup->reD ks vs k d=vs
 |[],_,_,_,_,h,_=>by simp[lkD]at h
 |_::_,[],_,_,_,h,_=>by simp[lkD]at h
 |a::ks,v::vs,k,d,hl,h,hn=>by
  rw[Jt]at hn;show(if a=k then d::reD ks vs k d else v::reD ks vs k d)=_
  have h':(if a=k then some v else lkD ks vs k)=some d:=h
  by_cases e:a=k
  ·rw[Qg e]at h' ⊢
   cases h';rw[b3A (by rw[←e];exact hn.1)]
  ·rw[Qt e]at h' ⊢
   rw[b3B (by simpa using hl) h' hn.2]
theorem b3C{n:Nat}{f:Fn}{s:List Int}{ks ks':OI}{vs vs' ds:List D}(b:Bt n s)(hk':KL n ks' vs')
  (tst:(mT (z2_ (dIn true) (mC (.int 0)) (z0_ 0))) [.dat (dR s),.parD ks vs]=some (false,[.dat (dR s),.parD ks vs]))
  (tin:(mT (a3L true 1 (z0_ 0))) [.dat (dR s),.parD ks vs]=some (true,[.dat (dR s),.parD ks vs]))
  (cc:(y9_ (y6_ (mF (k8_ 2 (u0_ f) (z4_ (z0_ 0) (k1_ 1 z6_))))) [false,false] 2 (gT 2 (gCn (gN 2) (gCn (gN 3) gNl))) x7_ (z0_ 3)) [.dat (dR s),.parD ks vs]=some (ds,[.dat (dR s),.parD ks' vs']))
  (sm1:a0V [.lst ds]=some (.int (Wy s)))(hv:lkD (g9_ ks' s) (u9_ ks' vs' s (.int (Wy s))) s=some (.int (Wy s))):
  a1T f [.dat (dR s),.parD ks vs]=some (.ret (.int (Wy s)),[.dat (dR s),.parD (g9_ ks' s) (u9_ ks' vs' s (.int (Wy s)))]):=by
 unfold a1T;refine v4_ (e1:=[.dat (dR s),.parD ks vs]) (a0i tst rfl) (v4_ (e1:=[.dat (dR s),.parD (g9_ ks' s) (u9_ ks' vs' s (.int (Wy s)))]) (a5b tin ?_) (j3_ ?_))
 ·unfold w8_
  rw[g3_ (x1_ (a0g cc) rfl) sm1];show(((a0K (dR s)).bind fun k=>if ks'.length<100000 then some ([W.dat (dR s),W.parD (g9_ ks' k) (u9_ ks' vs' k (.int (Wy s)))])else none).map fun e=>(Fl.nx,e))=_
  rw[a6J,Qj,Qg (hk'.1.len b.hi)];rfl
 ·show((a0K (dR s)).bind fun k=>(lkD _ _ k).map fun d=>(d,_))=_
  rw[a6J,Qj,hv];rfl
theorem b3D{n:Nat}:∀{k:Nat}{s:List Int},Bt n s->(n:Int)≤s.sum+k->WOk n (k3_ (k+1)) s:=by
 intro k
 induction k with
 |zero=>
  intro s b h ks vs hk;have h0:=b.none (by simpa using h)
  refine⟨ks,vs,(x9_ (d:=.int (Wy s)) (env:=[.dat (dR s),.parD ks vs]) ?_).trans rfl,hk⟩;show a1T (k3_ 0) [.dat (dR s),.parD ks vs]=_;unfold a1T;rw[(b.done h0).2];refine a1z (a5b (e1:=[.dat (dR s),.parD ks vs]) (w2_ (q4_ (a:=.int 0) (b:=dR s) rfl rfl ?_)) rfl);show(ints? (s.map D.int)).map _=_;rw[a1p];show some (D.bl (!s.contains 0))=_;rw[h0];rfl
 |succ k ih=>
  intro s b h ks vs hk;have tst:(mT (z2_ (dIn true) (mC (.int 0)) (z0_ 0))) [.dat (dR s),.parD ks vs]=some (!s.contains 0,[.dat (dR s),.parD ks vs]):=by
   refine w2_ (q4_ (a:=.int 0) (b:=dR s) rfl rfl ?_);show(ints? (s.map D.int)).map _=_;rw[a1p];rfl
  cases h0:s.contains 0 with
  |false=>
   refine⟨ks,vs,(x9_ (d:=.int (Wy s)) (env:=[.dat (dR s),.parD ks vs]) ?_).trans rfl,hk⟩;show a1T (k3_ (k+1)) [.dat (dR s),.parD ks vs]=_;unfold a1T;rw[(b.done h0).2];rw[h0]at tst;exact a1z (a5b (e1:=[.dat (dR s),.parD ks vs]) tst rfl)
  |true=>
   rw[h0]at tst;have tin:(mT (a3L true 1 (z0_ 0))) [.dat (dR s),.parD ks vs]=some (!ks.contains s,[.dat (dR s),.parD ks vs]):=by
    refine w2_ ?_
    show((a0K (dR s)).map _)=_;rw[a6J];rfl
   cases hc:ks.contains s with
   |true=>
    rw[hc]at tin;refine⟨ks,vs,(x9_ (d:=.int (Wy s)) (env:=[.dat (dR s),.parD ks vs]) ?_).trans rfl,hk⟩;show a1T (k3_ (k+1)) [.dat (dR s),.parD ks vs]=_;unfold a1T;refine v4_ (a0i (e1:=[.dat (dR s),.parD ks vs]) tst rfl) (v4_ (a0i (e1:=[.dat (dR s),.parD ks vs]) tin rfl) (j3_ ?_));show((a0K (dR s)).bind fun k=>(lkD ks vs k).map fun d=>(d,_))=_
    rw[a6J,Qj,hk.1.val s hc];rfl
   |false=>
    rw[hc]at tin;obtain⟨ks',vs',e1,hk'⟩:=a6K (f:=k3_ (k+1)) b (fun r hr=>ih (b.row hr).2.2 (by rw[b.next hr];omega)) hk
    have cc:(y9_ (y6_ (mF (k8_ 2 (u0_ (k3_ (k+1))) (z4_ (z0_ 0) (k1_ 1 z6_))))) [false,false] 2 (gT 2 (gCn (gN 2) (gCn (gN 3) gNl))) x7_ (z0_ 3)) [.dat (dR s),.parD ks vs]=some ((R s).map fun r=>.int (wt s r),[.dat (dR s),.parD ks' vs']):=by
     obtain⟨w1,w2,q1⟩:=a5a (t:=x7_) (m:=z0_ 3) (base:=[.nil,.nil]) (q:=dR) (q2:=fun r=>D.int (wt s r)) (f:=fun r=>D.int (wt s r)) (p:=fun _=>true) (k:=2) rfl (l:=R s) (fun a _=>⟨rfl,fun _=>rfl⟩) .nil .nil
     rw[Ug.mpr (fun _ _=>rfl)]at q1
     refine a2o (e1:=[.dat (dR s),.parD ks' vs']) (ds:=chD s) ?_ ?_ q1 rfl
     ·exact a2p (a0g (a1B ((a3E (i:=1) (w:=.parD ks vs) (c:=.d ks vs) (c':=.d ks' vs') (e1:=[.dat (dR s),.parD ks vs]) (av:=[.d (dR s),.sl 1]) rfl rfl rfl rfl rfl e1 rfl).trans rfl))) rfl
     ·have:=b.few
      unfold chD;rw[Qw];omega
    have sm1:a0V [.lst ((R s).map fun r=>D.int (wt s r))]=some (.int (Wy s)):=by
     have e:((R s).map fun r=>D.int (wt s r))=((R s).map (wt s)).map D.int:=by rw[Zb];rfl
     rw[e,b3j,b.sum h0];rfl
    have hb:=b.mem
    by_cases hc2:ks'.contains s=true
    ·have hp:KL n (g9_ ks' s) (u9_ ks' vs' s (.int (Wy s)))/\lkD (g9_ ks' s) (u9_ ks' vs' s (.int (Wy s))) s=some (.int (Wy s)):=by
      have:reD ks' vs' s (.int (Wy s))=vs':=b3B hk'.2 (hk'.1.val s hc2) hk'.1.nd;unfold g9_ u9_;rw[hc2];simp only[Zm];rw[this];exact⟨hk',hk'.1.val s hc2⟩
     refine⟨_,_,(x9_ (d:=.int (Wy s)) (env:=[.dat (dR s),.parD (g9_ ks' s) (u9_ ks' vs' s (.int (Wy s)))]) ?_).trans rfl,hp.1⟩;exact b3C b hk' tst tin cc sm1 hp.2
    ·have hc3:ks'.contains s=false:=by simpa using hc2
     have hp:=hk'.put hb hc3
     refine⟨_,_,(x9_ (d:=.int (Wy s)) (env:=[.dat (dR s),.parD (g9_ ks' s) (u9_ ks' vs' s (.int (Wy s)))]) ?_).trans rfl,hp⟩;refine b3C b hk' tst tin cc sm1 (hp.1.val s ?_);unfold g9_;rw[hc3]
     simp
theorem a6L{t:Mo Bool}{b:Mo Fl}{n:Nat}{e e1 e2:Env'}(h:t e=some (true,e1))(hb:b e1=some (.nx,e2)):whl t b (n+1) e=whl t b n e2:=by
 conv=>lhs;unfold whl
 rw[h,Qj];show(if true=true then _ else _)=_
 rw[Qg rfl,hb];rfl
theorem a3d{t:Mo Bool}{b:Mo Fl}{n:Nat}{e e1:Env'}(h:t e=some (false,e1)):whl t b (n+1) e=some (.nx,e1):=by
 unfold whl;rw[h,Qj];rfl
def cD(w:List Int->Int)(r:List Int):D:=.tup [dR r,.int (w r)]
theorem b3E{w:List Int->Int}{l:OI}{i:Nat}{r:List Int}(h:l[i]? =some r):dIx (.lst (l.map (cD w))) (.int (i:Int))=some (cD w r):=
 a4a (by rw[Zu,h];rfl)
theorem b3F{w:List Int->Int}:∀{l2 l1:OI}{m m':Int}{r:List Int}{k:Nat},pick w l2 m=some (r,m')->l2.length≤k->
  ∃j:Nat,(l1++l2)[j]? =some r/\whl ((mT (z2_ dGe (z0_ 1) (z2_ dIx (z2_ dIx (z0_ 0) (z0_ 2)) (mC (.int 1)))))) ((z9_ (g1_ 1 k4_ (z2_ dIx (z2_ dIx (z0_ 0) (z0_ 2)) (mC (.int 1)))) (g1_ 2 a1J (mC (.int 1))))) k [.dat (.lst ((l1++l2).map (cD w))),.dat (.int m),.dat (.int (l1.length:Int))]=some (.nx,[.dat (.lst ((l1++l2).map (cD w))),.dat (.int m'),.dat (.int (j:Int))])
 |[],l1,m,m',r,k,h,_=>by cases h
 |a::l2,l1,m,m',r,0,h,hk=>by simp at hk
 |a::l2,l1,m,m',r,k+1,h,hk=>by
  have hi:(l1++a::l2)[l1.length]? =some a:=by simp
  have rd:(z2_ dIx (z2_ dIx (z0_ 0) (z0_ 2)) (mC (.int 1))) [.dat (.lst ((l1++a::l2).map (cD w))),.dat (.int m),.dat (.int (l1.length:Int))]=some (.int (w a),[.dat (.lst ((l1++a::l2).map (cD w))),.dat (.int m),.dat (.int (l1.length:Int))]):=
   q4_ (e1:=[.dat (.lst ((l1++a::l2).map (cD w))),.dat (.int m),.dat (.int (l1.length:Int))]) (q4_ (a:=.lst ((l1++a::l2).map (cD w))) (b:=.int (l1.length:Int)) (c:=cD w a) rfl rfl (b3E hi)) rfl rfl
  have ts:((mT (z2_ dGe (z0_ 1) (z2_ dIx (z2_ dIx (z0_ 0) (z0_ 2)) (mC (.int 1)))))) [.dat (.lst ((l1++a::l2).map (cD w))),.dat (.int m),.dat (.int (l1.length:Int))]=some (decide (w a≤m),[.dat (.lst ((l1++a::l2).map (cD w))),.dat (.int m),.dat (.int (l1.length:Int))]):=
   w2_ (q4_ (a:=.int m) (b:=.int (w a)) rfl rd rfl)
  unfold pick at h
  by_cases hm:m<w a
  ·rw[Qg hm]at h
   cases h;refine⟨l1.length,hi,a3d ?_⟩;rw[ts,Qs (by omega)]
  ·rw[Qt hm]at h
   obtain⟨j,h1,h2⟩:=b3F (l2:=l2) (l1:=l1++[a]) (k:=k) h (by simpa using hk)
   have e:l1++[a]++l2=l1++a::l2:=by simp
   rw[e]at h1 h2;refine⟨j,h1,?_⟩;refine(a6L (e1:=[.dat (.lst ((l1++a::l2).map (cD w))),.dat (.int m),.dat (.int (l1.length:Int))]) (e2:=[.dat (.lst ((l1++a::l2).map (cD w))),.dat (.int (m-w a)),.dat (.int ((l1++[a]).length:Int))]) ?_ ?_).trans h2
   ·rw[ts,Qe (by omega)]
   ·refine v4_ (e1:=[.dat (.lst ((l1++a::l2).map (cD w))),.dat (.int (m-w a)),.dat (.int (l1.length:Int))]) ?_ ?_
    ·show(((z2_ dIx (z2_ dIx (z0_ 0) (z0_ 2)) (mC (.int 1))) [.dat (.lst ((l1++a::l2).map (cD w))),.dat (.int m),.dat (.int (l1.length:Int))]).bind _)=_
     rw[rd];rfl
    ·have:(((l1++[a]).length:Nat):Int)=(l1.length:Int)+1:=by simp
     rw[this];rfl
theorem c1M{w:List Int->Int}{l:OI}{m m':Int}{r:List Int}(h:pick w l m=some (r,m'))(hl:l.length≤50):∃ws,a4Q [.dat (.lst (l.map (cD w))),.dat (.int m)]=some (.d (.tup [dR r,.int m']),ws):=by
 obtain⟨j,h1,h2⟩:=b3F (w:=w) (l2:=l) (l1:=[]) (k:=60) h (by omega)
 refine⟨_,x9_ (d:=.tup [dR r,.int m']) (env:=[.dat (.lst (l.map (cD w))),.dat (.int m'),.dat (.int (j:Int))]) ?_⟩;show a9h [.dat (.lst (l.map (cD w))),.dat (.int m),.nil]=_;unfold a9h;refine v4_ (e1:=[.dat (.lst (l.map (cD w))),.dat (.int m),.dat (.int 0)]) rfl (v4_ h2 (j3_ (a4c (x1_ (e1:=[.dat (.lst (l.map (cD w))),.dat (.int m'),.dat (.int (j:Int))]) ?_ (x1_ rfl rfl)) (by simp))))
 exact q4_ (q4_ (a:=.lst (l.map (cD w))) (b:=.int (j:Int)) (c:=cD w r) rfl rfl (b3E h1)) rfl rfl
theorem in0{s:List Int}{env:Env'}(h:z0_ 4 env=some (dR s,env)):(mT (z2_ (dIn false) (mC (.int 0)) (z0_ 4))) env=some (s.contains 0,env):=by
 refine w2_ (q4_ (a:=.int 0) (b:=dR s) rfl h ?_);show(ints? (s.map D.int)).map _=_;rw[a1p];rfl
theorem b3G{n:Nat}{s r:List Int}(b:Bt n s)(hr:r∈R s):WOk n (k3_ 8) (q5_ s r):=by
 have hb:=(b.row hr).2.2
 refine b3D (k:=7) hb ?_
 have h6:=b.hi
 have key:∀l:List Int,(∀x∈l,x=0∨x=1)->0≤l.sum:=by
  intro l
  induction l with
  |nil=>intro _;simp
  |cons x l ih=>
   intro hx;have:=ih fun y hy=>hx y (Qm _ hy)
   simp only[Ze]
   rcases hx x (Qd ..)with rfl|rfl<;>omega
 have:=key _ hb.bit
 omega
theorem c1N{n:Nat}{w0:W}:∀{k F:Nat}{s:List Int}{m:Int}{ks:OI}{vs:List D}{rows:OI}{w5:W},k<F->Bt n s->(n:Int)≤s.sum+k->0≤m->m<Wy s->KL n ks vs->rows.length+k≤1000->
  ∃m' ks' vs' s' x5,whl ((mT (z2_ (dIn false) (mC (.int 0)) (z0_ 4)))) ((z9_ (w8_ (mCD 2 a4Q (z4_ (mF (k8_ 2 (u0_ (k3_ 8)) (z4_ (z0_ 4) (k1_ 2 z6_)))) (z4_ (z0_ 1) z6_))) (gT 2 (gCn (gN 5) (gCn (gN 1) gNl)))) (z9_ (a1N 3 (z0_ 5)) (v2_ 4 (mCD 2 a1a (z4_ (z0_ 4) (z4_ (z0_ 5) z6_))))))) F [w0,.dat (.int m),.parD ks vs,.own (rows.map dR),.dat (dR s),w5]=some (.nx,[w0,.dat (.int m'),.parD ks' vs',.own ((rows++lay k s m).map dR),.dat (dR s'),x5])/\KL n ks' vs':=by
 intro k
 induction k with
 |zero=>
  intro F s m ks vs rows w5 hF b h m0 m1 hk hr;obtain⟨F,rfl⟩:∃F',F=F'+1:=⟨F-1,by omega⟩
  have h0:=b.none (by simpa using h)
  refine⟨m,ks,vs,s,w5,a3d (e1:=[w0,.dat (.int m),.parD ks vs,.own ((rows++lay 0 s m).map dR),.dat (dR s),w5]) ?_,hk⟩;have:rows++lay 0 s m=rows:=by show rows++[]=rows;simp
  rw[this,in0 (s:=s) rfl,h0]
 |succ k ih=>
  intro F s m ks vs rows w5 hF b h m0 m1 hk hr;obtain⟨F,rfl⟩:∃F',F=F'+1:=⟨F-1,by omega⟩
  unfold lay;cases h0:s.contains 0 with
  |false=>
   refine⟨m,ks,vs,s,w5,a3d (e1:=[w0,.dat (.int m),.parD ks vs,.own ((rows++[]).map dR),.dat (dR s),w5]) ?_,hk⟩;rw[Jq,in0 (s:=s) rfl,h0]
  |true=>
   have hW:Wy s=sm (wt s) (R s):=b.sum h0
   obtain⟨r,m',e,hr',h1,h2,h3⟩:=a9P (w:=wt s) (l:=R s) (k:=m) b.srt m0 (by omega)
   obtain⟨_,_,b'⟩:=b.row hr';obtain⟨ks1,vs1,e1,hk1⟩:=a6K (f:=k3_ 8) b (fun r hr=>b3G b hr) hk
   obtain⟨wc,e2⟩:=c1M e b.few;obtain⟨mz,ks2,vs2,s2,x5,i1,i2⟩:=ih (F:=F) (s:=q5_ s r) (m:=m') (ks:=ks1) (vs:=vs1) (rows:=rows++[r]) (w5:=.dat (dR r)) (by omega) b' (by rw[b.next hr'];omega) h1 h2 hk1 (by simp;omega)
   simp only[Zm];rw[e];have el:rows++[r]++lay k (q5_ s r) m'=rows++r::lay k (q5_ s r) m':=by simp
   rw[el]at i1;refine⟨mz,ks2,vs2,s2,x5,(a6L (e1:=[w0,.dat (.int m),.parD ks vs,.own (rows.map dR),.dat (dR s),w5]) (e2:=[w0,.dat (.int m'),.parD ks1 vs1,.own ((rows++[r]).map dR),.dat (dR (q5_ s r)),.dat (dR r)]) ?_ ?_).trans i1,i2⟩
   ·rw[in0 (s:=s) rfl,h0]
   ·have q1:(mF (k8_ 2 (u0_ (k3_ 8)) (z4_ (z0_ 4) (k1_ 2 z6_)))) [w0,.dat (.int m),.parD ks vs,.own (rows.map dR),.dat (dR s),w5]=some (.lst ((R s).map (cD (wt s))),[w0,.dat (.int m),.parD ks1 vs1,.own (rows.map dR),.dat (dR s),w5]):=
     a0g (a1B ((a3E (i:=2) (w:=.parD ks vs) (c:=.d ks vs) (c':=.d ks1 vs1) (e1:=[w0,.dat (.int m),.parD ks vs,.own (rows.map dR),.dat (dR s),w5]) (av:=[.d (dR s),.sl 2]) rfl rfl rfl rfl rfl e1 rfl).trans rfl))
    refine v4_ (e1:=[w0,.dat (.int m'),.parD ks1 vs1,.own (rows.map dR),.dat (dR s),.dat (dR r)]) ?_ (v4_ (e1:=[w0,.dat (.int m'),.parD ks1 vs1,.own ((rows++[r]).map dR),.dat (dR s),.dat (dR r)]) ?_ ?_)
    ·refine c1E (a:=dR r) (b:=.int m') (e1:=[w0,.dat (.int m),.parD ks1 vs1,.own (rows.map dR),.dat (dR s),w5]) ?_ rfl
     refine a0z (a0y (e1:=[w0,.dat (.int m),.parD ks1 vs1,.own (rows.map dR),.dat (dR s),w5]) (av:=[.d (.lst ((R s).map (cD (wt s)))),.d (.int m)]) ?_ rfl rfl e2);exact k6_ q1 rfl
    ·show(if(rows.map dR).length<100000 then some (Fl.nx,[w0,.dat (.int m'),.parD ks1 vs1,.own (rows.map dR++[dR r]),.dat (dR s),.dat (dR r)])else none)=_
     rw[Qg (by rw[Qw];omega),Zg];rfl
    ·exact a0h (e1:=[w0,.dat (.int m'),.parD ks1 vs1,.own ((rows++[r]).map dR),.dat (dR s),.dat (dR r)]) (a0z (a0y (av:=[.d (dR s),.d (dR r)]) rfl rfl rfl (a9S b hr')))
abbrev zs(n:Nat):List Int:=List.replicate n 0
theorem bt0{n:Nat}(h1:1≤n)(h6:n≤6):Bt n (zs n):=⟨h1,h6,a6E (by simp) fun x hx=>.inl (List.eq_of_mem_replicate hx)⟩
theorem a6M(n:Nat):(zs n).sum=0:=by
 induction n with
 |zero=>rfl
 |succ n ih=>unfold zs at *;rw[Zs,Ze,ih];rfl
theorem c1O{n:Nat}{m:Int}{ks:OI}{vs:List D}(h1:1≤n)(h6:n≤6)(m0:0≤m)(m1:m<Wy (zs n))(hk:KL n ks vs):
  ∃ks' vs',a4R [.dat (.int (n:Int)),.dat (.int m),.parD ks vs]=some (.d (dT (lay n (zs n) m)),[.dat (.int (n:Int)),.dat (.int m),.parD ks' vs'])/\KL n ks' vs':=by
 obtain⟨m',ks',vs',s',x5,e,hk'⟩:=c1N (w0:=.dat (.int (n:Int))) (k:=n) (F:=60) (rows:=[]) (w5:=.nil) (by omega) (bt0 h1 h6) (by rw[a6M];omega) m0 m1 hk (by simp;omega)
 refine⟨ks',vs',(x9_ (d:=dT (lay n (zs n) m)) (env:=[.dat (.int (n:Int)),.dat (.int m'),.parD ks' vs',.dat (.lst ((lay n (zs n) m).map dR)),.dat (dR s'),x5]) ?_).trans rfl,hk'⟩;show a9i [.dat (.int (n:Int)),.dat (.int m),.parD ks vs,.nil,.nil,.nil]=_;unfold a9i;refine v4_ (e1:=[.dat (.int (n:Int)),.dat (.int m),.parD ks vs,.own [],.nil,.nil]) rfl (v4_ (e1:=[.dat (.int (n:Int)),.dat (.int m),.parD ks vs,.own [],.dat (dR (zs n)),.nil]) ?_ (v4_ (e1:=[.dat (.int (n:Int)),.dat (.int m'),.parD ks' vs',.own ((lay n (zs n) m).map dR),.dat (dR s'),x5]) e ?_))
 ·refine a0h (e1:=[.dat (.int (n:Int)),.dat (.int m),.parD ks vs,.own [],.nil,.nil]) (q4_ rfl rfl ?_)
  show(if 1≤(n:Int)/\(n:Int)≤1000 then some (D.tup (List.replicate (n:Int).toNat (.int 0)))else none)=_
  rw[Qg (by omega),Yn]
  unfold dR;rw[List.map_replicate]
 ·exact j3_ (g3_ (ds:=[.lst ((lay n (zs n) m).map dR)]) (x1_ (e1:=[.dat (.int (n:Int)),.dat (.int m'),.parD ks' vs',.dat (.lst ((lay n (zs n) m).map dR)),.dat (dR s'),x5]) rfl rfl) rfl)
def CT:List Int:=[0,1,2,7,42,429,7436,218348,10850216,911835460,129534272700,31095744852375,12611311859677500,8639383518297652500,9995541355448167482000,19529076234661277104897200,64427185703425689356896743840,358869201916137601447486156417296,3374860639258750562269514491522925456,53580350833984348888878646149709092313244,1436038934715538200913155682637051204376827212,64971294999808427895847904380524143538858551437757,4962007838317808727469503296608693231827094217799731304,639678600348796935600782403668485485893162060205454197694128,139195130590028911121955178430809752278606772281224640157476731328,51125173829571287017224567391919410147905063533336189533617647958933056,31694643543104607480921162707742501609362696928834959986395357757923798445184,33164234712270688420209659351824591989314183382023137257004449888065452053534780352,58570729347335323136023302737708945425317502220277071272415602221462430624119608343237888,174587047432302670618553571492623519395234302099274953709218895672410142725570487269650224035072,878332450140829638256484522632471257632660252323533130626178143135124108228994737708014781199407297536,7457901645375312545846943364460201024500933619811719342594448739658061730204945465190362255297438758806424576,106876183004756345933570420828879852887529017236888227871760355325189568195517154820121130386082846697528094385580032,2584924811318585705108811000877026169148238078203127674146235688840723327580567676824350502889195295300743531850748640388096,105514968848369268246973724672387943867636222367428622522985934275582783567424112810493457065360641332955055745357259203710182364160,7269025684908494972966607377858301476140740706020503261590347784559624280487182910389632836812694072354964404092791444254084395055586707200,845145260448529411554359434697495931449738707640711257439325496122762790256984169864283339380447721270308932303526439461906605795491600686363168000,165835249056605492416355557963377430048594089206805267989348056853584108124875076102203612627802970127613334419432183569347413052441844538867102052696840000,54917427087918674833620357513550306824956863230838706714665928045252082223213227678476898770119404852333495740951741438980024978096980449116662902527610721323280000,30692274628140156272643739291994436534436318668755431714151742175626467541711328060170119488777383578520434893985019199711974799164636299647067459873380483701787779424056000,28948856429239857530293613047238124124975256729044914412911273571417655213538110563183907920433907663685851898406998368604933339609487176747272070136422559854219386121020181952222400]
theorem a6N{C:Int->Int->Bool}{g:Int->Int->D}{a b:Int}(h:C a b=true):fI C g (.int a) (.int b)=some (g a b):=by
 show(if C a b then some (g a b)else none)=_
 rw[h];rfl
theorem a9T{a b:Int}(h:a1d a b=true):y0_ (.int a) (.int b)=some (.int (a * b)):=by
 have e:a5A (.int a) (.int b)=some (.int (a * b)):=a6N h
 unfold y0_ fOr;rw[e]
theorem c1P{a b:Int}(h:a3p a b=true):a1I (.int a) (.int b)=some (.int (a/b)):=a6N h
theorem a9U{a b:Int}(h:a3N a b=true):a2q (.int a) (.int b)=some (.int (a * b)):=a6N h
theorem c1Q{a b:Int}(h:a2R a b=true):a2r (.int a) (.int b)=some (.int (a/b)):=a6N h
theorem c1R{g:OZ}{b:Mo Fl}{d:D}{ds:List D}{e e1 e2:Env'}{r:Option (Fl×Env')}(h1:g d e=some e1)(h2:b e1=some (.nx,e2))(h3:loop g b ds e2=r):loop g b (d::ds) e=r:=by
 unfold loop;rw[h1,Qj,h2];exact h3
theorem a6O{i:Nat}{f:D->D->Option D}{m:Mo D}{e e1 e2:Env'}{d0 d d':D}(h0:e[i]? =some (.dat d0))(h1:m e=some (d,e1))(h2:f d0 d=some d')(h3:e1.set i (.dat d')=e2):g1_ i f m e=some (.nx,e2):=by
 unfold g1_;rw[h0];simp only;rw[h1,Qj,h2,←h3];rfl
theorem c1S{ma mb mc:Mo D}{env:Env'}{a x b:Int}(h1:ma env=some (.int a,env))(h2:mb env=some (.int x,env))(h3:mc env=some (.int b,env))(ha:a≤x)(hb:x≤b):a1M dLe dLe ma mb mc env=some (.bl true,env):=by
 unfold a1M;rw[h1,Qj,h2,Qj];have e1:dLe (.int a) (.int x)=some (.bl true):=by show some (D.bl (decide _))=_;simp[ha]
 have e2:dLe (.int x) (.int b)=some (.bl true):=by show some (D.bl (decide _))=_;simp[hb]
 simp only;rw[e1];simp only;rw[h3,Qj,e2];rfl
theorem a5f{x a b:Int}{nm:D}(ha:a≤x)(hb:x≤b):a0q [.dat (.int x),.dat (.int a),.dat (.int b),.dat nm]=some (.d .non,[.dat (.int x),.dat (.int a),.dat (.int b),.dat nm]):=by
 have h1:a6j [.dat (.int x),.dat (.int a),.dat (.int b)]=some (.d (.bl true),[.dat (.int x),.dat (.int a),.dat (.int b)]):=by
  refine(x9_ (d:=.bl true) (env:=[.dat (.int x),.dat (.int a),.dat (.int b)]) ?_).trans rfl;show a8V [.dat (.int x),.dat (.int a),.dat (.int b)]=_;unfold a8V;refine j3_ (a9L (e1:=[.dat (.int x),.dat (.int a),.dat (.int b)]) ?_ (c1S rfl rfl rfl ha hb));exact y7_ (av:=[.d (.int x)]) rfl rfl rfl (b2G (.int x))
 have h2:a4O [.dat (.int x),.dat (.int a),.dat (.int b),.dat nm]=some (.nx,[.dat (.int x),.dat (.int a),.dat (.int b),.dat nm]):=by
  unfold a4O;exact a0i (e1:=[.dat (.int x),.dat (.int a),.dat (.int b),.dat nm]) (a4C (b:=true) (w2_ (y7_ (av:=[.d (.int x),.d (.int a),.d (.int b)]) rfl rfl rfl h1))) rfl
 show fnM 4 a4O _=_;unfold fnM;show(match a4O [.dat (.int x),.dat (.int a),.dat (.int b),.dat nm]with|some (.ret d,env)=>_|some (.retL ds,env)=>_|some (.nx,env)=>_|_=>none)=_
 rw[h2];rfl
theorem c1T{a n:Nat}(h:a<n):up a n=a::up (a+1) n:=by
 unfold up;have:n-a=(n-(a+1))+1:=by omega
 rw[this,Vk,Qy,Zb,Nat.add_zero]
 congr 1
 refine Zc fun x _=>?_
 show a+(x+1)=a+1+x
 omega
theorem a9V{g:OZ}{b:Mo Fl}{n:Nat}{P:Nat->Env'->Prop}:∀(k a:Nat),k=n-a->a≤n->(∀i,a≤i->i<n->∀e,P i e->∃e1 e2,g (qN i) e=some e1/\b e1=some (.nx,e2)/\P (i+1) e2)->∀{env:Env'},P a env->∃env',loop g b ((up a n).map qN) env=some (.nx,env')/\P n env'
 |0,a,hk,ha,h,env,p=>by
  have:a=n:=by omega
  subst this;have:up a a=[]:=by unfold up;simp
  rw[this];exact⟨env,rfl,p⟩
 |k+1,a,hk,ha,h,env,p=>by
  have hl:a<n:=by omega
  obtain⟨e1,e2,h1,h2,h3⟩:=h a (Qp _) hl env p;obtain⟨e',h4,h5⟩:=a9V k (a+1) (by omega) (by omega) (fun i hi=>h i (by omega)) h3
  refine⟨e',?_,h5⟩;rw[c1T hl,Qy];exact c1R h1 h2 h4
def fc(n:Nat):Int:=Nat.rec 1 (fun k a=>a * ((k:Int)+1)) n
theorem a9W{g:Nat->Int}(h0:∀k,1≤g k):∀{i n:Nat},i≤n->1≤(Nat.rec 1 (fun k a=>a * g k) i:Int)/\(Nat.rec 1 (fun k a=>a * g k) i:Int)≤Nat.rec 1 (fun k a=>a * g k) n:=by
 have pos:∀i:Nat,1≤(Nat.rec 1 (fun k a=>a * g k) i:Int):=by
  intro i
  induction i with
  |zero=>exact Int.le_refl 1
  |succ i ih=>
   show(1:Int)≤(Nat.rec 1 (fun k a=>a * g k) i:Int) * g i
   have:=Int.mul_le_mul ih (h0 i) (by decide) (by omega)
   omega
 intro i n
 induction n with
 |zero=>
  intro h;have:i=0:=by omega
  subst this;exact⟨pos 0,Int.le_refl _⟩
 |succ n ih=>
  intro h
  by_cases e:i=n+1
  ·subst e;exact⟨pos (n+1),Int.le_refl _⟩
  ·refine⟨pos i,Int.le_trans (ih (by omega)).2 ?_⟩
   show(Nat.rec 1 (fun k a=>a * g k) n:Int)≤(Nat.rec 1 (fun k a=>a * g k) n:Int) * g n
   have:=Int.mul_le_mul_of_nonneg_left (h0 n) (show(0:Int)≤Nat.rec 1 (fun k a=>a * g k) n by have:=pos n;omega)
   omega
theorem a6P{a b:Int}{N:Nat}(h1:1≤a)(h2:a≤b)(h:Builtin.Int.intBits b≤N):Builtin.Int.intBits a≤N:=by
 unfold Builtin.Int.intBits at h ⊢;have ha:(a==0)=false:=by simp;omega
 have hb:(b==0)=false:=by simp;omega
 rw[ha];rw[hb]at h;simp only[Zj,Yc]at h ⊢;have h3:a.natAbs≤b.natAbs:=by omega
 have:a.natAbs.log2≤b.natAbs.log2:=(Nat.le_log2 (by omega)).mpr (Yj (Nat.log2_self_le (by omega)) h3)
 omega
theorem a6Q{i n:Nat}(h:i≤n):1≤fc i/\fc i≤fc n:=a9W (g:=fun k=>(k:Int)+1) (fun k=>by omega) h
theorem c1U:Builtin.Int.intBits (fc 121)≤60000:=by decide+kernel
theorem a9X{n:Nat}(h:n≤121):Builtin.Int.intBits (fc n)≤60000:=a6P (a6Q h).1 (a6Q h).2 c1U
theorem a9Y{a b:Int}(h1:Builtin.Int.intBits a≤60000)(h2:Builtin.Int.intBits b≤60000):a3N a b=true:=by unfold a3N;rw[Qe h1,Qe h2];rfl
theorem b3H{n:Nat}{z:Int}(hz:z=(n:Int))(h1:1≤n)(hn:n≤120):∃ws,a1S [.dat (.int z)]=some (.d (.int (fc n)),ws):=by
 subst hz;obtain⟨e',e,x2,he⟩:=a9V (g:=gN 2) (b:=g1_ 1 a2q (z0_ 2)) (n:=n+1) (P:=fun i e=>∃w2,e=[.dat (.int (n:Int)),.dat (.int (fc (i-1))),w2]) (n+1-2) 2 rfl (by omega) (fun i h2 hi e ⟨w2,he⟩=>by
  subst he;obtain⟨k,rfl⟩:∃k,i=k+1:=⟨i-1,by omega⟩
  have hm:a3N (fc k) ((k:Int)+1)=true:=a9Y (a9X (by omega)) (a6P (b:=200) (by omega) (by omega) (by decide+kernel))
  refine⟨[.dat (.int (n:Int)),.dat (.int (fc k)),.dat (.int ((k+1:Nat):Int))],[.dat (.int (n:Int)),.dat (.int (fc k * ((k:Int)+1))),.dat (.int ((k+1:Nat):Int))],rfl,?_,_,rfl⟩;exact a6O (d:=.int ((k:Int)+1)) rfl rfl (a9U hm) rfl) (env:=[.dat (.int (n:Int)),.dat (.int 1),.nil]) ⟨_,rfl⟩
 subst he;refine⟨_,x9_ (d:=.int (fc n)) (env:=[.dat (.int (n:Int)),.dat (.int (fc n)),x2]) ?_⟩;show a9c [.dat (.int (n:Int)),.nil,.nil]=_;unfold a9c;refine v4_ (e1:=[.dat (.int (n:Int)),.dat (.int 1),.nil]) rfl (v4_ ((a1A (b3m (a:=2) (n:=n+1) (i:=2) (j:=(n:Int)+1) rfl rfl rfl (by omega) (by omega) (by omega))).trans e) rfl)
def tp(n:Nat):Int:=Nat.rec 1 (fun k a=>a * fc (3 * k+1)) n
def bo(m n:Nat):Int:=Nat.rec 1 (fun k a=>a * fc (m+k)) n
def ckB(n:Nat):Bool:=decide (Builtin.Int.intBits (bo n n)≤60000)&&a2R (tp n) (bo n n)&&decide (tp n/bo n n=CT.getD n 0)
theorem c1V:Builtin.Int.intBits (tp 40)≤60000:=by decide+kernel
theorem c1W{n:Nat}(h:n≤40):Builtin.Int.intBits (tp n)≤60000:=by
 have:=a9W (g:=fun k=>fc (3 * k+1)) (fun k=>(a6Q (Qp _)).1) h
 exact a6P this.1 this.2 c1V
theorem c1X{n i:Nat}(h:i≤n)(hb:Builtin.Int.intBits (bo n n)≤60000):Builtin.Int.intBits (bo n i)≤60000:=by
 have:=a9W (g:=fun k=>fc (n+k)) (fun k=>(a6Q (Qp _)).1) h
 exact a6P this.1 this.2 hb
theorem c1Y:(up 1 21).all ckB=true:=by decide+kernel
theorem c1Z:(up 21 31).all ckB=true:=by decide+kernel
theorem c2a:(up 31 41).all ckB=true:=by decide+kernel
theorem c2b{n:Nat}(h1:1≤n)(h2:n≤40):ckB n=true:=by
 by_cases b:n<21
 ·exact Qu.mp c1Y n (a6D.mpr ⟨by omega,by omega⟩)
 by_cases c:n<31
 ·exact Qu.mp c1Z n (a6D.mpr ⟨by omega,by omega⟩)
 ·exact Qu.mp c2a n (a6D.mpr ⟨by omega,by omega⟩)
theorem a6R{n:Nat}{z:Int}(hz:z=(n:Int))(h1:1≤n)(h2:n≤40):∃ws,a1n [.dat (.int z)]=some (.d (.int (CT.getD n 0)),ws):=by
 subst hz;have hc:=c2b h1 h2;unfold ckB at hc;rw[Qk,Qk,Qr,Qr]at hc;obtain⟨⟨c1,c2⟩,c3⟩:=hc;obtain⟨e',e,x3,he⟩:=a9B (g:=gN 3) (b:=(z9_ (g1_ 1 a2q (mCD 1 a1S (z4_ (z2_ v8_ (z2_ y0_ (mC (.int 3)) (z0_ 3)) (mC (.int 1))) z6_))) (g1_ 2 a2q (mCD 1 a1S (z4_ (z2_ v8_ (z0_ 0) (z0_ 3)) z6_))))) (n:=n) (fun i e=>∃w3,e=[.dat (.int (n:Int)),.dat (.int (tp i)),.dat (.int (bo n i)),w3]) (fun i hi e ⟨w3,he⟩=>by
  subst he;obtain⟨ws1,f1⟩:=b3H (n:=3 * i+1) (z:=3 * (i:Int)+1) (by omega) (by omega) (by omega)
  obtain⟨ws2,f2⟩:=b3H (n:=n+i) (z:=(n:Int)+(i:Int)) (by omega) (by omega) (by omega)
  refine⟨[.dat (.int (n:Int)),.dat (.int (tp i)),.dat (.int (bo n i)),.dat (.int (i:Int))],[.dat (.int (n:Int)),.dat (.int (tp i * fc (3 * i+1))),.dat (.int (bo n i * fc (n+i))),.dat (.int (i:Int))],rfl,?_,_,rfl⟩;have a1:y0_ (.int 3) (.int (i:Int))=some (.int (3 * (i:Int))):=rfl;refine v4_ (e1:=[.dat (.int (n:Int)),.dat (.int (tp i * fc (3 * i+1))),.dat (.int (bo n i)),.dat (.int (i:Int))]) ?_ ?_
  ·have c:(mCD 1 a1S (z4_ (z2_ v8_ (z2_ y0_ (mC (.int 3)) (z0_ 3)) (mC (.int 1))) z6_)) [.dat (.int (n:Int)),.dat (.int (tp i)),.dat (.int (bo n i)),.dat (.int (i:Int))]=some (.int (fc (3 * i+1)),[.dat (.int (n:Int)),.dat (.int (tp i)),.dat (.int (bo n i)),.dat (.int (i:Int))]):=
    y7_ (av:=[.d (.int (3 * (i:Int)+1))]) (k6_ (e1:=[.dat (.int (n:Int)),.dat (.int (tp i)),.dat (.int (bo n i)),.dat (.int (i:Int))]) (q4_ (e1:=[.dat (.int (n:Int)),.dat (.int (tp i)),.dat (.int (bo n i)),.dat (.int (i:Int))]) (q4_ rfl rfl a1) rfl rfl) rfl) rfl rfl f1
   exact a6O rfl c (a9U (a9Y (c1W (by omega)) (a9X (by omega)))) rfl
  ·have c:(mCD 1 a1S (z4_ (z2_ v8_ (z0_ 0) (z0_ 3)) z6_)) [.dat (.int (n:Int)),.dat (.int (tp i * fc (3 * i+1))),.dat (.int (bo n i)),.dat (.int (i:Int))]=some (.int (fc (n+i)),[.dat (.int (n:Int)),.dat (.int (tp i * fc (3 * i+1))),.dat (.int (bo n i)),.dat (.int (i:Int))]):=
    y7_ (av:=[.d (.int ((n:Int)+(i:Int)))]) rfl rfl rfl f2
   exact a6O rfl c (a9U (a9Y (c1X (by omega) c1) (a9X (by omega)))) rfl) (env:=[.dat (.int (n:Int)),.dat (.int 1),.dat (.int 1),.nil]) ⟨_,rfl⟩
 subst he;refine⟨_,x9_ (d:=.int (CT.getD n 0)) (env:=[.dat (.int (n:Int)),.dat (.int (tp n)),.dat (.int (bo n n)),x3]) ?_⟩;show a9d [.dat (.int (n:Int)),.nil,.nil,.nil]=_;unfold a9d;refine v4_ (e1:=[.dat (.int (n:Int)),.dat (.int 1),.nil,.nil]) rfl (v4_ (e1:=[.dat (.int (n:Int)),.dat (.int 1),.dat (.int 1),.nil]) rfl (v4_ ((a1A (a9z (n:=n) (j:=(n:Int)) rfl rfl (by omega))).trans e) (j3_ (q4_ rfl rfl ?_))))
 rw[←c3];exact c1Q c2
theorem a6S{n:Nat}{z:Int}(hz:z=(n:Int))(h1:1≤n)(h2:n≤40):∃ws,a0A [.dat (.int z)]=some (.d (.int (CT.getD n 0)),ws):=by
 obtain⟨ws,e⟩:=a6R hz h1 h2;refine⟨_,x9_ (d:=.int (CT.getD n 0)) (env:=[.dat (.int z)]) ?_⟩;show a9e [.dat (.int z)]=_;unfold a9e;refine v4_ (e1:=[.dat (.int z)]) (a2M (y7_ (av:=[.d (.int z),.d (.int 1),.d (.int 40),.d (.str "side")]) rfl rfl rfl (a5f (by omega) (by omega)))) (j3_ (y7_ (av:=[.d (.int z)]) rfl rfl rfl e))
def mfR(n k:Nat):Int:=Nat.rec (CT.getD (n-1) 0) (fun k a=>a * ((n:Int)-(k+1)) * ((n:Int)+(k+1)-1)/(((k:Int)+1) * (2 * (n:Int)-(k+1)-1))) k
def okF(n k:Nat):Bool:=a1d (mfR n k) ((n:Int)-(k+1))&&a1d (mfR n k * ((n:Int)-(k+1))) ((n:Int)+(k+1)-1)&&a1d ((k:Int)+1) (2 * (n:Int)-(k+1)-1)&&a3p (mfR n k * ((n:Int)-(k+1)) * ((n:Int)+(k+1)-1)) (((k:Int)+1) * (2 * (n:Int)-(k+1)-1))
def mf(n c:Nat):Int:=if n=1 then 1 else mfR n (c-1)
theorem c2c:((up 2 41).all fun n=>(List.range (n-1)).all (okF n))=true:=by decide+kernel
theorem c2d{n c:Nat}{w1:W}(h1:2≤n)(h2:n≤40)(c1:1≤c)(c2:c≤n):∃x3,loop (gN 3) ((v2_ 2 (z2_ a1I (z2_ y0_ (z2_ y0_ (z0_ 2) (z2_ k4_ (z0_ 0) (z0_ 3))) (z2_ k4_ (z2_ v8_ (z0_ 0) (z0_ 3)) (mC (.int 1)))) (z2_ y0_ (z0_ 3) (z2_ k4_ (z2_ k4_ (z2_ y0_ (mC (.int 2)) (z0_ 0)) (z0_ 3)) (mC (.int 1))))))) ((up 1 c).map qN) [.dat (.int (n:Int)),w1,.dat (.int (CT.getD (n-1) 0)),.nil]=some (.nx,[.dat (.int (n:Int)),w1,.dat (.int (mfR n (c-1))),x3]):=by
 obtain⟨e',e,x3,he⟩:=a9V (g:=gN 3) (b:=(v2_ 2 (z2_ a1I (z2_ y0_ (z2_ y0_ (z0_ 2) (z2_ k4_ (z0_ 0) (z0_ 3))) (z2_ k4_ (z2_ v8_ (z0_ 0) (z0_ 3)) (mC (.int 1)))) (z2_ y0_ (z0_ 3) (z2_ k4_ (z2_ k4_ (z2_ y0_ (mC (.int 2)) (z0_ 0)) (z0_ 3)) (mC (.int 1))))))) (n:=c) (P:=fun i e=>∃w3,e=[.dat (.int (n:Int)),w1,.dat (.int (mfR n (i-1))),w3]) (c-1) 1 rfl c1 (fun i h3 hi e ⟨w3,he⟩=>by
  subst he;obtain⟨k,rfl⟩:∃k,i=k+1:=⟨i-1,by omega⟩
  have hk:=Qu.mp (Qu.mp c2c n (a6D.mpr ⟨h1,by omega⟩)) k (Zt.mpr (by omega))
  unfold okF at hk;simp only[Qk]at hk;obtain⟨⟨⟨k1,k2⟩,k3⟩,k4⟩:=hk;have m1:=a9T k1;have m2:=a9T k2;have m3:=a9T k3;have m4:=c1P k4;have m5:y0_ (.int 2) (.int (n:Int))=some (.int (2 * (n:Int))):=rfl;refine⟨[.dat (.int (n:Int)),w1,.dat (.int (mfR n k)),.dat (.int ((k:Int)+1))],[.dat (.int (n:Int)),w1,.dat (.int (mfR n (k+1))),.dat (.int ((k:Int)+1))],rfl,?_,_,rfl⟩;refine a0h (e1:=[.dat (.int (n:Int)),w1,.dat (.int (mfR n k)),.dat (.int ((k:Int)+1))]) (q4_ (e1:=[.dat (.int (n:Int)),w1,.dat (.int (mfR n k)),.dat (.int ((k:Int)+1))]) (q4_ (e1:=[.dat (.int (n:Int)),w1,.dat (.int (mfR n k)),.dat (.int ((k:Int)+1))]) (q4_ (e1:=[.dat (.int (n:Int)),w1,.dat (.int (mfR n k)),.dat (.int ((k:Int)+1))]) rfl rfl m1) (b:=.int ((n:Int)+(k+1)-1)) rfl m2) (q4_ (b:=.int (2 * (n:Int)-(k+1)-1)) (e1:=[.dat (.int (n:Int)),w1,.dat (.int (mfR n k)),.dat (.int ((k:Int)+1))]) rfl ?_ m3) m4);exact q4_ (a:=.int (2 * (n:Int)-(k+1))) (e1:=[.dat (.int (n:Int)),w1,.dat (.int (mfR n k)),.dat (.int ((k:Int)+1))]) (q4_ (e1:=[.dat (.int (n:Int)),w1,.dat (.int (mfR n k)),.dat (.int ((k:Int)+1))]) (q4_ rfl rfl m5) rfl rfl) rfl rfl) (env:=[.dat (.int (n:Int)),w1,.dat (.int (CT.getD (n-1) 0)),.nil]) ⟨_,rfl⟩
 exact⟨x3,by rw[e,he]⟩
theorem c2e{n c:Nat}{z y:Int}(hz:z=(n:Int))(hy:y=(c:Int))(h1:1≤n)(h2:n≤40)(c1:1≤c)(c2:c≤n):∃ws,a3U [.dat (.int z),.dat (.int y)]=some (.d (.int (mf n c)),ws):=by
 subst hz hy;have p1:(a0U (mCD 4 a0q (z4_ (z0_ 0) (z4_ (mC (.int 1)) (z4_ (mC (.int 40)) (z4_ (mC (.str "side")) z6_)))))) [.dat (.int (n:Int)),.dat (.int (c:Int)),.nil,.nil]=some (.nx,[.dat (.int (n:Int)),.dat (.int (c:Int)),.nil,.nil]):=
  a2M (y7_ (av:=[.d (.int (n:Int)),.d (.int 1),.d (.int 40),.d (.str "side")]) rfl rfl rfl (a5f (by omega) (by omega)))
 have p2:(a0U (mCD 4 a0q (z4_ (z0_ 1) (z4_ (mC (.int 1)) (z4_ (z0_ 0) (z4_ (mC (.str "column")) z6_)))))) [.dat (.int (n:Int)),.dat (.int (c:Int)),.nil,.nil]=some (.nx,[.dat (.int (n:Int)),.dat (.int (c:Int)),.nil,.nil]):=
  a2M (y7_ (av:=[.d (.int (c:Int)),.d (.int 1),.d (.int (n:Int)),.d (.str "column")]) rfl rfl rfl (a5f (by omega) (by omega)))
 have p3:(mT (z2_ (dEq false) (z0_ 0) (mC (.int 1)))) [.dat (.int (n:Int)),.dat (.int (c:Int)),.nil,.nil]=some ((n:Int)==1,[.dat (.int (n:Int)),.dat (.int (c:Int)),.nil,.nil]):=
  w2_ (q4_ rfl rfl (by rw[a2n];rfl))
 by_cases hn:n=1
 ·subst hn
  refine⟨_,x9_ (d:=.int (mf 1 c)) (env:=[.dat (.int ((1:Nat):Int)),.dat (.int (c:Int)),.nil,.nil]) ?_⟩;show a4P [.dat (.int ((1:Nat):Int)),.dat (.int (c:Int)),.nil,.nil]=_;unfold a4P;refine v4_ p1 (v4_ p2 (a1z (a5b p3 ?_)));unfold mf;rw[Qg rfl];rfl
 ·obtain⟨ws,e⟩:=a6R (n:=n-1) (z:=(n:Int)-1) (by omega) (by omega) (by omega)
  obtain⟨x3,e3⟩:=c2d (n:=n) (c:=c) (w1:=.dat (.int (c:Int))) (by omega) h2 c1 c2
  refine⟨_,x9_ (d:=.int (mf n c)) (env:=[.dat (.int (n:Int)),.dat (.int (c:Int)),.dat (.int (mf n c)),x3]) ?_⟩;show a4P [.dat (.int (n:Int)),.dat (.int (c:Int)),.nil,.nil]=_;have p3':(mT (z2_ (dEq false) (z0_ 0) (mC (.int 1)))) [.dat (.int (n:Int)),.dat (.int (c:Int)),.nil,.nil]=some (false,[.dat (.int (n:Int)),.dat (.int (c:Int)),.nil,.nil]):=by
   rw[p3];have:((n:Int)==1)=false:=by simp;omega
   rw[this]
  have em:mf n c=mfR n (c-1):=Qt hn
  rw[em];unfold a4P;refine v4_ p1 (v4_ p2 (v4_ (a0i p3' rfl) (v4_ (e1:=[.dat (.int (n:Int)),.dat (.int (c:Int)),.dat (.int (CT.getD (n-1) 0)),.nil]) ?_ (v4_ ((a1A (b3m (a:=1) (n:=c) (i:=1) (j:=(c:Int)) rfl rfl rfl rfl (by omega) (by omega))).trans e3) rfl))))
  exact a0h (e1:=[.dat (.int (n:Int)),.dat (.int (c:Int)),.nil,.nil]) (y7_ (av:=[.d (.int ((n:Int)-1))]) rfl rfl rfl e)
theorem a9Z{a b:Int}(h:a=b):dEq true (.int a) (.int b)=some (.bl false):=by rw[a2n];simp[h]
def fl(n:Nat):List Int:=(up 1 (n+1)).map (mf n)
theorem b3I{α:Type}(a b:α->Int):∀l:List α,List.zipWith (· + ·) (l.map a) (l.map b)=l.map fun x=>a x+b x
 |[]=>rfl
 |x::l=>by rw[Qy,Qy,Uz,b3I a b l,Qy]
abbrev cS(f:OO)(i j:Nat):Int:=S (fun k=>f k j) i
def sI(n:Nat)(f:OO)(i:Nat):List Int:=rw' n (cS f i)
def rF(n:Nat)(f:OO)(i:Nat):OI:=(List.range (n-i)).map fun k=>rw' n (f (i+k))
theorem sI0(n:Nat)(f:OO):sI n f 0=zs n:=by
 show(List.range n).map (fun _=>(0:Int))=List.replicate n 0
 rw[List.map_const',List.length_range]
theorem a5g(n:Nat)(f:OO)(i:Nat):q5_ (sI n f i) (rw' n (f i))=sI n f (i+1):=b3I _ _ _
theorem b3J{n:Nat}(f:OO){i:Nat}(h:i<n):rF n f i=rw' n (f i)::rF n f (i+1):=by
 unfold rF;have:n-i=(n-(i+1))+1:=by omega
 rw[this,Vk,Qy,Zb]
 congr 1
 refine Zc fun k _=>?_
 show rw' n (f (i+(k+1)))=rw' n (f (i+1+k));rw[show i+(k+1)=i+1+k by omega]
theorem rF0(n:Nat)(f:OO):rF n f 0=gm n n f:=by
 unfold rF gm;rw[Nat.sub_zero];exact Zc fun k _=>by rw[Nat.zero_add]
theorem TabF.bt{n:Nat}{f:OO}(h1:1≤n)(h6:n≤6)(F:TabF n f){i:Nat}(hi:i≤n):Bt n (sI n f i):=by
 refine⟨h1,h6,a6E (by unfold sI;simp) fun x hx=>?_⟩
 obtain⟨j,hj,rfl⟩:=Zx.mp hx;exact F.col j (Zt.mp hj) i hi
theorem TabF.mem{n:Nat}{f:OO}(h1:1≤n)(h6:n≤6)(F:TabF n f){i:Nat}(hi:i<n):rw' n (f i)∈R (sI n f i):=by
 refine c1L (by unfold sI;simp) (F.bt h1 h6 (by omega)).bit ?_ ?_
 ·refine(a6C n (f i) 0).mpr ⟨fun k hk=>?_,?_⟩
  ·have:=F.row i hi (k+1) (by omega)
   omega
  ·have:=F.rowN i hi
   omega
 ·rw[a5g]
  exact(F.bt h1 h6 (by omega)).bit
theorem TabF.pth{n:Nat}{f:OO}(h1:1≤n)(h6:n≤6)(F:TabF n f):∀(k i:Nat),k=n-i->i≤n->Pth (sI n f i) (rF n f i)
 |0,i,hk,hi=>by
  have:i=n:=by omega
  subst this;have e:rF i f i=[]:=by unfold rF;simp
  rw[e];show(sI i f i).contains 0=false;cases h:(sI i f i).contains 0 with
  |false=>rfl
  |true=>
   obtain⟨j,hj,e⟩:=Zx.mp (Uw.mp h);have h3:cS f i j=1:=F.colN j (Zt.mp hj)
   omega
 |k+1,i,hk,hi=>by
  have hl:i<n:=by omega
  rw[b3J f hl];refine⟨F.mem h1 h6 hl,?_⟩;rw[a5g];exact F.pth h1 h6 k (i+1) (by omega) (by omega)
theorem b3K:∀(l m x:List D),l.length=m.length->u5_ (l++x) m=u5_ l m
 |[],[],x,_=>by unfold u5_;simp
 |[],_::_,_,h=>by simp at h
 |_::_,[],_,h=>by simp at h
 |a::l,b::m,x,h=>by
  have:=b3K l m x (by simpa using h)
  unfold u5_ at this ⊢;rw[Xf,Jv,Qy,this];rfl
theorem c2f(a b:List Int):a3O (dR a) (dR b)=some (.bl (HT.lexLt a b)):=by
 have e:a6f (dR a) (dR b)=some (.bl (HT.lexLt a b)):=by
  show((ints? (a.map D.int)).bind fun ns=>(ints? (b.map D.int)).map fun ms=>D.bl (HT.lexLt ns ms))=_
  rw[a1p,a1p];rfl
 show fOr dLt (fOr a6f a8f) (dR a) (dR b)=_;have e0:dLt (dR a) (dR b)=none:=rfl;unfold fOr;rw[e0];simp only;rw[e]
theorem c2g{n:Nat}{s r:List Int}{T:D}{acc:Int}{ks:OI}{vs:List D}(b:Bt n s)(hk:KL n ks vs):
  ∃ks' vs',((g1_ 2 a1J (mCB a0V (z5_ (mF (y9_ (y6_ (mF (k8_ 2 (u0_ (k3_ 8)) (z4_ (z0_ 3) (k1_ 1 z6_))))) [false,false,false,false,true] 2 (gT 2 (gCn (gN 5) (gCn (gN 6) gNl))) (mT (z2_ a3O (z0_ 5) (z0_ 4))) (z0_ 6))) z7_)))) [.dat T,.ownD ks vs,.dat (.int acc),.dat (dR s),.dat (dR r)]=some (.nx,[.dat T,.ownD ks' vs',.dat (.int (acc+sm (wt s) ((R s).filter (les r)))),.dat (dR s),.dat (dR r)])/\KL n ks' vs':=by
 obtain⟨ks',vs',e1,hk'⟩:=a6K (f:=k3_ 8) b (fun r hr=>b3G b hr) hk
 refine⟨ks',vs',?_,hk'⟩;obtain⟨w1,w2,q1⟩:=a5a (t:=mT (z2_ a3O (z0_ 5) (z0_ 4))) (m:=z0_ 6) (base:=[.nil,.nil,.nil,.nil,.dat (dR r)]) (q:=dR) (q2:=fun r=>D.int (wt s r)) (f:=fun r=>D.int (wt s r)) (p:=les r) (k:=5) rfl (l:=R s) (fun a _=>⟨w2_ (q4_ (a:=dR a) (b:=dR r) rfl rfl (c2f a r)),fun _=>rfl⟩) .nil .nil
 have cc:=a2o (mi:=y6_ (mF (k8_ 2 (u0_ (k3_ 8)) (z4_ (z0_ 3) (k1_ 1 z6_))))) (keep:=[false,false,false,false,true]) (more:=2) (env:=[.dat T,.ownD ks vs,.dat (.int acc),.dat (dR s),.dat (dR r)]) (e1:=[.dat T,.ownD ks' vs',.dat (.int acc),.dat (dR s),.dat (dR r)]) (e3:=[.dat T,.ownD ks' vs',.dat (.int acc),.dat (dR s),.dat (dR r)]) (ds:=chD s)
  (a2p (a0g (a1B ((a3E (i:=1) (w:=.ownD ks vs) (c:=.d ks vs) (c':=.d ks' vs') (e1:=[.dat T,.ownD ks vs,.dat (.int acc),.dat (dR s),.dat (dR r)]) (av:=[.d (dR s),.sl 1]) rfl rfl rfl rfl rfl e1 rfl).trans rfl))) rfl)
  (by have:=b.few;unfold chD;rw[Qw];omega) q1 rfl
 have hs:a0V [.lst (((R s).filter (les r)).map fun r=>D.int (wt s r))]=some (.int (sm (wt s) ((R s).filter (les r)))):=by
  have e:(((R s).filter (les r)).map fun r=>D.int (wt s r))=(((R s).filter (les r)).map (wt s)).map D.int:=by rw[Zb];rfl
  rw[e,b3j];rfl
 exact a6O rfl (g3_ (x1_ (a0g cc) rfl) hs) rfl rfl
theorem c2h{n:Nat}{f:OO}(h1:1≤n)(h6:n≤6)(F:TabF n f):a6r [.dat (dT (gm n n f))]=some (.d (.int (num (zs n) (gm n n f))),[.dat (dT (gm n n f))]):=by
 have hz:u5_ ((List.range (n+1)).map fun i=>dR (sI n f i)) ((List.range n).map fun i=>dR (rw' n (f i)))=(List.range n).map fun i=>.tup [dR (sI n f i),dR (rw' n (f i))]:=by
  rw[Vd,Zg,b3K _ _ _ (by simp),c1C]
 obtain⟨e',e,ks',vs',w3,w4,he,hk'⟩:=a9A (g:=gT 2 (gCn (gN 3) (gCn (gN 4) gNl))) (b:=(g1_ 2 a1J (mCB a0V (z5_ (mF (y9_ (y6_ (mF (k8_ 2 (u0_ (k3_ 8)) (z4_ (z0_ 3) (k1_ 1 z6_))))) [false,false,false,false,true] 2 (gT 2 (gCn (gN 5) (gCn (gN 6) gNl))) (mT (z2_ a3O (z0_ 5) (z0_ 4))) (z0_ 6))) z7_)))) (ds:=(List.range n).map fun i=>.tup [dR (sI n f i),dR (rw' n (f i))]) (P:=fun i e=>∃ks vs w3 w4,e=[.dat (dT (gm n n f)),.ownD ks vs,.dat (.int (num (zs n) (gm n n f)-num (sI n f i) (rF n f i))),w3,w4]/\KL n ks vs) (env:=[.dat (dT (gm n n f)),.ownD [] [],.dat (.int 0),.nil,.nil])
  (fun i d e hi ⟨ks,vs,w3,w4,he,hk⟩=>by
   subst he;have hil:i<n:=by
    have:=(Qb.mp hi).1
    simpa using this
   rw[Zu,List.getElem?_range hil]at hi;cases hi;obtain⟨ks',vs',e1,hk'⟩:=c2g (s:=sI n f i) (r:=rw' n (f i)) (T:=dT (gm n n f)) (acc:=num (zs n) (gm n n f)-num (sI n f i) (rF n f i)) (F.bt h1 h6 (by omega)) hk
   refine⟨_,_,rfl,e1,ks',vs',.dat (dR (sI n f i)),.dat (dR (rw' n (f i))),?_,hk'⟩;have:num (zs n) (gm n n f)-num (sI n f i) (rF n f i)+sm (wt (sI n f i)) ((R (sI n f i)).filter (les (rw' n (f i))))=num (zs n) (gm n n f)-num (sI n f (i+1)) (rF n f (i+1)):=by
    rw[b3J f hil];show _-(sm (wt (sI n f i)) ((R (sI n f i)).filter (les (rw' n (f i))))+num (q5_ (sI n f i) (rw' n (f i))) (rF n f (i+1)))+_=_;rw[a5g];omega
   rw[this]) ⟨[],[],.nil,.nil,by rw[sI0,rF0,Int.sub_self],KL.nil n⟩
 have hlen:((List.range n).map fun i=>D.tup [dR (sI n f i),dR (rw' n (f i))]).length=n:=by simp
 rw[hlen]at he;have hN:num (sI n f n) (rF n f n)=0:=by
  have:rF n f n=[]:=by unfold rF;simp
  rw[this];rfl
 rw[hN,Int.sub_zero]at he;subst he;have hT:isT (dT (gm n n f))=true:=b3d.mpr ⟨⟨h1,h6⟩,F⟩;have hm:a6m [.dat (dT (gm n n f))]=some (.d .non,[.dat (dT (gm n n f))]):=by
  have h2:a4N [.dat (dT (gm n n f))]=some (.nx,[.dat (dT (gm n n f))]):=by
   unfold a4N;exact a0i (e1:=[.dat (dT (gm n n f))]) (a4C (b:=true) (w2_ (y7_ (av:=[.d (dT (gm n n f))]) rfl rfl rfl (by rw[←hT];exact c0Q _)))) rfl
  show fnM 1 a4N _=_;unfold fnM;show(match a4N [.dat (dT (gm n n f))]with|some (.ret d,env)=>_|some (.retL ds,env)=>_|some (.nx,env)=>_|_=>none)=_
  rw[h2];rfl
 refine(x9_ (d:=.int (num (zs n) (gm n n f))) (env:=[.dat (dT (gm n n f)),.ownD ks' vs',.dat (.int (num (zs n) (gm n n f))),w3,w4]) ?_).trans rfl;show a9j [.dat (dT (gm n n f)),.nil,.nil,.nil,.nil]=_;unfold a9j;refine v4_ (e1:=[.dat (dT (gm n n f)),.nil,.nil,.nil,.nil]) (a2M (y7_ (av:=[.d (dT (gm n n f))]) rfl rfl rfl hm)) (v4_ (e1:=[.dat (dT (gm n n f)),.ownD [] [],.nil,.nil,.nil]) rfl (v4_ (e1:=[.dat (dT (gm n n f)),.ownD [] [],.dat (.int 0),.nil,.nil]) rfl (v4_ ((a1A ?_).trans e) rfl)));have sd:=c1z (n:=n) (m:=n) f h1 h1 (by omega) (by omega)
 have cz:(z5_ (mCD 1 a4L (z4_ (z0_ 0) z6_)) (z5_ (z0_ 0) z7_)) [.dat (dT (gm n n f)),.ownD [] [],.dat (.int 0),.nil,.nil]=some ([dT (gm (n+1) n fun i j=>S (fun k=>f k j) i),dT (gm n n f)],[.dat (dT (gm n n f)),.ownD [] [],.dat (.int 0),.nil,.nil]):=
  x1_ (e1:=[.dat (dT (gm n n f)),.ownD [] [],.dat (.int 0),.nil,.nil]) (y7_ (av:=[.d (dT (gm n n f))]) rfl rfl rfl sd) (x1_ (d:=dT (gm n n f)) rfl rfl)
 unfold a2K;rw[cz,Qj];show some (u5_ ((gm (n+1) n fun i j=>S (fun k=>f k j) i).map dR) ((gm n n f).map dR),_)=_
 unfold gm;rw[Zb,Zb];exact Yb (fun l=>some (l,_)) hz
theorem Wy0{n:Nat}(h1:1≤n)(h6:n≤6):Wy (zs n)=CT.getD n 0:=by
 have:n=1∨n=2∨n=3∨n=4∨n=5∨n=6:=by omega
 rcases this with rfl|rfl|rfl|rfl|rfl|rfl<;>decide+kernel
theorem c2i{n:Nat}{m:Int}(h1:1≤n)(h6:n≤6)(m0:0≤m)(m1:m<Wy (zs n)):∃ws,a1U [.dat (.int (n:Int)),.dat (.int m)]=some (.d (dT (lay n (zs n) m)),ws):=by
 obtain⟨ks',vs',e,_⟩:=c1O h1 h6 m0 m1 (KL.nil n);obtain⟨wc,ec⟩:=a6R (n:=n) (z:=(n:Int)) rfl h1 (by omega)
 have hw:=Wy0 h1 h6
 refine⟨_,x9_ (d:=dT (lay n (zs n) m)) (env:=[.dat (.int (n:Int)),.dat (.int m)]) ?_⟩;show a9k [.dat (.int (n:Int)),.dat (.int m)]=_;unfold a9k;refine v4_ (e1:=[.dat (.int (n:Int)),.dat (.int m)]) (a2M (y7_ (av:=[.d (.int (n:Int)),.d (.int 1),.d (.int 6),.d (.str "side")]) rfl rfl rfl (a5f (by omega) (by omega)))) (v4_ (e1:=[.dat (.int (n:Int)),.dat (.int m)]) (a2M (y7_ (av:=[.d (.int m),.d (.int 0),.d (.int (CT.getD n 0-1)),.d (.str "number")]) ?_ rfl rfl (a5f (by omega) (by omega)))) (j3_ ?_))
 ·exact k6_ (e1:=[.dat (.int (n:Int)),.dat (.int m)]) rfl (k6_ (e1:=[.dat (.int (n:Int)),.dat (.int m)]) rfl (k6_ (e1:=[.dat (.int (n:Int)),.dat (.int m)]) (q4_ (e1:=[.dat (.int (n:Int)),.dat (.int m)]) (y7_ (av:=[.d (.int (n:Int))]) rfl rfl rfl ec) rfl rfl) rfl))
 ·unfold a3M a6c
  show((if 2+1=3 then(a4R [.dat (.int (n:Int)),.dat (.int m),.parD [] []]).map fun q=>(q.1,[W.dat (.int (n:Int)),W.dat (.int m)])else none).bind asD)=_
  rw[Qg rfl,e];rfl
theorem back{n:Nat}{f:OO}(h1:1≤n)(h6:n≤6)(F:TabF n f):lay n (zs n) (num (zs n) (gm n n f))=gm n n f:=by
 have p:=F.pth h1 h6 n 0 rfl (by omega)
 rw[sI0,rF0]at p;exact a9R (bt0 h1 h6) p (by rw[a1X];omega)
theorem c2j{n:Nat}{f:OO}(h1:1≤n)(h6:n≤6)(F:TabF n f):0≤num (zs n) (gm n n f)/\num (zs n) (gm n n f)<Wy (zs n):=by
 have p:=F.pth h1 h6 n 0 rfl (by omega)
 rw[sI0,rF0]at p;exact a3c (bt0 h1 h6) p
theorem Tab.fn{T:OI}{n:Nat}(t:Tab T)(hn:T.length=n):∃f,T=gm n n f/\TabF n f:=by
 have e:=c1u (n:=n) hn (by rw[←hn];exact t.len)
 refine⟨at2 T,e,?_⟩;have:=t.ok;rw[e]at this;exact(b3d.mp this).2
abbrev eT:Mo Bool:=mT (z2_ dGt (z0_ 3) (mC (.int 0)))
abbrev eB:Mo Fl:=a2g 2 3 (z5_ (z0_ 3) (z5_ (z2_ a0b (z0_ 2) (z0_ 3)) z7_))
theorem b3L{d0 d1:W}{a n:Nat}:whl eT eB (n+1) [d0,d1,.dat (.int (a:Int)),.dat (.int 0)]=some (.nx,[d0,d1,.dat (.int (a:Int)),.dat (.int 0)]):=rfl
theorem b3M{d0 d1:W}{a b n:Nat}(hb:0<b):whl eT eB (n+1) [d0,d1,.dat (.int (a:Int)),.dat (.int (b:Int))]=whl eT eB n [d0,d1,.dat (.int (b:Int)),.dat (.int ((a%b:Nat):Int))]:=by
 have h1:eT [d0,d1,.dat (.int (a:Int)),.dat (.int (b:Int))]=some (true,[d0,d1,.dat (.int (a:Int)),.dat (.int (b:Int))]):=by
  show some (decide ((b:Int)>0),_)=_;rw[Qe (by omega)]
 have h2:eB [d0,d1,.dat (.int (a:Int)),.dat (.int (b:Int))]=some (.nx,[d0,d1,.dat (.int (b:Int)),.dat (.int ((a%b:Nat):Int))]):=by
  refine a9M (a:=.int (b:Int)) (b:=.int ((a%b:Nat):Int)) (e1:=[d0,d1,.dat (.int (a:Int)),.dat (.int (b:Int))]) (x1_ rfl (x1_ (q4_ rfl rfl ?_) rfl)) rfl;show(if decide ((0:Int)<(b:Int))=true then some (D.int ((a:Int)%(b:Int)))else none)=_
  rw[Qg (Qe (by omega))]
  rfl
 show(eT _).bind _=_;rw[h1,Qj];dsimp only;rw[Qg rfl,h2]
 rfl
theorem b0a{d0 d1:W}:∀(k a b n:Nat),b<2^k->2 * k+1≤n->whl eT eB n [d0,d1,.dat (.int (a:Int)),.dat (.int (b:Int))]=some (.nx,[d0,d1,.dat (.int ((Nat.gcd a b:Nat):Int)),.dat (.int 0)])
 |k,a,0,n+1,_,_=>by
  rw[Nat.gcd_zero_right];exact b3L
 |0,a,b+1,n,h,_=>by simp at h
 |k+1,a,b+1,n+2,h,hn=>by
  rw[b3M (Nat.succ_pos b)];have hg:Nat.gcd a (b+1)=Nat.gcd (b+1) (a%(b+1)):=by
   rw[Vr a,Nat.gcd_rec,Vr]
  rcases Nat.eq_zero_or_pos (a%(b+1))with hz|hz
  ·rw[hg,hz,Nat.gcd_zero_right]
   exact b3L
  ·rw[b3M hz,hg]
   have hg2:Nat.gcd (b+1) (a%(b+1))=Nat.gcd (a%(b+1)) ((b+1)%(a%(b+1))):=by
    rw[Vr (b+1),Nat.gcd_rec,Vr]
   rw[hg2];refine b0a k _ _ n ?_ (by omega)
   show(b+1)%(a%(b+1))<2^k;have h1:(b+1)%(a%(b+1))<a%(b+1):=Nat.mod_lt _ hz;have h2:a%(b+1)≤b+1:=Uk (Nat.mod_lt _ (Nat.succ_pos b));have h3:(b+1)%(a%(b+1))+(a%(b+1))≤b+1:=by
    have h4:=Nat.mod_add_div (b+1) (a%(b+1))
    have h5:1≤(b+1)/(a%(b+1)):=Nat.div_pos h2 hz
    have h6:=Nat.mul_le_mul_left (a%(b+1)) h5
    omega
   have hp:2^(k+1)=2 * 2^k:=by rw[Nat.pow_succ];omega
   omega
 |k+1,a,b+1,0,_,hn=>by omega
 |k+1,a,b+1,1,_,hn=>by omega
 |k,a,0,0,_,hn=>by omega
def frD(a b:Nat):D:=.tup [.int ((a:Int)/((Nat.gcd a b:Nat):Int)),.int ((b:Int)/((Nat.gcd a b:Nat):Int))]
theorem a6T{a g:Nat}(hg:0<g)(hs:g<2^29):a2r (.int (a:Int)) (.int (g:Int))=some (.int ((a:Int)/(g:Int))):=by
 have h:a2R (a:Int) (g:Int)=true:=by
  unfold a2R;rw[Qe (by omega),PyProof.noPylong_small (by rw[Int.natAbs_natCast];omega)]
  rfl
 show(if a2R (a:Int) (g:Int)=true then some (D.int ((a:Int)/(g:Int)))else none)=_
 rw[Qg h]
theorem b3N{a b:Nat}(ha:0<a)(hb:0<b)(ha2:a<2^29)(hb2:b<2^29):a2s [.dat (.int (a:Int)),.dat (.int (b:Int))]=some (.d (frD a b),[.dat (.int (a:Int)),.dat (.int (b:Int))]):=by
 have hg:0<Nat.gcd a b:=Nat.gcd_pos_of_pos_left _ ha
 have hg2:Nat.gcd a b<2^29:=Vo (Nat.gcd_le_left _ ha) ha2
 refine a4d (env:=[.dat (.int (a:Int)),.dat (.int (b:Int)),.dat (.int ((Nat.gcd a b:Nat):Int)),.dat (.int 0)]) ?_ rfl;show a9o [.dat (.int (a:Int)),.dat (.int (b:Int)),.nil,.nil]=_;unfold a9o;refine v4_ (a9M (a:=.int (a:Int)) (b:=.int (b:Int)) (e1:=[.dat (.int (a:Int)),.dat (.int (b:Int)),.nil,.nil]) (e2:=[.dat (.int (a:Int)),.dat (.int (b:Int)),.dat (.int (a:Int)),.dat (.int (b:Int))]) rfl rfl) ?_
 refine v4_ (b0a 29 a b 60 hb2 (by decide)) ?_
 exact j3_ (a4c (x1_ (q4_ rfl rfl (a6T hg hg2)) (x1_ (q4_ rfl rfl (a6T hg hg2)) rfl)) (by simp))
theorem b0b{a b:Nat}(ha:0<a)(hb:0<b)(ha2:a<2^29)(hb2:b<2^29):g5_ [.dat (.int (a:Int)),.dat (.int (b:Int))]=some (.d (frD a b),[.dat (.int (a:Int)),.dat (.int (b:Int))]):=by
 have hg:0<Nat.gcd a b:=Nat.gcd_pos_of_pos_left _ ha
 have hg2:Nat.gcd a b<2^29:=Vo (Nat.gcd_le_left _ ha) ha2
 refine a4d (env:=[.dat (.int (a:Int)),.dat (.int (b:Int)),.dat (.int ((Nat.gcd a b:Nat):Int)),.dat (.int 0)]) ?_ rfl;show a9v [.dat (.int (a:Int)),.dat (.int (b:Int)),.nil,.nil]=_;unfold a9v;have eu:=b0a (d0:=.dat (.int (a:Int))) (d1:=.dat (.int (b:Int))) 29 b a 60 ha2 (by decide)
 rw[Vr b a]at eu;refine v4_ (a9M (a:=.int (b:Int)) (b:=.int (a:Int)) (e1:=[.dat (.int (a:Int)),.dat (.int (b:Int)),.nil,.nil]) (e2:=[.dat (.int (a:Int)),.dat (.int (b:Int)),.dat (.int (b:Int)),.dat (.int (a:Int))]) rfl rfl) ?_
 refine v4_ eu ?_
 exact j3_ (a4c (x1_ (q4_ rfl rfl (a6T hg hg2)) (x1_ (q4_ rfl rfl (a6T hg hg2)) rfl)) (by simp))
def lot:Nat->OI
 |0=>[[]]
 |k+1=>(lot k).map (fun s=>s++[0])++(lot k).map fun s=>s++[1]
def sl(n:Nat):OI:=(List.range (n+1)).reverse.flatMap fun(k:Nat)=>(lot n).filter fun s=>s.sum==(k:Int)
def Z6:List Int:=[6,5,5,4,5,4,4,3,5,4,4,3,4,3,3,2,5,4,4,3,4,3,3,2,4,3,3,2,3,2,2,1,5,4,4,3,4,3,3,2,4,3,3,2,3,2,2,1,4,3,3,2,3,2,2,1,3,2,2,1,2,1,1,0]
def P6:List Nat:=[63,31,47,55,59,61,62,15,23,27,29,30,39,43,45,46,51,53,54,57,58,60,7,11,13,14,19,21,22,25,26,28,35,37,38,41,42,44,49,50,52,56,3,5,6,9,10,12,17,18,20,24,33,34,36,40,48,1,2,4,8,16,32,0]
theorem z6:((lot 6).map List.sum).reverse=Z6:=by decide+kernel
theorem s6:((b9s 64 fun i j=>decide (Z6.getD i 0<Z6.getD j 0)).map (·.toList)==some P6)=true:=by decide+kernel
theorem l6:(lot 6).length=64:=by decide+kernel
section
variable{n:Nat}{f:OO}
abbrev fst(n:Nat)(f:OO)(m:Nat):OI:=(List.range m).map fun i=>rw' n (f i)
theorem mbw(h1:1≤n)(h6:n≤6):a0q [.dat (.int (n:Int)),.dat (.int 1),.dat (.int 6),.dat (.str "side")]=some (.d .non,[.dat (.int (n:Int)),.dat (.int 1),.dat (.int 6),.dat (.str "side")]):=by
 rcases(by omega:n=1∨n=2∨n=3∨n=4∨n=5∨n=6)with rfl|rfl|rfl|rfl|rfl|rfl<;>rfl
end
theorem t64:(T64.all fun x=>decide (0≤x)&&decide (x≤7436))=true:=by decide+kernel
theorem b0c(s:List Int):0≤Wy s/\Wy s≤7436:=by
 unfold Wy;rw[List.getD_eq_getElem?_getD];cases h:T64[64-2^s.length+idx s]? with
 |none=>exact⟨by decide,by decide⟩
 |some x=>
  have:=Qu.mp t64 x (Jh h)
  simpa using this
theorem b3O{n:Nat}{s:List Int}(b:Bt n s):1≤Wy s:=by
 have h:=b.all.1
 unfold a0B at h;simp only[Qk,Qr]at h;exact h.2
def Wn(s:List Int):Nat:=(Wy s).toNat
theorem a0M(s:List Int):((Wn s:Nat):Int)=Wy s:=Vt (b0c s).1
theorem a0N{n:Nat}{s:List Int}(b:Bt n s):0<Wn s/\Wn s<2^29:=by
 have h1:=a0M s
 have h2:=b3O b
 have h3:=(b0c s).2
 omega
def duD(s:List Int):List D:=(R s).map fun r=>.tup [dR r,frD (Wn (q5_ s r)) (Wn s)]
section
variable{n:Nat}{f:OO}
theorem b3P:∀{l:List Int},(∀x∈l,x=0∨x=1)->0≤l.sum
 |[],_=>by simp
 |x::l,h=>by
  have:=b3P fun y hy=>h y (Qm _ hy)
  have:=h x Qd;rw[Ze];omega
theorem b0d{s:List Int}(b:Bt n s):WOk n (k3_ 8) s:=b3D (k:=7) b (by have:=b3P b.bit;have:=b.hi;omega)
end
def gos:List Int->OI->Option (List Int)
 |s,[]=>some s
 |s,r::T=>if r∈R s then gos (q5_ s r) T else none
theorem a0C{n:Nat}:∀{T:OI}{s s':List Int},Bt n s->gos s T=some s'->Bt n s'/\(∀r∈T,r.length=n)/\s'.sum=s.sum+T.length
 |[],s,s',b,h=>by
  cases h;exact⟨b,(fun r hr=>nomatch hr),by simp⟩
 |r::T,s,s',b,h=>by
  unfold gos at h;split at h
  ·rename_i hr
   obtain⟨hl,_,b2⟩:=b.row hr;obtain⟨q1,q2,q3⟩:=a0C b2 h;refine⟨q1,fun x hx=>?_,?_⟩
   ·rcases Qi.mp hx with rfl|hx
    ·rw[hl,b.len]
    ·exact q2 x hx
   ·rw[q3,b.next hr,Zk];omega
  ·cases h
theorem c2k{l:List Int}(h:∀x∈l,x=0∨x=1):l.sum≤l.length:=by
 induction l with
 |nil=>simp
 |cons x l ih=>
  have:=ih fun y hy=>h y (Qm _ hy)
  have:=h x Qd;rw[Ze,Zk];omega
theorem b0e{n:Nat}{T:OI}{s':List Int}(h1:1≤n)(h6:n≤6)(h:gos (zs n) T=some s'):T.length≤n:=by
 obtain⟨b,_,hs⟩:=a0C (bt0 h1 h6) h;have:=c2k b.bit;rw[a6M]at hs;rw[b.len]at this
 omega
theorem a5h{n:Nat}{f:OO}(h1:1≤n)(h6:n≤6)(F:TabF n f):∀{m:Nat},m≤n->gos (zs n) (fst n f m)=some (sI n f m):=by
 have app:∀(T:OI) (s s1:List Int) (r:List Int),gos s T=some s1->r∈R s1->gos s (T++[r])=some (q5_ s1 r):=by
  intro T
  induction T with
  |nil=>intro s s1 r h hr;cases h;show(if r∈R _ then _ else _)=_;rw[Qg hr];rfl
  |cons t T ih=>
   intro s s1 r h hr;unfold gos at h;split at h
   ·rename_i ht
    show(if t∈R s then gos (q5_ s t) (T++[r])else none)=_
    rw[Qg ht];exact ih _ _ _ h hr
   ·cases h
 intro m
 induction m with
 |zero=>intro _;rw[sI0];rfl
 |succ m ih=>
  intro hm;have:=app _ _ _ _ (ih (by omega)) (F.mem h1 h6 (i:=m) (by omega))
  rw[a5g]at this;rw[←this];unfold fst;rw[Vd,Zg]
  rfl
def Sz1(d:D):Prop:=∀es,d=.tup es->es.length≤1000
def Sz(d:D):Prop:=∀es,d=.tup es->es.length≤1000/\∀x∈es,Sz1 x
def b0f(d:D)(n:Nat):Bool:=match d with
 |.tup es=>es.all fun r=>isR r (n:Int)
 |_=>false
theorem c2l{d:D}{n:Nat}(h6:n≤6)(hz:Sz d):a6s [.dat d,.dat (.int (n:Int))]=some (.d (.bl (b0f d n)),[.dat d,.dat (.int (n:Int))]):=by
 refine a4d (env:=[.dat d,.dat (.int (n:Int))]) ?_ rfl;show a9l [.dat d,.dat (.int (n:Int))]=_;unfold a9l;refine j3_ ?_
 cases d<;>first|exact c1D rfl|skip
 rename_i es;obtain⟨hl,_⟩:=hz es rfl;have hg:=b2H (.tup es) (es.length:Int) (n:Int) (by omega) (by omega)
 have:isG (.tup es) (es.length:Int) (n:Int)=b0f (.tup es) n:=by
  show((es.length:Int)==(es.length:Int)&&_)=_;rw[beq_self_eq_true,Vv]
  rfl
 rw[this]at hg;exact a9L rfl (y7_ (av:=[.d (.tup es),.d (.int (es.length:Int)),.d (.int (n:Int))]) (k6_ rfl (k6_ (g3_ (x1_ rfl rfl) rfl) rfl)) rfl rfl hg)
theorem c2m{T:OI}{n:Nat}(h:∀r∈T,r.length=n):b0f (dT T) n=true:=by
 show((T.map dR).all fun r=>isR r (n:Int))=true
 refine List.all_eq_true.mpr fun d hd=>?_
 obtain⟨r,hr,rfl⟩:=Zx.mp hd;have:=b2J r;rwa [h r hr]at this
theorem b3Q{T:List Int}:∀{L:OI},((x0_ (L.map dR)).any fun y=>PyData.eqv y (toP (dR T)))=decide (T∈L)
 |[]=>by simp[x0_]
 |V::L=>by
  show(PyData.eqv (toP (dR V)) (toP (dR T))||(x0_ (L.map dR)).any fun y=>PyData.eqv y (toP (dR T)))=_
  rw[b3Q (L:=L),a9I]
  by_cases h:V=T
  ·simp[h]
  ·have h':¬ T=V:=fun z=>h z.symm
   simp[h,h']
theorem c2n(r s:List Int):a4D true (dR r) (.lst ((R s).map dR))=some (.bl (!decide (r∈R s))):=by
 show(if _ then _ else _)=_
 rw[a9H,a9K,b3Q];have hd:(toP (dR r)).depth≤60:=by
  show PyData.depthAll (x0_ (r.map D.int))+1≤60;rw[a3b,a6z];omega
 rw[Qe hd]
 rfl
theorem b3R{g:OZ}{b:Mo Fl}{d:D}{ds:List D}{e e1 e2:Env'}{r:Option (Fl×Env')}(h1:g d e=some e1)(h2:b e1=some (.nx,e2))(h:loop g b ds e2=r):loop g b (d::ds) e=r:=by
 unfold loop;rw[h1,Qj,h2];exact h
abbrev sB:Mo Fl:=(z9_ (y2_ (mT (z2_ (a4D true) (z0_ 3) (mF (k8_ 1 a1D (z4_ (z0_ 2) z6_))))) a3s mNx) (v2_ 2 (mCD 2 a1a (z4_ (z0_ 2) (z4_ (z0_ 3) z6_)))))
abbrev xT:Mo Bool:=mT (z2_ (a4D true) (z0_ 3) (mF (k8_ 1 a1D (z4_ (z0_ 2) z6_))))
section
variable{n:Nat}{w0 w1:W}
theorem c2o{r s:List Int}(b:Bt n s):xT [w0,w1,.dat (dR s),.dat (dR r)]=some (!decide (r∈R s),[w0,w1,.dat (dR s),.dat (dR r)]):=by
 have er:=b3w b
 have ei:=c2n r s
 generalize dR s=A at *;exact w2_ (q4_ rfl (a0g (a1B (a0y (av:=[.d A]) rfl rfl rfl er))) ei)
theorem c2p{r s:List Int}(b:Bt n s)(hr:r∈R s):sB [w0,w1,.dat (dR s),.dat (dR r)]=some (.nx,[w0,w1,.dat (dR (q5_ s r)),.dat (dR r)]):=by
 have ht:=c2o (w0:=w0) (w1:=w1) (r:=r) b
 rw[Qe hr]at ht;have ea:=a9S b hr;generalize dR s=A at *;exact v4_ (a0i ht rfl) (a0L (d:=dR (q5_ s r)) (e1:=[w0,w1,.dat A,.dat (dR r)]) (y7_ (av:=[.d A,.d (dR r)]) rfl rfl rfl ea) rfl)
theorem b3S:∀{T:OI}{s s':List Int}{w3:W},Bt n s->gos s T=some s'->∃w,loop (gN 3) sB (T.map dR) [w0,w1,.dat (dR s),w3]=some (.nx,[w0,w1,.dat (dR s'),w])
 |[],s,s',w3,b,h=>by
  cases h;exact⟨w3,rfl⟩
 |r::T,s,s',w3,b,h=>by
  unfold gos at h;split at h
  ·rename_i hr
   obtain⟨w,q⟩:=b3S (T:=T) (w3:=.dat (dR r)) (b.row hr).2.2 h;have hb:=c2p (w0:=w0) (w1:=w1) b hr;exact⟨w,b3R (g:=gN 3) (e1:=[w0,w1,.dat (dR s),.dat (dR r)]) rfl hb q⟩
  ·cases h
end
theorem c2q{n:Nat}(h1:1≤n)(h6:n≤6):y0_ (.tup [.int 0]) (.int (n:Int))=some (dR (zs n)):=by
 rcases(by omega:n=1∨n=2∨n=3∨n=4∨n=5∨n=6)with rfl|rfl|rfl|rfl|rfl|rfl<;>rfl
theorem c2r{T:OI}{n:Nat}(hn:n≤6)(hl:T.length≤1000)(h:∀r∈T,r.length=n):Sz (dT T):=by
 intro es he;cases he;refine⟨by rw[Qw];exact hl,fun x hx fs hf=>?_⟩
 obtain⟨r,hr,rfl⟩:=Zx.mp hx;cases hf;rw[Qw,h r hr];omega
theorem b3T{n:Nat}(h1:1≤n)(h6:n≤6){T:OI}{s:List Int}(h:gos (zs n) T=some s):∃ws,a3X [.dat (.int (n:Int)),.dat (dT T)]=some (.d (dR s),ws):=by
 have hl:=b0e h1 h6 h
 obtain⟨b,hr,_⟩:=a0C (bt0 h1 h6) h;have hi:=c2l (d:=dT T) h6 (c2r h6 (by omega) hr)
 rw[c2m hr]at hi;obtain⟨w,hlp⟩:=b3S (w0:=.dat (.int (n:Int))) (w1:=.dat (dT T)) (w3:=.nil) (bt0 h1 h6) h;have hz:=c2q h1 h6;have hit:(dT T).items=some (T.map dR):=rfl;generalize dT T=A at *;refine⟨_,a4d (env:=[.dat (.int (n:Int)),.dat A,.dat (dR s),w]) ?_ rfl⟩;show a9m [.dat (.int (n:Int)),.dat A,.nil,.nil]=_;unfold a9m;refine v4_ (a2M (y7_ (av:=[.d (.int (n:Int)),.d (.int 1),.d (.int 6),.d (.str "side")]) rfl rfl rfl (mbw h1 h6))) ?_
 refine v4_ (a0i (a4C (b:=true) (w2_ (y7_ (av:=[.d A,.d (.int (n:Int))]) rfl rfl rfl hi))) rfl) ?_
 refine v4_ (a0L (d:=dR (zs n)) (e1:=[.dat (.int (n:Int)),.dat A,.nil,.nil]) (e2:=[.dat (.int (n:Int)),.dat A,.dat (dR (zs n)),.nil]) (q4_ rfl rfl hz) rfl) ?_
 exact v4_ ((a1A (a2p rfl hit)).trans hlp) (j3_ rfl)
section
variable{n:Nat}{T:OI}{s:List Int}
theorem c2s{f:Fn}{m:Mo D}{e:Env'}{d r:D}{ws:List W}(hm:m e=some (d,e))(hf:f [.dat d,.parD [] []]=some (.d r,ws)):a3M 2 f (z5_ m z7_) e=some (r,e):=by
 unfold a3M a6c;rw[x1_ hm rfl,Qj];show((if 1+1=2 then(f [.dat d,.parD [] []]).map _ else none).bind asD)=_
 rw[Qg rfl,hf]
 rfl
theorem a2u(h1:1≤n)(h6:n≤6)(h:gos (zs n) T=some s):j0_ [.dat (.int (n:Int)),.dat (dT T)]=some (.d (.int (Wy s)),[.dat (.int (n:Int)),.dat (dT T)]):=by
 obtain⟨ws,hb⟩:=b3T h1 h6 h;obtain⟨ks,vs,e1,_⟩:=b0d (a0C (bt0 h1 h6) h).1 [] [] (KL.nil n);generalize dT T=A at *;refine a4d (env:=[.dat (.int (n:Int)),.dat A]) ?_ rfl;show a9p [.dat (.int (n:Int)),.dat A]=_;unfold a9p;exact j3_ (c2s (y7_ (av:=[.d (.int (n:Int)),.d A]) rfl rfl rfl hb) e1)
theorem a5i(h1:1≤n)(h6:n≤6):CT.getD n 0=Wy (zs n):=by
 rcases(by omega:n=1∨n=2∨n=3∨n=4∨n=5∨n=6)with rfl|rfl|rfl|rfl|rfl|rfl<;>decide+kernel
theorem c2t(h1:1≤n)(h6:n≤6):∃ws,a1n [.dat (.int (n:Int))]=some (.d (.int (Wy (zs n))),ws):=by
 obtain⟨w,e⟩:=a6R (n:=n) rfl h1 (by omega)
 exact⟨w,by rw[←a5i h1 h6];exact e⟩
theorem c2u(h1:1≤n)(h6:n≤6)(h:gos (zs n) T=some s):a2W [.dat (.int (n:Int)),.dat (dT T)]=some (.d (frD (Wn s) (Wn (zs n))),[.dat (.int (n:Int)),.dat (dT T)]):=by
 have hb:=a2u h1 h6 h
 obtain⟨wc,hc⟩:=c2t h1 h6;have hW:=a0N (a0C (bt0 h1 h6) h).1;have hW0:=a0N (bt0 h1 h6);have hf:=b3N hW.1 hW0.1 hW.2 hW0.2;rw[a0M,a0M]at hf;generalize dT T=A at *;refine a4d (env:=[.dat (.int (n:Int)),.dat A]) ?_ rfl;show a9q [.dat (.int (n:Int)),.dat A]=_;unfold a9q;exact j3_ (y7_ (av:=[.d (.int (Wy s)),.d (.int (Wy (zs n)))]) (k6_ (y7_ (av:=[.d (.int (n:Int)),.d A]) rfl rfl rfl hb) (k6_ (y7_ (av:=[.d (.int (n:Int))]) rfl rfl rfl hc) rfl)) rfl rfl hf)
end
section
variable{a d:D}
end
section
variable{n:Nat}{T:OI}{s:List Int}
end
section
variable{n:Nat}
theorem b3U(h1:1≤n)(h6:n≤6){T:OI}{s:List Int}(h:gos (zs n) T=some s):∃ws,a1V [.dat (.int (n:Int)),.dat (dT T)]=some (.l (duD s),ws):=by
 obtain⟨wb,hb⟩:=b3T h1 h6 h;have b:=(a0C (bt0 h1 h6) h).1;generalize dT T=A at *;obtain⟨ks,vs,e1,hk⟩:=b0d b [] [] (KL.nil n);obtain⟨ks2,vs2,e2,hk2⟩:=a6K (f:=k3_ 8) b (fun r hr=>b0d (b.row hr).2.2) hk
 have hW:=a0N b
 have hWs:=a0M s
 refine⟨_,c1G (env:=[.dat (.int (n:Int)),.dat A,.dat (dR s),.ownD ks2 vs2,.dat (.int (Wy s))]) ?_ rfl⟩;show a9r [.dat (.int (n:Int)),.dat A,.nil,.nil,.nil]=_;unfold a9r;refine v4_ (a0L (d:=dR s) (e1:=[.dat (.int (n:Int)),.dat A,.nil,.nil,.nil]) (e2:=[.dat (.int (n:Int)),.dat A,.dat (dR s),.nil,.nil]) (y7_ (av:=[.d (.int (n:Int)),.d A]) rfl rfl rfl hb) rfl) ?_
 refine v4_ (e1:=[.dat (.int (n:Int)),.dat A,.dat (dR s),.ownD [] [],.nil]) rfl ?_
 refine v4_ (a0L (d:=.int (Wy s)) (e1:=[.dat (.int (n:Int)),.dat A,.dat (dR s),.ownD ks vs,.nil]) (e2:=[.dat (.int (n:Int)),.dat A,.dat (dR s),.ownD ks vs,.dat (.int (Wy s))]) (a0z ((a3E (i:=3) (w:=.ownD [] []) (c:=.d [] []) (c':=.d ks vs) (e1:=[.dat (.int (n:Int)),.dat A,.dat (dR s),.ownD [] [],.nil]) (av:=[.d (dR s),.sl 3]) rfl rfl rfl rfl rfl e1 rfl).trans rfl)) rfl) ?_
 refine a7R ?_
 have hel:∀r∈R s,y4_ (z5_ (z0_ 5) (z5_ (mCD 2 a2s (z4_ (z0_ 6) (z4_ (z0_ 4) z6_))) z7_)) ([.nil,.nil,.nil,.nil,.dat (.int (Wy s))]++[.dat (dR r),.dat (.int (wt s r))])=some (.tup [dR r,frD (Wn (q5_ s r)) (Wn s)],[.nil,.nil,.nil,.nil,.dat (.int (Wy s))]++[.dat (dR r),.dat (.int (wt s r))]):=fun r hr=>by
  have b2:=(b.row hr).2.2
  have hW2:=a0N b2
  have ef:=b3N hW2.1 hW.1 hW2.2 hW.2
  rw[a0M,a0M]at ef;exact a4c (x1_ rfl (x1_ (y7_ (av:=[.d (.int (wt s r)),.d (.int (Wy s))]) rfl rfl rfl ef) rfl)) (by simp)
 obtain⟨w1,w2,q1⟩:=a5a (t:=x7_) (m:=y4_ (z5_ (z0_ 5) (z5_ (mCD 2 a2s (z4_ (z0_ 6) (z4_ (z0_ 4) z6_))) z7_))) (base:=[.nil,.nil,.nil,.nil,.dat (.int (Wy s))]) (q:=dR) (q2:=fun r=>D.int (wt s r)) (f:=fun r=>.tup [dR r,frD (Wn (q5_ s r)) (Wn s)]) (p:=fun _=>true) (k:=5) rfl (l:=R s) (fun r hr=>⟨rfl,fun _=>hel r hr⟩) .nil .nil
 rw[Ug.mpr (fun _ _=>rfl)]at q1
 refine a2o (e1:=[.dat (.int (n:Int)),.dat A,.dat (dR s),.ownD ks2 vs2,.dat (.int (Wy s))]) (ds:=chD s) ?_ ?_ q1 rfl
 ·exact a2p (a0g (a1B ((a3E (i:=3) (w:=.ownD ks vs) (c:=.d ks vs) (c':=.d ks2 vs2) (e1:=[.dat (.int (n:Int)),.dat A,.dat (dR s),.ownD ks vs,.dat (.int (Wy s))]) (av:=[.d (dR s),.sl 3]) rfl rfl rfl rfl rfl e2 rfl).trans rfl))) rfl
 ·have:=b.few
  unfold chD;rw[Qw];omega
end
def rd(a b:Nat):Nat×Nat:=(a/Nat.gcd a b,b/Nat.gcd a b)
theorem b0g(a b:Nat):frD a b=.tup [.int ((rd a b).1:Int),.int ((rd a b).2:Int)]:=by
 unfold frD rd;rw[Int.natCast_ediv,Int.natCast_ediv]
theorem b3V{k:Nat}(hk:0<k)(a b:Nat):rd (k * a) (k * b)=rd a b:=by
 unfold rd;rw[Nat.gcd_mul_left,Nat.mul_div_mul_left _ _ hk,Nat.mul_div_mul_left _ _ hk]
theorem b3W{a b c d:Nat}(hb:0<b)(hd:0<d)(h:a * d=c * b):rd a b=rd c d:=by
 rw[←b3V hd a b,←b3V hb c d,Jz d a,h,Jz c b,Jz d b]
theorem a2v{a b:Nat}(hb:0<b):0<(rd a b).2/\(rd a b).1 * b=a * (rd a b).2/\(rd a b).1≤a/\(rd a b).2≤b:=by
 have hg:0<Nat.gcd a b:=Nat.gcd_pos_of_pos_right a hb
 obtain⟨x,hx⟩:=Nat.gcd_dvd_left a b;obtain⟨y,hy⟩:=Nat.gcd_dvd_right a b;have h1:(rd a b).1=x:=by
  show a/Nat.gcd a b=x;exact Nat.div_eq_of_eq_mul_right hg hx
 have h2:(rd a b).2=y:=by
  show b/Nat.gcd a b=y;exact Nat.div_eq_of_eq_mul_right hg hy
 generalize Nat.gcd a b=g at *;rw[h1,h2];subst hx hy;refine⟨Ui fun z=>by subst z;simp at hb,by rw[Nat.mul_left_comm,Ub],Nat.le_mul_of_pos_left _ hg,Nat.le_mul_of_pos_left _ hg⟩
theorem c2v{A w W:Nat}(hW:0<W):rd ((rd A W).1 * (rd w W).2+(rd w W).1 * (rd A W).2) ((rd A W).2 * (rd w W).2)=rd (A+w) W:=by
 obtain⟨p1,p2,_,_⟩:=a2v (a:=A) hW;obtain⟨q1,q2,_,_⟩:=a2v (a:=w) hW;generalize rd A W=x at *;generalize rd w W=y at *;refine b3W (Jm p1 q1) hW ?_
 rw[Nat.add_mul,Nat.add_mul];have e1:x.1 * y.2 * W=A * (x.2 * y.2):=by rw[Nat.mul_right_comm,p2,Ub]
 have e2:y.1 * x.2 * W=w * (x.2 * y.2):=by rw[Nat.mul_right_comm,q2,Ub,Jz y.2 x.2]
 rw[e1,e2]
theorem c2w{a b c:Nat}(hb:0<b)(hc:0<c):rd ((rd a b).1 * (rd b c).1) ((rd a b).2 * (rd b c).2)=rd a c:=by
 obtain⟨p1,p2,_,_⟩:=a2v (a:=a) hb;obtain⟨q1,q2,_,_⟩:=a2v (a:=b) hc;generalize rd a b=x at *;generalize rd b c=y at *;refine b3W (Jm p1 q1) hc ?_
 rw[Ub,q2,←Ub,p2,Ub]
theorem b3X{W:Nat}(h:0<W):rd W W=(1,1):=by
 unfold rd;rw[Nat.gcd_self,Nat.div_self h]
theorem c2x(N:Nat):rd 1 N=(1,N):=by
 unfold rd;rw[Nat.gcd_one_left,Nat.div_one,Nat.div_one]
theorem c2y{W:Nat}(h:0<W):rd 0 W=(0,1):=by
 unfold rd;rw[Nat.gcd_zero_left,Nat.zero_div,Nat.div_self h]
theorem b3Y{r:List Int}:∀{T:OI}{s0 s:List Int},gos s0 T=some s->r∈R s->gos s0 (T++[r])=some (q5_ s r)
 |[],s0,s,h,hr=>by
  cases h;unfold gos;rw[Vn];simp only[hr,Zm]
  rfl
 |t::T,s0,s,h,hr=>by
  unfold gos at h;split at h
  ·rename_i ht
   rw[Xf];unfold gos;rw[Qg ht];exact b3Y h hr
  ·cases h
theorem b0h(a b:Nat):frD a b=dR [((rd a b).1:Int),((rd a b).2:Int)]:=b0g a b
theorem b3Z(a b:Nat):dEq true (frD a b) (frD a b)=some (.bl false):=by
 rw[b0h,a9J];simp
section
variable{n:Nat}{T:OI}{s:List Int}
theorem a5j(s:List Int):Wn s≤7436:=by
 have:=(b0c s).2;have:=a0M s
 omega
theorem b4a{x y:List Int}{m:Nat}(bx:Bt m x)(by':Bt m y):∃ws,g5_ [.dat (.int (Wy x)),.dat (.int (Wy y))]=some (.d (frD (Wn x) (Wn y)),ws):=by
 have hx:=a0N bx
 have hy:=a0N by'
 have:=b0b hx.1 hy.1 hx.2 hy.2;rw[a0M,a0M]at this;exact⟨_,this⟩
theorem a5k{a b:Nat}(ha:a≤7436):y0_ (.int (a:Int)) (.int (b:Int))=some (.int ((a * b:Nat):Int)):=by
 rw[a4b (a4Z (by omega) (by omega)),Int.natCast_mul]
abbrev nrB:Mo Fl:=(z9_ (y2_ (mT (z2_ (dEq true) (z0_ 5) (mCD 2 g5_ (z4_ (mCD 2 j0_ (z4_ (z0_ 0) (z4_ (z2_ v8_ (z0_ 1) (y4_ (z5_ (z0_ 4) z7_))) z6_))) (z4_ (mCD 2 j0_ (z4_ (z0_ 0) (z4_ (z0_ 1) z6_))) z6_))))) (v3_ (mC (.bl false))) mNx) (w8_ (mCD 2 g5_ (z4_ (z2_ v8_ (z2_ y0_ (z0_ 2) (z2_ dIx (z0_ 5) (mC (.int 1)))) (z2_ y0_ (z2_ dIx (z0_ 5) (mC (.int 0))) (z0_ 3))) (z4_ (z2_ y0_ (z0_ 3) (z2_ dIx (z0_ 5) (mC (.int 1)))) z6_))) (gT 2 (gCn (gN 2) (gCn (gN 3) gNl)))))
theorem c2z(h1:1≤n)(h6:n≤6)(h:gos (zs n) T=some s){r:List Int}(hr:r∈R s){A:Nat}(hA:A+Wn (q5_ s r)≤Wn s):
  nrB [.dat (.int (n:Int)),.dat (dT T),.dat (.int ((rd A (Wn s)).1:Int)),.dat (.int ((rd A (Wn s)).2:Int)),.dat (dR r),.dat (frD (Wn (q5_ s r)) (Wn s))]=some (.nx,[.dat (.int (n:Int)),.dat (dT T),.dat (.int ((rd (A+Wn (q5_ s r)) (Wn s)).1:Int)),.dat (.int ((rd (A+Wn (q5_ s r)) (Wn s)).2:Int)),.dat (dR r),.dat (frD (Wn (q5_ s r)) (Wn s))]):=by
 have bs:=(a0C (bt0 h1 h6) h).1
 have h':=b3Y h hr
 have bs':=(a0C (bt0 h1 h6) h').1
 have em:=a2u h1 h6 h
 have em':=a2u h1 h6 h'
 obtain⟨wc,ec⟩:=b4a bs' bs;have hT:T.length≤n:=b0e h1 h6 h;have ha:v8_ (dT T) (.tup [dR r])=some (dT (T++[r])):=by
  rw[show dT (T++[r])=.tup (T.map dR++[dR r]) by unfold dT;rw[Zg];rfl]
  exact c1I (xs:=T.map dR) (ys:=[dR r]) (by simp;omega)
 have hW:=a0N bs
 have hw:=a0N bs'
 obtain⟨p1,p2,p3,p4⟩:=a2v (a:=A) hW.1;obtain⟨q1,q2,q3,q4⟩:=a2v (a:=Wn (q5_ s r)) hW.1;have qp:0<(rd (Wn (q5_ s r)) (Wn s)).1:=Ui fun z=>by
  rw[z,Nat.zero_mul]at q2;exact absurd q2.symm (Jc (Jm hw.1 q1))
 have key:=c2v (A:=A) (w:=Wn (q5_ s r)) hW.1
 have hle:=a5j s
 have hle':=a5j (q5_ s r)
 have ef:=b0h (Wn (q5_ s r)) (Wn s)
 have fs:=b3Z (Wn (q5_ s r)) (Wn s)
 generalize frD (Wn (q5_ s r)) (Wn s)=P at *;generalize rd A (Wn s)=x at *;generalize rd (Wn (q5_ s r)) (Wn s)=y at *;have b1:x.1 * y.2≤7436 * 7436:=Ut (by omega) (by omega)
 have b2:y.1 * x.2≤7436 * 7436:=Ut (by omega) (by omega)
 have b3:x.2 * y.2≤7436 * 7436:=Ut (by omega) (by omega)
 have c2:=b0b (a:=x.1 * y.2+y.1 * x.2) (b:=x.2 * y.2) (Qa (Jm qp p1) (Nat.le_add_left _ _)) (Jm p1 q1) (by omega) (by omega)
 rw[b0g,key]at c2;generalize dT T=TT at *;generalize dT (T++[r])=TR at *;refine v4_ (e1:=[.dat (.int (n:Int)),.dat TT,.dat (.int (x.1:Int)),.dat (.int (x.2:Int)),.dat (dR r),.dat P]) (a0i (w2_ (b:=false) (q4_ rfl (y7_ (av:=[.d (.int (Wy (q5_ s r))),.d (.int (Wy s))]) (k6_ (y7_ (av:=[.d (.int (n:Int)),.d TR]) (k6_ rfl (k6_ (q4_ rfl rfl ha) rfl)) rfl rfl em') (k6_ (y7_ (av:=[.d (.int (n:Int)),.d TT]) rfl rfl rfl em) rfl)) rfl rfl ec) fs)) rfl) ?_
 subst ef;have c3:(mCD 2 g5_ (z4_ (z2_ v8_ (z2_ y0_ (z0_ 2) (z2_ dIx (z0_ 5) (mC (.int 1)))) (z2_ y0_ (z2_ dIx (z0_ 5) (mC (.int 0))) (z0_ 3))) (z4_ (z2_ y0_ (z0_ 3) (z2_ dIx (z0_ 5) (mC (.int 1)))) z6_))) [.dat (.int (n:Int)),.dat TT,.dat (.int (x.1:Int)),.dat (.int (x.2:Int)),.dat (dR r),.dat (dR [(y.1:Int),(y.2:Int)])]=some (.tup [.int ((rd (A+Wn (q5_ s r)) (Wn s)).1:Int),.int ((rd (A+Wn (q5_ s r)) (Wn s)).2:Int)],[.dat (.int (n:Int)),.dat TT,.dat (.int (x.1:Int)),.dat (.int (x.2:Int)),.dat (dR r),.dat (dR [(y.1:Int),(y.2:Int)])]):=
  y7_ (av:=[.d (.int ((x.1 * y.2+y.1 * x.2:Nat):Int)),.d (.int ((x.2 * y.2:Nat):Int))]) (k6_ (q4_ (q4_ rfl (q4_ (c:=.int (y.2:Int)) rfl rfl rfl) (a5k (by omega))) (q4_ (q4_ (c:=.int (y.1:Int)) rfl rfl rfl) rfl (a5k (by omega))) (by rw[Int.natCast_add];rfl)) (k6_ (q4_ rfl (q4_ (c:=.int (y.2:Int)) rfl rfl rfl) (a5k (by omega))) rfl)) rfl rfl c2
 unfold w8_;rw[c3];rfl
theorem b4b:∀l:OI,(((l.map fun r=>Wn (q5_ s r)).sum:Nat):Int)=(l.map fun r=>Wy (q5_ s r)).sum
 |[]=>rfl
 |r::l=>by
  rw[Qy,Qy,Ze,Ze,Int.natCast_add,b4b l,a0M]
theorem c2A{m:Nat}(b:Bt m s)(h0:s.contains 0=true):((R s).map fun r=>Wn (q5_ s r)).sum=Wn s:=by
 have h1:=b4b (s:=s) (R s)
 rw[←b.sum h0,←a0M]at h1;exact Int.ofNat_inj.mp h1
theorem b4c(h1:1≤n)(h6:n≤6)(h:gos (zs n) T=some s):∀{l:OI}{A:Nat}{w4 w5:W},(∀r∈l,r∈R s)->A+(l.map fun r=>Wn (q5_ s r)).sum=Wn s->
  ∃z4 z5,loop (gT 2 (gCn (gN 4) (gCn (gN 5) gNl))) nrB (l.map fun r=>.tup [dR r,frD (Wn (q5_ s r)) (Wn s)]) [.dat (.int (n:Int)),.dat (dT T),.dat (.int ((rd A (Wn s)).1:Int)),.dat (.int ((rd A (Wn s)).2:Int)),w4,w5]=some (.nx,[.dat (.int (n:Int)),.dat (dT T),.dat (.int ((rd (Wn s) (Wn s)).1:Int)),.dat (.int ((rd (Wn s) (Wn s)).2:Int)),z4,z5])
 |[],A,w4,w5,_,hA=>by
  rw[Uc,List.sum_nil,Nat.add_zero]at hA;subst hA;exact⟨w4,w5,rfl⟩
 |r::l,A,w4,w5,hr,hA=>by
  rw[Qy,Ze]at hA;have t:=c2z h1 h6 h (hr r (Qd ..)) (A:=A) (by omega)
  obtain⟨z4,z5,q⟩:=b4c h1 h6 h (l:=l) (A:=A+Wn (q5_ s r)) (w4:=.dat (dR r)) (w5:=.dat (frD (Wn (q5_ s r)) (Wn s))) (fun x hx=>hr x (Qm _ hx)) (by omega)
  refine⟨z4,z5,?_⟩;rw[Qy];exact b3R rfl t q
theorem c2B(h1:1≤n)(h6:n≤6)(h:gos (zs n) T=some s)(h0:s.contains 0=true):∃ws,a3a [.dat (.int (n:Int)),.dat (dT T)]=some (.d (.bl true),ws):=by
 have bs:=(a0C (bt0 h1 h6) h).1
 have hW:=a0N bs
 obtain⟨wn,en⟩:=b3U h1 h6 h;obtain⟨z4,z5,lp⟩:=b4c h1 h6 h (l:=R s) (A:=0) (w4:=.nil) (w5:=.nil) (fun _ h=>h) (by rw[Nat.zero_add];exact c2A bs h0)
 rw[c2y hW.1,b3X hW.1]at lp;refine⟨_,x9_ (d:=.bl true) (env:=[.dat (.int (n:Int)),.dat (dT T),.dat (.int 1),.dat (.int 1),z4,z5]) ?_⟩;show a9w [.dat (.int (n:Int)),.dat (dT T),.nil,.nil,.nil,.nil]=_;unfold a9w;refine v4_ (e1:=[.dat (.int (n:Int)),.dat (dT T),.dat (.int 0),.dat (.int 1),.nil,.nil]) rfl ?_
 refine v4_ ((a1A (a2p (a0g (a1B (a0y (av:=[.d (.int (n:Int)),.d (dT T)]) rfl rfl rfl en))) rfl)).trans lp) ?_
 exact j3_ (q4_ (a:=dR [1,1]) (b:=dR [1,1]) rfl rfl (by rw[a9J];rfl))
end
def pre:List Int->OI->Int
 |_,[]=>0
 |s,r::P=>sm (wt s) ((R s).filter (les r))+pre (q5_ s r) P
theorem a6U{Q:OI}:∀{P:OI}{s0 s:List Int},gos s0 P=some s->num s0 (P++Q)=pre s0 P+num s Q
 |[],s0,s,h=>by cases h;show num s0 Q=0+num s0 Q;omega
 |r::P,s0,s,h=>by
  unfold gos at h;split at h
  ·show sm (wt s0) ((R s0).filter (les r))+num (q5_ s0 r) (P++Q)=sm (wt s0) ((R s0).filter (les r))+pre (q5_ s0 r) P+num s Q
   rw[a6U h];omega
  ·cases h
theorem b0i{Q:OI}:∀{P:OI}{s0 s:List Int},gos s0 P=some s->Pth s Q->Pth s0 (P++Q)
 |[],s0,s,h,q=>by cases h;exact q
 |r::P,s0,s,h,q=>by
  unfold gos at h;split at h
  ·rename_i hr
   exact⟨hr,b0i h q⟩
  ·cases h
theorem b0j{Q:OI}:∀{P:OI}{s0 s:List Int},gos s0 P=some s->Pth s0 (P++Q)->Pth s Q
 |[],s0,s,h,q=>by cases h;exact q
 |r::P,s0,s,h,q=>by
  unfold gos at h;split at h
  ·exact b0j h q.2
  ·cases h
section
variable{n:Nat}{P:OI}{s:List Int}
theorem b4d(h1:1≤n)(h6:n≤6)(h:gos (zs n) P=some s){k:Int}(h0:pre (zs n) P≤k)(hk:k<pre (zs n) P+Wy s):0≤pre (zs n) P/\k<Wy (zs n)/\(lay n (zs n) k).take P.length=P:=by
 obtain⟨bs,_,hsum⟩:=a0C (bt0 h1 h6) h;have hl:=b0e h1 h6 h;rw[a6M]at hsum;obtain⟨p1,p2,p3⟩:=a6I (k:=n-P.length) (m:=k-pre (zs n) P) bs (by omega) (by omega) (by omega)
 have pp:=b0i h p1
 have hn:=a6U (Q:=lay (n-P.length) s (k-pre (zs n) P)) h
 rw[p2]at hn;have hlt:=a3c (bt0 h1 h6) pp;rw[hn]at hlt;have lq:=a6I (k:=n-P.length) (m:=0) bs (by omega) (by omega) (by have:=(a3c bs p1);omega)
 have hn0:=a6U (Q:=lay (n-P.length) s 0) h
 rw[lq.2.1]at hn0;have h00:=(a3c (bt0 h1 h6) (b0i h lq.1)).1;rw[hn0]at h00;refine⟨by omega,by omega,?_⟩
 have e:lay n (zs n) k=P++lay (n-P.length) s (k-pre (zs n) P):=by
  have:=a9R (k:=n) (bt0 h1 h6) pp (by rw[Zz];omega)
  rw[hn]at this;rw[←this]
  congr 1
  omega
 rw[e,List.take_left]
theorem b4e(h1:1≤n)(h6:n≤6)(h:gos (zs n) P=some s){k:Int}(k0:0≤k)(k1:k<Wy (zs n))(ht:(lay n (zs n) k).take P.length=P):pre (zs n) P≤k/\k<pre (zs n) P+Wy s:=by
 obtain⟨bs,_,_⟩:=a0C (bt0 h1 h6) h;obtain⟨p1,p2,p3⟩:=a6I (k:=n) (m:=k) (bt0 h1 h6) (by rw[a6M];omega) k0 k1
 have e:lay n (zs n) k=P++(lay n (zs n) k).drop P.length:=by
  have:=(List.take_append_drop P.length (lay n (zs n) k)).symm;rw[ht]at this;exact this
 rw[e]at p1 p2;have q:=a3c bs (b0j h p1);rw[a6U h]at p2
 omega
end
section
variable{n:Nat}{P:OI}{s:List Int}{A:D}{F:Int}{w4 w5 w6 w7 w8:W}
def inP(n:Nat)(P:OI)(k:Int):Bool:=decide ((lay n (zs n) k).take P.length=P)
theorem b4f{e:Env'}{M:Mo D}{k:Int}(h1:1≤n)(h6:n≤6)(k0:0≤k)(k1:k<Wy (zs n))(hM:M e=some (.int k,e))(h0:z0_ 0 e=some (.int (n:Int),e))(h2:z0_ 1 e=some (dT P,e)):
  (z2_ (dEq false) (mSl (mCD 2 a1U (z4_ (z0_ 0) (z4_ M z6_))) g2_ (w9_ (mCB k2_ (z5_ (z0_ 1) z7_)))) (z0_ 1)) e=some (.bl (inP n P k),e):=by
 obtain⟨w,ea⟩:=c2i h1 h6 k0 k1;have hl:(mCB k2_ (z5_ (z0_ 1) z7_)) e=some (.int (P.length:Int),e):=g3_ (x1_ h2 rfl) (by show some (D.int ((P.map dR).length:Int))=_;rw[Qw])
 have hp:(w9_ (mCB k2_ (z5_ (z0_ 1) z7_))) e=some (some (P.length:Int),e):=by
  unfold w9_;rw[hl];rfl
 have sl:=a5s (m:=mCD 2 a1U (z4_ (z0_ 0) (z4_ M z6_))) (ml:=g2_) (lo:=none) (y7_ (av:=[.d (.int (n:Int)),.d (.int k)]) (k6_ h0 (k6_ hM rfl)) rfl rfl ea) rfl hp
 rw[a9C,←Xv]at sl;exact q4_ sl h2 (by rw[show(D.tup (List.map dR (List.take P.length (lay n (zs n) k))))=dT (List.take P.length (lay n (zs n) k))from rfl,c1A];rfl)
theorem b4g(h1:1≤n)(h6:n≤6)(h:gos (zs n) P=some s){k:Int}(k0:0≤k)(k1:k<Wy (zs n)):inP n P k=(decide (pre (zs n) P≤k)&&decide (k<pre (zs n) P+Wy s)):=by
 unfold inP;rw[Bool.eq_iff_iff,Qr,Qk,Qr,Qr];exact⟨fun e=>b4e h1 h6 h k0 k1 e,fun e=>(b4d h1 h6 h e.1 e.2).2.2⟩
theorem fits(h1:1≤n)(h6:n≤6)(h:gos (zs n) P=some s):0≤pre (zs n) P/\pre (zs n) P+Wy s≤Wy (zs n)/\1≤Wy s:=by
 have w:=b3O (a0C (bt0 h1 h6) h).1
 have a:=b4d h1 h6 h (k:=pre (zs n) P+Wy s-1) (by omega) (by omega)
 exact⟨a.1,by omega,w⟩
theorem c2C{e:Env'}{m m':Mo D}{i j:Int}(h:m e=some (.int i,e))(h':m' e=some (.int j,e)):mT (z2_ dGt m m') e=some (decide (j<i),e):=w2_ (q4_ h h' rfl)
theorem c2D{e:Env'}{m m':Mo D}{i j:Int}(h:m e=some (.int i,e))(h':m' e=some (.int j,e)):mT (z2_ dLt m m') e=some (decide (i<j),e):=w2_ (q4_ h h' rfl)
theorem b4h(h1:1≤n)(h6:n≤6)(h:gos (zs n) P=some s)(hF2:F<pre (zs n) P+Wy s){M lo:Int}(hM:M=if F-12>0 then F-12 else 0)(hlo:lo=if pre (zs n) P>M then pre (zs n) P else M):∀(j k:Nat),j<k->lo+j≤F->
  whl ((a0t (mT (z2_ dGt (z0_ 4) (mCB a1O (z5_ (mC (.int 0)) (z5_ (z2_ k4_ (z0_ 3) (mC (.int 12))) z7_))))) (mT (z2_ (dEq false) (mSl (mCD 2 a1U (z4_ (z0_ 0) (z4_ (z2_ k4_ (z0_ 4) (mC (.int 1))) z6_))) g2_ (w9_ (mCB k2_ (z5_ (z0_ 1) z7_)))) (z0_ 1))))) (v2_ 4 (z2_ k4_ (z0_ 4) (mC (.int 1)))) k [.dat (.int (n:Int)),.dat (dT P),.dat A,.dat (.int F),.dat (.int (lo+j)),w5,w6,w7,w8]=some (.nx,[.dat (.int (n:Int)),.dat (dT P),.dat A,.dat (.int F),.dat (.int lo),w5,w6,w7,w8])
 |j,0,hj,_=>by omega
 |j,k+1,hj,hl=>by
  obtain⟨f1,f2,f3⟩:=fits h1 h6 h;have hM0:0≤M:=by rw[hM];split<;>omega
  have a:=c2C (e:=[.dat (.int (n:Int)),.dat (dT P),.dat A,.dat (.int F),.dat (.int (lo+j)),w5,w6,w7,w8]) (m:=z0_ 4) (m':=mCB a1O (z5_ (mC (.int 0)) (z5_ (z2_ k4_ (z0_ 3) (mC (.int 12))) z7_))) (i:=lo+j) (j:=M) rfl (g3_ (x1_ rfl (x1_ (q4_ rfl rfl rfl) rfl)) (by rw[hM];rfl))
  by_cases g:M<lo+j
  ·have b:=b4f (P:=P) (k:=lo+j-1) (e:=[.dat (.int (n:Int)),.dat (dT P),.dat A,.dat (.int F),.dat (.int (lo+j)),w5,w6,w7,w8]) (M:=z2_ k4_ (z0_ 4) (mC (.int 1))) h1 h6 (by omega) (by omega) (q4_ rfl rfl rfl) rfl rfl
   rw[b4g h1 h6 h (by omega) (by omega)]at b
   rw[Qe g]at a;cases j with
   |zero=>
    have:decide (pre (zs n) P≤lo+((0:Nat):Int)-1)=false:=Qs (by split at hlo<;>omega)
    rw[this]at b;refine(a3d (a6B a (w2_ b))).trans ?_
    simp
   |succ j=>
    have c1:decide (pre (zs n) P≤lo+((j+1:Nat):Int)-1)=true:=Qe (by split at hlo<;>omega)
    have c2:decide (lo+((j+1:Nat):Int)-1<pre (zs n) P+Wy s)=true:=Qe (by omega)
    rw[c1,c2]at b;refine(a6L (e2:=[.dat (.int (n:Int)),.dat (dT P),.dat A,.dat (.int F),.dat (.int (lo+j)),w5,w6,w7,w8]) (a6B a (w2_ b)) (a0L (d:=.int (lo+j)) (q4_ rfl rfl ?_) rfl)).trans (b4h h1 h6 h hF2 hM hlo j k (by omega) (by omega))
    show some (D.int (lo+((j+1:Nat):Int)-1))=_
    congr 2
    omega
  ·rw[Qs g]at a
   have:j=0:=by split at hlo<;>omega
   subst this;refine(a3d (b2U a)).trans ?_
   simp
theorem b4i(h1:1≤n)(h6:n≤6)(h:gos (zs n) P=some s)(hF:pre (zs n) P≤F){L hi:Int}(hL:L<Wy (zs n))(hhi:hi=if pre (zs n) P+Wy s-1<L then pre (zs n) P+Wy s-1 else L):∀(j k:Nat),j<k->F≤hi-j->
  whl ((a0t (mT (z2_ dLt (z0_ 5) (z0_ 6))) (mT (z2_ (dEq false) (mSl (mCD 2 a1U (z4_ (z0_ 0) (z4_ (z2_ v8_ (z0_ 5) (mC (.int 1))) z6_))) g2_ (w9_ (mCB k2_ (z5_ (z0_ 1) z7_)))) (z0_ 1))))) (v2_ 5 (z2_ v8_ (z0_ 5) (mC (.int 1)))) k [.dat (.int (n:Int)),.dat (dT P),.dat A,.dat (.int F),w4,.dat (.int (hi-j)),.dat (.int L),w7,w8]=some (.nx,[.dat (.int (n:Int)),.dat (dT P),.dat A,.dat (.int F),w4,.dat (.int hi),.dat (.int L),w7,w8])
 |j,0,hj,_=>by omega
 |j,k+1,hj,hl=>by
  obtain⟨f1,f2,f3⟩:=fits h1 h6 h;have a:=c2D (e:=[.dat (.int (n:Int)),.dat (dT P),.dat A,.dat (.int F),w4,.dat (.int (hi-j)),.dat (.int L),w7,w8]) (m:=z0_ 5) (m':=z0_ 6) (i:=hi-j) (j:=L) rfl rfl
  by_cases g:hi-j<L
  ·have b:=b4f (P:=P) (k:=hi-j+1) (e:=[.dat (.int (n:Int)),.dat (dT P),.dat A,.dat (.int F),w4,.dat (.int (hi-j)),.dat (.int L),w7,w8]) (M:=z2_ v8_ (z0_ 5) (mC (.int 1))) h1 h6 (by omega) (by omega) (q4_ rfl rfl rfl) rfl rfl
   rw[b4g h1 h6 h (by omega) (by omega)]at b
   rw[Qe g]at a;cases j with
   |zero=>
    have:decide (hi-((0:Nat):Int)+1<pre (zs n) P+Wy s)=false:=Qs (by split at hhi<;>omega)
    rw[this,Bool.and_false]at b;refine(a3d (a6B a (w2_ b))).trans ?_
    simp
   |succ j=>
    have c1:decide (pre (zs n) P≤hi-((j+1:Nat):Int)+1)=true:=Qe (by omega)
    have c2:decide (hi-((j+1:Nat):Int)+1<pre (zs n) P+Wy s)=true:=Qe (by split at hhi<;>omega)
    rw[c1,c2]at b;refine(a6L (e2:=[.dat (.int (n:Int)),.dat (dT P),.dat A,.dat (.int F),w4,.dat (.int (hi-j)),.dat (.int L),w7,w8]) (a6B a (w2_ b)) (a0L (d:=.int (hi-j)) (q4_ rfl rfl ?_) rfl)).trans (b4i h1 h6 h hF hL hhi j k (by omega) (by omega))
    show some (D.int (hi-((j+1:Nat):Int)+1))=_
    congr 2
    omega
  ·rw[Qs g]at a
   have:j=0:=by split at hhi<;>omega
   subst this;refine(a3d (b2U a)).trans ?_
   simp
end
theorem a6V{n m:Nat}{f:OO}(hm:m≤n):(gm n n f).take m=fst n f m:=by
 unfold gm fst;rw[←Xv,List.take_range,Nat.min_eq_left hm]
theorem c2E{n m:Nat}{f:OO}:(fst n f m).length=m:=by simp[fst]
theorem c2F{n m:Nat}{f:OO}(h1:1≤n)(h6:n≤6)(T:TabF n f)(hm:m≤n):∃ws,a3Z [.dat (.int (n:Int)),.dat (dT (fst n f m)),.dat (dT (gm n n f))]=some (.d (.bl true),ws):=by
 have hg:=a5h h1 h6 T hm
 have hn:=c2h h1 h6 T
 have hb:=c2j h1 h6 T
 have hk:=back h1 h6 T
 have em:=a2u h1 h6 hg
 obtain⟨wm,et⟩:=a6S (n:=n) (z:=(n:Int)) rfl h1 (by omega)
 rw[a5i h1 h6]at et;have ht:(lay n (zs n) (num (zs n) (gm n n f))).take (fst n f m).length=fst n f m:=by rw[hk,c2E,a6V hm]
 have hr:=b4e h1 h6 hg hb.1 hb.2 ht
 have fi:=fits h1 h6 hg
 generalize num (zs n) (gm n n f)=F at *;generalize sI n f m=s at *;generalize fst n f m=P at *;generalize dT (gm n n f)=A at *;obtain⟨b,hbq⟩:∃b,pre (zs n) P=b:=⟨_,rfl⟩;obtain⟨M,hM⟩:∃M,M=if F-12>0 then F-12 else 0:=⟨_,rfl⟩
 obtain⟨lo,hlo⟩:∃lo,lo=if pre (zs n) P>M then pre (zs n) P else M:=⟨_,rfl⟩
 obtain⟨L,hL⟩:∃L,L=if F+12<Wy (zs n)-1 then F+12 else Wy (zs n)-1:=⟨_,rfl⟩
 obtain⟨hi,hhi⟩:∃hi,hi=if pre (zs n) P+Wy s-1<L then pre (zs n) P+Wy s-1 else L:=⟨_,rfl⟩
 have l1:lo≤F/\F-lo≤12/\pre (zs n) P≤lo/\(lo=pre (zs n) P∨F-lo=12):=by
  split at hM<;>split at hlo<;>omega
 have l2:F≤hi/\hi-F≤12/\hi≤pre (zs n) P+Wy s-1/\(hi=pre (zs n) P+Wy s-1∨hi-F=12):=by
  split at hL<;>split at hhi<;>omega
 have d:=b4h (A:=A) (w5:=.nil) (w6:=.nil) (w7:=.nil) (w8:=.nil) h1 h6 hg hr.2 hM hlo (F-lo).toNat 60 (by omega) (by omega)
 rw[show lo+((F-lo).toNat:Int)=F by omega]at d
 have u:=b4i (A:=A) (w4:=.dat (.int lo)) (w7:=.nil) (w8:=.nil) h1 h6 hg hr.1 (L:=L) (hi:=hi) (by split at hL<;>omega) hhi (hi-F).toNat 60 (by omega) (by omega)
 rw[show hi-((hi-F).toNat:Int)=F by omega]at u
 refine⟨_,x9_ (d:=.bl true) (env:=[.dat (.int (n:Int)),.dat (dT P),.dat A,.dat (.int F),.dat (.int lo),.dat (.int hi),.dat (.int L),.dat (.int (Wy s)),.dat (.int (hi-lo+1))]) ?_⟩;show a9x [.dat (.int (n:Int)),.dat (dT P),.dat A,.nil,.nil,.nil,.nil,.nil,.nil]=_;unfold a9x;refine v4_ (a0L (e1:=[.dat (.int (n:Int)),.dat (dT P),.dat A,.nil,.nil,.nil,.nil,.nil,.nil]) (y7_ (av:=[.d A]) rfl rfl rfl hn) rfl) ?_
 refine v4_ (e1:=[.dat (.int (n:Int)),.dat (dT P),.dat A,.dat (.int F),.dat (.int F),.nil,.nil,.nil,.nil]) rfl ?_
 refine v4_ d ?_
 refine v4_ (e1:=[.dat (.int (n:Int)),.dat (dT P),.dat A,.dat (.int F),.dat (.int lo),.dat (.int F),.nil,.nil,.nil]) rfl ?_
 refine v4_ (e1:=[.dat (.int (n:Int)),.dat (dT P),.dat A,.dat (.int F),.dat (.int lo),.dat (.int F),.dat (.int L),.nil,.nil]) (a0L (e1:=[.dat (.int (n:Int)),.dat (dT P),.dat A,.dat (.int F),.dat (.int lo),.dat (.int F),.nil,.nil,.nil]) (g3_ (x1_ (q4_ (c:=.int (Wy (zs n)-1)) (y7_ (av:=[.d (.int (n:Int))]) rfl rfl rfl et) rfl rfl) (x1_ (q4_ (c:=.int (F+12)) rfl rfl rfl) rfl)) (by rw[hL];rfl)) rfl) ?_
 refine v4_ u ?_
 refine v4_ (a0L (e1:=[.dat (.int (n:Int)),.dat (dT P),.dat A,.dat (.int F),.dat (.int lo),.dat (.int hi),.dat (.int L),.nil,.nil]) (y7_ (av:=[.d (.int (n:Int)),.d (dT P)]) rfl rfl rfl em) rfl) ?_
 refine v4_ (e1:=[.dat (.int (n:Int)),.dat (dT P),.dat A,.dat (.int F),.dat (.int lo),.dat (.int hi),.dat (.int L),.dat (.int (Wy s)),.dat (.int (hi-lo+1))]) rfl (j3_ ?_)
 by_cases g:hi-lo+1=Wy s
 ·exact b3k (q4_ rfl rfl (by rw[a2n];simp[g]))
 ·refine b3l (e1:=[.dat (.int (n:Int)),.dat (dT P),.dat A,.dat (.int F),.dat (.int lo),.dat (.int hi),.dat (.int L),.dat (.int (Wy s)),.dat (.int (hi-lo+1))]) (q4_ rfl rfl (by rw[a2n];simp[g])) (a9L (q4_ (c:=.bl true) rfl rfl (by show some (D.bl (decide (hi-lo+1<Wy s)))=_;rw[Qe (by omega)])) ?_)
  by_cases g2:F-lo=12
  ·exact b3k (q4_ (q4_ (c:=.int (F-lo)) rfl rfl rfl) rfl (by rw[a2n];simp[g2]))
  ·exact b3l (e1:=[.dat (.int (n:Int)),.dat (dT P),.dat A,.dat (.int F),.dat (.int lo),.dat (.int hi),.dat (.int L),.dat (.int (Wy s)),.dat (.int (hi-lo+1))]) (q4_ (q4_ (c:=.int (F-lo)) rfl rfl rfl) rfl (by rw[a2n];simp[g2])) (q4_ (q4_ (c:=.int (hi-F)) rfl rfl rfl) rfl (by rw[a2n];simp;omega))
def b4j(n:Nat)(r:List Int):Bool:=match a2S (dR r) (.int 1)with
 |some (.int i)=>decide (0≤i)&&(decide (i<(n:Int))&&decide (Wy (q5_ (zs n) r)=mf n (i.toNat+1)))
 |_=>false
theorem c2G:([1,2,3,4,5,6].all fun n=>(R (zs n)).all (b4j n))=true:=by decide+kernel
theorem c2H{n:Nat}(h1:1≤n)(h6:n≤6){r:List Int}(hr:r∈R (zs n)):∃c:Nat,a2S (dR r) (.int 1)=some (.int (c:Int))/\c<n/\Wy (q5_ (zs n) r)=mf n (c+1):=by
 have hn:n∈[1,2,3,4,5,6]:=by
  have:n=1∨n=2∨n=3∨n=4∨n=5∨n=6:=by omega
  simpa using this
 have q:=Qu.mp (Qu.mp c2G n hn) r hr
 unfold b4j at q;split at q
 ·rename_i i e
  simp only[Qk,Qr]at q;refine⟨i.toNat,?_,by omega,q.2.2⟩
  rw[e,Vt q.1]
 ·cases q
theorem b4k{n:Nat}{f:OO}:fst n f n=gm n n f:=by
 rw[←a6V (Qp n),Jx (by rw[a1X];exact Qp n)]
theorem b4l{n:Nat}{f:OO}(h1:1≤n)(h6:n≤6)(F:TabF n f):Wy (sI n f n)=1:=by
 have p:=F.pth h1 h6 n 0 rfl (by omega)
 rw[sI0,rF0]at p;have g:=a5h h1 h6 F (Qp n);rw[b4k]at g;have q:Pth (sI n f n) []:=b0j (Q:=[]) g (by rw[Jq];exact p)
 exact((a0C (bt0 h1 h6) g).1.done q).2
theorem b4m{n i:Nat}{f:OO}(h1:1≤n)(h6:n≤6)(F:TabF n f)(hi:i<n):rw' n (f i)∈R (sI n f i)/\q5_ (sI n f i) (rw' n (f i))=sI n f (i+1):=⟨F.mem h1 h6 hi,a5g n f i⟩
theorem c2I(u:List Int):a0K (dR u)=some u:=by
 show ints? (u.map D.int)=_;exact a1p u
theorem b4n{W:List Int->D}:∀l:OI,pairs? (l.map fun r=>.tup [dR r,W r])=some (l.map fun r=>(r,W r))
 |[]=>rfl
 |r::l=>by
  show(ints? (r.map D.int)).bind (fun k=>(pairs? (l.map fun r=>.tup [dR r,W r])).map fun q=>(k,W r)::q)=_
  rw[a1p,b4n l];rfl
theorem b4o{W:List Int->D}:∀{l ks:OI}{vs:List D},srt l=true->(∀r∈l,r∉ks)->a1m ks vs (l.map fun r=>(r,W r))=(ks++l,vs++l.map W)
 |[],ks,vs,_,_=>by simp[a1m]
 |r::l,ks,vs,hs,hn=>by
  obtain⟨h1,h2⟩:=a9O hs;have hr:ks.contains r=false:=by simpa using hn r (Qd ..)
  show a1m (g9_ ks r) (u9_ ks vs r (W r)) (l.map fun r=>(r,W r))=_
  unfold g9_ u9_;rw[hr];have:=b4o (W:=W) (l:=l) (ks:=ks++[r]) (vs:=vs++[W r]) h2 fun x hx z=>by
   rcases Yp.mp z with z|z
   ·exact hn x (Qm _ hx) z
   ·have e:x=r:=by simpa using z
    have q:=h1 x hx
    rw[e,a5e]at q;cases q
  simpa using this
theorem b4p{W:List Int->D}{r:List Int}:∀{l:OI},r∈l->lkD l (l.map W) r=some (W r)
 |[],h=>nomatch h
 |x::l,h=>by
  show(if x=r then some (W x)else lkD l (l.map W) r)=_
  by_cases e:x=r
  ·rw[Qg e,e]
  ·rw[Qt e]
   exact b4p ((Qi.mp h).resolve_left fun z=>e z.symm)
theorem c2J{n:Nat}{s r:List Int}(b:Bt n s)(hr:r∈R s):∃C,a2T [.lst (duD s)]=some C/\a2P C (dR r)=some (frD (Wn (q5_ s r)) (Wn s)):=by
 refine⟨.dct (R s) ((R s).map fun r=>frD (Wn (q5_ s r)) (Wn s)),?_,?_⟩
 ·show(pairs? ((R s).map fun r=>.tup [dR r,frD (Wn (q5_ s r)) (Wn s)])).map _=_
  rw[b4n (W:=fun r=>frD (Wn (q5_ s r)) (Wn s))]
  show some (D.dct (a1m [] [] ((R s).map fun r=>(r,frD (Wn (q5_ s r)) (Wn s)))).1 (a1m [] [] ((R s).map fun r=>(r,frD (Wn (q5_ s r)) (Wn s)))).2)=_
  rw[b4o (W:=fun r=>frD (Wn (q5_ s r)) (Wn s)) b.srt fun x hx z=>by simp at z]
  rfl
 ·show(a0K (dR r)).bind (fun k=>lkD (R s) ((R s).map fun r=>frD (Wn (q5_ s r)) (Wn s)) k)=_
  rw[c2I,Qj,b4p (W:=fun r=>frD (Wn (q5_ s r)) (Wn s)) hr]
section
variable{Z:D}{k:Int}{b:Bool}{w2 w3 w4 w5 w6 w7 w8 w9:W}{n:Nat}{f:OO}
theorem c2K{t u:Mo Bool}{e e1 e2:Env'}(h:t e=some (false,e1))(h2:u e1=some (false,e2)):a0c t u e=some (false,e2):=by unfold a0c;rw[h];exact h2
theorem c2L(h1:1≤n)(h6:n≤6)(F:TabF n f):((y2_ (a0c (mT (z2_ (dEq true) (mCD 2 j0_ (z4_ (z0_ 3) (z4_ (y4_ z7_) z6_))) (mCD 1 a0A (z4_ (z0_ 3) z6_)))) (mT (z2_ (dEq true) (mCD 2 j0_ (z4_ (z0_ 3) (z4_ (z0_ 4) z6_))) (mC (.int 1))))) (v3_ (mC (.bl false))) mNx)) [.dat Z,.dat (.int k),w2,.dat (.int (n:Int)),.dat (dT (gm n n f)),w5,w6,w7,w8,w9]=some (.nx,[.dat Z,.dat (.int k),w2,.dat (.int (n:Int)),.dat (dT (gm n n f)),w5,w6,w7,w8,w9]):=by
 have e0:=a2u (T:=[]) h1 h6 (show gos (zs n) []=some (zs n)from rfl)
 have g:=a5h h1 h6 F (Qp n)
 rw[b4k]at g;have e1:=a2u h1 h6 g;rw[b4l h1 h6 F]at e1;obtain⟨wm,et⟩:=a6S (n:=n) (z:=(n:Int)) rfl h1 (by omega)
 rw[a5i h1 h6]at et;refine a0i (e1:=[.dat Z,.dat (.int k),w2,.dat (.int (n:Int)),.dat (dT (gm n n f)),w5,w6,w7,w8,w9]) (c2K (w2_ (q4_ (y7_ (av:=[.d (.int (n:Int)),.d (dT [])]) rfl rfl rfl e0) (y7_ (av:=[.d (.int (n:Int))]) rfl rfl rfl et) (a9Z rfl))) (w2_ (q4_ (y7_ (av:=[.d (.int (n:Int)),.d (dT (gm n n f))]) rfl rfl rfl e1) rfl (a9Z rfl)))) rfl
theorem b4q(hn:n≤6){M:Mo D}{e:Env'}{m:Nat}(hm:m≤n)(h4:z0_ 4 e=some (dT (gm n n f),e))(hM:M e=some (.int (m:Int),e)):(mSl (z0_ 4) g2_ (w9_ M)) e=some (dT (fst n f m),e):=by
 have hp:(w9_ M) e=some (some (m:Int),e):=by
  unfold w9_;rw[hM];rfl
 refine(a5s (xs:=(gm n n f).map dR) (lo:=none) (hi:=some (m:Int)) h4 rfl hp).trans ?_
 rw[a9C,←Xv,a6V hm];rfl
theorem c2M(h1:1≤n)(h6:n≤6)(F:TabF n f):((y2_ (mT (z2_ (dEq true) (mCD 2 j0_ (z4_ (z0_ 3) (z4_ (mSl (z0_ 4) g2_ (w9_ (mC (.int 1)))) z6_))) (mCD 2 a3U (z4_ (z0_ 3) (z4_ (z2_ v8_ (z2_ a2S (z2_ dIx (z0_ 4) (mC (.int 0))) (mC (.int 1))) (mC (.int 1))) z6_))))) (v3_ (mC (.bl false))) mNx)) [.dat Z,.dat (.int k),w2,.dat (.int (n:Int)),.dat (dT (gm n n f)),w5,w6,w7,w8,w9]=some (.nx,[.dat Z,.dat (.int k),w2,.dat (.int (n:Int)),.dat (dT (gm n n f)),w5,w6,w7,w8,w9]):=by
 have g:=a5h h1 h6 F (m:=1) h1
 have e1:=a2u h1 h6 g
 obtain⟨hr,hs⟩:=b4m h1 h6 F (i:=0) (by omega)
 rw[sI0]at hr hs;obtain⟨c,i1,i2,i3⟩:=c2H h1 h6 hr;rw[hs]at i3;obtain⟨wf,ef⟩:=c2e (n:=n) (c:=c+1) (z:=(n:Int)) (y:=(c:Int)+1) rfl (by simp) h1 (by omega) (by omega) (by omega)
 refine a0i (e1:=[.dat Z,.dat (.int k),w2,.dat (.int (n:Int)),.dat (dT (gm n n f)),w5,w6,w7,w8,w9]) (w2_ (q4_ (y7_ (av:=[.d (.int (n:Int)),.d (dT (fst n f 1))]) (k6_ rfl (k6_ (b4q h6 h1 rfl rfl) rfl)) rfl rfl e1) (y7_ (av:=[.d (.int (n:Int)),.d (.int ((c:Int)+1))]) (k6_ rfl (k6_ (q4_ (q4_ (q4_ rfl rfl (b3e (j:=0) (by omega))) rfl i1) rfl rfl) rfl)) rfl rfl ef) (a9Z i3))) rfl
abbrev llB:Mo Fl:=(z9_ (v2_ 8 (mSl (z0_ 4) g2_ (w9_ (z0_ 5)))) (z9_ (y2_ (w4_ (mT (mCD 2 a3a (z4_ (z0_ 3) (z4_ (z0_ 8) z6_))))) (v3_ (mC (.bl false))) mNx) (z9_ (y2_ (mT (z2_ (dEq true) (mCD 2 a2W (z4_ (z0_ 3) (z4_ (z0_ 8) z6_))) (mCD 2 g5_ (z4_ (mCD 2 j0_ (z4_ (z0_ 3) (z4_ (z0_ 8) z6_))) (z4_ (mCD 1 a0A (z4_ (z0_ 3) z6_)) z6_))))) (v3_ (mC (.bl false))) mNx) (z9_ (v2_ 9 (z2_ a2P (mCB a2T (z5_ (mF (k8_ 2 a1V (z4_ (z0_ 3) (z4_ (z0_ 8) z6_)))) z7_)) (z2_ dIx (z0_ 4) (z0_ 5)))) (w8_ (mCD 2 g5_ (z4_ (z2_ y0_ (z0_ 6) (z2_ dIx (z0_ 9) (mC (.int 0)))) (z4_ (z2_ y0_ (z0_ 7) (z2_ dIx (z0_ 9) (mC (.int 1)))) z6_))) (gT 2 (gCn (gN 6) (gCn (gN 7) gNl))))))))
theorem c2N(h1:1≤n)(h6:n≤6)(F:TabF n f){i:Nat}(hi:i<n):∃z9,llB [.dat Z,.dat (.int k),w2,.dat (.int (n:Int)),.dat (dT (gm n n f)),.dat (.int (i:Int)),.dat (.int ((rd (Wn (sI n f i)) (Wn (zs n))).1:Int)),.dat (.int ((rd (Wn (sI n f i)) (Wn (zs n))).2:Int)),w8,w9]=some (.nx,[.dat Z,.dat (.int k),w2,.dat (.int (n:Int)),.dat (dT (gm n n f)),.dat (.int (i:Int)),.dat (.int ((rd (Wn (sI n f (i+1))) (Wn (zs n))).1:Int)),.dat (.int ((rd (Wn (sI n f (i+1))) (Wn (zs n))).2:Int)),.dat (dT (fst n f i)),z9]):=by
 have g:=a5h h1 h6 F (m:=i) (by omega)
 obtain⟨hr,hs⟩:=b4m h1 h6 F hi;have bs:=(a0C (bt0 h1 h6) g).1;have bs':=F.bt h1 h6 (i:=i+1) (by omega)
 have hx:dIx (dT (gm n n f)) (.int (i:Int))=some (dR (rw' n (f i))):=b3e hi
 have em:=a2u h1 h6 g
 have es:=c2u h1 h6 g
 obtain⟨wr,er⟩:=c2B h1 h6 g (bs.zero hr);obtain⟨wn,en⟩:=b3U h1 h6 g;obtain⟨C,ed,eg⟩:=c2J bs hr;rw[hs]at eg;obtain⟨wc,ec⟩:=b4a bs (bt0 h1 h6);obtain⟨wm,et⟩:=a6S (n:=n) (z:=(n:Int)) rfl h1 (by omega)
 rw[a5i h1 h6]at et;have hW:=a0N bs;have hW':=a0N bs';have hW0:=a0N (bt0 h1 h6);obtain⟨p1,p2,p3,p4⟩:=a2v (a:=Wn (sI n f i)) hW0.1;obtain⟨q1,q2,q3,q4⟩:=a2v (a:=Wn (sI n f (i+1))) hW.1;have pp:0<(rd (Wn (sI n f i)) (Wn (zs n))).1:=Ui fun z=>by
  rw[z,Nat.zero_mul]at p2;exact absurd p2.symm (Jc (Jm hW.1 p1))
 have qp:0<(rd (Wn (sI n f (i+1))) (Wn (sI n f i))).1:=Ui fun z=>by
  rw[z,Nat.zero_mul]at q2;exact absurd q2.symm (Jc (Jm hW'.1 q1))
 have key:=c2w (a:=Wn (sI n f (i+1))) hW.1 hW0.1
 have l0:=a5j (zs n)
 have l1:=a5j (sI n f i)
 have l2:=a5j (sI n f (i+1))
 have fs:=b3Z (Wn (sI n f i)) (Wn (zs n))
 rw[b0h]at eg;have sl:=b4q (n:=n) (f:=f) (M:=z0_ 5) (e:=[.dat Z,.dat (.int k),w2,.dat (.int (n:Int)),.dat (dT (gm n n f)),.dat (.int (i:Int)),.dat (.int ((rd (Wn (sI n f i)) (Wn (zs n))).1:Int)),.dat (.int ((rd (Wn (sI n f i)) (Wn (zs n))).2:Int)),w8,w9]) h6 (m:=i) (by omega) rfl rfl
 generalize rd (Wn (sI n f i)) (Wn (zs n))=x at *;generalize rd (Wn (sI n f (i+1))) (Wn (sI n f i))=y at *;have b1:x.1 * y.1≤7436 * 7436:=Ut (by omega) (by omega)
 have b2:x.2 * y.2≤7436 * 7436:=Ut (by omega) (by omega)
 have c2:=b0b (a:=x.1 * y.1) (b:=x.2 * y.2) (Jm pp qp) (Jm p1 q1) (by omega) (by omega)
 rw[b0g,Jz x.1 y.1,Jz x.2 y.2,key,Jz y.1 x.1,Jz y.2 x.2]at c2;generalize rd (Wn (sI n f (i+1))) (Wn (zs n))=u at *;generalize dT (fst n f i)=P at *;generalize dT (gm n n f)=A at *;refine⟨.dat (dR [(y.1:Int),(y.2:Int)]),?_⟩;refine v4_ (a0L sl rfl) ?_
 refine v4_ (e1:=[.dat Z,.dat (.int k),w2,.dat (.int (n:Int)),.dat A,.dat (.int (i:Int)),.dat (.int (x.1:Int)),.dat (.int (x.2:Int)),.dat P,w9]) (a0i (a4C (b:=true) (w2_ (y7_ (av:=[.d (.int (n:Int)),.d P]) rfl rfl rfl er))) rfl) ?_
 refine v4_ (e1:=[.dat Z,.dat (.int k),w2,.dat (.int (n:Int)),.dat A,.dat (.int (i:Int)),.dat (.int (x.1:Int)),.dat (.int (x.2:Int)),.dat P,w9]) (a0i (w2_ (b:=false) (q4_ (y7_ (av:=[.d (.int (n:Int)),.d P]) rfl rfl rfl es) (y7_ (av:=[.d (.int (Wy (sI n f i))),.d (.int (Wy (zs n)))]) (k6_ (y7_ (av:=[.d (.int (n:Int)),.d P]) rfl rfl rfl em) (k6_ (y7_ (av:=[.d (.int (n:Int))]) rfl rfl rfl et) rfl)) rfl rfl ec) fs)) rfl) ?_
 refine v4_ (e1:=[.dat Z,.dat (.int k),w2,.dat (.int (n:Int)),.dat A,.dat (.int (i:Int)),.dat (.int (x.1:Int)),.dat (.int (x.2:Int)),.dat P,.dat (dR [(y.1:Int),(y.2:Int)])]) (a0L (e1:=[.dat Z,.dat (.int k),w2,.dat (.int (n:Int)),.dat A,.dat (.int (i:Int)),.dat (.int (x.1:Int)),.dat (.int (x.2:Int)),.dat P,w9]) (q4_ (g3_ (x1_ (a0g (a1B (a0y (av:=[.d (.int (n:Int)),.d P]) rfl rfl rfl en))) rfl) ed) (q4_ rfl rfl hx) eg) rfl) ?_
 have c3:(mCD 2 g5_ (z4_ (z2_ y0_ (z0_ 6) (z2_ dIx (z0_ 9) (mC (.int 0)))) (z4_ (z2_ y0_ (z0_ 7) (z2_ dIx (z0_ 9) (mC (.int 1)))) z6_))) [.dat Z,.dat (.int k),w2,.dat (.int (n:Int)),.dat A,.dat (.int (i:Int)),.dat (.int (x.1:Int)),.dat (.int (x.2:Int)),.dat P,.dat (dR [(y.1:Int),(y.2:Int)])]=some (.tup [.int (u.1:Int),.int (u.2:Int)],[.dat Z,.dat (.int k),w2,.dat (.int (n:Int)),.dat A,.dat (.int (i:Int)),.dat (.int (x.1:Int)),.dat (.int (x.2:Int)),.dat P,.dat (dR [(y.1:Int),(y.2:Int)])]):=
  y7_ (av:=[.d (.int ((x.1 * y.1:Nat):Int)),.d (.int ((x.2 * y.2:Nat):Int))]) (k6_ (q4_ rfl (q4_ (c:=.int (y.1:Int)) rfl rfl rfl) (a5k (by omega))) (k6_ (q4_ rfl (q4_ (c:=.int (y.2:Int)) rfl rfl rfl) (a5k (by omega))) rfl)) rfl rfl c2
 unfold w8_;rw[c3];rfl
end
section
variable{Z:D}{k:Int}{b:Bool}{w2 w3 w4 w5 w6 w7 w8 w9:W}{n:Nat}{f:OO}
theorem tk{p q m v:Int}{M:Mo D}(hM:M [.dat Z,.dat (.int k),.own [.int p,.bl b],w3,w4,w5,w6,w7,w8,w9]=some (.int m,[.dat Z,.dat (.int k),.own [.int p,.bl b],w3,w4,w5,w6,w7,w8,w9]))(h:g4_ [.par [.int p,.bl b],.dat (.int m)]=some (.d (.int v),[.par [.int q,.bl b],.dat (.int m)])):(mCD 2 g4_ (k1_ 2 (z4_ M z6_))) [.dat Z,.dat (.int k),.own [.int p,.bl b],w3,w4,w5,w6,w7,w8,w9]=some (.int v,[.dat Z,.dat (.int k),.own [.int q,.bl b],w3,w4,w5,w6,w7,w8,w9]):=
 a0z ((a5W (e1:=[.dat Z,.dat (.int k),.own [.int p,.bl b],w3,w4,w5,w6,w7,w8,w9]) (w:=.own [.int p,.bl b]) (av:=[.sl 2,.d (.int m)]) (i:=2) (c:=[.int p,.bl b]) (c':=[.int q,.bl b]) (by unfold k1_;rw[k6_ hM rfl];rfl) rfl rfl rfl rfl h rfl).trans rfl)
theorem c2O(h1:1≤n)(h6:n≤6)(F:TabF n f){a:Int}(a0:0≤a):∃a',((y2_ (w4_ (mT (mCD 3 a3Z (z4_ (z0_ 3) (z4_ (mSl (z0_ 4) g2_ (w9_ (mCD 2 g4_ (k1_ 2 (z4_ (z2_ v8_ (z0_ 3) (mC (.int 1))) z6_))))) (z4_ (z0_ 4) z6_)))))) (v3_ (mC (.bl false))) mNx)) [.dat Z,.dat (.int k),.own [.int a,.bl b],.dat (.int (n:Int)),.dat (dT (gm n n f)),w5,w6,w7,w8,w9]=some (.nx,[.dat Z,.dat (.int k),.own [.int a',.bl b],.dat (.int (n:Int)),.dat (dT (gm n n f)),w5,w6,w7,w8,w9]):=by
 obtain⟨v,a',et,v0,v1,a0'⟩:=a6A (a:=a) (m:=(n:Int)+1) (b:=b) a0 (by omega) (by omega)
 obtain⟨m,hm⟩:∃m:Nat,v=(m:Int):=⟨v.toNat,by omega⟩
 subst hm;obtain⟨wn,en⟩:=c2F h1 h6 F (m:=m) (by omega)
 have t:=tk (Z:=Z) (k:=k) (b:=b) (w3:=.dat (.int (n:Int))) (w4:=.dat (dT (gm n n f))) (w5:=w5) (w6:=w6) (w7:=w7) (w8:=w8) (w9:=w9) (M:=z2_ v8_ (z0_ 3) (mC (.int 1))) (m:=(n:Int)+1) (q4_ rfl rfl rfl) et
 have sl:(mSl (z0_ 4) g2_ (w9_ (mCD 2 g4_ (k1_ 2 (z4_ (z2_ v8_ (z0_ 3) (mC (.int 1))) z6_))))) [.dat Z,.dat (.int k),.own [.int a,.bl b],.dat (.int (n:Int)),.dat (dT (gm n n f)),w5,w6,w7,w8,w9]=some (dT (fst n f m),[.dat Z,.dat (.int k),.own [.int a',.bl b],.dat (.int (n:Int)),.dat (dT (gm n n f)),w5,w6,w7,w8,w9]):=by
  have hp:(w9_ (mCD 2 g4_ (k1_ 2 (z4_ (z2_ v8_ (z0_ 3) (mC (.int 1))) z6_)))) [.dat Z,.dat (.int k),.own [.int a,.bl b],.dat (.int (n:Int)),.dat (dT (gm n n f)),w5,w6,w7,w8,w9]=some (some (m:Int),[.dat Z,.dat (.int k),.own [.int a',.bl b],.dat (.int (n:Int)),.dat (dT (gm n n f)),w5,w6,w7,w8,w9]):=by
   unfold w9_;rw[t];rfl
  have e:dT (fst n f m)=.tup (a1P ((gm n n f).map dR) none (some (m:Int))):=by
   rw[a9C,←Xv,a6V (by omega)];rfl
  rw[e];unfold mSl;show(w9_ _ _).bind _=_;rw[hp];rfl
 exact⟨a',a0i (a4C (b:=true) (w2_ (y7_ (av:=[.d (.int (n:Int)),.d (dT (fst n f m)),.d (dT (gm n n f))]) (k6_ rfl (k6_ sl (k6_ rfl rfl))) rfl rfl en))) rfl⟩
theorem c2P(h1:1≤n)(h6:n≤6)(F:TabF n f):∃z5 z8 z9,((j8_ (a0m (z5_ (z0_ 3) z7_)) (gN 5) (z9_ (v2_ 8 (mSl (z0_ 4) g2_ (w9_ (z0_ 5)))) (z9_ (y2_ (w4_ (mT (mCD 2 a3a (z4_ (z0_ 3) (z4_ (z0_ 8) z6_))))) (v3_ (mC (.bl false))) mNx) (z9_ (y2_ (mT (z2_ (dEq true) (mCD 2 a2W (z4_ (z0_ 3) (z4_ (z0_ 8) z6_))) (mCD 2 g5_ (z4_ (mCD 2 j0_ (z4_ (z0_ 3) (z4_ (z0_ 8) z6_))) (z4_ (mCD 1 a0A (z4_ (z0_ 3) z6_)) z6_))))) (v3_ (mC (.bl false))) mNx) (z9_ (v2_ 9 (z2_ a2P (mCB a2T (z5_ (mF (k8_ 2 a1V (z4_ (z0_ 3) (z4_ (z0_ 8) z6_)))) z7_)) (z2_ dIx (z0_ 4) (z0_ 5)))) (w8_ (mCD 2 g5_ (z4_ (z2_ y0_ (z0_ 6) (z2_ dIx (z0_ 9) (mC (.int 0)))) (z4_ (z2_ y0_ (z0_ 7) (z2_ dIx (z0_ 9) (mC (.int 1)))) z6_))) (gT 2 (gCn (gN 6) (gCn (gN 7) gNl)))))))))) [.dat Z,.dat (.int k),w2,.dat (.int (n:Int)),.dat (dT (gm n n f)),w5,.dat (.int 1),.dat (.int 1),w8,w9]=some (.nx,[.dat Z,.dat (.int k),w2,.dat (.int (n:Int)),.dat (dT (gm n n f)),z5,.dat (.int 1),.dat (.int ((Wn (zs n):Nat):Int)),z8,z9]):=by
 obtain⟨e',lp,z5,z8,z9,rfl⟩:=a9B (g:=gN 5) (b:=llB) (n:=n) (fun i e=>∃z5 z8 z9,e=[.dat Z,.dat (.int k),w2,.dat (.int (n:Int)),.dat (dT (gm n n f)),z5,.dat (.int ((rd (Wn (sI n f i)) (Wn (zs n))).1:Int)),.dat (.int ((rd (Wn (sI n f i)) (Wn (zs n))).2:Int)),z8,z9]) (fun i hi e he=>by
  obtain⟨z5,z8,z9,rfl⟩:=he;obtain⟨y9,q⟩:=c2N (Z:=Z) (k:=k) (w2:=w2) (w8:=z8) (w9:=z9) h1 h6 F hi;exact⟨_,_,rfl,q,_,_,_,rfl⟩) (env:=[.dat Z,.dat (.int k),w2,.dat (.int (n:Int)),.dat (dT (gm n n f)),w5,.dat (.int ((rd (Wn (sI n f 0)) (Wn (zs n))).1:Int)),.dat (.int ((rd (Wn (sI n f 0)) (Wn (zs n))).2:Int)),w8,w9]) ⟨_,_,_,rfl⟩
 have w1:Wn (sI n f n)=1:=by
  have:=a0M (sI n f n);rw[b4l h1 h6 F]at this
  omega
 rw[sI0,b3X (a0N (bt0 h1 h6)).1,w1,c2x]at lp;exact⟨z5,z8,z9,(a1A (a9z (n:=n) rfl rfl (by omega))).trans lp⟩
end
abbrev lw:Mo Fl:=(z9_ (a0d 2 (k8_ 2 a4V (z4_ (z0_ 0) (z4_ (z0_ 1) z6_)))) (z9_ (v2_ 3 (z2_ v8_ (mC (.int 1)) (mCD 2 g4_ (k1_ 2 (z4_ (mC (.int 6)) z6_))))) (z9_ (v2_ 4 (mCD 2 a4X (k1_ 2 (z4_ (z0_ 3) z6_)))) (z9_ (y2_ (a0c (mT (z2_ (dEq true) (mCD 2 j0_ (z4_ (z0_ 3) (z4_ (y4_ z7_) z6_))) (mCD 1 a0A (z4_ (z0_ 3) z6_)))) (mT (z2_ (dEq true) (mCD 2 j0_ (z4_ (z0_ 3) (z4_ (z0_ 4) z6_))) (mC (.int 1))))) (v3_ (mC (.bl false))) mNx) (z9_ (y2_ (mT (z2_ (dEq true) (mCD 2 j0_ (z4_ (z0_ 3) (z4_ (mSl (z0_ 4) g2_ (w9_ (mC (.int 1)))) z6_))) (mCD 2 a3U (z4_ (z0_ 3) (z4_ (z2_ v8_ (z2_ a2S (z2_ dIx (z0_ 4) (mC (.int 0))) (mC (.int 1))) (mC (.int 1))) z6_))))) (v3_ (mC (.bl false))) mNx) (z9_ (w8_ (y4_ (z5_ (mC (.int 1)) (z5_ (mC (.int 1)) z7_))) (gT 2 (gCn (gN 6) (gCn (gN 7) gNl)))) (z9_ (j8_ (a0m (z5_ (z0_ 3) z7_)) (gN 5) (z9_ (v2_ 8 (mSl (z0_ 4) g2_ (w9_ (z0_ 5)))) (z9_ (y2_ (w4_ (mT (mCD 2 a3a (z4_ (z0_ 3) (z4_ (z0_ 8) z6_))))) (v3_ (mC (.bl false))) mNx) (z9_ (y2_ (mT (z2_ (dEq true) (mCD 2 a2W (z4_ (z0_ 3) (z4_ (z0_ 8) z6_))) (mCD 2 g5_ (z4_ (mCD 2 j0_ (z4_ (z0_ 3) (z4_ (z0_ 8) z6_))) (z4_ (mCD 1 a0A (z4_ (z0_ 3) z6_)) z6_))))) (v3_ (mC (.bl false))) mNx) (z9_ (v2_ 9 (z2_ a2P (mCB a2T (z5_ (mF (k8_ 2 a1V (z4_ (z0_ 3) (z4_ (z0_ 8) z6_)))) z7_)) (z2_ dIx (z0_ 4) (z0_ 5)))) (w8_ (mCD 2 g5_ (z4_ (z2_ y0_ (z0_ 6) (z2_ dIx (z0_ 9) (mC (.int 0)))) (z4_ (z2_ y0_ (z0_ 7) (z2_ dIx (z0_ 9) (mC (.int 1)))) z6_))) (gT 2 (gCn (gN 6) (gCn (gN 7) gNl))))))))) (z9_ (y2_ (mT (z2_ (dEq true) (y4_ (z5_ (z0_ 6) (z5_ (z0_ 7) z7_))) (y4_ (z5_ (mC (.int 1)) (z5_ (mCD 1 a0A (z4_ (z0_ 3) z6_)) z7_))))) (v3_ (mC (.bl false))) mNx) (y2_ (w4_ (mT (mCD 3 a3Z (z4_ (z0_ 3) (z4_ (mSl (z0_ 4) g2_ (w9_ (mCD 2 g4_ (k1_ 2 (z4_ (z2_ v8_ (z0_ 3) (mC (.int 1))) z6_))))) (z4_ (z0_ 4) z6_)))))) (v3_ (mC (.bl false))) mNx)))))))))
theorem c2Q(ns:List Int)(k:Nat)(hk:k<1000)(w2 w3 w4 w5 w6 w7 w8 w9:W):∃ws':List W,ws'.length=9/\lw [.dat (.lst (ns.map .int)),.dat (.int k),w2,w3,w4,w5,w6,w7,w8,w9]=some (.nx,.dat (.lst (ns.map .int))::ws'):=by
 obtain⟨a,b,a0,est⟩:=c0U ns k hk;generalize D.lst (ns.map .int)=Z at *;obtain⟨v,a1,et,v0,v1,a10⟩:=a6A (a:=a) (m:=6) (b:=b) a0 (by decide) (by decide)
 obtain⟨n,hn⟩:∃n:Nat,(1:Int)+v=(n:Int):=⟨(1+v).toNat,by omega⟩
 have h1:1≤n:=by omega
 have h6:n≤6:=by omega
 obtain⟨T,a2,eT,a20,t1,l1⟩:=c1s (a:=a1) (b:=b) a10 h1 h6;obtain⟨f,rfl,F⟩:=t1.fn l1;obtain⟨z5,z8,z9,tl⟩:=c2P (Z:=Z) (k:=(k:Int)) (w2:=.own [.int a2,.bl b]) (w5:=w5) (w8:=w8) (w9:=w9) h1 h6 F;obtain⟨a3,tn⟩:=c2O (Z:=Z) (k:=(k:Int)) (b:=b) (w5:=z5) (w6:=.dat (.int 1)) (w7:=.dat (.int ((Wn (zs n):Nat):Int))) (w8:=z8) (w9:=z9) h1 h6 F a20;obtain⟨wm,em⟩:=a6S (n:=n) (z:=(n:Int)) rfl h1 (by omega)
 rw[a5i h1 h6]at em;refine⟨[.dat (.int k),.own [.int a3,.bl b],.dat (.int (n:Int)),.dat (dT (gm n n f)),z5,.dat (.int 1),.dat (.int ((Wn (zs n):Nat):Int)),z8,z9],rfl,?_⟩
 case _=>
  refine v4_ (e1:=[.dat Z,.dat (.int k),.own [.int a,.bl b],w3,w4,w5,w6,w7,w8,w9]) (c1F (e1:=[.dat Z,.dat (.int k),w2,w3,w4,w5,w6,w7,w8,w9]) (a1B (a0y (av:=[.d Z,.d (.int k)]) rfl rfl rfl est)) rfl) ?_
  refine v4_ (e1:=[.dat Z,.dat (.int k),.own [.int a1,.bl b],.dat (.int (n:Int)),w4,w5,w6,w7,w8,w9]) (a0L (d:=.int (n:Int)) (q4_ (e1:=[.dat Z,.dat (.int k),.own [.int a,.bl b],w3,w4,w5,w6,w7,w8,w9]) rfl (tk (M:=mC (.int 6)) rfl et) (by show some (D.int (1+v))=_;rw[hn])) rfl) ?_
  refine v4_ (e1:=[.dat Z,.dat (.int k),.own [.int a2,.bl b],.dat (.int (n:Int)),.dat (dT (gm n n f)),w5,w6,w7,w8,w9]) (a0L (e1:=[.dat Z,.dat (.int k),.own [.int a2,.bl b],.dat (.int (n:Int)),w4,w5,w6,w7,w8,w9]) (a0z ((a5W (e1:=[.dat Z,.dat (.int k),.own [.int a1,.bl b],.dat (.int (n:Int)),w4,w5,w6,w7,w8,w9]) (w:=.own [.int a1,.bl b]) (av:=[.sl 2,.d (.int (n:Int))]) (i:=2) (c:=[.int a1,.bl b]) (c':=[.int a2,.bl b]) rfl rfl rfl rfl rfl eT rfl).trans rfl)) rfl) ?_
  refine v4_ (c2L h1 h6 F) (v4_ (c2M h1 h6 F) ?_);refine v4_ (e1:=[.dat Z,.dat (.int k),.own [.int a2,.bl b],.dat (.int (n:Int)),.dat (dT (gm n n f)),w5,.dat (.int 1),.dat (.int 1),w8,w9]) rfl (v4_ tl ?_);refine v4_ (a0i (e1:=[.dat Z,.dat (.int k),.own [.int a2,.bl b],.dat (.int (n:Int)),.dat (dT (gm n n f)),z5,.dat (.int 1),.dat (.int ((Wn (zs n):Nat):Int)),z8,z9]) (w2_ (b:=false) (q4_ (a:=dR [1,((Wn (zs n):Nat):Int)]) (b:=dR [1,Wy (zs n)]) rfl (a4c (x1_ rfl (x1_ (y7_ (av:=[.d (.int (n:Int))]) rfl rfl rfl em) rfl)) (by simp)) (by rw[a9J,a0M];simp))) rfl) tn
theorem c2R:∀ns:List Int,ns.length≤63->∃ws',a6w [.dat (.lst (ns.map D.int))]=some (.d (.bl true),ws'):=by
 intro ns hns;refine c1g (C:=5) (N:=8) (by decide) (by decide) (fun k hk ws hw=>?_) fun ws hw=>⟨_,rfl⟩
 match ws,hw with
 |[w2,w3,w4,w5,w6,w7,w8,w9],_=>exact c2Q ns k hk w2 w3 w4 w5 w6 w7 w8 w9
end K83
namespace K83
open L2 L2.Mir PySem
abbrev md0:Value:=.str "turnsigns.grids" 255
abbrev md1:Value:=.str "turnsigns.tables" 322
abbrev md2:Value:=.str "turnsigns.counts" 348
abbrev md3:Value:=.str "turnsigns.shares" 457
abbrev md4:Value:=.str "law_turnsigns_k83_whole_shares" 509
theorem c2S{P:Program}(w:World)(mg:OU)(fa:Addr)(h:Heap)(X:(hK w.params).In h)(G:h.Ns mainGlobals mg)(hfa:mg "law"=some (.ref fa)):
 ∃fd:FuncData,(∀(s:Shared) (v:Value),BindsTo s fd ⟨[v],[]⟩ [("_law_script",v)])/\∀base:Heap,(hK w.params).In base->base.Ns mainGlobals mg->FnOk P w (hK w.params) mg base CX0 22 fa fd ["_law_script"] (SpF (hK w.params) 1 a6w):=by
 obtain⟨A1,A2,A3,A4,A5,A6,A7,A8,A9,A10,A11,A12,A13,A14,A15,A16,A17,A18,A19,A20,A21,A22,A23,A24,A25,A26,A27,A28,A29,A30,A31,A32,A33,A34,A35,A36,A37,A38,A39,A40,A41⟩:DfAt (hK w.params) "is_whole" a8i 70 md0 69/\DfAt (hK w.params) "is_within" a8j 77 md0 76/\DfAt (hK w.params) "is_row" a8k 82 md0 81/\DfAt (hK w.params) "is_grid" a8l 87 md0 86/\DfAt (hK w.params) "is_square" a8m 94 md0 93/\DfAt (hK w.params) "flipped" a8n 99 md0 98/\DfAt (hK w.params) "running_sums" a8o 106 md0 105/\DfAt (hK w.params) "sums_across" a8p 111 md0 110/\DfAt (hK w.params) "sums_down" a8q 118 md0 117/\DfAt (hK w.params) "takes_turns" a8r 125 md1 124/\DfAt (hK w.params) "is_table" a8s 130 md1 129/\DfAt (hK w.params) "must_be_table" a8t 137 md1 136/\DfAt (hK w.params) "must_be_within" a8u 144 md2 143/\DfAt (hK w.params) "factorial" a8v 151 md2 150/\DfAt (hK w.params) "counted" a8w 158 md2 157/\DfAt (hK w.params) "many_tables" a8x 165 md2 164/\DfAt (hK w.params) "many_first" a8y 172 md2 171/\DfAt (hK w.params) "rows_on" a8z 177 md2 176/\DfAt (hK w.params) "added" a8A 182 md2 181/\DfAt (hK w.params) "choices_on" a6i 187 md2 186/\DfAt (hK w.params) "ways_on" a8B 192 md2 191/\DfAt (hK w.params) "chosen" a8C 199 md2 198/\DfAt (hK w.params) "laid" a8D 206 md2 205/\DfAt (hK w.params) "number_of" a8E 211 md2 210/\DfAt (hK w.params) "table_at" a8F 218 md2 217/\DfAt (hK w.params) "is_rows" a8G 225 md3 224/\DfAt (hK w.params) "sums_behind" a8H 232 md3 231/\DfAt (hK w.params) "fraction" a8I 239 md3 238/\DfAt (hK w.params) "many_so" a8J 246 md3 245/\DfAt (hK w.params) "share_so" a8K 253 md3 252/\DfAt (hK w.params) "next_rows" a8L 258 md3 257/\DfAt (hK w.params) "_law_cell_at" a8M 265 md4 264/\DfAt (hK w.params) "_law_state" a8N 272 md4 271/\DfAt (hK w.params) "_law_take" a8O 279 md4 278/\DfAt (hK w.params) "_law_rows" a8P 284 md4 283/\DfAt (hK w.params) "_law_held" a8Q 289 md4 288/\DfAt (hK w.params) "_law_table" a8R 294 md4 293/\DfAt (hK w.params) "_law_cut" a8S 301 md4 300/\DfAt (hK w.params) "_law_next_right" a8T 308 md4 307/\DfAt (hK w.params) "_law_numbers_right" a8U 315 md4 314/\DfAt (hK w.params) "law" a3R 322 md4 321:=by refine⟨?_,?_,?_,?_,?_,?_,?_,?_,?_,?_,?_,?_,?_,?_,?_,?_,?_,?_,?_,?_,?_,?_,?_,?_,?_,?_,?_,?_,?_,?_,?_,?_,?_,?_,?_,?_,?_,?_,?_,?_,?_⟩<;>constructor<;>kernel_rfl
 have e:=hfa.symm.trans (PySem.W.mg_of X G A41.a)
 cases e;have T:Txt (hK w.params) mg:=⟨Zh X G (by kernel_rfl),Zh X G (by kernel_rfl),Zh X G (by kernel_rfl),Zh X G (by kernel_rfl),Zh X G (by kernel_rfl),Zh X G (by kernel_rfl),Zh X G (by kernel_rfl),Zh X G (by kernel_rfl),Zh X G (by kernel_rfl),Zh X G (by kernel_rfl),Zh X G (by kernel_rfl),Zh X G (by kernel_rfl),⟨324,PySem.W.mg_of X G (by kernel_rfl)⟩,⟨350,PySem.W.mg_of X G (by kernel_rfl)⟩⟩
 have b1:=A1.f.binds (ps:=["thing"]) fun _ _ _ _ _ _=>us1 fun _=>rfl
 have b2:=A2.f.binds (ps:=["thing","least","greatest"]) fun _ _ _ _ _ _=>us3 fun _ _ _=>rfl
 have b3:=A3.f.binds (ps:=["thing","width"]) fun _ _ _ _ _ _=>us2 fun _ _=>rfl
 have b4:=A4.f.binds (ps:=["thing","many","width"]) fun _ _ _ _ _ _=>us3 fun _ _ _=>rfl
 have b5:=A5.f.binds (ps:=["thing","least","greatest"]) fun _ _ _ _ _ _=>us3 fun _ _ _=>rfl
 have b6:=A6.f.binds (ps:=["grid"]) fun _ _ _ _ _ _=>us1 fun _=>rfl
 have b7:=A7.f.binds (ps:=["row"]) fun _ _ _ _ _ _=>us1 fun _=>rfl
 have b8:=A8.f.binds (ps:=["grid"]) fun _ _ _ _ _ _=>us1 fun _=>rfl
 have b9:=A9.f.binds (ps:=["grid"]) fun _ _ _ _ _ _=>us1 fun _=>rfl
 have b10:=A10.f.binds (ps:=["line"]) fun _ _ _ _ _ _=>us1 fun _=>rfl
 have b11:=A11.f.binds (ps:=["thing"]) fun _ _ _ _ _ _=>us1 fun _=>rfl
 have b12:=A12.f.binds (ps:=["thing"]) fun _ _ _ _ _ _=>us1 fun _=>rfl
 have b13:=A13.f.binds (ps:=["thing","least","greatest","name"]) fun _ _ _ _ _ _=>us4 fun _ _ _ _=>rfl
 have b14:=A14.f.binds (ps:=["number"]) fun _ _ _ _ _ _=>us1 fun _=>rfl
 have b15:=A15.f.binds (ps:=["side"]) fun _ _ _ _ _ _=>us1 fun _=>rfl
 have b16:=A16.f.binds (ps:=["side"]) fun _ _ _ _ _ _=>us1 fun _=>rfl
 have b17:=A17.f.binds (ps:=["side","column"]) fun _ _ _ _ _ _=>us2 fun _ _=>rfl
 have b18:=A18.f.binds (ps:=["sums"]) fun _ _ _ _ _ _=>us1 fun _=>rfl
 have b19:=A19.f.binds (ps:=["sums","row"]) fun _ _ _ _ _ _=>us2 fun _ _=>rfl
 have b20:=A20.f.binds (ps:=["sums","known"]) fun _ _ _ _ _ _=>us2 fun _ _=>rfl
 have b21:=A21.f.binds (ps:=["sums","known"]) fun _ _ _ _ _ _=>us2 fun _ _=>rfl
 have b22:=A22.f.binds (ps:=["choices","number"]) fun _ _ _ _ _ _=>us2 fun _ _=>rfl
 have b23:=A23.f.binds (ps:=["side","number","known"]) fun _ _ _ _ _ _=>us3 fun _ _ _=>rfl
 have b24:=A24.f.binds (ps:=["table"]) fun _ _ _ _ _ _=>us1 fun _=>rfl
 have b25:=A25.f.binds (ps:=["side","number"]) fun _ _ _ _ _ _=>us2 fun _ _=>rfl
 have b26:=A26.f.binds (ps:=["thing","width"]) fun _ _ _ _ _ _=>us2 fun _ _=>rfl
 have b27:=A27.f.binds (ps:=["side","rows"]) fun _ _ _ _ _ _=>us2 fun _ _=>rfl
 have b28:=A28.f.binds (ps:=["top","bottom"]) fun _ _ _ _ _ _=>us2 fun _ _=>rfl
 have b29:=A29.f.binds (ps:=["side","rows"]) fun _ _ _ _ _ _=>us2 fun _ _=>rfl
 have b30:=A30.f.binds (ps:=["side","rows"]) fun _ _ _ _ _ _=>us2 fun _ _=>rfl
 have b31:=A31.f.binds (ps:=["side","rows"]) fun _ _ _ _ _ _=>us2 fun _ _=>rfl
 have b32:=A32.f.binds (ps:=["_law_script","_law_k"]) fun _ _ _ _ _ _=>us2 fun _ _=>rfl
 have b33:=A33.f.binds (ps:=["_law_script","_law_k"]) fun _ _ _ _ _ _=>us2 fun _ _=>rfl
 have b34:=A34.f.binds (ps:=["_law_state_here","_law_many"]) fun _ _ _ _ _ _=>us2 fun _ _=>rfl
 have b35:=A35.f.binds (ps:=["_law_held_here"]) fun _ _ _ _ _ _=>us1 fun _=>rfl
 have b36:=A36.f.binds (ps:=["_law_held_here","_law_row"]) fun _ _ _ _ _ _=>us2 fun _ _=>rfl
 have b37:=A37.f.binds (ps:=["_law_state_here","_law_side"]) fun _ _ _ _ _ _=>us2 fun _ _=>rfl
 have b38:=A38.f.binds (ps:=["_law_top","_law_bottom"]) fun _ _ _ _ _ _=>us2 fun _ _=>rfl
 have b39:=A39.f.binds (ps:=["_law_side","_law_rows_here"]) fun _ _ _ _ _ _=>us2 fun _ _=>rfl
 have b40:=A40.f.binds (ps:=["_law_side","_law_rows_here","_law_table_here"]) fun _ _ _ _ _ _=>us3 fun _ _ _=>rfl
 have b41:=A41.f.binds (ps:=["_law_script"]) fun _ _ _ _ _ _=>us1 fun _=>rfl
 refine⟨PySem.W.fnOf "law" "law" (a2C a3R) (a1H a3R) (y1_ a3R) .none .none .none (.str "law_turnsigns_k83_whole_shares" 509) none (.ref 321) .none,fun s v=>.of_eq rfl,fun base _ _=>?_⟩
 have d_is_whole:=dM P w base (b9v A1.f T ) A1 X G b1
 have d_is_within:=dM P w base (b9x A2.f T d_is_whole) A2 X G b2
 have d_is_row:=dM P w base (b9z A3.f T d_is_whole) A3 X G b3
 have d_is_grid:=dM P w base (b9B A4.f T d_is_row) A4 X G b4
 have d_is_square:=dM P w base (b9D A5.f T d_is_grid) A5 X G b5
 have d_flipped:=dM P w base (b9F A6.f T ) A6 X G b6
 have d_running_sums:=dM P w base (b9G A7.f T ) A7 X G b7
 have d_sums_across:=dM P w base (b9I A8.f T d_running_sums) A8 X G b8
 have d_sums_down:=dM P w base (b9K A9.f T d_flipped d_sums_across) A9 X G b9
 have d_takes_turns:=dM P w base (b9L A10.f T ) A10 X G b10
 have d_is_table:=dM P w base (b9N A11.f T d_is_square d_takes_turns d_flipped) A11 X G b11
 have d_must_be_table:=dM P w base (b9P A12.f T d_is_table) A12 X G b12
 have d_must_be_within:=dM P w base (b9R A13.f T d_is_within) A13 X G b13
 have d_factorial:=dM P w base (b9S A14.f T ) A14 X G b14
 have d_counted:=dM P w base (b9T A15.f T d_factorial) A15 X G b15
 have d_many_tables:=dM P w base (b9V A16.f T d_must_be_within d_counted) A16 X G b16
 have d_many_first:=dM P w base (b9W A17.f T d_must_be_within d_counted) A17 X G b17
 have d_rows_on:=dM P w base (b9Y A18.f T ) A18 X G b18
 have d_added:=dM P w base (c0a A19.f T ) A19 X G b19
 have d_ways_on:Def P w (hK w.params) mg base "ways_on" 17 2 (k3_ 8):=⟨_,_,_,b2z A21.f A20.f T d_rows_on d_added (A21.g X G) A21.k b21 (A20.g X G) A20.k b20 8,rfl,A21.g X G,A21.k,b21⟩
 have d_choices_on:Def P w (hK w.params) mg base "choices_on" 18 2 (u0_ (k3_ 8)):=⟨_,_,_,b2x A20.f T d_rows_on d_added (by decide) d_ways_on,rfl,A20.g X G,A20.k,b20⟩
 have d_chosen:=dM P w base (c0e A22.f T ) A22 X G b22
 have d_laid:=dM P w base (c0f A23.f T d_chosen d_added d_choices_on) A23 X G b23
 have d_number_of:=dM P w base (c0g A24.f T d_must_be_table d_sums_down d_choices_on) A24 X G b24
 have d_table_at:=dM P w base (c0i A25.f T d_must_be_within d_laid d_counted) A25 X G b25
 have d_is_rows:=dM P w base (c0k A26.f T d_is_grid) A26 X G b26
 have d_sums_behind:=dM P w base (c0l A27.f T d_must_be_within d_is_rows d_added d_rows_on) A27 X G b27
 have d_fraction:=dM P w base (c0m A28.f T ) A28 X G b28
 have d_many_so:=dM P w base (c0o A29.f T d_ways_on d_sums_behind) A29 X G b29
 have d_share_so:=dM P w base (c0q A30.f T d_fraction d_many_so d_counted) A30 X G b30
 have d_next_rows:=dM P w base (c0r A31.f T d_sums_behind d_ways_on d_fraction d_choices_on) A31 X G b31
 have d__law_cell_at:=dM P w base (c0t A32.f T ) A32 X G b32
 have d__law_state:=dM P w base (c0u A33.f T d__law_cell_at) A33 X G b33
 have d__law_take:=dM P w base (c0v A34.f T ) A34 X G b34
 have d__law_rows:=dM P w base (c0x A35.f T ) A35 X G b35
 have d__law_held:=dM P w base (c0z A36.f T ) A36 X G b36
 have d__law_table:=dM P w base (c0C A37.f T d__law_take d__law_rows d__law_held) A37 X G b37
 have d__law_cut:=dM P w base (c0D A38.f T ) A38 X G b38
 have d__law_next_right:=dM P w base (c0E A39.f T d_next_rows d__law_cut d_many_so) A39 X G b39
 have d__law_numbers_right:=dM P w base (c0F A40.f T d_number_of d_many_so d_many_tables d_table_at) A40 X G b40
 exact c0G A41.f T d__law_state d__law_table d__law_take d_many_so d_many_first d__law_cut d__law_numbers_right d_many_tables d__law_next_right d_share_so d_next_rows
end K83
theorem PySem.Challenge.cw_turnsigns_k83_whole_shares_holds : PySem.Challenge.rw_turnsigns_k83_whole_shares.Holds :=
 K83.b4D (L2.Mir.b8c (l:=PySem.Challenge.rw_turnsigns_k83_whole_shares) (k:=22) (x := "_law_script") (fn:=K83.a6w) rfl rfl ⟨rfl,by decide,by decide⟩ (fun w h Y=>PySem.W.km_in_of Y) K83.c2S K83.c2R)
