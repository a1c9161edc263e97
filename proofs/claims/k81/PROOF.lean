import PyProof.Rows.All
import Wide.All
import OpenK.AllK
import Wide.FinOn
import Lean
import PyProof.EqAt
import PyProof.EqKinds
import PyProof.TupleCall
import PySem.Challenge.RW_turnsigns_k81_first_rows_and_shares
set_option Elab.async false
set_option linter.all false
set_option maxRecDepth 100000
set_option maxHeartbeats 0
local macro_rules | `(tactic|rfl')=>`(tactic|decide +kernel)
abbrev Qq:=PySem.W.Frag
abbrev Qz:=@PySem.wpAny_bind
abbrev Qj:=@Option.bind_some
abbrev Qx:=@PySem.Heap.get?_push_of_some
abbrev Qk:=@List.length_map
abbrev Qv:=@PySem.wpAny_pure
abbrev Qw:=@Bool.and_eq_true
abbrev Qy:=@List.all_eq_true
abbrev Qu:=@PySem.Heap.lt_size
abbrev Qp:=@List.size_toArray
abbrev Qb:=@List.getElem?_eq_some_iff
abbrev Qg:=@List.mem_cons
abbrev Qh:=@PySem.Heap.get?_push_size
abbrev Qm:=@Nat.le_refl
abbrev Qn:=@List.getElem?_set_ne
abbrev Qc:=@if_pos
abbrev Ql:=@List.length_append
abbrev Qd:=@Nat.lt_of_lt_of_le
abbrev Qr:=@List.map_cons
abbrev Qs:=@Nat.ne_of_lt
abbrev Qi:=@PySem.wpAny_mono
abbrev Qt:=@if_neg
abbrev Qa:=@List.not_mem_nil
abbrev Qe:=@List.mem_cons_of_mem
abbrev Qo:=@List.length_cons
abbrev Zq:=@List.mem_map
abbrev Zz:=@Bool.false_eq_true
abbrev Zj:=@PySem.mem_of_lookup
abbrev Zx:=@decide_eq_false
abbrev Zk:=@List.mem_append_right
abbrev Zv:=@List.getElem?_eq_getElem
abbrev Zw:=@PyProof.Rows.slot_tuple_getitem
abbrev Zy:=@List.getElem?_map
abbrev Zu:=@List.mem_cons_self
abbrev Zp:=@PySem.W.kia_one
abbrev Zb:=@PySem.W.mg_none_of
abbrev Zg:=@Ne.symm
abbrev Zf:=@List.mem_append
abbrev Zh:=@decide_eq_true_eq
abbrev Zm:=@if_true
abbrev Zn:=@List.length_set
abbrev Zc:=@PySem.wpAny_newObj_type
abbrev Zl:=@Option.some.injEq
abbrev Zd:=@List.getElem?_set_self
abbrev Zr:=@PySem.wpAny_field
abbrev Zs:=@Nat.le_trans
abbrev Zi:=@List.replicate_succ
abbrev Zt:=@List.length_replicate
abbrev Za:=@congrArg
abbrev Ze:=@or_false
abbrev Zo:=@Bool.false_ne_true
abbrev Yq:=@PySem.W.kia_tup
abbrev Yz:=@List.getElem?_append_left
abbrev Yj:=@Option.isSome_iff_exists
abbrev Yx:=@decide_eq_true
abbrev Yk:=@PySem.Heap.size_push
abbrev Yv:=@Option.some.inj
abbrev Yw:=@PySem.wpAny_callSpecial?_slot
abbrev Yy:=@List.map_map
abbrev Yu:=@if_false
abbrev Yp:=@List.length_zipWith
abbrev Yb:=@List.map_congr_left
abbrev Yg:=@List.append_nil
abbrev Yh:=@PySem.W.Fast.te14364793385576792824
abbrev Ym:=@beq_iff_eq
abbrev Yn:=@PySem.W.kitx_dict
abbrev Yc:=@List.length_nil
abbrev Yl:=@Option.map_some
abbrev Yd:=@List.map_append
abbrev Yr:=@Nat.lt_irrefl
abbrev Ys:=@List.getElem?_append_right
abbrev Yi:=@List.length_take
abbrev Yt:=@PySem.F.slot_tuple_iterator_next
abbrev Ye:=@List.getElem_mem
abbrev Yo:=@PySem.wpAny_Call_Name_kw
abbrev Jq:=@List.getElem?_zipWith
abbrev Jz:=@List.contains_iff_mem
abbrev Jj:=@Nat.zero_le
abbrev Jx:=@Nat.le_of_lt
abbrev Jk:=@List.mem_of_getElem?
abbrev Jv:=@PySem.wpAny_loadPart'
abbrev Jw:=@PySem.wpAny_truthy_bool
abbrev Jy:=@PySem.wpAny_holding
abbrev Ju:=@List.sum_cons
abbrev Jp:=@List.getElem?_replicate
abbrev Jb:=@List.filterMap_cons
abbrev Jg:=@PySem.Heap.SameBut.update
abbrev Jf:=@List.mem_range
abbrev Jh:=@PySem.wpAny_call_entry
abbrev Jm:=@PySem.wpAny_seqItems
abbrev Jn:=@PySem.SeqAt.canLay_of_shaped
abbrev Jc:=@PySem.W.hideAll_get
abbrev Jl:=@PyProof.Rows.callWith_type1
abbrev Jd:=@PySem.wpAny_setField_rec
abbrev Jr:=@PySem.wpAny_passesOwn
abbrev Js:=@congrFun
abbrev Ji:=@Int.toNat_natCast
abbrev Jt:=@Nat.le_of_succ_le
abbrev Ja:=@PySem.wpAny_rule
abbrev Je:=@Classical.byContradiction
abbrev Jo:=@Prod.ext
abbrev Uq:=@Nat.lt_trans
abbrev Uz:=@PySem.wpAny_standAt
abbrev Uj:=@List.mem_filter
abbrev Ux:=@PySem.wpAny_execs_nil
abbrev Uk:=@List.nodup_cons
abbrev Uv:=@LawfulBEq.eq_of_beq
abbrev Uw:=@PySem.wpAny_pyIter_tuple
abbrev Uy:=@List.contains_cons
abbrev Uu:=@PySem.wpAny_ite_false
abbrev Up:=@PySem.W.kasC_bind
abbrev Ub:=@Option.map_none
abbrev Ug:=@Int.emod_nonneg
abbrev Uh:=@PySem.W.cellsFrom_some
abbrev Um:=@Option.map_eq_some_iff
abbrev Uc:=@List.zipWith_cons_cons
abbrev Ul:=@List.flatten_cons
abbrev Ud:=@PySem.wpAny_pyIter_list
abbrev Ur:=@Nat.lt_succ_of_lt
abbrev Us:=@PySem.F.slot_zip_next
abbrev Ui:=@PySem.codeAny_call_builtin
abbrev Ut:=@List.getD_eq_getElem?_getD
abbrev Ua:=@beq_eq_false_iff_ne
abbrev Ue:=@Array.length_toList
abbrev Uo:=@List.filter_eq_self
abbrev Vq:=@List.drop_eq_getElem_cons
abbrev Vz:=@PySem.PassesOwn.never
abbrev Vj:=@Nat.lt_of_le_of_lt
abbrev Vx:=@PySem.F.args_tuple_add_2
abbrev Vk:=@PyProof.Rows.preSum_getD
abbrev Vv:=@PySem.tupleKind_room_in1
abbrev Vw:=@List.mem_singleton
abbrev Vy:=@Int.emod_lt_of_pos
abbrev Vu:=@PySem.F.entry_tuple_add
abbrev Vp:=@PySem.W.kitx_list
abbrev Vb:=@List.append_assoc
abbrev Vg:=@PySem.F.args_tuple_iterator_next_1
abbrev Vf:=@PySem.F.slot_tuple_add
abbrev Vh:=@PySem.F.entry_tuple_iterator_next
abbrev Vm:=@List.take_of_length_le
abbrev Vn:=@Bool.false_or
abbrev Vc:=@PyProof.Rows.LSm.kept_iter
abbrev Vl:=@PySem.wpAny_onRaise
abbrev Vd:=@PySem.F.slot_tuple_mul
abbrev Vr:=@Nat.le_add_right
abbrev Vs:=@List.map_zipWith
abbrev Vi:=@PySem.codeAny_mono
abbrev Vt:=@List.of_mem_zip
abbrev Va:=@List.map_nil
abbrev Ve:=@List.find?_cons
abbrev Vo:=@List.cons.injEq
abbrev Xq:=@PySem.pushCells_keeps
abbrev Xz:=@List.nil_append
abbrev Xj:=@PySem.wpAny_updateSeq_pair
abbrev Xx:=@Bool.or_eq_true
abbrev Xk:=@Nat.pow_le_pow_right
abbrev Xv:=@Nat.gcd_comm
abbrev Xw:=@List.length_reverse
abbrev Xy:=@List.forIn_nil
abbrev Xu:=@PySem.boot_len
abbrev Xp:=@PySem.wpAny_Constant_int
abbrev Xb:=@List.mem_filterMap
abbrev Xg:=@PySem.W.kitx_tuple
abbrev Xf:=@Array.getElem?_map
abbrev Xh:=@List.all_cons
abbrev Xm:=@List.any_cons
abbrev Xn:=@PySem.wpAny_attempt
abbrev Xc:=@PySem.W.mg_of
abbrev Xl:=@List.reverse_cons
abbrev Xd:=@Option.isSome_map
abbrev Xr:=@of_decide_eq_true
abbrev Xs:=@Bool.not_eq_true'
abbrev Xi:=@Nat.le_succ_of_le
abbrev Xa:=@PySem.call_meets
abbrev Xe:=@Nat.ne_of_gt
abbrev Xo:=@List.length_drop
abbrev Tq:=@List.drop_length
abbrev Tz:=@List.lookup_cons
abbrev Tj:=@Nat.lt_succ_self
abbrev Tx:=@beq_self_eq_true
abbrev Tv:=@List.forIn_cons
abbrev Tw:=@List.map_id
abbrev OO:=Nat->Nat->Int
abbrev OI:=List (List Int)
abbrev OU:=PySem.Str->Option PySem.Value
abbrev OE:=PySem.Value->PySem.Shared->Prop
abbrev OA:=PySem.Addr->Prop
abbrev OX:=List (PySem.Addr×PySem.Obj)
namespace HG
open PySem PySem.W PySem.Calls PyProof.Rows
noncomputable def pG {α:Type}(l:List α) (i:Nat) (d:α):α:=@List.rec α (fun _=>Nat->α) (fun _=>d) (fun a _ ih i=>@Nat.rec (fun _=>α) a (fun j _=>ih j) i) l i
def pH(s:Stmt):Str:=match s with
 |.FunctionDef n ..=>n
 |.ClassDef n ..=>n
 |_=>Str.empty
def uN(s:Stmt):Arguments:=match s with
 |.FunctionDef _ a ..=>a
 |_=>default
def uO(s:Stmt):List Stmt:=match s with
 |.FunctionDef _ _ b ..=>b
 |.ClassDef _ _ _ b ..=>b
 |_=>[]
def uP(s:Stmt):Scope:=match s with
 |.FunctionDef _ _ _ _ _ _ c ..=>c
 |_=>default
def vH(s:Stmt):Pos:=match s with
 |.FunctionDef _ _ _ _ _ _ _ _ _ p=>p
 |_=>⟨0,0,0,0⟩
def oZ{α:Sort u}(_:α):Bool:=true
def hE(P:Params)(x:Str)(t:Tok)(v:Value):DictEntry:=⟨PyData.keyHash P x,.str x t,v⟩
def hZ:Obj:=⟨.type "tuple",none,.seq ⟨[]⟩ 0,⟨[]⟩⟩
def hU(l:List Value):Obj:=⟨.type "tuple",none,.seq ⟨l⟩ 0,⟨[]⟩⟩
def hN:Obj:=⟨.none,none,.fields ⟨[]⟩,⟨[]⟩⟩
def hC(n:Str)(t t2:Nat)(ln na fl:Int)(a:Addr)(g:Bool)(b:Addr)(v1 v2 v3 v4:Value):Obj:=
 ⟨.type "code",none,.fields ⟨[.str n t,.str n (Nat.add t 1),.str "/claim/cut.py" (Nat.add t 2),.int ln 0,.int na 0,.int 0 0,.int 0 0,.int fl 0,.ref a,.bool g,.int 181 0,.ref b,v1,v2,v3,v4,.int (Int.ofNat t2) 0,.int ln 0,.str "/claim/cut.py" (Nat.add t2 1)]⟩,⟨[]⟩⟩
def hX(s:Stmt)(q:Str)(g:Addr)(cl:List (Str×Addr))(d k dc m:Value)(an:Option Addr)(c ct:Value)(b:Addr):FuncData:=
 ⟨pH s,q,uN s,.stmts (uO s),uP s,g,cl,d,k,dc,m,an,c,ct,b⟩
def hR(s:Stmt):Obj:=⟨.none,none,.func (hX s (pH s) 0 [] .none .none .none .none none .none .none 0),⟨[]⟩⟩
def hF(s:Stmt)(m c:Value):Obj:=⟨.type "function",none,.func (hX s (pH s) 3 [] .none .none .none m none c .none 0),⟨[]⟩⟩
def oG(s:Stmt)(a t:Nat)(ln na:Int)(m:Value):List Obj:=[hZ,hN,hR s,hC (pH s) t (Nat.add t 3) ln na 3 a true (Nat.add a 1) .none .none .none (.ref (Nat.add a 2)),hF s m (.ref (Nat.add a 3))]
noncomputable def vI (l:List Str) (t:Nat):List Value:=@List.rec Str (fun _=>Nat->List Value) (fun _=>[]) (fun x _ ih t=>.str x t::ih (Nat.succ t)) l t
noncomputable def n5 (s:Stmt) (a t:Nat) (ln na:Int) (m:Value) (l:List Str):List Obj:=[hZ,hN,hU (vI l (Nat.add t 3)),hZ,hR s,hC (pH s) t (Nat.add (Nat.add t 3) l.length) ln na 3 a true (Nat.add a 1) .none (.ref (Nat.add a 2)) (.ref (Nat.add a 3)) (.ref (Nat.add a 4)),hF s m (.ref (Nat.add a 5))]
def o3(P:Params)(s:Stmt)(a t:Nat)(ln:Int)(m:Value):List Obj:=
 [⟨.type "builtin_function_or_method",none,.fields ⟨[.builtin "type.__prepare__",.type "type"]⟩,⟨[]⟩⟩,
  ⟨.type "dict",none,.dict ⟨[hE P "__module__" (Nat.add t 7) m,hE P "__qualname__" (Nat.add t 9) (.str (pH s) (Nat.add t 8)),hE P "__firstlineno__" (Nat.add t 11) (.int ln (Nat.add t 10)),hE P "__static_attributes__" (Nat.add t 12) (.ref (Nat.add a 6))]⟩ 4,⟨[]⟩⟩,
  hZ,hN,hC (pH s) (Nat.add t 2) (Nat.add t 5) ln 0 0 (Nat.add a 2) false (Nat.add a 3) .none .none .none .none,
  ⟨.type "frame",none,.plain,⟨[some (.ref (Nat.add a 4)),some (.ref 3),some (.ref (Nat.add a 1)),none,some m,none,some (.ref 0)]⟩⟩,hZ,
  ⟨.type "dict",none,.dict ⟨[hE P "__module__" (Nat.add t 7) m,hE P "__firstlineno__" (Nat.add t 11) (.int ln (Nat.add t 10)),hE P "__static_attributes__" (Nat.add t 12) (.ref (Nat.add a 6)),hE P "__doc__" (Nat.add t 13) .none]⟩ 2,⟨[]⟩⟩,
  ⟨.type "type",none,.cls ⟨pH s,[.ref 24],[.ref (Nat.add a 8),.ref 24,.type "ValueError",.type "Exception",.type "BaseException",.type "object"],Nat.add a 7,pH s,true,[],[],false,none,false⟩,⟨[some (.ref (Nat.sub a 1)),none,some (.str (pH s) t),some (.str (pH s) (Nat.add t 8)),some (.builtin "ValueError.__new__"),some (.bool true)]⟩⟩,
  ⟨.type "super",none,.fields ⟨[.ref (Nat.add a 8),.ref (Nat.add a 8),.ref (Nat.add a 8)]⟩,⟨[]⟩⟩,
  ⟨.type "builtin_function_or_method",none,.fields ⟨[.builtin "object.__init_subclass__",.ref (Nat.add a 8)]⟩,⟨[]⟩⟩]
noncomputable def vJ (l:List (Nat×List Obj)) (b:Nat):Obj:=@List.rec (Nat×List Obj) (fun _=>Nat->Obj) (fun _=>hZ) (fun x _ ih b=>@Bool.rec (fun _=>Obj) (ih (Nat.sub b x.1)) (pG x.2 b hZ) (Nat.blt b x.1)) l b
def vK(l:List (Int×Addr)):List Value:=l.flatMap fun x=>[.int x.1 0,.int 0 0,.ref x.2]
noncomputable def vL (f:Nat->Obj) (n:Nat) (fuel:Nat):Nat->Nat->BT:=
 @Nat.rec (fun _=>Nat->Nat->BT) (fun _ _=>.nil) (fun _ ih a b=>@Bool.rec (fun _=>BT) .nil (.node (f b) (ih (Nat.mul 2 a) (Nat.add a b)) (ih (Nat.mul 2 a) (Nat.add (Nat.mul 2 a) b))) (Nat.blt b n)) fuel
def tJ(p:Program)(c:Value)(f:Addr):Env:={scope:=p.main.scope,locals:=mainNs,globals:=mainNs,cells:=[],code:=c,frame:=some f}
def vM(p:Program)(l:List Nat):Program:={p with main:={p.main with body:=l.map fun i=>p.main.body.getD i (.Pass ⟨0,0,0,0⟩)}}
abbrev oV(tr:Nat->Params->BT)(k n t:Nat)(w:World)(os:OsState):SharedT:=⟨tr k w.params,n,{},⟨[]⟩,{},t,os⟩
abbrev oK(p:Program)(ev:Env):Code:=.body (behindTheImports p) ev
def qM(m0:Nat)(ann:Option Value)(n n0 t0:Nat)(q q0:Pos)(tg:(String->Option Builtin)->Program->World->Nat->Option Value->Nat->Shared->Thread->Option (Shared×Thread))(dn:(String->Option Builtin)->Code->Sem Fin)(tb:String->Option Builtin)(p:Program)(tr:Nat->Params->BT)(ev:Env):Prop:=
 ∀w:World,(fun os=>tg tb p w m0 ann n ⟨boot_heap w.params,⟨[]⟩,boot_drawn,boot_toks,os⟩ (topStub p))=fun os=>some ((oV tr 0 n0 t0 w os).abs,Thread.mk (dn tb (oK p ev)) (oK p ev) q0 [topFrame q])
def qN(m0:Nat)(ann:Option Value)(n n0 t0:Nat)(q q0 q1:Pos)(sr:(String->Option Builtin)->Program->World->Nat->Option Value->Nat->Nat->Shared->Thread->Option (Flow×Shared×Code×Pos))(tb:String->Option Builtin)(p:Program)(tr:Nat->Params->BT)(ev:Env):Prop:=
 ∀w:World,(fun os=>sr tb p w m0 ann 1 n (oV tr 0 n0 t0 w os).abs (blockOf (behindTheImports p) ev (oK p ev) q0 [topFrame q]))=fun os=>some (.next,(oV tr 0 n0 t0 w os).abs,oK p ev,q1)
def nF(m0:Nat)(ann:Option Value)(n i j k n0 t0 n1 t1:Nat)(q q0 q1:Pos)(sr:(String->Option Builtin)->Program->World->Nat->Option Value->Nat->Nat->SharedT->Thread->Option (Flow×SharedT×Code×Pos))(tb:String->Option Builtin)(p:Program)(tr:Nat->Params->BT)(ev:Env):Prop:=
 ∀w:World,(fun os=>sr tb p w m0 ann 1 n (oV tr k n0 t0 w os) (piecesOf (((behindTheImports p).drop i).take j) ev (oK p ev) q0 [topFrame q]))=fun os=>some (.next,oV tr (Nat.succ k) n1 t1 w os,oK p ev,q1)
def qO(m0:Nat)(ann:Option Value)(n k n0 t0:Nat)(q q0:Pos)(sr:(String->Option Builtin)->Program->World->Nat->Option Value->Nat->Shared->Thread->Option Shared)(tb:String->Option Builtin)(p:Program)(tr:Nat->Params->BT)(ev:Env):Prop:=
 ∀w:World,(fun os=>sr tb p w m0 ann n (oV tr k n0 t0 w os).abs (Thread.mk (doneF .next) (oK p ev) q0 [topFrame q]))=fun os=>some (oV tr k n0 t0 w os).abs
variable{m0:Nat}{ann:Option Value}{q q0 q1:Pos}{tb:String->Option Builtin}{p:Program}{tr:Nat->Params->BT}{ev:Env}{n N i j k n0 t0 n1 t1:Nat}{r:Shared}
theorem hgo(h:qM m0 ann n n0 t0 q q0 topGo denote tb p tr ev)(w:World)(os:OsState)(g:topRun tb p w m0 ann N (oV tr 0 n0 t0 w os).abs (Thread.mk (denote tb (oK p ev)) (oK p ev) q0 [topFrame q])=some r):
  topRun tb p w m0 ann (Nat.add n N) ⟨boot_heap w.params,⟨[]⟩,boot_drawn,boot_toks,os⟩ (topStub p)=some r:=go_top (Js (h w) os) g
theorem rX(h:qN m0 ann n n0 t0 q q0 q1 segRun tb p tr ev)(w:World)(os:OsState)(g:topRun tb p w m0 ann N (oV tr 0 n0 t0 w os).abs (restOf ((behindTheImports p).drop 0) ev (oK p ev) q1 [topFrame q])=some r):
  topRun tb p w m0 ann (Nat.add n N) (oV tr 0 n0 t0 w os).abs (Thread.mk (denote tb (oK p ev)) (oK p ev) q0 [topFrame q])=some r:=piece_block (Js (h w) os) g
theorem lO(h:nF m0 ann n i j k n0 t0 n1 t1 q q0 q1 segRunT tb p tr ev)(w:World)(os:OsState)(g:topRun tb p w m0 ann N (oV tr (Nat.succ k) n1 t1 w os).abs (restOf ((behindTheImports p).drop (Nat.add i j)) ev (oK p ev) q1 [topFrame q])=some r):
  topRun tb p w m0 ann (Nat.add n N) (oV tr k n0 t0 w os).abs (restOf ((behindTheImports p).drop i) ev (oK p ev) q0 [topFrame q])=some r:=by
 have a:=piece_app (segRun_of (Js (h w) os)) g
 have e:((behindTheImports p).drop i).take j++(behindTheImports p).drop (Nat.add i j)=(behindTheImports p).drop i:=by
  have:=List.take_append_drop j ((behindTheImports p).drop i);rw[List.drop_drop]at this;exact this
 rw[e]at a;exact a
theorem rY(e:(behindTheImports p).drop i=[])(h:qO m0 ann n k n0 t0 q q0 topRun tb p tr ev)(w:World)(os:OsState):
  topRun tb p w m0 ann n (oV tr k n0 t0 w os).abs (restOf ((behindTheImports p).drop i) ev (oK p ev) q0 [topFrame q])=some (oV tr k n0 t0 w os).abs:=by
 rw[e];exact Js (h w) os
abbrev o4(H:Params->Heap)(t:Nat)(w:World)(os:OsState):Shared:=⟨H w.params,⟨[]⟩,{},t,os⟩
structure tK(p v:Program)(H:Params->Heap)(K:Params->Frag)(as ts:List Addr)(t:Nat)(ls:List Str:=[]):Prop where
 l1:∀w:World,(fun os=>staticsOk (PySem.W.Fast.tw5923862056798008813 p.main.body) (boot_heap w.params) (H w.params)&&namesBound p (H w.params)&&gensDone (o4 H t w os)&&laidKept (boot_heap w.params) (H w.params))=fun _=>true
 l2:∀w:World,(fun os=>PySem.W.Fast.tw5160383126252970620 (PySem.W.R.mapR (fun x=>x.name) (PySem.W.Fast.tw3399658132070893891 v)) (PySem.W.Fast.tw5991557255702980513 v) [] (o4 H t w os))=fun _=>expectedOf v
 l3:∀w:World,(H w.params).bltView=bltViewBooted
 l4:∀w:World,(fun os=>PySem.W.Fast.tw10880121769531294198 (H w.params) (PySem.W.Fast.tw821141287760084731 v ls) (PySem.W.R.mapR (fun x=>x.name) (PySem.W.Fast.tw3399658132070893891 v)) (PySem.W.R.mapR (fun x=>x.1) (PySem.W.Fast.tw7409074990110511671 v)) (PySem.W.R.mapR (fun x=>x.name) (PySem.W.Fast.tw13664370479719496447 v (PySem.W.Fast.tw821141287760084731 v ls)))&&PySem.W.Fast.tw14722251495701143533 (H w.params) (PySem.W.Fast.tw5923862056798008813 p.main.body)&&(H w.params).isNs mainGlobals&&(H w.params).isNs builtinsNs&&PySem.W.Fast.tw10994771534591457954 v (H w.params)&&(xlAt v [] (o4 H t w os)&&recOk [] (o4 H t w os))&&(if true then(o4 H t w os).gens.size==0 else !leftWithCleanup (o4 H t w os).gens))=fun _=>true
 l5:∀w:World,(fun os=>PySem.W.Fast.tw479339242167458305 v (o4 H t w os))=fun _=>true
 l6:∀w:World,(fun os=>PySem.W.Fast.tw16090120013241838585 v (PySem.W.Fast.tw3247288618530077131 v) (o4 H t w os))=fun _=>pinGoodD (PySem.W.Fast.tw3247288618530077131 v)
 l7:∀w:World,(fun os=>PySem.W.Fast.tw2386780881361962483 v (PySem.W.Fast.tw821141287760084731 v ls) (o4 H t w os))=fun _=>plainGoodE v (PySem.W.Fast.tw821141287760084731 v ls)
 l8:∀w:World,(fun os=>PySem.W.Fast.tw11698064438423848299 v ls (o4 H t w os))=fun _=>plainGoodD v ls
 l9:∀w:World,(fun os=>PySem.W.Fast.tw7317090234206586261 v (o4 H t w os))=fun _=>wideGood v
 l10:∀w:World,(fun os=>PySem.W.Fast.tw7369524293546568484 v ls (o4 H t w os))=fun _=>clsGoodW v ls
 l11:∀w:World,PySem.W.R.mapR (H w.params).get? as=PySem.W.R.mapR (fun p=>some p.2) (K w.params)
 l12:∀w:World,PySem.W.R.mapR (H w.params).get? ts=PySem.W.R.mapR (fun _=>some (tabObj #[])) ts
theorem hsize(w:World):((boot_heap w.params).isNs mainGlobals&&(Array.mk []:Array GenState).size==0,(boot_heap w.params).objs.size,(boot_heap w.params).nsMap mainGlobals "__annotations__")=(true,11,some (.ref 6)):=by
 rw[PySem.W.Fast.te8920871248978507458,show("__annotations__":Str)=⟨⟨[95,95,97,110,110,111,116,97,116,105,111,110,115,95,95]⟩⟩from PySem.W.Fast.ofString_ofList ['_','_','a','n','n','o','t','a','t','i','o','n','s','_','_']]
 kernel_rfl
theorem hleft{v:Program}{H:Params->Heap}{K:Params->Frag}{as ts:List Addr}{t M:Nat}(e:∀P,as=(K P).map (·.1))(eo:opening p=plainProg p.main.scope.names)(hf:∀s,fenceModules? p s=some s)(hN:Nat.ble 600 N=true)(le:Nat.ble M N=true)
  (run:∀(w:World) (os:OsState),topRun treeTable p w 11 (some (.ref 6)) M ⟨boot_heap w.params,⟨[]⟩,boot_drawn,boot_toks,os⟩ (topStub p)=some (o4 H t w os)){ls:List Str}(L:tK p v H K as ts t ls):
  LeftO p v ls (fun s=>xlAt v [] s&&recOk [] s) (Hook.obs (kmHook K as e ts)) (Hook.val (kmHook K as e ts)) N:=by
 refine LeftO.of_pieces (boot_open eo hN hf) hsize run le fun w=>?_
 have q1:=L.l1 w;have q2:=L.l2 w;have q3:=L.l3 w;have q4:=L.l4 w;have q5:=L.l5 w;have q6:=L.l6 w;have q7:=L.l7 w;have q8:=L.l8 w;have q9:=L.l9 w;have q10:=L.l10 w;have q11:=L.l11 w;have q12:=L.l12 w
 simp only[←PySem.W.Fast.te5923862056798008813,←PySem.W.Fast.te5160383126252970620,←PySem.W.R.mapR_eq,←PySem.W.Fast.te3399658132070893891,←PySem.W.Fast.te5991557255702980513,←PySem.W.Fast.te10880121769531294198,←PySem.W.Fast.te821141287760084731,←PySem.W.Fast.te7409074990110511671,←PySem.W.Fast.te13664370479719496447,←PySem.W.Fast.te14722251495701143533,←PySem.W.Fast.te10994771534591457954,←PySem.W.Fast.te479339242167458305,←PySem.W.Fast.te16090120013241838585,←PySem.W.Fast.te3247288618530077131,←PySem.W.Fast.te2386780881361962483,←PySem.W.Fast.te11698064438423848299,←PySem.W.Fast.te7317090234206586261,←PySem.W.Fast.te7369524293546568484]at q1 q2 q4 q5 q6 q7 q8 q9 q10 q11 q12
 funext os
 unfold openSeen openGood;refine Jo (Js q1 os) (Jo (Jo (Js q2 os) (Jo q3 (Jo (Js q4 os) (Jo (Js q5 os) (Jo (Js q6 os) (Jo (Js q7 os) (Jo (Js q8 os) (Jo (Js q9 os) (Js q10 os))))))))) (Jo q11 q12))
end HG
namespace K81
noncomputable section
open PySem PySem.W PySem.Calls PyProof.Rows HG PySem.W.Fast PySem.Challenge
def hS(i:Nat):Stmt:=pw_turnsigns_k81_first_rows_and_shares.main.body.getD i (.Pass ⟨0,0,0,0⟩)
def hm0:Value:=(.str "turnsigns.errors" 187)
def hm1:Value:=(.str "turnsigns.grids" 415)
def hm2:Value:=(.str "turnsigns.counts" 447)
def qD:Value:=(.str "turnsigns.shares" 502)
def nG:Value:=(.str "law_turnsigns_k81_first_rows_and_shares" 554)
def hc0(P:Params):List (Nat×List Obj):=[(15,[boot_o_0 P,boot_o_1 P,boot_o_2 P,hZ,boot_o_4 P,boot_o_5 P,boot_o_6 P,boot_o_7 P,boot_o_8 P,boot_o_9 P,boot_o_10 P,hZ,hZ,hC "<module>" 182 185 1 0 0 11 false 12 .none .none .none .none,⟨(.type "frame"),none,.plain,⟨[(some (.ref 13)),(some (.ref 3)),(some (.ref 3)),none,(some (.str "__main__" 164)),none,(some (.ref 0))]⟩⟩]),(13,[hU [(.type "ValueError")],⟨(.type "builtin_function_or_method"),none,.fields ⟨[(.builtin "type.__prepare__"),(.type "type")]⟩,⟨[]⟩⟩,⟨(.type "dict"),none,.dict ⟨[hE P "__module__" 196 (.str "turnsigns.errors" 187),hE P "__qualname__" 198 (.str "SignError" 197),hE P "__firstlineno__" 200 (.int 2 199),hE P "__static_attributes__" 201 (.ref 22)]⟩ 4,⟨[]⟩⟩,hZ,hN,hC "SignError" 191 194 2 0 0 18 false 19 .none .none .none .none,⟨(.type "frame"),none,.plain,⟨[(some (.ref 20)),(some (.ref 3)),(some (.ref 17)),none,(some (.str "turnsigns.errors" 187)),none,(some (.ref 0))]⟩⟩,hZ,⟨(.type "dict"),none,.dict ⟨[hE P "__module__" 196 (.str "turnsigns.errors" 187),hE P "__firstlineno__" 200 (.int 2 199),hE P "__static_attributes__" 201 (.ref 22),hE P "__weakref__" 203 (.ref 25),hE P "__doc__" 204 .none]⟩ 3,⟨[]⟩⟩,hZ,⟨(.type "getset_descriptor"),none,.fields ⟨[(.str "__weakref__" 202),(.ref 24),(.builtin "ExceptionGroup.__weakref__"),.none]⟩,⟨[]⟩⟩,⟨(.type "super"),none,.fields ⟨[(.ref 24),(.ref 24),(.ref 24)]⟩,⟨[]⟩⟩,⟨(.type "builtin_function_or_method"),none,.fields ⟨[(.builtin "object.__init_subclass__"),(.ref 24)]⟩,⟨[]⟩⟩]),(1,[hU [.ref 24]]),(11,o3 P (hS 2) 29 207 4 hm0),(1,[hU [.ref 24]]),(11,o3 P (hS 3) 41 223 6 hm0),(1,[hU [.ref 24]]),(11,o3 P (hS 4) 53 239 8 hm0),(1,[hU [.ref 24]]),(11,o3 P (hS 5) 65 255 10 hm0)]
def hc1(P:Params):List (Nat×List Obj):=[(1,[hU [.ref 24]]),(11,o3 P (hS 6) 77 271 12 hm0),(1,[hU [.ref 24]]),(11,o3 P (hS 7) 89 287 14 hm0),(1,[hU [.ref 24]]),(11,o3 P (hS 8) 101 303 16 hm0),(1,[hU [.ref 24]]),(11,o3 P (hS 9) 113 319 18 hm0),(1,[hU [.ref 24]]),(11,o3 P (hS 10) 125 335 20 hm0)]
def hc2(P:Params):List (Nat×List Obj):=[(1,[hU [.ref 24]]),(11,o3 P (hS 11) 137 351 22 hm0),(1,[hU [.ref 24]]),(11,o3 P (hS 12) 149 367 24 hm0),(1,[hU [.ref 24]]),(11,o3 P (hS 13) 161 383 26 hm0),(1,[hU [.ref 24]]),(11,o3 P (hS 14) 173 399 28 hm0),(7,n5 (hS 16) 184 417 31 1 hm1 ["thing"]),(7,n5 (hS 17) 191 424 33 3 hm1 ["thing","least","greatest"])]
def hc3(P:Params):List (Nat×List Obj):=[(5,oG (hS 18) 198 433 35 2 hm1),(5,oG (hS 19) 203 439 39 3 hm1),(7,n5 (hS 22) 208 449 45 4 hm2 ["thing","least","greatest","name"]),(7,n5 (hS 23) 215 459 48 1 hm2 ["number","product","factor"]),(7,n5 (hS 24) 222 468 53 1 hm2 ["side","top","bottom","at"]),(5,oG (hS 25) 229 478 60 1 hm2),(5,oG (hS 26) 234 484 65 2 hm2),(5,oG (hS 27) 239 490 67 2 hm2),(5,oG (hS 28) 244 496 69 2 hm2),(7,n5 (hS 30) 249 504 76 2 qD ["thing","width"])]
def hc4(P:Params):List (Nat×List Obj):=[(7,n5 (hS 31) 256 512 78 2 qD ["side","rows","sums","row"]),(7,n5 (hS 32) 263 522 88 2 qD ["top","bottom","common","rest"]),(7,n5 (hS 33) 270 532 93 2 qD ["side","rows"]),(7,n5 (hS 34) 277 540 95 2 qD ["side","rows"]),(5,oG (hS 35) 284 548 97 2 qD),(7,n5 (hS 37) 289 556 103 2 nG ["_law_script","_law_k"]),(7,n5 (hS 38) 296 564 107 2 nG ["_law_script","_law_k","_law_cell"]),(7,n5 (hS 39) 303 573 112 2 nG ["_law_state_here","_law_many_here","_law_found","_law_mixed"]),(5,oG (hS 40) 310 583 121 1 nG),(5,oG (hS 41) 315 589 133 2 nG)]
def hc5(P:Params):List (Nat×List Obj):=[(5,oG (hS 42) 320 595 135 2 nG),(5,oG (hS 43) 325 601 148 1 nG),(7,n5 (hS 44) 330 607 158 1 nG ["_law_thing"]),(5,oG (hS 45) 337 614 160 1 nG),(5,oG (hS 46) 342 620 163 1 nG),(7,n5 (hS 47) 347 626 172 1 nG ["_law_state_here","_law_some"]),(7,n5 (hS 48) 354 634 175 2 nG ["_law_state_here","_law_table_here","_law_at","_law_k","_law_row","_law_odd_here","_law_rows_here","_law_one","_law_other","_law_some"]),(5,oG (hS 49) 361 650 186 2 nG),(5,oG (hS 50) 366 656 192 1 nG),(5,oG (hS 51) 371 662 209 3 nG)]
def hc6(P:Params):List (Nat×List Obj):=[(7,n5 (hS 52) 376 668 218 2 nG ["_law_top","_law_bottom","_law_one","_law_other"]),(7,[hZ,hN,hU [(.str "_law_script" 681),(.str "_law_k" 682),(.str "_law_state_here" 683),(.str "_law_ways" 684),(.str "_law_table_here" 685),(.str "_law_rows_here" 686),(.str "_law_due" 687),(.str "_law_things" 688),(.str "_law_word" 689)],hU [(.str "_law_call" 690),(.str "_law_odd_here" 691),(.str "_law_side" 692),(.str "_law_thing" 693)],hR (hS 53),hC "law" 678 694 223 1 3 383 true 384 .none (.ref 385) (.ref 386) (.ref 387),hF (hS 53) (.str "law_turnsigns_k81_first_rows_and_shares" 554) (.ref 388)])]
def hB(P:Params):Nat->Obj:=vJ (hc0 P++hc1 P++hc2 P++hc3 P++hc4 P++hc5 P++hc6 P)
def RM(P:Params)(v:Value):List DictEntry:=[hE P "__name__" 165 v,hE P "__doc__" 166 .none,hE P "__package__" 167 .none,hE P "__loader__" 168 (.builtin "__main__.__loader__#opaque"),hE P "__spec__" 169 .none,hE P "__annotations__" 170 (.ref 6),hE P "__builtins__" 171 (.ref 4),hE P "__file__" 173 (.str "/claim/cut.py" 172),hE P "__cached__" 174 .none,hE P "SignError" 206 (.ref 24),hE P "NoTable" 222 (.ref 37),hE P "NoHeights" 238 (.ref 49),hE P "NoNet" 254 (.ref 61),hE P "NoPlace" 270 (.ref 73),hE P "NoTriangle" 286 (.ref 85),hE P "NoRow" 302 (.ref 97)]
def RN(P:Params)(v:Value):List DictEntry:=[hE P "NoNumber" 318 (.ref 109),hE P "NoTurn" 334 (.ref 121),hE P "NotAlike" 350 (.ref 133),hE P "NoStep" 366 (.ref 145),hE P "NoRows" 382 (.ref 157),hE P "TooMany" 398 (.ref 169),hE P "BadNote" 414 (.ref 181),hE P "is_whole" 423 (.ref 190),hE P "is_within" 432 (.ref 197),hE P "is_row" 438 (.ref 202),hE P "is_grid" 444 (.ref 207),hE P "GREATEST_SIDE" 446 (.int 6 445),hE P "must_be_within" 458 (.ref 214),hE P "factorial" 467 (.ref 221),hE P "counted" 477 (.ref 228),hE P "rows_on" 483 (.ref 233)]
def RO(P:Params)(v:Value):List DictEntry:=[hE P "added" 489 (.ref 238),hE P "choices_on" 495 (.ref 243),hE P "ways_on" 501 (.ref 248),hE P "is_rows" 511 (.ref 255),hE P "sums_behind" 521 (.ref 262),hE P "fraction" 531 (.ref 269),hE P "many_so" 539 (.ref 276),hE P "share_so" 547 (.ref 283),hE P "next_rows" 553 (.ref 288),hE P "_law_cell_at" 563 (.ref 295),hE P "_law_state" 572 (.ref 302),hE P "_law_take" 582 (.ref 309),hE P "_law_rows" 588 (.ref 314),hE P "_law_held" 594 (.ref 319),hE P "_law_table" 600 (.ref 324),hE P "_law_counts" 606 (.ref 329)]
def RP(P:Params)(v:Value):List DictEntry:=[hE P "_law_whole" 613 (.ref 336),hE P "_law_turns" 619 (.ref 341),hE P "_law_is_table" 625 (.ref 346),hE P "_law_odd" 633 (.ref 353),hE P "_law_bent" 649 (.ref 360),hE P "_law_same" 655 (.ref 365),hE P "_law_refused" 661 (.ref 370),hE P "_law_many" 667 (.ref 375),hE P "_law_cut" 677 (.ref 382),hE P "law" 696 (.ref 389)]
def vN(P:Params)(v:Value):List DictEntry:=RM P v++RN P v++RO P v++RP P v
def tL(k:Nat):Nat×Nat×Value:=pG [(9,9,(.str "__main__" 164)),(10,10,(.str "turnsigns.errors" 187)),(11,11,(.str "turnsigns.errors" 187)),(12,12,(.str "turnsigns.errors" 187)),(13,13,(.str "turnsigns.errors" 187)),(14,14,(.str "turnsigns.errors" 187)),(15,15,(.str "turnsigns.errors" 187)),(16,16,(.str "turnsigns.errors" 187)),(17,17,(.str "turnsigns.errors" 187)),(18,18,(.str "turnsigns.errors" 187)),(19,19,(.str "turnsigns.errors" 187)),(20,20,(.str "turnsigns.errors" 187)),(21,21,(.str "turnsigns.errors" 187)),(22,22,(.str "turnsigns.errors" 187)),(29,29,(.str "turnsigns.counts" 447)),(42,42,(.str "law_turnsigns_k81_first_rows_and_shares" 554)),(56,56,(.str "law_turnsigns_k81_first_rows_and_shares" 554)),(58,58,(.str "law_turnsigns_k81_first_rows_and_shares" 554))] k (0,0,.none)
def vO(P:Params)(k:Nat):Obj:=⟨(.type "dict"),none,.dict ⟨(vN P (tL k).2.2).take (tL k).1⟩ (tL k).2.1,⟨[]⟩⟩
def RQ:List Value:=vK [(2,20),(4,33),(6,45),(8,57),(10,69),(12,81),(14,93),(16,105),(18,117),(20,129),(22,141),(24,153),(26,165),(28,177),(31,189),(33,196),(35,201),(39,206),(45,213),(48,220),(53,227),(60,232),(65,237),(67,242),(69,247),(76,254),(78,261),(88,268),(93,275),(95,282),(97,287),(103,294),(107,301),(112,308),(121,313),(133,318),(135,323),(148,328),(158,335),(160,340),(163,345),(172,352),(175,359),(186,364),(192,369),(209,374),(218,381),(223,388)]
def RS(_:Params)(k:Nat):Obj:=⟨.none,none,.fields ⟨RQ.take (pG [0,3,6,9,12,15,18,21,24,27,30,33,36,39,57,96,138,144] k 0)⟩,⟨[]⟩⟩
def RT:List Value:=[(.ref 37),(.ref 49),(.ref 61),(.ref 73),(.ref 85),(.ref 97),(.ref 109),(.ref 121),(.ref 133),(.ref 145),(.ref 157),(.ref 169),(.ref 181)]
def RU(_:Params)(k:Nat):Obj:=⟨(.type "type"),none,.cls ⟨"SignError",[(.type "ValueError")],[(.ref 24),(.type "ValueError"),(.type "Exception"),(.type "BaseException"),(.type "object")],23,"SignError",true,[],RT.take (pG [0,0,1,2,3,4,5,6,7,8,9,10,11,12,13,13,13,13] k 0),false,none,false⟩,⟨[(some (.ref 15)),none,(some (.str "SignError" 189)),(some (.str "SignError" 197)),(some (.builtin "ValueError.__new__")),(some (.bool true))]⟩⟩
def hO(P:Params)(k b:Nat):Obj:=match Nat.beq b 3 with|true=>vO P k|false=>match Nat.beq b 12 with|true=>RS P k|false=>match Nat.beq b 24 with|true=>RU P k|false=>hB P b
def hn(k:Nat):Nat:=pG [15,28,40,52,64,76,88,100,112,124,136,148,160,172,215,296,376,390] k 0
noncomputable def hT (k:Nat) (P:Params):BT:=vL (hO P k) (hn k) 12 1 0
def hV:Env:=tJ pw_turnsigns_k81_first_rows_and_shares (.ref 13) 14
def hQ:Program:=vM pw_turnsigns_k81_first_rows_and_shares [1,2,3,4,5,6,7,8,9,10,11,12,13,14,16,17,18,19,20,22,23,24,25,26,27,28,30,31,32,33,34,35,37,38,39,40,41,42,43,44,45,46,47,48,49,50,51,52,53]
def hA:List Nat:=[2,3,15,22,23,24,25,28,35,36,37,40,47,48,49,52,59,60,61,64,71,72,73,76,83,84,85,88,95,96,97,100,107,108,109,112,119,120,121,124,131,132,133,136,143,144,145,148,155,156,157,160,167,168,169,172,179,180,181,184,186,187,189,190,191,193,194,196,197,198,201,202,203,206,207,208,210,211,213,214,215,217,218,220,221,222,224,225,227,228,229,232,233,234,237,238,239,242,243,244,247,248,249,251,252,254,255,256,258,259,261,262,263,265,266,268,269,270,272,273,275,276,277,279,280,282,283,284,287,288,289,291,292,294,295,296,298,299,301,302,303,305,306,308,309,310,313,314,315,318,319,320,323,324,325,328,329,330,332,333,335,336,347,349,350,352,353,354,356,357,359,360,361,364,365,366,369,370,371,374,375,376,378,379,381,382,383,385,386,388,389]
def hK(P:Params):Frag:=hA.map fun a=>(a,hO P 17 a)
def hH(P:Params):Heap:=absHeap (hT 17 P) 390 {}
theorem htw:(oZ hT&&oZ hH&&oZ hV&&oZ hQ&&oZ hK&&oZ pw_turnsigns_k81_first_rows_and_shares)=true:=by k_qdec
abbrev n8:=pw_turnsigns_k81_first_rows_and_shares
noncomputable abbrev fb:=tw14364793385576792824
noncomputable abbrev fp:=tw12386629125167206469
noncomputable abbrev ft:=tw17949579545000700868
noncomputable abbrev fv:=tw8884382424375114916
theorem RV:qM 11 (some (.ref 6)) 12 15 187 ⟨0,0,0,0⟩ ⟨0,0,0,0⟩ tw15667345088766844465 tw11892475500146522536 fb fp ft fv:=fun w=>by kernel_rfl
theorem hpre:qM 11 (some (.ref 6)) 12 15 187 ⟨0,0,0,0⟩ ⟨0,0,0,0⟩ topGo denote treeTable pw_turnsigns_k81_first_rows_and_shares hT hV:=by rw[te15667345088766844465,te11892475500146522536,Yh,te12386629125167206469,te17949579545000700868,te8884382424375114916];exact RV
theorem RW:qN 11 (some (.ref 6)) 1 15 187 ⟨0,0,0,0⟩ ⟨0,0,0,0⟩ ⟨0,0,0,0⟩ tw14374325043358763698 fb fp ft fv:=fun w=>by kernel_rfl
theorem tM:qN 11 (some (.ref 6)) 1 15 187 ⟨0,0,0,0⟩ ⟨0,0,0,0⟩ ⟨0,0,0,0⟩ segRun treeTable pw_turnsigns_k81_first_rows_and_shares hT hV:=by rw[te14374325043358763698,Yh,te12386629125167206469,te17949579545000700868,te8884382424375114916];exact RW
theorem nK{m0:Nat}{ann:Option Value}{n i j k n0 t0 n1 t1:Nat}{q q0 q1:Pos}(h:nF m0 ann n i j k n0 t0 n1 t1 q q0 q1 tw10110043849684766642 fb fp ft fv):nF m0 ann n i j k n0 t0 n1 t1 q q0 q1 segRunT treeTable pw_turnsigns_k81_first_rows_and_shares hT hV:=by rw[te10110043849684766642,Yh,te12386629125167206469,te17949579545000700868,te8884382424375114916];exact h
theorem hp0:nF 11 (some (.ref 6)) 196 0 2 0 15 187 28 207 ⟨0,0,0,0⟩ ⟨0,0,0,0⟩ ⟨2,0,3,8⟩ segRunT treeTable n8 hT hV:=nK fun w=>by kernel_rfl
theorem hp1:nF 11 (some (.ref 6)) 214 2 1 1 28 207 40 223 ⟨0,0,0,0⟩ ⟨2,0,3,8⟩ ⟨4,0,5,8⟩ segRunT treeTable n8 hT hV:=nK fun w=>by kernel_rfl
theorem hp2:nF 11 (some (.ref 6)) 214 3 1 2 40 223 52 239 ⟨0,0,0,0⟩ ⟨4,0,5,8⟩ ⟨6,0,7,8⟩ segRunT treeTable n8 hT hV:=nK fun w=>by kernel_rfl
theorem hp3:nF 11 (some (.ref 6)) 214 4 1 3 52 239 64 255 ⟨0,0,0,0⟩ ⟨6,0,7,8⟩ ⟨8,0,9,8⟩ segRunT treeTable n8 hT hV:=nK fun w=>by kernel_rfl
theorem vP:nF 11 (some (.ref 6)) 214 5 1 4 64 255 76 271 ⟨0,0,0,0⟩ ⟨8,0,9,8⟩ ⟨10,0,11,8⟩ segRunT treeTable n8 hT hV:=nK fun w=>by kernel_rfl
theorem sL:nF 11 (some (.ref 6)) 214 6 1 5 76 271 88 287 ⟨0,0,0,0⟩ ⟨10,0,11,8⟩ ⟨12,0,13,8⟩ segRunT treeTable n8 hT hV:=nK fun w=>by kernel_rfl
theorem vQ:nF 11 (some (.ref 6)) 214 7 1 6 88 287 100 303 ⟨0,0,0,0⟩ ⟨12,0,13,8⟩ ⟨14,0,15,8⟩ segRunT treeTable n8 hT hV:=nK fun w=>by kernel_rfl
theorem vR:nF 11 (some (.ref 6)) 214 8 1 7 100 303 112 319 ⟨0,0,0,0⟩ ⟨14,0,15,8⟩ ⟨16,0,17,8⟩ segRunT treeTable n8 hT hV:=nK fun w=>by kernel_rfl
theorem vS:nF 11 (some (.ref 6)) 214 9 1 8 112 319 124 335 ⟨0,0,0,0⟩ ⟨16,0,17,8⟩ ⟨18,0,19,8⟩ segRunT treeTable n8 hT hV:=nK fun w=>by kernel_rfl
theorem vT:nF 11 (some (.ref 6)) 214 10 1 9 124 335 136 351 ⟨0,0,0,0⟩ ⟨18,0,19,8⟩ ⟨20,0,21,8⟩ segRunT treeTable n8 hT hV:=nK fun w=>by kernel_rfl
theorem RX:nF 11 (some (.ref 6)) 214 11 1 10 136 351 148 367 ⟨0,0,0,0⟩ ⟨20,0,21,8⟩ ⟨22,0,23,8⟩ segRunT treeTable n8 hT hV:=nK fun w=>by kernel_rfl
theorem RY:nF 11 (some (.ref 6)) 214 12 1 11 148 367 160 383 ⟨0,0,0,0⟩ ⟨22,0,23,8⟩ ⟨24,0,25,8⟩ segRunT treeTable n8 hT hV:=nK fun w=>by kernel_rfl
theorem RZ:nF 11 (some (.ref 6)) 214 13 1 12 160 383 172 399 ⟨0,0,0,0⟩ ⟨24,0,25,8⟩ ⟨26,0,27,8⟩ segRunT treeTable n8 hT hV:=nK fun w=>by kernel_rfl
theorem Ra:nF 11 (some (.ref 6)) 385 14 9 13 172 399 215 459 ⟨0,0,0,0⟩ ⟨26,0,27,8⟩ ⟨45,0,47,87⟩ segRunT treeTable n8 hT hV:=nK fun w=>by kernel_rfl
theorem Rb:nF 11 (some (.ref 6)) 396 23 15 14 215 459 296 564 ⟨0,0,0,0⟩ ⟨45,0,47,87⟩ ⟨103,0,106,12⟩ segRunT treeTable n8 hT hV:=nK fun w=>by kernel_rfl
theorem Rc:nF 11 (some (.ref 6)) 395 38 14 15 296 564 376 668 ⟨0,0,0,0⟩ ⟨103,0,106,12⟩ ⟨209,0,217,36⟩ segRunT treeTable n8 hT hV:=nK fun w=>by kernel_rfl
theorem Rf:nF 11 (some (.ref 6)) 74 52 2 16 376 668 390 697 ⟨0,0,0,0⟩ ⟨209,0,217,36⟩ ⟨223,0,246,15⟩ segRunT treeTable n8 hT hV:=nK fun w=>by kernel_rfl
theorem Rg:qO 11 (some (.ref 6)) 2 17 390 697 ⟨0,0,0,0⟩ ⟨223,0,246,15⟩ tw14082659384304107361 fb fp ft fv:=fun w=>by kernel_rfl
theorem tN:qO 11 (some (.ref 6)) 2 17 390 697 ⟨0,0,0,0⟩ ⟨223,0,246,15⟩ topRun treeTable pw_turnsigns_k81_first_rows_and_shares hT hV:=by rw[te14082659384304107361,Yh,te12386629125167206469,te17949579545000700868,te8884382424375114916];exact Rg
theorem qP(w:World)(os:OsState):topRun treeTable pw_turnsigns_k81_first_rows_and_shares w 11 (some (.ref 6)) (Nat.add 12 (Nat.add 1 (Nat.add 196 (Nat.add 214 (Nat.add 214 (Nat.add 214 (Nat.add 214 (Nat.add 214 (Nat.add 214 (Nat.add 214 (Nat.add 214 (Nat.add 214 (Nat.add 214 (Nat.add 214 (Nat.add 214 (Nat.add 385 (Nat.add 396 (Nat.add 395 (Nat.add 74 (2)))))))))))))))))))) ⟨boot_heap w.params,⟨[]⟩,boot_drawn,boot_toks,os⟩ (topStub pw_turnsigns_k81_first_rows_and_shares)=some (SharedT.abs ⟨hT 17 w.params,390,{},⟨[]⟩,{},697,os⟩):=hgo hpre w os (rX tM w os (lO hp0 w os (lO hp1 w os (lO hp2 w os (lO hp3 w os (lO vP w os (lO sL w os (lO vQ w os (lO vR w os (lO vS w os (lO vT w os (lO RX w os (lO RY w os (lO RZ w os (lO Ra w os (lO Rb w os (lO Rc w os (lO Rf w os (rY (by kernel_rfl) tN w os)))))))))))))))))))
theorem Rh:tK tw12386629125167206469 tw4446334277594846360 tw15352998624264368289 tw3288665923819140075 hA [384] 697 []:=⟨fun _=>by kernel_rfl,fun _=>by kernel_rfl,fun _=>by kernel_rfl,fun _=>by kernel_rfl,fun _=>by kernel_rfl,fun _=>by kernel_rfl,fun _=>by kernel_rfl,fun _=>by kernel_rfl,fun _=>by kernel_rfl,fun _=>by kernel_rfl,fun _=>by kernel_rfl,fun _=>by kernel_rfl⟩
theorem hlk:tK pw_turnsigns_k81_first_rows_and_shares hQ hH hK hA [384] 697 []:=by rw[te12386629125167206469,te4446334277594846360,te15352998624264368289,te3288665923819140075];exact Rh
abbrev qQ:Hook:=kmHook hK hA (fun _=>by kernel_rfl) [384]
theorem vU:LeftO pw_turnsigns_k81_first_rows_and_shares hQ [] (fun s=>xlAt hQ [] s&&recOk [] s) (Hook.obs qQ) (Hook.val qQ) 8120:=hleft (fun _=>by kernel_rfl) (by kernel_rfl) (fun _=>by kernel_rfl) (by decide) (by decide) qP hlk
abbrev vV:DefRec:=⟨"law",uN (hS 53),uO (hS 53),uP (hS 53),vH (hS 53)⟩
end
end K81
namespace K81
open PySem PySem.W PyProof.Rows
theorem Ri(hc:WalkO hQ [] (XL hQ []) (Hook.says qQ) PySem.Challenge.rw_turnsigns_k81_first_rows_and_shares.row.toRowW vV [] fun f vs=>call f vs):PySem.Challenge.rw_turnsigns_k81_first_rows_and_shares.Holds:=by
 o_law
 exact holds_open (Xt:=fun s=>xlAt hQ [] s&&recOk [] s) (Yf:=Hook.obs qQ) (Ya:=Hook.val qQ) (N:=8120) vU (Hook.of qQ) (Hook.keeps qQ) (fun s e=>xl_of s (Bool.and_eq_true_iff.mp e).1) XL.keeps (by kernel_rfl) (by kernel_rfl) (by kernel_rfl) (fun s e=>recFacts_of (Bool.and_eq_true_iff.mp e).2) rfl (by assumption) (by rfl') ⟨rfl,rfl,rfl,rfl,rfl,by rfl'⟩ ⟨[.list []],by rfl',by rfl'⟩ hc
end K81
namespace L2
open PySem PySem.Spec PyProof.Rows
abbrev Key:=Sum Int Str
def Bj:Key->Value->Bool
 |.inl k,v=>Value.isInt k v
 |.inr x,v=>Value.isStrOf x v
def Rj(w:World):Key->Int
 |.inl k=>hashInt k
 |.inr x=>hashStr w x
theorem Ah:∀{k:Key}{v:Value},Bj k v=true->(∃i t,k=Sum.inl i/\v=Value.int i t)\/(∃x t,k=Sum.inr x/\v=Value.str x t)
 |.inl i,v,h=>by
  obtain⟨t,e⟩:=Value.isInt_shape (k:=i) (v:=v) h;exact .inl ⟨i,t,rfl,e⟩
 |.inr x,v,h=>by
  obtain⟨t,e⟩:=Value.isStrOf_shape (x:=x) (v:=v) h;exact .inr ⟨x,t,rfl,e⟩
theorem Rk(i:Int)(t:Tok):Bj (.inl i) (.int i t)=true:=by simp[Bj,Value.isInt]
theorem Rl(x:Str)(t:Tok):Bj (.inr x) (.str x t)=true:=by simp[Bj,Value.isStrOf]
theorem Rm(a b:Int):decide ((Sum.inl a:Key)=Sum.inl b)=(a==b):=by
 by_cases e:a=b
 ·subst e;simp
 ·have h:¬ (Sum.inl a:Key)=Sum.inl b:=fun q=>e (Sum.inl.inj q)
  rw[Zx h];exact(Ua.mpr e).symm
theorem Rn(a b:Str):decide ((Sum.inr a:Key)=Sum.inr b)=decide (a=b):=by
 by_cases e:a=b
 ·subst e;simp
 ·have h:¬ (Sum.inr a:Key)=Sum.inr b:=fun q=>e (Sum.inr.inj q)
  rw[Zx h,Zx e]
theorem Ro(a:Int)(b:Str):decide ((Sum.inl a:Key)=Sum.inr b)=false:=Zx (fun q=>nomatch q)
theorem Rp(a:Str)(b:Int):decide ((Sum.inr a:Key)=Sum.inl b)=false:=Zx (fun q=>nomatch q)
def Q1(prog:Program)(w:World):PySem.KeyKind prog w Key where
 is:=Bj
 hash:=Rj w
 inj:=fun v a b ha hb=>by
  rcases Ah ha with⟨i,t,rfl,rfl⟩|⟨x,t,rfl,rfl⟩
  ·rcases Ah hb with⟨j,u,rfl,e⟩|⟨y,u,rfl,e⟩
   ·injection e with e1 _;rw[e1]
   ·exact nomatch e
  ·rcases Ah hb with⟨j,u,rfl,e⟩|⟨y,u,rfl,e⟩
   ·exact nomatch e
   ·injection e with e1 _;rw[e1]
 byValue:=fun k v h=>by
  rcases Ah h with⟨i,t,rfl,rfl⟩|⟨x,t,rfl,rfl⟩<;>rfl
 pyHash:=fun hv h=>by
  rcases Ah hv with⟨i,t,rfl,rfl⟩|⟨x,t,rfl,rfl⟩
  ·exact wpAny_pyHash_int h
  ·exact wpAny_pyHash_str h
 eqBool:=fun hu hv h=>by
  rcases Ah hu with⟨i,t,rfl,rfl⟩|⟨x,t,rfl,rfl⟩
  ·rcases Ah hv with⟨j,u,rfl,rfl⟩|⟨y,u,rfl,rfl⟩
   ·rw[Rm]at h;exact wpAny_eqBool_int h
   ·rw[Ro]at h;exact SeqAt.EqAt.int_str i t y u _ _ _ _ h
  ·rcases Ah hv with⟨j,u,rfl,rfl⟩|⟨y,u,rfl,rfl⟩
   ·rw[Rp]at h;exact SeqAt.EqAt.str_int x t j u _ _ _ _ h
   ·rw[Rn]at h;exact wpAny_eqBool_str h
 «strs»:=fun k x t v h=>by
  rcases Ah h with⟨i,u,rfl,e⟩|⟨y,u,rfl,e⟩
  ·exact nomatch e
  ·injection e with e1 _
   subst e1;cases v<;>rfl
theorem Rq(prog:Program)(w:World)(i:Int)(t:Tok):(Q1 prog w).is (.inl i) (.int i t)=true:=Rk i t
theorem Rt(prog:Program)(w:World)(x:Str)(t:Tok):(Q1 prog w).is (.inr x) (.str x t)=true:=Rl x t
inductive V where
 |non|bl (b:Bool)|int (i:Int)|str (x:Str)|byt (b:Array UInt8)|flt (b:UInt64)|ref (a:Addr)|ty (n:String)
 deriving DecidableEq
def D8:V->Value->Prop
 |.non,u=>u=Value.none
 |.bl b,u=>u=Value.bool b
 |.int i,u=>∃t,u=Value.int i t
 |.str x,u=>∃t,u=Value.str x t
 |.byt b,u=>∃t,u=Value.bytes b t
 |.flt b,u=>∃t,u=Value.float b t
 |.ref a,u=>u=Value.ref a
 |.ty n,u=>u=Value.type n
abbrev D3:List V->List Value->Prop:=Paired D8
theorem D3.length{xs:List V}{us:List Value}(r:D3 xs us):xs.length=us.length:=Paired.length r
theorem D3.get:∀{xs:List V}{us:List Value}{i:Nat}{x:V},D3 xs us->xs[i]? =some x->∃u,us[i]? =some u/\D8 x u
 |_,_,_,_,.nil,e=>by simp at e
 |_,_,0,_,.cons r _,e=>by simp at e;subst e;exact⟨_,rfl,r⟩
 |_,_,i+1,x,.cons _ t,e=>by
  obtain⟨u,h1,h2⟩:=D3.get (i:=i) (x:=x) t (by simpa using e)
  exact⟨u,by simpa using h1,h2⟩
theorem D3.set{x:V}{u:Value}(r:D8 x u):∀{xs:List V}{us:List Value}(i:Nat),D3 xs us->D3 (xs.set i x) (us.set i u)
 |_,_,_,.nil=>.nil
 |_,_,0,.cons _ t=>.cons r t
 |_,_,i+1,.cons q t=>.cons q (D3.set r i t)
theorem D3.append:∀{xs ys:List V}{us ws:List Value},D3 xs us->D3 ys ws->D3 (xs++ys) (us++ws)
 |_,_,_,_,.nil,s=>s
 |_,_,_,_,.cons r t,s=>.cons r (D3.append t s)
theorem D3.take:∀{xs:List V}{us:List Value}(n:Nat),D3 xs us->D3 (xs.take n) (us.take n)
 |_,_,0,_=>.nil
 |_,_,_+1,.nil=>.nil
 |_,_,n+1,.cons r t=>.cons r (D3.take n t)
theorem D3.drop:∀{xs:List V}{us:List Value}(n:Nat),D3 xs us->D3 (xs.drop n) (us.drop n)
 |_,_,0,r=>r
 |_,_,_+1,.nil=>.nil
 |_,_,n+1,.cons _ t=>D3.drop n t
def AE:Option V->Option Value->Prop
 |some v,some u=>D8 v u
 |none,none=>True
 |_,_=>False
def KV{κ:Type}:List (κ×V)->List (κ×Value)->Prop:=Paired fun(p:κ×V) (q:κ×Value)=>p.1=q.1/\D8 p.2 q.2
def kV:Key->V
 |.inl i=>.int i
 |.inr x=>.str x
inductive HO where
 |lst (xs:List V)
 |tup (xs:List V)
 |dK (kvs:List (Key×V))|dT (C:Addr->List Key->Prop) (kvs:List (List Key×V))
 |set (S:Int->Bool) (n:Nat)
 |ins (C dx:Addr) (fs:List (Str×V))
 |own (x:Addr)
 |xd (fs:List (Str×V))
 |met (f x:Addr)
 |rng (lo hi:Int)
 |frz (o:Obj) (u:HO)
 |tbl (ps:Array Value)
 |ext (φ:Heap->Prop)
abbrev Hp:=Addr->Option HO
def upd(H:Hp)(a:Addr)(o:HO):Hp:=fun b=>if b=a then some o else H b
theorem F9{H:Hp}{a:Addr}{o:HO}:upd H a o a=some o:=by unfold upd;rw[Qc rfl]
theorem D6{H:Hp}{a b:Addr}{o:HO}(h:b≠a):upd H a o b=H b:=by unfold upd;rw[Qt h]
theorem LA{H:Hp}{a:Addr}{o u:HO}:upd (upd H a o) a u=upd H a u:=by
 funext b;unfold upd;split<;>rfl
theorem Ru{H:Hp}{a b:Addr}{o u:HO}(h:H a=some o)(h':H b=some u)(d:o≠u):a≠b:=by
 intro e;subst e;rw[h]at h';exact d (Yv h')
theorem Q2{H:Hp}{a b:Addr}{o:HO}(h:H a=some o)(h':H b=none):a≠b:=by
 intro e;subst e;rw[h]at h';cases h'
def V8(h:Heap)(a:Addr)(items:Array Value):Prop:=∃o,h.get? a=some o/\o.cls=.type "tuple"/\o.dict=none/\∃n,o.data=.seq items n
theorem V8.tup{h:Heap}{a:Addr}{items:Array Value}:V8 h a items->IsTup h a items:=fun⟨o,e,c,_,d⟩=>⟨o,e,c,d⟩
theorem V8.lt{h:Heap}{a:Addr}{items:Array Value}(p:V8 h a items):a<h.objs.size:=p.tup.lt
theorem V8.new(h:Heap)(items:Array Value):V8 (h.push {cls:=.type "tuple",data:=.seq items}) h.objs.size items:=⟨_,Qh _ rfl,rfl,rfl,_,rfl⟩
section
variable(P:Program)(w:World)
def J9(H:Hp)(h:Heap)(a:Addr):HO->Prop
 |.lst xs=>xs.length≤sizeLine/\∃(its:List Value) (n:Nat),D3 xs its/\h.get? a=some {cls:=.type "list",data:=.seq its.toArray n}
 |.tup xs=>xs.length≤sizeLine/\∃its:List Value,D3 xs its/\V8 h a its.toArray
 |.dK kvs=>kvs.length≤sizeLine/\(a==sysModules)=false/\∃vs,KV kvs vs/\h.DictOf (Q1 P w) a vs
 |.dT C kvs=>kvs.length≤sizeLine/\(a==sysModules)=false/\∃xs:List (List Key×Addr×Value),
   Paired (fun(p:List Key×V) (q:List Key×Addr×Value)=>p.1=q.1/\(H q.2.1=some (.tup (p.1.map kV))\/C q.2.1 p.1)/\D8 p.2 q.2.2) kvs xs/\
   ∃o es ep,h.get? a=some o/\o.ExactDict/\o.data=.dict es ep/\es.toList=xs.map (entryOfKey (tupleKind (Q1 P w)))/\(xs.map (·.1)).Nodup
 |.set S n=>h.SetOf (intKind P w) a S n
 |.ins C dx fs=>H dx=some (.own a)/\fs.length≤1000/\dx≠a/\h.get? a=some (PySem.W.instObj C dx)/\
   ∃mA,h.Ns1 dx mA/\(∀f,AE (fs.lookup f) (mA f))/\PySem.Within mA (fs.map (·.1))
 |.own _=>∃o,h.get? a=some o
 |.xd fs=>∃mA,h.Ns1 a mA/\∀f,AE (fs.lookup f) (mA f)
 |.rng lo hi=>∃t u v,h.get? a=some {cls:=.type "range",data:=.fields #[.int lo t,.int hi u,.int 1 v]}
 |.frz o u=>h.get? a=some o/\J9 H h a u
 |.tbl ps=>h.get? a=some {cls:=.none,data:=.fields ps}
 |.met f x=>h.get? a=some (PySem.W.methodObj (.ref f) (.ref x))
 |.ext φ=>φ h/\(∃o,h.get? a=some o)/\∀h1 h2:Heap,φ h1->(∀o,h1.get? a=some o->h2.get? a=some o)->φ h2
def mI(H:Hp)(h:Heap):Prop:=∀a o,H a=some o->J9 P w H h a o
end
section
variable{P:Program}{w:World}{H H':Hp}{h h':Heap}{a:Addr}{o:HO}
theorem J9.lt(x:J9 P w H h a o):a<h.objs.size:=by
 cases o with
 |lst xs=>obtain⟨_,_,_,_,e⟩:=x;exact Qu e
 |tup xs=>obtain⟨_,_,_,p⟩:=x;exact p.lt
 |dK kvs=>obtain⟨_,_,_,_,o,_,_,e,_⟩:=x;exact Qu e
 |dT C kvs=>obtain⟨_,_,_,_,o,_,_,e,_⟩:=x;exact Qu e
 |set S n=>obtain⟨o,_,_,_,e,_⟩:=x;exact Qu e
 |ins C dx fs=>obtain⟨_,_,_,e,_⟩:=x;exact Qu e
 |own y=>obtain⟨_,e⟩:=x;exact Qu e
 |xd fs=>obtain⟨_,⟨_,_,_,e,_⟩,_⟩:=x;exact Qu e
 |rng lo hi=>obtain⟨_,_,_,e⟩:=x;exact Qu e
 |frz ob u=>obtain⟨e,_⟩:=x;exact Qu e
 |tbl ps=>exact Qu (show h.get? a=some _ from x)
 |met f y=>exact Qu (show h.get? a=some _ from x)
 |ext φ=>obtain⟨_,⟨_,e⟩,_⟩:=x;exact Qu e
theorem Paired.mapP{α β:Type}{F G:α->β->Prop}:∀{l₁:List α}{l₂:List β},Paired F l₁ l₂->(∀a b,F a b->G a b)->Paired G l₁ l₂
 |_,_,.nil,_=>.nil
 |_,_,.cons r t,f=>.cons (f _ _ r) (Paired.mapP t f)
theorem J9.stay(x:J9 P w H h a o)(k:∀b u,(b=a\/H b=some (.own a))->h.get? b=some u->h'.get? b=some u)
  (ho:∀b,H b=some (.own a)->H' b=some (.own a))(ht:∀b xs,H b=some (.tup xs)->H' b=some (.tup xs)):J9 P w H' h' a o:=by
 induction o with
 |lst xs=>obtain⟨z,its,n,r,e⟩:=x;exact⟨z,its,n,r,k _ _ (.inl rfl) e⟩
 |tup xs=>obtain⟨z,its,r,ob,e,c⟩:=x;exact⟨z,its,r,ob,k _ _ (.inl rfl) e,c⟩
 |dK kvs=>obtain⟨z,y,vs,r,ob,es,ep,e,c⟩:=x;exact⟨z,y,vs,r,ob,es,ep,k _ _ (.inl rfl) e,c⟩
 |dT C kvs=>
  obtain⟨z,y,xs,r,ob,es,ep,e,c⟩:=x;exact⟨z,y,xs,Paired.mapP r fun p q z=>⟨z.1,z.2.1.imp (ht _ _) id,z.2.2⟩,ob,es,ep,k _ _ (.inl rfl) e,c⟩
 |set S n=>obtain⟨ob,es,ep,t,e,c⟩:=x;exact⟨ob,es,ep,t,k _ _ (.inl rfl) e,c⟩
 |ins C dx fs=>
  obtain⟨d,z,ne,e,mA,⟨od,es,ep,e2,c⟩,r⟩:=x;exact⟨ho _ d,z,ne,k _ _ (.inl rfl) e,mA,⟨od,es,ep,k _ _ (.inr d) e2,c⟩,r⟩
 |own y=>obtain⟨ob,e⟩:=x;exact⟨ob,k _ _ (.inl rfl) e⟩
 |xd fs=>obtain⟨mA,⟨od,es,ep,e,c⟩,r⟩:=x;exact⟨mA,⟨od,es,ep,k _ _ (.inl rfl) e,c⟩,r⟩
 |rng lo hi=>obtain⟨t,u,v,e⟩:=x;exact⟨t,u,v,k _ _ (.inl rfl) e⟩
 |frz ob u ih=>obtain⟨e,q⟩:=x;exact⟨k _ _ (.inl rfl) e,ih q⟩
 |tbl ps=>
  have e:h.get? a=some {cls:=.none,data:=.fields ps}:=x
  show h'.get? a=some {cls:=.none,data:=.fields ps};exact k a _ (.inl rfl) e
 |met f y=>
  have e:h.get? a=some (PySem.W.methodObj (.ref f) (.ref y)):=x
  show h'.get? a=some (PySem.W.methodObj (.ref f) (.ref y));exact k a _ (.inl rfl) e
 |ext φ=>obtain⟨p,⟨o,e⟩,st⟩:=x;exact⟨st _ _ p fun o q=>k _ _ (.inl rfl) q,⟨o,k _ _ (.inl rfl) e⟩,st⟩
theorem mI.lt(x:mI P w H h)(e:H a=some o):a<h.objs.size:=(x a o e).lt
theorem mI.fresh(x:mI P w H h)(e:h.objs.size≤a):H a=none:=by
 cases q:H a with
 |none=>rfl
 |some u=>exact absurd (Qd (x.lt q) e) (Yr _)
theorem mI.kept(x:mI P w H h)(k:∀b u,h.get? b=some u->h'.get? b=some u):mI P w H h':=fun a o e=>
 (x a o e).stay (fun b u _ q=>k b u q) (fun _ q=>q) fun _ _ q=>q
theorem mI.laid(x:mI P w H h)(k:∀b u,h.get? b=some u->h'.get? b=some u)(hp:h.objs.size≤a)(new:J9 P w (upd H a o) h' a o):mI P w (upd H a o) h':=fun b u e=>by
 have hn:=x.fresh hp
 by_cases hb:b=a
 ·subst hb;rw[F9]at e;cases e;exact new
 ·rw[D6 hb]at e
  exact(x b u e).stay (fun c v _ q=>k c v q) (fun c q=>by rw[D6 (Q2 q hn)];exact q) fun c xs q=>by rw[D6 (Q2 q hn)];exact q
end
def Rd(H:Hp)(a:Addr)(u:HO):Prop:=H a=some u\/ ∃o,H a=some (.frz o u)
theorem Rd.ok{P:Program}{w:World}{H:Hp}{h:Heap}{a:Addr}{u:HO}(r:Rd H a u)(x:mI P w H h):J9 P w H h a u:=by
 rcases r with r|⟨o,r⟩
 ·exact x a u r
 ·obtain⟨_,q⟩:=x a _ r
  exact q
def rZ:Option HO->Prop
 |some (.lst _)=>True
 |some (.dK _)=>True
 |some (.dT _ _)=>True
 |some (.set _ _)=>True
 |some (.ins _ _ _)=>True
 |some (.ext _)=>True
 |_=>False
section
variable{P:Program}{w:World}{H:Hp}{h h':Heap}{x e:Addr}{o':HO}
theorem mI.write(ok:mI P w H h)(mu:rZ (H x))(he:e=x\/H e=some (.own x))(k:∀b u,b≠e->h.get? b=some u->h'.get? b=some u)(heo:∃u,h'.get? e=some u)
  (new:J9 P w (upd H x o') h' x o'):mI P w (upd H x o') h':=fun b u q=>by
 have nown:∀c y,H c=some (.own y)->c≠x:=fun c y r z=>by subst z;rw[r]at mu;exact mu
 have ntup:∀c xs,H c=some (.tup xs)->c≠x:=fun c xs r z=>by subst z;rw[r]at mu;exact mu
 by_cases hb:b=x
 ·subst hb;rw[F9]at q;cases q;exact new
 ·rw[D6 hb]at q
  by_cases hbe:b=e
  ·have q':H b=some (.own x):=by
    rcases he with z|z
    ·exact absurd (hbe.trans z) hb
    ·rw[hbe];exact z
   rw[q]at q';cases q';obtain⟨v,hv⟩:=heo;exact⟨v,by rw[hbe];exact hv⟩
  ·refine(ok b u q).stay (fun c v hc r=>k c v ?_ r) (fun c r=>by rw[D6 (nown c b r)];exact r) fun c xs r=>by rw[D6 (ntup c xs r)];exact r
   rcases hc with rfl|hc
   ·exact hbe
   ·rintro rfl
    rcases he with z|z
    ·exact nown c b hc z
    ·rw[hc]at z;cases z;exact hb rfl
end
structure Un(fs ex:List Addr)(H H':Hp)(h h':Heap):Prop where
 keep:∀b o,h.get? b=some o->H b=none->b∉fs->b∉ex->h'.get? b=some o
 slot:∀b o,h.get? b=some o->H b=none->b∈fs->b∉ex->∃sl,h'.get? b=some {o with slots:=sl}
 free:∀b o,h.get? b=some o->H b=none->b∉ex->H' b=none
 there:∀b o,h.get? b=some o->b∉ex->∃o',h'.get? b=some o'
 tups:∀b xs,H b=some (.tup xs)->H' b=some (.tup xs)
 frzs:∀b o u,H b=some (.frz o u)->H' b=some (.frz o u)
 tbls:∀b ps,H b=some (.tbl ps)->∃more,H' b=some (.tbl (ps++more))
section
variable{fs fs' ex ex':List Addr}{H H1 H2:Hp}{h h1 h2 h':Heap}{a x e:Addr}{o:HO}
theorem Un.any(u:Un fs ex H H1 h h1){b:Addr}{ob:Obj}(q:h.get? b=some ob)(n:H b=none)(hx:b∉ex):∃sl,h1.get? b=some {ob with slots:=sl}:=by
 by_cases hb:b∈fs
 ·exact u.slot b ob q n hb hx
 ·exact⟨ob.slots,u.keep b ob q n hb hx⟩
theorem Un.kept(k:∀b u,h.get? b=some u->h'.get? b=some u):Un fs ex H H h h':=
 ⟨fun b ob q _ _ _=>k b ob q,fun b ob q _ _ _=>⟨ob.slots,k b ob q⟩,fun _ _ _ n _=>n,fun b ob q _=>⟨ob,k b ob q⟩,fun _ _ q=>q,fun _ _ _ q=>q,fun _ ps q=>⟨#[],by rw[q];simp⟩⟩
theorem Un.refl:Un fs ex H H h h:=Un.kept fun _ _ q=>q
theorem Un.laid(k:∀b u,h.get? b=some u->h'.get? b=some u)(hp:h.objs.size≤a)(hn:H a=none):Un fs ex H (upd H a o) h h' where
 keep:=fun b u q _ _ _=>k b u q
 slot:=fun b u q _ _ _=>⟨u.slots,k b u q⟩
 free:=fun b u q n _=>by rw[D6 (Qs (Qd (Qu q) hp))];exact n
 there:=fun b u q _=>⟨u,k b u q⟩
 tups:=fun b xs q=>by rw[D6 (Q2 q hn)];exact q
 frzs:=fun b u xs q=>by rw[D6 (Q2 q hn)];exact q
 tbls:=fun b ps q=>⟨#[],by rw[D6 (Q2 q hn),q];simp⟩
theorem Un.write(mu:rZ (H x))(he:e=x\/H e=some (.own x))(k:∀b u,b≠e->h.get? b=some u->h'.get? b=some u)(heo:∃u,h'.get? e=some u):Un fs ex H (upd H x o) h h':=by
 have hx:∀b,H b=none->b≠x:=fun b n z=>by subst z;rw[n]at mu;exact mu
 have hb:∀b,H b=none->b≠e:=fun b n z=>by
  subst z
  rcases he with r|r
  ·exact hx b n r
  ·rw[n]at r;cases r
 have hm:∀b u,H b=some u-> ¬ rZ (some u)->b≠x:=fun b u q nm z=>by subst z;rw[q]at mu;exact nm mu
 refine⟨fun b u q n _ _=>k b u (hb b n) q,fun b u q n _ _=>⟨u.slots,k b u (hb b n) q⟩,fun b u q n _=>by rw[D6 (hx b n)];exact n,fun b u q _=>?_,
  fun b xs q=>by rw[D6 (hm b _ q fun z=>z)];exact q,fun b u xs q=>by rw[D6 (hm b _ q fun z=>z)];exact q,fun b ps q=>⟨#[],by rw[D6 (hm b _ q fun z=>z),q];simp⟩⟩
 by_cases hbe:b=e
 ·subst hbe;exact heo
 ·exact⟨u,k b u hbe q⟩
end
def sM(h:Heap)(H:Hp):List Addr:=(List.range h.objs.size).filter fun a=>(H a).isSome
def AF(h:Heap)(H:Hp):Heap:=PySem.W.hideAll h (sM h H)
theorem Rv(h:Heap)(H:Hp):(AF h H).objs.size=h.objs.size:=PySem.W.hideAll_size _ _
theorem Rw{h:Heap}{H:Hp}{b:Addr}{o:Obj}(e:h.get? b=some o)(n:H b=none):(AF h H).get? b=some o:=
 Jc _ e fun hm=>by
  have q:(H b).isSome=true:=(Uj.mp hm).2
  rw[n]at q;simp at q
theorem Rx{h:Heap}{H:Hp}{b:Addr}{o:Obj}(e:(AF h H).get? b=some o):h.get? b=some o/\H b=none:=by
 have e':h.get? b=some o:=PySem.W.of_hideAll (sM h H) e
 refine⟨e',?_⟩;cases q:H b with
 |none=>rfl
 |some x=>
  have hm:b∈sM h H:=Uj.mpr ⟨Jf.mpr (Qu e'),by simp[q]⟩
  have z:(AF h H).get? b=none:=PySem.W.hideAll_none (sM h H) hm
  rw[z]at e;cases e
def Ry(g h:Heap)(L:Addr):OX:=(List.range h.objs.size).filterMap fun a=>if a=L\/(g.get? a).isSome=true then none else(h.get? a).map fun o=>(a,o)
def rest(g h:Heap)(L d:Addr):OX:=(Ry g h L).filter fun p=>decide (p.1≠d)
structure Mod(K:Qq)(mg:OU)(base:Heap):Prop where
 kin:K.In base
 glob:base.Ns mainGlobals mg
 blt:∃mb,base.Ns builtinsNs mb/\∀x:Str,x≠"__name__"->mb x=bootBuiltins x
 nolimit:base.NoLimit
structure Cx where
 prog:Program
 w:World
 K:Qq
 mg:OU
 base:Heap
 A:Around
 N:List Str
 s₀:Shared
 H₀:Hp
 env:Env
 outer:List Env
 stack:List Env
 ex:List Addr
 fn:Str->Bool
 calm:Bool
 pn:OX
 xe:OE
def lL(l:List Env):List Addr:=l.filterMap (·.frame)
abbrev Cx.fs(X:Cx):List Addr:=lL X.outer
def p7(sc:Scope)(x:Str):Prop:=sc.names.lookup x=some .local\/sc.names.lookup x=some .cell\/sc.names.lookup x=some .free
def Loc(sc:Scope)(x:Str):Prop:=sc.names.lookup x=some .local\/sc.names.lookup x=some .cell
def LB(env:Env)(h:Heap)(m:OU)(x:Str)(u:Value):Prop:=
 (env.kindOf x=some .local/\m x=some u)\/((env.kindOf x=some .cell\/env.kindOf x=some .free)/\∃c,env.cells.lookup x=some c/\h.IsCell c (some u))
structure Cx.Ok(X:Cx):Prop where
 mod:Mod X.K X.mg X.base
 kind:X.env.scope.kind=.function
 glob:X.env.globals=mainGlobals
 blt:X.env.builtins=builtinsNs
 above:X.s₀.heap.objs.size≤X.env.locals
 inj:∀x y c,X.env.cells.lookup x=some c->X.env.cells.lookup y=some c->x=y
 has:∀x,(X.env.kindOf x=some .cell\/X.env.kindOf x=some .free)->∃c,X.env.cells.lookup x=some c
 cab:∀x c,X.fn x=true->X.env.cells.lookup x=some c->X.s₀.heap.objs.size≤c
 hd:X.calm=true->X.A.handled=none
 frames:X.A.frames=some X.stack
 stk:X.stack=X.outer\/(X.stack=X.env::X.outer/\X.env.frame=some X.env.locals)
 exf:∀b∈X.ex,b≠X.env.locals/\∀x c,X.env.cells.lookup x=some c->c≠b
 bs:∀b o,X.base.get? b=some o->X.s₀.heap.get? b=some o/\X.H₀ b=none
 bsz:X.base.objs.size≤X.s₀.heap.objs.size
 noex:∀b o,X.base.get? b=some o->b∉X.ex
 exfs:∀b∈X.ex,b∉X.fs
 funs:X.s₀.heap.FunFrames X.base X.outer
 frf:∀b∈X.fs,X.H₀ b=none
structure Inv(X:Cx)(pins:OX)(σ:List (Option V))(H:Hp)(s:Shared):Prop where
 ok:X.Ok
 os:s.os=X.s₀.os
 bare:AllBare s.gens
 base:Un X.fs X.ex X.H₀ H X.s₀.heap s.heap
 loc:∃m,s.heap.Ns X.env.locals m/\∀(i:Nat) (x:Str) (v:V),X.N[i]? =some x->σ[i]? =some (some v)->p7 X.env.scope x->∃u,D8 v u/\LB X.env s.heap m x u
 cell:∀x c,X.env.cells.lookup x=some c->∃v,s.heap.IsCell c v
 free:H X.env.locals=none
 freeC:∀x c,X.env.cells.lookup x=some c->H c=none
 pin:∀p∈X.pn++pins,s.heap.get? p.1=some p.2/\H p.1=none/\p.1≠X.env.locals/\p.1∉X.fs/\∀v,p.2.data≠.cell v
 hok:mI X.prog X.w H s.heap
 len:σ.length=X.N.length
section
variable{X:Cx}{pins:OX}{σ:List (Option V)}{H H':Hp}{s:Shared}{h':Heap}
theorem Cx.Ok.nofr(ok:X.Ok){b:Addr}{o:Obj}(e:X.base.get? b=some o):b∉X.fs:=fun hb=>by
 have:=(ok.funs.mem hb).1;rw[e]at this;cases this
theorem Inv.bs(I:Inv X pins σ H s):∀b o,X.base.get? b=some o->s.heap.get? b=some o/\H b=none:=fun b o e=>
 ⟨I.base.keep b o (I.ok.bs b o e).1 (I.ok.bs b o e).2 (I.ok.nofr e) (I.ok.noex b o e),I.base.free b o (I.ok.bs b o e).1 (I.ok.bs b o e).2 (I.ok.noex b o e)⟩
theorem Inv.bk(I:Inv X pins σ H s):∀b o,X.base.get? b=some o->s.heap.get? b=some o:=fun b o e=>(I.bs b o e).1
theorem Inv.mod(I:Inv X pins σ H s):Mod X.K X.mg X.base:=I.ok.mod
theorem Inv.kIn(I:Inv X pins σ H s):X.K.In s.heap:=I.ok.mod.kin.keeps I.bk
theorem Inv.lt(I:Inv X pins σ H s):X.env.locals<s.heap.objs.size:=let ⟨_,hn,_⟩:=I.loc;hn.lt
theorem Inv.sz(I:Inv X pins σ H s):X.s₀.heap.objs.size≤s.heap.objs.size:=Zs I.ok.above (Jx I.lt)
theorem Inv.nofs(I:Inv X pins σ H s){a:Addr}(h:s.heap.objs.size≤a):a∉X.fs:=fun hb=>by
 obtain⟨_,o,ho,_⟩:=I.ok.funs.mem hb;exact absurd (Qd (Qu ho) (Zs I.sz h)) (Yr _)
theorem Inv.cne(I:Inv X pins σ H s):∀x c,X.env.cells.lookup x=some c->c≠X.env.locals:=fun x c e z=>by
 obtain⟨v,o,ho,hd⟩:=I.cell x c e;obtain⟨m,⟨o',es,ep,ho',hd',_⟩,_⟩:=I.loc;rw[z,ho']at ho;cases ho;rw[hd']at hd;cases hd
theorem Inv.funs(I:Inv X pins σ H s):s.heap.FunFrames X.base X.outer:=by
 have all:∀(l:List Env),(∀b∈lL l,b∈X.fs)->X.s₀.heap.FunFrames X.base l->s.heap.FunFrames X.base l:=by
  intro l
  induction l with
  |nil=>intro _ _;trivial
  |cons env r ih=>
   intro hs hl;obtain⟨hk,⟨L,o,hf,hn,ho,hd⟩,hr⟩:=hl;have hL:L∈X.fs:=hs L (by unfold lL;rw[Jb,hf];exact Zu)
   obtain⟨sl,e⟩:=I.base.slot L o ho (I.ok.frf L hL) hL fun z=>I.ok.exfs L z hL
   exact⟨hk,⟨L,_,hf,hn,e,hd⟩,ih (fun b hb=>hs b (by unfold lL;rw[Jb,hf];exact Qe _ hb)) hr⟩
 exact all X.outer (fun _ hb=>hb) I.ok.funs
theorem Inv.stack(I:Inv X pins σ H s):s.heap.FunFrames X.base X.stack:=by
 rcases I.ok.stk with e|⟨e,hf⟩
 ·rw[e];exact I.funs
 ·rw[e]
  obtain⟨m,hn,_⟩:=I.loc;refine .cons (by rw[I.ok.kind];decide) hf hn ?_ I.funs
  exact Heap.get?_none_of_le (Zs I.ok.bsz I.ok.above)
theorem Inv.stkSub(I:Inv X pins σ H s):∀b∈lL X.stack,b∈X.env.locals::X.fs:=fun b hb=>by
 rcases I.ok.stk with e|⟨e,hf⟩
 ·rw[e]at hb;exact Qe _ hb
 ·rw[e]at hb
  unfold lL at hb;rw[Jb,hf]at hb;exact hb
theorem Inv.stkFree(I:Inv X pins σ H s):∀b∈lL X.stack,H b=none:=fun b hb=>by
 rcases Qg.mp (I.stkSub b hb)with e|hb
 ·rw[e];exact I.free
 ·obtain⟨_,o,ho,_⟩:=I.ok.funs.mem hb
  exact I.base.free b o ho (I.ok.frf b hb) fun z=>I.ok.exfs b z hb
theorem Inv.step{g':Array GenState}{t':Nat}{d':Drawn}{ch:List Addr}(I:Inv X pins σ H s)
  (hch:∀b∈ch,(b∈X.ex\/X.s₀.heap.objs.size≤b)/\b≠X.env.locals/\(∀x c,X.env.cells.lookup x=some c->c≠b)/\∀p∈X.pn++pins,p.1≠b)
  (keep:∀b o,b≠X.env.locals->b∉X.fs->b∉ch->s.heap.get? b=some o->H b=none->h'.get? b=some o)
  (slot:∀b o,b≠X.env.locals->b∈X.fs->b∉ch->s.heap.get? b=some o->H b=none->∃sl,h'.get? b=some {o with slots:=sl})(free:∀b o,b∉ch->s.heap.get? b=some o->H b=none->H' b=none)
  (there:∀b o,b∉ch->s.heap.get? b=some o->∃o',h'.get? b=some o')
  (tups:∀b xs,H b=some (.tup xs)->H' b=some (.tup xs))(frzs:∀b o u,H b=some (.frz o u)->H' b=some (.frz o u))(tbls:∀b ps,H b=some (.tbl ps)->∃more,H' b=some (.tbl (ps++more)))
  (ns:∀m,s.heap.Ns X.env.locals m->h'.Ns X.env.locals m)(hok:mI X.prog X.w H' h')(hg:AllBare g'):
  Inv X pins σ H' {s with heap:=h',gens:=g',drawn:=d',toks:=t'}:=by
 have neL:∀b o,X.s₀.heap.get? b=some o->b≠X.env.locals:=fun b o e=>Qs (Qd (Qu e) I.ok.above)
 have neC:∀b o,X.s₀.heap.get? b=some o->b∉X.ex->b∉ch:=fun b o e hx hb=>by
  rcases(hch b hb).1 with z|z
  ·exact hx z
  ·exact absurd (Qd (Qu e) z) (Yr _)
 have cellK:∀x c,X.env.cells.lookup x=some c->∀v,s.heap.IsCell c v->h'.IsCell c v:=fun x c e v ⟨o,ho,hd⟩=>by
  have nch:c∉ch:=fun z=>(hch c z).2.2.1 x c e rfl
  by_cases hc:c∈X.fs
  ·obtain⟨sl,q⟩:=slot c o (I.cne x c e) hc nch ho (I.freeC x c e)
   exact⟨_,q,hd⟩
  ·exact⟨o,keep c o (I.cne x c e) hc nch ho (I.freeC x c e),hd⟩
 refine⟨I.ok,I.os,hg,⟨fun b o e n hb hx=>?_,fun b o e n hb hx=>?_,fun b o e n hx=>?_,fun b o e hx=>?_,fun b xs e=>tups b xs (I.base.tups b xs e),fun b o xs e=>frzs b o xs (I.base.frzs b o xs e),fun b ps e=>?_⟩,?_,fun x c e=>?_,?_,fun x c e=>?_,fun p hp=>?_,hok,I.len⟩
 ·exact keep b o (neL b o e) hb (neC b o e hx) (I.base.keep b o e n hb hx) (I.base.free b o e n hx)
 ·obtain⟨sl,e1⟩:=I.base.slot b o e n hb hx
  obtain⟨sl',e2⟩:=slot b _ (neL b o e) hb (neC b o e hx) e1 (I.base.free b o e n hx);exact⟨sl',e2⟩
 ·obtain⟨o',e1⟩:=I.base.there b o e hx
  exact free b o' (neC b o e hx) e1 (I.base.free b o e n hx)
 ·obtain⟨o',e1⟩:=I.base.there b o e hx
  exact there b o' (neC b o e hx) e1
 ·obtain⟨m1,e1⟩:=I.base.tbls b ps e
  obtain⟨m2,e2⟩:=tbls b _ e1;exact⟨m1++m2,by rw[e2,Array.append_assoc]⟩
 ·obtain⟨m,hn,hl⟩:=I.loc
  refine⟨m,ns m hn,fun i x v e1 e2 e3=>?_⟩
  obtain⟨u,r,l⟩:=hl i x v e1 e2 e3;refine⟨u,r,?_⟩
  rcases l with l|⟨k,c,e,z⟩
  ·exact .inl l
  ·exact .inr ⟨k,c,e,cellK x c e _ z⟩
 ·obtain⟨v,z⟩:=I.cell x c e
  exact⟨v,cellK x c e v z⟩
 ·obtain⟨m,⟨o,_,_,ho,_⟩,_⟩:=I.loc
  exact free _ o (fun z=>(hch _ z).2.1 rfl) ho I.free
 ·obtain⟨v,o,ho,hd⟩:=I.cell x c e
  exact free c o (fun z=>(hch c z).2.2.1 x c e rfl) ho (I.freeC x c e)
 ·obtain⟨e,n,ne,nf,d⟩:=I.pin p hp
  have nch:p.1∉ch:=fun z=>(hch p.1 z).2.2.2 p hp rfl
  exact⟨keep p.1 p.2 ne nf nch e n,free p.1 p.2 nch e n,ne,nf,d⟩
theorem Inv.un{t':Nat}(I:Inv X pins σ H s)(u:Un X.fs [] H H' s.heap h')(hok:mI X.prog X.w H' h'):Inv X pins σ H' {s with heap:=h',toks:=t'}:=by
 obtain⟨m,⟨o,es,ep,ho,r⟩,_⟩:=id I.loc;obtain⟨sl,hL⟩:=u.any ho I.free (by simp)
 exact I.step (g':=s.gens) (d':=s.drawn) (ch:=[]) (fun _ z=>nomatch z) (fun b o _ hb _ e n=>u.keep b o e n hb (by simp)) (fun b o _ hb _ e n=>u.slot b o e n hb (by simp)) (fun b o _ e n=>u.free b o e n (by simp)) (fun b o _ e=>u.there b o e (by simp)) u.tups u.frzs u.tbls (fun m' hm=>by
  obtain⟨o',es',ep',ho',r'⟩:=hm;rw[ho]at ho';cases ho';exact⟨_,es',ep',hL,r'⟩) hok I.bare
theorem Inv.call{g':Array GenState}{t':Nat}{d':Drawn}{ch:List Addr}(I:Inv X pins σ H s)(u:Un (lL X.stack) ch H H' s.heap h')(hok:mI X.prog X.w H' h')(hg:AllBare g')
  (hch:∀b∈ch,(b∈X.ex\/X.s₀.heap.objs.size≤b)/\b≠X.env.locals/\(∀x c,X.env.cells.lookup x=some c->c≠b)/\∀p∈X.pn++pins,p.1≠b):
  Inv X pins σ H' {s with heap:=h',gens:=g',drawn:=d',toks:=t'}:=by
 obtain⟨m,⟨o,es,ep,ho,r⟩,_⟩:=id I.loc;obtain⟨sl,hL⟩:=u.any ho I.free fun z=>(hch _ z).2.1 rfl
 exact I.step (ch:=ch) hch (fun b o hL hb hc e n=>u.keep b o e n (fun z=>(Qg.mp (I.stkSub b z)).elim hL hb) hc) (fun b o _ _ hc e n=>u.any e n hc) (fun b o hc e n=>u.free b o e n hc) (fun b o hc e=>u.there b o e hc) u.tups u.frzs u.tbls (fun m' hm=>by
  obtain⟨o',es',ep',ho',r'⟩:=hm;rw[ho]at ho';cases ho';exact⟨_,es',ep',hL,r'⟩) hok hg
theorem Inv.turned{t':Nat}{it:Addr}(I:Inv X pins σ H s)(k:∀b o,b≠it->s.heap.get? b=some o->h'.get? b=some o)(hn:H it=none)(hL:it≠X.env.locals)
  (h1:it∈X.ex\/X.s₀.heap.objs.size≤it)(h2:∀x c,X.env.cells.lookup x=some c->c≠it)(h3:∀p∈X.pn++pins,p.1≠it):Inv X pins σ H {s with heap:=h',toks:=t'}:=by
 have nit:∀b u,H b=some u->b≠it:=fun b u e z=>by rw[z,hn]at e;cases e
 refine I.step (g':=s.gens) (d':=s.drawn) (ch:=[it]) (fun b hb=>?_) (fun b o _ _ hc e _=>k b o (fun z=>hc (by simp[z])) e) (fun b o _ _ hc e _=>⟨o.slots,k b o (fun z=>hc (by simp[z])) e⟩) (fun _ _ _ _ n=>n)
  (fun b o hc e=>⟨o,k b o (fun z=>hc (by simp[z])) e⟩) (fun _ _ e=>e) (fun _ _ _ e=>e) (fun b ps e=>⟨#[],by rw[e];simp⟩) (fun m hm=>?_) (fun b u e=>?_) I.bare
 ·have e:b=it:=by simpa using hb
  subst e;exact⟨h1,hL,h2,h3⟩
 ·obtain⟨o,es,ep,ho,r⟩:=hm
  exact⟨o,es,ep,k _ o (Zg hL) ho,r⟩
 ·refine(I.hok b u e).stay (fun c v hc q=>k c v ?_ q) (fun _ q=>q) fun _ _ q=>q
  rcases hc with z|z
  ·rw[z];exact nit b u e
  ·exact nit c _ z
theorem Inv.tok(I:Inv X pins σ H s)(t:Nat):Inv X pins σ H {s with toks:=t}:=I.un (h':=s.heap) (t':=t) Un.refl I.hok
theorem Inv.kept{t':Nat}(I:Inv X pins σ H s)(k:∀b u,s.heap.get? b=some u->h'.get? b=some u):Inv X pins σ H {s with heap:=h',toks:=t'}:=I.un (Un.kept k) (I.hok.kept k)
theorem Inv.laid{a:Addr}{o:HO}{t':Nat}(I:Inv X pins σ H s)(k:∀b u,s.heap.get? b=some u->h'.get? b=some u)(hp:s.heap.objs.size≤a)(new:J9 X.prog X.w (upd H a o) h' a o):
  Inv X pins σ (upd H a o) {s with heap:=h',toks:=t'}:=I.un (Un.laid k hp (I.hok.fresh hp)) (I.hok.laid k hp new)
theorem Inv.write{x e:Addr}{o:HO}{t':Nat}(I:Inv X pins σ H s)(mu:rZ (H x))(he:e=x\/H e=some (.own x))(k:∀b u,b≠e->s.heap.get? b=some u->h'.get? b=some u)(heo:∃u,h'.get? e=some u)
  (new:J9 X.prog X.w (upd H x o) h' x o):Inv X pins σ (upd H x o) {s with heap:=h',toks:=t'}:=I.un (Un.write mu he k heo) (I.hok.write mu he k heo new)
theorem Inv.pins_of{pins':OX}(I:Inv X pins σ H s)(h:∀p∈pins',s.heap.get? p.1=some p.2/\H p.1=none/\p.1≠X.env.locals/\p.1∉X.fs/\∀v,p.2.data≠.cell v):Inv X pins' σ H s:=
 ⟨I.ok,I.os,I.bare,I.base,I.loc,I.cell,I.free,I.freeC,fun p hp=>(Zf.mp hp).elim (fun z=>I.pin p (List.mem_append_left _ z)) (h p),I.hok,I.len⟩
theorem HF{N:List Str}(hN:N.Nodup){i j:Nat}{x:Str}(a:N[i]? =some x)(b:N[j]? =some x):i=j:=by
 obtain⟨h1,e1⟩:=Qb.mp a;obtain⟨h2,e2⟩:=Qb.mp b;exact(List.getElem_inj hN).mp (e1.trans e2.symm)
theorem LC{M:Model}{A:Around}{E:OE}{i:Nat}{x:Str}{v:V}{u:Value}{Q:Unit->Shared->Prop}(I:Inv X pins σ H s)(hN:X.N.Nodup)(hi:X.N[i]? =some x)(hx:Loc X.env.scope x)(r:D8 v u)
  (h:∀s',Inv X pins (σ.set i (some v)) H s'->(∃a,Heap.SameBut a s.heap s'.heap/\(a=X.env.locals\/X.env.cells.lookup x=some a))->Q () s')(hf:X.fn x=true\/X.env.scope.names.lookup x=some .local:=by first|exact .inl rfl|exact .inr rfl|assumption):wpAny M A (storeName X.env x u) Q E s:=by
 obtain⟨m,hn,hl⟩:=id I.loc;have hcls:(X.env.scope.kind==.class||(X.env.scope.kind==.module&&X.env.locals !=X.env.globals))=false:=by rw[I.ok.kind];rfl
 have hiσ:i<σ.length:=by rw[I.len];exact(Qb.mp hi).1
 have cne:=I.cne
 have tracked:∀{a:Addr}{h':Heap},(∃o,s.heap.get? a=some o/\H a=none)->Heap.SameBut a s.heap h'->mI X.prog X.w H h':=fun{a h'} ha hs b ob e=>by
  obtain⟨_,_,hfree⟩:=ha;refine(I.hok b ob e).stay (fun c w' hc q=>(hs.2 c ?_).trans q) (fun _ q=>q) fun _ _ q=>q
  rintro rfl
  rcases hc with rfl|hc
  ·rw[hfree]at e;cases e
  ·rw[hfree]at hc;cases hc
 rcases hx with hk|hk
 ·refine wpAny_storeName_local hk hn (fun h' hn' hs=>?_) hcls
  obtain⟨oL,_,_,hoL,_⟩:=id hn;refine h _ ⟨I.ok,I.os,I.bare,⟨fun b o e n hb hx=>?_,fun b o e n hb hx=>?_,I.base.free,fun b o e hx=>?_,I.base.tups,I.base.frzs,I.base.tbls⟩,⟨_,hn',fun j y v' e1 e2 e3=>?_⟩,fun y c e=>?_,I.free,I.freeC,fun p hp=>?_,tracked ⟨oL,hoL,I.free⟩ hs,by simpa using I.len⟩ ⟨_,hs,.inl rfl⟩
  ·exact(hs.2 b (Qs (Qd (Qu e) I.ok.above))).trans (I.base.keep b o e n hb hx)
  ·obtain⟨sl,e1⟩:=I.base.slot b o e n hb hx
   exact⟨sl,(hs.2 b (Qs (Qd (Qu e) I.ok.above))).trans e1⟩
  ·obtain⟨o',e1⟩:=I.base.there b o e hx
   exact⟨o',(hs.2 b (Qs (Qd (Qu e) I.ok.above))).trans e1⟩
  ·by_cases hj:j=i
   ·subst hj
    rw[hi]at e1;cases e1;rw[Zd hiσ]at e2;cases e2;exact⟨u,r,.inl ⟨hk,by simp⟩⟩
   ·rw[Qn (Zg hj)]at e2
    obtain⟨u',r',q⟩:=hl j y v' e1 e2 e3;refine⟨u',r',?_⟩
    rcases q with⟨k,e⟩|⟨k,c,e,z⟩
    ·refine .inl ⟨k,?_⟩
     have:y≠x:=fun e=>hj (HF hN e1 (e ▸ hi))
     simp[this,e]
    ·exact .inr ⟨k,c,e,z.sameBut hs (cne y c e)⟩
  ·obtain⟨w',z⟩:=I.cell y c e
   exact⟨w',z.sameBut hs (cne y c e)⟩
  ·obtain⟨e,n,ne,nf,d⟩:=I.pin p hp
   exact⟨(hs.2 p.1 ne).trans e,n,ne,nf,d⟩
 ·have hfn:X.fn x=true:=by
   rcases hf with z|z
   ·exact z
   ·rw[z]at hk;cases hk
  obtain⟨c,hc⟩:=I.ok.has x (.inl hk);obtain⟨w',z⟩:=I.cell x c hc;refine wpAny_storeName_cell I.ok.kind hk hc z (fun h' hc' hs=>?_)
  obtain⟨oc,hoc,hocd⟩:=id z;refine h {s with heap:=h'} ⟨I.ok,I.os,I.bare,⟨fun b o e n hb hx=>?_,fun b o e n hb hx=>?_,I.base.free,fun b o e hx=>?_,I.base.tups,I.base.frzs,I.base.tbls⟩,⟨m,hn.sameBut hs (Zg (cne x c hc)),fun j y v' e1 e2 e3=>?_⟩,fun y c' e=>?_,I.free,I.freeC,fun p hp=>?_,tracked ⟨oc,hoc,I.freeC x c hc⟩ hs,by simpa using I.len⟩ ⟨c,hs,.inr hc⟩
  ·exact(hs.2 b (Qs (Qd (Qu e) (I.ok.cab x c hfn hc)))).trans (I.base.keep b o e n hb hx)
  ·obtain⟨sl,e1⟩:=I.base.slot b o e n hb hx
   exact⟨sl,(hs.2 b (Qs (Qd (Qu e) (I.ok.cab x c hfn hc)))).trans e1⟩
  ·obtain⟨o',e1⟩:=I.base.there b o e hx
   exact⟨o',(hs.2 b (Qs (Qd (Qu e) (I.ok.cab x c hfn hc)))).trans e1⟩
  ·by_cases hj:j=i
   ·subst hj
    rw[hi]at e1;cases e1;rw[Zd hiσ]at e2;cases e2;exact⟨u,r,.inr ⟨.inl hk,c,hc,hc'⟩⟩
   ·rw[Qn (Zg hj)]at e2
    obtain⟨u',r',q⟩:=hl j y v' e1 e2 e3;refine⟨u',r',?_⟩
    rcases q with q|⟨k,c',e,z'⟩
    ·exact .inl q
    ·refine .inr ⟨k,c',e,z'.sameBut hs ?_⟩
     rintro rfl;exact hj (HF hN e1 (I.ok.inj _ _ _ e hc ▸ hi))
  ·by_cases hcc:c'=c
   ·subst hcc;exact⟨_,hc'⟩
   ·obtain⟨w2,z2⟩:=I.cell y c' e
    exact⟨w2,z2.sameBut hs hcc⟩
  ·obtain⟨e,n,ne,nf,d⟩:=I.pin p hp
   refine⟨(hs.2 p.1 ?_).trans e,n,ne,nf,d⟩;intro q;rw[q,hoc]at e;have q':oc=p.2:=Yv e;exact d w' (by rw[←q'];exact hocd)
theorem Bk{M:Model}{A:Around}{E:OE}{i:Nat}{x:Str}{v:V}{u:Value}{Q:Unit->Shared->Prop}(I:Inv X pins σ H s)(hN:X.N.Nodup)(hi:X.N[i]? =some x)(hx:Loc X.env.scope x)(r:D8 v u)
  (h:∀s',Inv X pins (σ.set i (some v)) H s'->Q () s')(hf:X.fn x=true\/X.env.scope.names.lookup x=some .local:=by first|exact .inl rfl|exact .inr rfl|assumption):wpAny M A (storeName X.env x u) Q E s:=
 LC I hN hi hx r (fun s' I' _=>h s' I') hf
theorem Inv.call'{s':Shared}{ch:List Addr}(I:Inv X pins σ H s)(ho:s'.os=s.os)(u:Un (lL X.stack) ch H H' s.heap s'.heap)(hok:mI X.prog X.w H' s'.heap)(hg:AllBare s'.gens)
  (hch:∀b∈ch,(b∈X.ex\/X.s₀.heap.objs.size≤b)/\b≠X.env.locals/\(∀x c,X.env.cells.lookup x=some c->c≠b)/\∀p∈X.pn++pins,p.1≠b):Inv X pins σ H' s':=by
 obtain⟨h',g',d',t',o'⟩:=s';have e:o'=s.os:=ho;subst e;exact I.call (g':=g') (t':=t') (d':=d') u hok hg hch
end
abbrev XK:=Value->Option Addr->Hp->Prop
abbrev St:=List (Option V)
abbrev VK:=V->Hp->Prop
abbrev TE:=St->Hp->VK->Prop
abbrev TT:=St->Hp->(Bool->Hp->Prop)->Prop
abbrev TA:=St->Hp->(List V->Hp->Prop)->Prop
structure Ends where
 nx:St->Hp->Prop
 rt:VK
 bk:St->Hp->Prop:=fun _ _=>False
 ct:St->Hp->Prop:=fun _ _=>False
abbrev TS:=Ends->St->Hp->Prop
def EP(X:Cx)(pins:OX)(σ:St)(Q:VK)(u:Value)(s':Shared):Prop:=∃v H',Inv X pins σ H' s'/\D8 v u/\Q v H'
def TP(X:Cx)(pins:OX)(σ:St)(Q:Bool->Hp->Prop)(b:Bool)(s':Shared):Prop:=∃H',Inv X pins σ H' s'/\Q b H'
def AP(X:Cx)(pins:OX)(σ:St)(Q:List V->Hp->Prop)(us:List Value)(s':Shared):Prop:=∃vs H',Inv X pins σ H' s'/\D3 vs us/\Q vs H'
def SP(X:Cx)(pins:OX)(D:Ends)(f:Flow)(s':Shared):Prop:=
 match f with
 |.next=>∃σ' H',Inv X pins σ' H' s'/\D.nx σ' H'
 |.brk=>∃σ' H',Inv X pins σ' H' s'/\D.bk σ' H'
 |.cont=>∃σ' H',Inv X pins σ' H' s'/\D.ct σ' H'
 |.ret u=>∃v σ' H',Inv X pins σ' H' s'/\D8 v u/\D.rt v H'
def PE(X:Cx)(e:Expr)(t:TE):Prop:=
 ∀(pins:OX) (s:Shared) (σ:St) (H:Hp) (Q:VK),Inv X pins σ H s->t σ H Q->wpAny (model X.prog X.w) X.A (eval e X.env) (EP X pins σ Q) X.xe s
def PT(X:Cx)(e:Expr)(t:TT):Prop:=
 ∀(pins:OX) (s:Shared) (σ:St) (H:Hp) (Q:Bool->Hp->Prop),Inv X pins σ H s->t σ H Q->wpAny (model X.prog X.w) X.A (isTrue e X.env (eval e X.env)) (TP X pins σ Q) X.xe s
def PW(X:Cx)(e:Expr)(t:TT):Prop:=
 ∀(whole:Sem Value) (pins:OX) (s:Shared) (σ:St) (H:Hp) (Q:Bool->Hp->Prop),Inv X pins σ H s->t σ H Q->wpAny (model X.prog X.w) X.A (isTrue e X.env whole) (TP X pins σ Q) X.xe s
theorem PW.pt{X:Cx}{e:Expr}{t:TT}(h:PW X e t):PT X e t:=h _
def PA(X:Cx)(es:List Expr)(t:TA):Prop:=
 ∀(pos:Pos) (pins:OX) (s:Shared) (σ:St) (H:Hp) (Q:List V->Hp->Prop),Inv X pins σ H s->t σ H Q->wpAny (model X.prog X.w) X.A (spliced (backTo pos (starEach es X.env))) (AP X pins σ Q) X.xe s
def PS(X:Cx)(st:Stmt)(t:TS):Prop:=
 ∀(pins:OX) (s:Shared) (σ:St) (H:Hp) (D:Ends),Inv X pins σ H s->t D σ H->wpAny (model X.prog X.w) X.A (exec st X.env) (SP X pins D) X.xe s
def m9(X:Cx)(st:List Stmt)(t:TS):Prop:=
 ∀(pins:OX) (s:Shared) (σ:St) (H:Hp) (D:Ends),Inv X pins σ H s->t D σ H->wpAny (model X.prog X.w) X.A (execs st X.env) (SP X pins D) X.xe s
theorem i4{α:Type}{t:Sem α}{Q Q':α->Shared->Prop}{M:Model}{A:Around}{E:OE}{s:Shared}(h:wpAny M A t Q E s)(hQ:∀a s,Q a s->Q' a s):wpAny M A t Q' E s:=Qi h hQ fun _ _ x=>x
section
variable{X:Cx}
theorem bin{a b:Expr}{ta tb:TE}(ha:PE X a ta)(hb:PE X b tb){pins:OX}{s:Shared}{σ:St}{H:Hp}{R:V->V->Hp->Prop}(I:Inv X pins σ H s)(h:ta σ H fun x H1=>tb σ H1 fun y H2=>R x y H2)
  {α:Type}{Q:α->Shared->Prop}{f:Value->Value->Sem α}
  (hf:∀v u s2 x y H2,Inv X pins σ H2 s2->D8 x v->D8 y u->R x y H2->wpAny (model X.prog X.w) X.A (f v u) Q X.xe s2):
  wpAny (model X.prog X.w) X.A (eval a X.env) (fun v s₁=>wpAny (model X.prog X.w) X.A (eval b X.env) (fun u s₂=>wpAny (model X.prog X.w) X.A (f v u) Q X.xe s₂) X.xe s₁) X.xe s:=by
 refine i4 (ha pins s σ H _ I h) fun v s1 ⟨x,H1,I1,r1,q1⟩=>?_
 refine i4 (hb pins s1 σ H1 _ I1 q1) fun u s2 ⟨y,H2,I2,r2,q2⟩=>?_
 exact hf v u s2 x y H2 I2 r1 r2 q2
def Q3(i:Nat):TE:=fun σ H Q=>∃v,σ[i]? =some (some v)/\Q v H
def tC(v:V):TE:=fun _ H Q=>Q v H
theorem HH{i:Nat}{x:Str}{pos:Pos}(hN:X.N[i]? =some x)(hv:p7 X.env.scope x)(hd:(x==("__debug__":Str))=false:=by decide)(hcd:(x==("__classdict__":Str))=false:=by decide):PE X (.Name x pos) (Q3 i):=by
 intro pins s σ H Q I h;obtain⟨v,e,h⟩:=h;obtain⟨m,hn,hl⟩:=I.loc;obtain⟨u,r,l⟩:=hl i x v hN e hv;have fin:EP X pins σ Q u s:=⟨v,H,I,r,h⟩
 rcases l with⟨hk,hm⟩|⟨hk,c,hc,hcell⟩
 ·exact wpAny_Name (wpAny_loadName_local I.ok.kind hk hn hm fin) hd
 ·rcases hk with hk|hk
  ·exact wpAny_Name (wpAny_loadName_cell I.ok.kind hk hc hcell fin) hd
  ·exact wpAny_Name (wpAny_loadName_free I.ok.kind hk hc hcell fin hcd) hd
theorem LD{i j pos}:PE X (.Constant (.int i) j pos) (tC (.int i)):=fun _ _ _ H _ I h=>Xp ⟨.int i,H,I.tok _,⟨_,rfl⟩,h⟩
theorem LF{b j pos}:PE X (.Constant (.bool b) j pos) (tC (.bl b)):=fun _ _ _ H _ I h=>Constant_bool ⟨.bl b,H,I,rfl,h⟩
theorem LG{j pos}:PE X (.Constant .none j pos) (tC .non):=fun _ _ _ H _ I h=>Constant_none ⟨.non,H,I,rfl,h⟩
theorem Rz{x j pos}:PE X (.Constant (.str x) j pos) (tC (.str x)):=fun _ _ _ H _ I h=>Calls.Constant_str ⟨.str x,H,I.tok _,⟨_,rfl⟩,h⟩
def Gl(X:Cx)(x:Str):Prop:=X.env.kindOf x=some .globalImplicit
theorem DX{E:OE}{pins:OX}{s:Shared}{σ:St}{H:Hp}{x:Str}{u:Value}{pos:Pos}{Q:OE}(I:Inv X pins σ H s)(hg:Gl X x)(hm:X.mg x=some u)(h:Q u s)
  (hd:(x==("__debug__":Str))=false:=by decide):wpAny (model X.prog X.w) X.A (eval (.Name x pos) X.env) Q E s:=
 Calls.Name_function_global I.ok.kind hg (Calls.loadGlobal_global (by rw[I.ok.glob];exact I.mod.glob.keeps I.bk) hm h) hd
theorem BA{E:OE}{pins:OX}{s:Shared}{σ:St}{H:Hp}{x:Str}{u:Value}{pos:Pos}{Q:OE}(I:Inv X pins σ H s)(hg:Gl X x)(hm:X.mg x=none)(hv:bootBuiltins x=some u)(h:Q u s)
  (hn:x≠"__name__":=by decide)(hd:(x==("__debug__":Str))=false:=by decide):wpAny (model X.prog X.w) X.A (eval (.Name x pos) X.env) Q E s:=by
 obtain⟨mb,h1,h2⟩:=I.mod.blt;exact Calls.Name_function_global I.ok.kind hg (Calls.loadGlobal_builtin (by rw[I.ok.glob];exact I.mod.glob.keeps I.bk) hm (by rw[I.ok.blt];exact h1.keeps I.bk) ((h2 x hn).trans hv) h) hd
theorem HI{x:Str}{v:V}{u:Value}{pos:Pos}(hg:Gl X x)(hm:X.mg x=some u)(r:D8 v u)(hd:(x==("__debug__":Str))=false:=by decide):PE X (.Name x pos) (tC v):=
 fun _ _ _ H _ I h=>DX I hg hm ⟨v,H,I,r,h⟩ hd
theorem FF{x:Str}{v:V}{u:Value}{pos:Pos}(hg:Gl X x)(hm:X.mg x=none)(hv:bootBuiltins x=some u)(r:D8 v u)(hn:x≠"__name__":=by decide)(hd:(x==("__debug__":Str))=false:=by decide):PE X (.Name x pos) (tC v):=
 fun _ _ _ H _ I h=>BA I hg hm hv ⟨v,H,I,r,h⟩ hn hd
variable{a b:Expr}{ta tb:TE}{pos:Pos}
def PC(X:Cx)(op:CmpOp)(a b:Expr)(t:TE):Prop:=
 ∀(pins:OX) (s:Shared) (σ:St) (H:Hp) (Q:VK),Inv X pins σ H s->t σ H Q->
  wpAny (model X.prog X.w) X.A (eval a X.env) (fun v s₁=>wpAny (model X.prog X.w) X.A (eval b X.env) (fun u s₂=>wpAny (model X.prog X.w) X.A (compareOp op v u) (EP X pins σ Q) X.xe s₂) X.xe s₁) X.xe s
theorem pI(b:Expr){op:CmpOp}(h:op≠.In)(h2:op≠.NotIn):behindInMarks op b=false:=by
 have e1:(op==CmpOp.In)=false:=by cases op<;>first|rfl|exact absurd rfl h
 have e2:(op==CmpOp.NotIn)=false:=by cases op<;>first|rfl|exact absurd rfl h2
 cases b<;>simp[behindInMarks,e1,e2]
def tB(t:TE):TT:=fun σ H Q=>t σ H fun x H1=>∃c,x=.bl c/\Q c H1
theorem SA{op:CmpOp}{t:TE}(h:PC X op a b t)(h1:behindInMarks op b=false:=by first|exact pI _ (by decide) (by decide)|rfl):PT X (.Compare a [op] [b] pos) (tB t):=by
 intro pins s σ H Q I hw;refine wpAny_isTrue_Compare1 (i4 (h pins s σ H _ I hw) fun v s1 h1=>i4 h1 fun u s2 h2=>i4 h2 fun c s3 ⟨x,H1,I1,r1,q1⟩=>?_) h1
 obtain⟨d,rfl,q⟩:=q1;cases r1;exact Jw ⟨H1,I1,q⟩
theorem SD{e:Expr}{t:TE}(h:PE X e t)(he:∀whole,isTrue e X.env whole=(do let v←whole;standAt e.pos;holding [v] (truthy v)):=by intro _;rfl):PT X e (tB t):=by
 intro pins s σ H Q I hw;refine isTrue_plain (i4 (h pins s σ H _ I hw) fun v s1 ⟨x,H1,I1,r1,q1⟩=>?_) (he _)
 obtain⟨d,rfl,q⟩:=q1;cases r1;exact Jw ⟨H1,I1,q⟩
variable{tA tB':TT}{rest:List Expr}
def LH(t u:TT):TT:=fun σ H Q=>t σ H fun c H1=>if c=true then u σ H1 Q else Q false H1
def uQ(t u:TT):TT:=fun σ H Q=>t σ H fun c H1=>if c=true then Q true H1 else u σ H1 Q
def SE(t:TT):TT:=fun σ H Q=>t σ H fun c H1=>Q (!c) H1
theorem SF(ha:PT X a tA):PW X (.BoolOp .And [a] pos) tA:=by
 intro wh pins s σ H Q I h;refine isTrue_and (i4 (ha pins s σ H Q I h) fun c s1 e=>?_)
 cases c with
 |true=>exact isTrue_and_nil e
 |false=>exact e
theorem SG(ha:PT X a tA):PW X (.BoolOp .Or [a] pos) tA:=by
 intro wh pins s σ H Q I h;refine isTrue_or (i4 (ha pins s σ H Q I h) fun c s1 e=>?_)
 cases c with
 |false=>exact isTrue_or_nil e
 |true=>exact e
theorem SH(ha:PT X a tA)(hb:PW X (.BoolOp .And (b::rest) pos) tB'):PW X (.BoolOp .And (a::b::rest) pos) (LH tA tB'):=by
 intro wh pins s σ H Q I h;refine isTrue_and (i4 (ha pins s σ H _ I h) fun c s1 ⟨H1,I1,q1⟩=>?_)
 cases c with
 |true=>exact hb wh pins s1 σ H1 Q I1 q1
 |false=>exact⟨H1,I1,q1⟩
theorem SI(ha:PT X a tA)(hb:PW X (.BoolOp .Or (b::rest) pos) tB'):PW X (.BoolOp .Or (a::b::rest) pos) (uQ tA tB'):=by
 intro wh pins s σ H Q I h;refine isTrue_or (i4 (ha pins s σ H _ I h) fun c s1 ⟨H1,I1,q1⟩=>?_)
 cases c with
 |true=>exact⟨H1,I1,q1⟩
 |false=>exact hb wh pins s1 σ H1 Q I1 q1
theorem SJ(ha:PT X a tA):PT X (.UnaryOp .Not a pos) (SE tA):=by
 intro pins s σ H Q I h;exact isTrue_not (ha pins s σ H (fun c H1=>Q (!c) H1) I h)
def SK(ta tb:TE):TE:=fun σ H Q=>ta σ H fun x H1=>∃c,x=.bl c/\if c=true then tb σ H1 Q else Q (.bl false) H1
def SL(ta:TE):TE:=fun σ H Q=>ta σ H fun x H1=>∃c,x=.bl c/\Q (.bl (!c)) H1
theorem SM{op}{t:TE}(h:PE X a t):PE X (.BoolOp op [a] pos) t:=fun pins s σ H Q I hw=>BoolOp_one (h pins s σ H Q I hw)
theorem SN(ha:PE X a ta)(hb:PE X (.BoolOp .And (b::rest) pos) tb):PE X (.BoolOp .And (a::b::rest) pos) (SK ta tb):=by
 intro pins s σ H Q I h;refine BoolOp_and (i4 (ha pins s σ H _ I h) fun v s1 ⟨x,H1,I1,r1,q1⟩=>?_)
 obtain⟨c,rfl,q1⟩:=q1;cases r1;refine Jw ?_
 cases c with
 |true=>exact hb pins s1 σ H1 Q I1 q1
 |false=>exact⟨.bl false,H1,I1,rfl,q1⟩
theorem SO(ha:PE X a ta):PE X (.UnaryOp .Not a pos) (SL ta):=by
 intro pins s σ H Q I h;refine UnaryOp_ (i4 (ha pins s σ H _ I h) fun v s1 ⟨x,H1,I1,r1,q1⟩=>?_)
 obtain⟨c,rfl,q1⟩:=q1;cases r1;exact not_of (Jw ⟨.bl (!c),H1,I1,rfl,q1⟩)
end
def lX(K:Qq)(H:Hp)(a:Addr)(xs:List V):Prop:=
 Rd H a (.lst xs)\/
  ∃(o:Obj) (its:Array Value) (n:Nat),K.lookup a=some o/\o.cls=.type "list"/\o.dict=none/\o.data=.seq its n/\its.size≤sizeLine/\D3 xs its.toList
def lY(K:Qq)(H:Hp)(a:Addr)(xs:List V):Prop:=
 Rd H a (.tup xs)\/
  ∃(o:Obj) (its:Array Value) (n:Nat),K.lookup a=some o/\o.cls=.type "tuple"/\o.dict=none/\o.data=.seq its n/\its.size≤sizeLine/\D3 xs its.toList
def SQ:Value->Option V
 |.none=>some .non
 |.bool b=>some (.bl b)
 |.int i _=>some (.int i)
 |.str x _=>some (.str x)
 |.bytes b _=>some (.byt b)
 |.float b _=>some (.flt b)
 |.ref a=>some (.ref a)
 |.type n=>some (.ty n)
 |_=>none
theorem D8.abs{x:V}{u:Value}(r:D8 x u):SQ u=some x:=by
 cases x with
 |non=>cases r;rfl
 |bl _=>cases r;rfl
 |int _=>obtain⟨t,rfl⟩:=r;rfl
 |str _=>obtain⟨t,rfl⟩:=r;rfl
 |byt _=>obtain⟨t,rfl⟩:=r;rfl
 |flt _=>obtain⟨t,rfl⟩:=r;rfl
 |ref _=>cases r;rfl
 |ty _=>cases r;rfl
theorem D8.inj{x y:V}{u:Value}(r:D8 x u)(q:D8 y u):x=y:=Yv (r.abs.symm.trans q.abs)
theorem D3.inj:∀{xs ys:List V}{us:List Value},D3 xs us->D3 ys us->xs=ys
 |_,_,_,.nil,.nil=>rfl
 |_,_,_,.cons r t,.cons r' t'=>by rw[r.inj r',D3.inj t t']
section
variable{X:Cx}{pins:OX}{σ:St}{H:Hp}{s:Shared}{a:Addr}{xs ys:List V}
theorem Inv.list(I:Inv X pins σ H s)(h:lX X.K H a xs):∃its:List Value,D3 xs its/\PlainL s.heap a its.toArray/\xs.length≤sizeLine:=by
 rcases h with h|⟨o,its,n,hk,hc,hd,hs,hz,r⟩
 ·obtain⟨z,its,n,r,e⟩:=h.ok I.hok
  exact⟨its,r,⟨_,n,e,rfl,rfl,rfl⟩,z⟩
 ·refine⟨its.toList,r,⟨o,n,I.kIn a o hk,hc,hd,by simpa using hs⟩,?_⟩
  have e:=r.length
  simp only[Ue]at e
  omega
theorem Inv.tupleD(I:Inv X pins σ H s)(h:lY X.K H a xs):∃its:List Value,D3 xs its/\V8 s.heap a its.toArray/\xs.length≤sizeLine:=by
 rcases h with h|⟨o,its,n,hk,hc,hd,hs,hz,r⟩
 ·obtain⟨z,its,r,p⟩:=h.ok I.hok
  exact⟨its,r,p,z⟩
 ·refine⟨its.toList,r,⟨o,I.kIn a o hk,hc,hd,n,by simpa using hs⟩,?_⟩
  have e:=r.length
  simp only[Ue]at e
  omega
theorem Inv.tuple(I:Inv X pins σ H s)(h:lY X.K H a xs):∃its:List Value,D3 xs its/\IsTup s.heap a its.toArray/\xs.length≤sizeLine:=
 let ⟨its,r,p,z⟩:=I.tupleD h
 ⟨its,r,p.tup,z⟩
theorem Inv.list_inj(I:Inv X pins σ H s)(h:lX X.K H a xs)(h':lX X.K H a ys):xs=ys:=by
 obtain⟨its,r,⟨o,n,e,_,_,d⟩,_⟩:=I.list h;obtain⟨its',r',⟨o',n',e',_,_,d'⟩,_⟩:=I.list h';rw[e]at e';cases e';rw[d]at d';injection d' with d1 _
 have:its=its':=by simpa using Za Array.toList d1
 subst this;exact r.inj r'
theorem Inv.tuple_inj(I:Inv X pins σ H s)(h:lY X.K H a xs)(h':lY X.K H a ys):xs=ys:=by
 obtain⟨its,r,⟨o,e,_,n,d⟩,_⟩:=I.tuple h;obtain⟨its',r',⟨o',e',_,n',d'⟩,_⟩:=I.tuple h';rw[e]at e';cases e';rw[d]at d';injection d' with d1 _
 have:its=its':=by simpa using Za Array.toList d1
 subst this;exact r.inj r'
end
abbrev Cx.wish(X:Cx)(E:OE):Cx:={X with xe:=E}
abbrev Cx.nox(X:Cx):Cx:=X.wish fun _ _=>False
theorem Cx.Ok.wish{X:Cx}(ok:X.Ok)(E:OE):(X.wish E).Ok:=
 ⟨ok.mod,ok.kind,ok.glob,ok.blt,ok.above,ok.inj,ok.has,ok.cab,ok.hd,ok.frames,ok.stk,ok.exf,ok.bs,ok.bsz,ok.noex,ok.exfs,ok.funs,ok.frf⟩
theorem Cx.Ok.unwish{X:Cx}{E:OE}(ok:(X.wish E).Ok):X.Ok:=
 ⟨ok.mod,ok.kind,ok.glob,ok.blt,ok.above,ok.inj,ok.has,ok.cab,ok.hd,ok.frames,ok.stk,ok.exf,ok.bs,ok.bsz,ok.noex,ok.exfs,ok.funs,ok.frf⟩
section
variable{X:Cx}{pins:OX}{σ:St}{H:Hp}{s:Shared}{E:OE}
theorem Inv.wish(I:Inv X pins σ H s)(E:OE):Inv (X.wish E) pins σ H s:=⟨I.ok.wish E,I.os,I.bare,I.base,I.loc,I.cell,I.free,I.freeC,I.pin,I.hok,I.len⟩
theorem Inv.unwish(I:Inv (X.wish E) pins σ H s):Inv X pins σ H s:=⟨I.ok.unwish,I.os,I.bare,I.base,I.loc,I.cell,I.free,I.freeC,I.pin,I.hok,I.len⟩
theorem SP.unwish{D:Ends}{f:Flow}{s':Shared}(h:SP (X.wish E) pins D f s'):SP X pins D f s':=by
 cases f with
 |next=>obtain⟨σ',H',I,q⟩:=h;exact⟨σ',H',I.unwish,q⟩
 |brk=>obtain⟨σ',H',I,q⟩:=h;exact⟨σ',H',I.unwish,q⟩
 |cont=>obtain⟨σ',H',I,q⟩:=h;exact⟨σ',H',I.unwish,q⟩
 |ret u=>obtain⟨v,σ',H',I,r,q⟩:=h;exact⟨v,σ',H',I.unwish,r,q⟩
theorem PE.nox{e:Expr}{t:TE}(h:PE X.nox e t):PE X e t:=fun pins s σ H Q I hw=>
 Qi (h pins s σ H Q (I.wish _) hw) (fun _ _ ⟨v,H',I',r,q⟩=>⟨v,H',I'.unwish,r,q⟩) fun _ _ z=>False.elim z
theorem PT.nox{e:Expr}{t:TT}(h:PT X.nox e t):PT X e t:=fun pins s σ H Q I hw=>
 Qi (h pins s σ H Q (I.wish _) hw) (fun _ _ ⟨H',I',q⟩=>⟨H',I'.unwish,q⟩) fun _ _ z=>False.elim z
theorem m9.nox{st:List Stmt}{t:TS}(h:m9 X.nox st t):m9 X st t:=fun pins s σ H D I hw=>
 Qi (h pins s σ H D (I.wish _) hw) (fun _ _ q=>q.unwish) fun _ _ z=>False.elim z
end
section
variable{X:Cx}{st:Stmt}{rest:List Stmt}{t u:TS}{e:Expr}{te:TE}{pos:Pos}
def SR:TS:=fun D σ H=>D.nx σ H
def SS(t u:TS):TS:=fun D σ H=>t {D with nx:=u D} σ H
theorem SU:m9 X [] SR:=fun _ _ σ H _ I h=>Ux ⟨σ,H,I,h⟩
theorem CT(h1:PS X st t)(h2:m9 X rest u):m9 X (st::rest) (SS t u):=by
 intro pins s σ H D I h;refine wpAny_execs_cons (i4 (h1 pins s σ H {D with nx:=u D} I h) fun f s1 q=>?_)
 cases f with
 |next=>
  obtain⟨σ',H',I',q⟩:=q;exact h2 pins s1 σ' H' D I' q
 |ret v=>exact q
 |brk=>exact q
 |cont=>exact q
theorem LI(h1:PS X st t):m9 X [st] t:=by
 intro pins s σ H D I h;refine wpAny_execs_cons (i4 (h1 pins s σ H D I h) fun f s1 q=>?_)
 cases f with
 |next=>exact Ux q
 |ret v=>exact q
 |brk=>exact q
 |cont=>exact q
theorem Inv.quiet{pins:OX}{σ:St}{H:Hp}{s:Shared}(I:Inv X pins σ H s):interactive X.env=false:=by simp[interactive,I.ok.kind]
def SV(te:TE):TS:=fun D σ H=>te σ H fun _ H1=>D.nx σ H1
theorem HJ(he:PE X e te)(hs:swapsWith e none pos.line X.env=pure false:=by rfl):PS X (.Expr e pos) (SV te):=by
 intro pins s σ H D I h;exact wpAny_Expr_any (i4 (he pins s σ H _ I h) fun v s1 ⟨x,H1,I1,r1,q1⟩=>⟨σ,H1,I1,q1⟩) I.quiet hs
def SW(te:TE):TS:=fun D σ H=>te σ H D.rt
theorem HK(he:PE X e te):PS X (.Return (some e) pos) (SW te):=by
 intro pins s σ H D I h;exact wpAny_Return_some (i4 (he pins s σ H _ I h) fun v s1 ⟨x,H1,I1,r1,q1⟩=>⟨x,σ,H1,I1,r1,q1⟩)
def SX(c:TT)(t u:TS):TS:=fun D σ H=>c σ H fun b H1=>if b=true then t D σ H1 else u D σ H1
theorem LJ{c:Expr}{a b:List Stmt}{tc:TT}(hc:PT X c tc)(ha:m9 X a t)(hb:m9 X b u):PS X (.If c a b pos) (SX tc t u):=by
 intro pins s σ H D I h;refine wpAny_If (i4 (hc pins s σ H _ I h) fun d s1 ⟨H1,I1,q1⟩=>?_)
 cases d with
 |true=>exact ha pins s1 σ H1 D I1 q1
 |false=>exact hb pins s1 σ H1 D I1 q1
def LK:TS:=fun _ _ _=>False
theorem SY:PS X st LK:=fun _ _ _ _ _ _ h=>h.elim
theorem LL{sts:List Stmt}:m9 X sts LK:=fun _ _ _ _ _ _ h=>h.elim
end
abbrev TG:=V->St->Hp->(St->Hp->Prop)->Prop
abbrev p8:=List V->St->Hp->(St->Hp->Prop)->Prop
def PG(X:Cx)(target:Expr)(t:TG):Prop:=
 ∀(pins:OX) (s:Shared) (σ:St) (H:Hp) (v:V) (u:Value) (Q:St->Hp->Prop),Inv X pins σ H s->D8 v u->t v σ H Q->
  wpAny (model X.prog X.w) X.A (assign target X.env u) (fun _ s'=>∃σ' H',Inv X pins σ' H' s'/\Q σ' H') X.xe s
def qE(X:Cx)(ts:List Expr)(t:p8):Prop:=
 ∀(pins:OX) (s:Shared) (σ:St) (H:Hp) (vs:List V) (us:List Value) (Q:St->Hp->Prop),Inv X pins σ H s->D3 vs us->t vs σ H Q->
  wpAny (model X.prog X.w) X.A (assignInOrder ((assignEach ts X.env).map (·.2)) us) (fun _ s'=>∃σ' H',Inv X pins σ' H' s'/\Q σ' H') X.xe s
abbrev FG:=V->V->V->Hp->(Hp->Prop)->Prop
def HL(X:Cx)(t:FG):Prop:=
 ∀(pins:OX) (s:Shared) (σ:St) (H:Hp) (o i v:V) (ov iv u:Value) (Q:Hp->Prop),Inv X pins σ H s->D8 o ov->D8 i iv->D8 v u->t o i v H Q->
  wpAny (model X.prog X.w) X.A (setItem ov iv u) (fun _ s'=>∃H',Inv X pins σ H' s'/\Q H') X.xe s
abbrev tO:=V->V->Hp->VK->Prop
def vW(X:Cx)(op:Operator)(t:tO):Prop:=
 ∀(pins:OX) (s:Shared) (σ:St) (H:Hp) (x y:V) (v u:Value) (Q:VK),Inv X pins σ H s->D8 x v->D8 y u->t x y H Q->
  wpAny (model X.prog X.w) X.A (inplaceOp op v u) (EP X pins σ Q) X.xe s
section
variable{X:Cx}{pos:Pos}
def HM(i:Nat):TG:=fun v σ H Q=>Q (σ.set i (some v)) H
theorem SZ{i:Nat}{x:Str}(hN:X.N.Nodup)(hi:X.N[i]? =some x)(hx:Loc X.env.scope x)(hf:X.fn x=true\/X.env.scope.names.lookup x=some .local:=by first|exact .inl rfl|exact .inr rfl|assumption):PG X (.Name x pos) (HM i):=by
 intro pins s σ H v u Q I r h;exact wpAny_assign_Name (Bk I hN hi hx r (fun s' I'=>⟨_,H,I',h⟩) hf)
def Sa:p8:=fun vs σ H Q=>vs=[]/\Q σ H
def Sb(t:TG)(u:p8):p8:=fun vs σ H Q=>∃v r,vs=v::r/\t v σ H fun σ' H'=>u r σ' H' Q
theorem Se:qE X [] Sa:=by
 intro pins s σ H vs us Q I r h;obtain⟨e,h⟩:=h;subst e;cases r;exact assignInOrder_nil ⟨σ,H,I,h⟩
theorem Sf{e:Expr}{es:List Expr}{t:TG}{u:p8}(h1:PG X e t)(h2:qE X es u)
  (hs:(assignEach (e::es) X.env).map (·.2)=assign e X.env::(assignEach es X.env).map (·.2):=by rfl):qE X (e::es) (Sb t u):=by
 intro pins s σ H vs us Q I r h;obtain⟨v,vr,e1,h⟩:=h;subst e1;cases r with
 |cons r rr=>
  rw[hs];refine assignInOrder_cons (i4 (h1 pins s σ H _ _ _ I r h) fun _ s1 ⟨σ1,H1,I1,q1⟩=>?_)
  exact h2 pins s1 σ1 H1 _ _ Q I1 rr q1
def Sg(K:Qq)(n:Nat)(t:p8):TG:=fun v σ H Q=>∃a xs,v=.ref a/\lY K H a xs/\xs.length=n/\t xs σ H Q
theorem Sh{es:List Expr}{k:Nat}{t:p8}{n:Nat}(hc:X.calm=true)(h:qE X es t)
  (hn:(assignEach es X.env).length=n:=by rfl)(hst:(assignEach es X.env).findIdx? (·.1)=none:=by rfl):PG X (.Tuple es k pos) (Sg X.K n t):=by
 intro pins s σ H v u Q I r hw;obtain⟨a,xs,e1,hq,hl,hw⟩:=hw;subst e1;cases r;obtain⟨its,rv,ht,hz⟩:=I.tuple hq;refine assign_Tuple_tuple (I.ok.hd hc) ht (by simp[hn,←hl,rv.length]) hst fun h' hx=>?_
 have I1:Inv X pins σ H {s with heap:=h'}:=I.kept (t':=s.toks) fun b o e=>hx b o (Qs (Qu e)) e
 exact h pins _ σ H xs _ Q I1 (by simpa using rv) hw
def Si(to ti:TE)(t:FG):TG:=fun v σ H Q=>to σ H fun o H1=>ti σ H1 fun i H2=>t o i v H2 fun H3=>Q σ H3
theorem LM{o i:Expr}{to ti:TE}{t:FG}(ho:PE X o to)(hi:PE X i ti)(hs:HL X t)
  (ha:∀v,assign (.Subscript o i pos) X.env v=(do
   let ov←holding [v] (eval o X.env)
   let iv←holding [v,ov] (eval i X.env)
   standAt pos
   holding [v,ov,iv] (setItem ov iv v)
   release [v,ov,iv] []):=by intro _;rfl):PG X (.Subscript o i pos) (Si to ti t):=by
 intro pins s σ H v u Q I r h;rw[ha];refine Qz (Jy (i4 (ho pins s σ H _ I h) fun ov s1 ⟨x,H1,I1,r1,q1⟩=>?_))
 refine Qz (Jy (i4 (hi pins s1 σ H1 _ I1 q1) fun iv s2 ⟨y,H2,I2,r2,q2⟩=>?_))
 refine Qz (Uz (Qz (Jy (i4 (hs pins s2 σ H2 x y v ov iv u _ I2 r1 r2 r q2) fun _ s3 ⟨H3,I3,q3⟩=>?_))))
 exact wpAny_release ⟨σ,H3,I3,q3⟩
def HN(te:TE)(g:TG):TS:=fun D σ H=>te σ H fun x H1=>g x σ H1 D.nx
theorem Sj{tg e:Expr}{te:TE}{g:TG}(he:PE X e te)(hg:PG X tg g)(hs:swapsWithSole [tg] e pos.line X.env=pure false:=by rfl)(hw:swappedStores [tg] e X.env=pure none:=by rfl)
  (h1:(assignEach [tg] X.env).map (·.2)=[assign tg X.env]:=by rfl):PS X (.Assign [tg] e pos) (HN te g):=by
 intro pins s σ H D I h;refine wpAny_Assign_stores (i4 (he pins s σ H _ I h) fun v s1 ⟨x,H1,I1,r1,q1⟩=>?_) hs hw
 rw[h1];exact i4 (hg pins s1 σ H1 x v _ I1 r1 q1) fun _ s2 q=>q
theorem CU{i:Nat}{x:Str}{e:Expr}{te:TE}{pos':Pos}(hN:X.N.Nodup)(hi:X.N[i]? =some x)(hx:Loc X.env.scope x)(he:PE X e te)(hs:swapsWith e (some (.Name x pos')) pos.line X.env=pure false:=by rfl)(hf:X.fn x=true\/X.env.scope.names.lookup x=some .local:=by first|exact .inl rfl|exact .inr rfl|assumption):
  PS X (.Assign [.Name x pos'] e pos) (HN te (HM i)):=by
 intro pins s σ H D I h;refine wpAny_Assign_Name (i4 (he pins s σ H _ I h) fun v s1 ⟨y,H1,I1,r1,q1⟩=>?_) hs
 exact Bk I1 hN hi hx r1 (fun s2 I2=>⟨_,H1,I2,q1⟩) hf
def Sk(i j:Nat)(ta:TA):TS:=fun D σ H=>ta σ H fun vs H1=>∃v w,vs=[v,w]/\D.nx ((σ.set i (some v)).set j (some w)) H1
theorem Sl{i j:Nat}{x y:Str}{a b:Expr}{ta:TA}{px py pt:Pos}{kt k2 pt2}(hc:X.calm=true)(hN:X.N.Nodup)(hi:X.N[i]? =some x)(hj:X.N[j]? =some y)(hij:i≠j)
  (hx:X.env.scope.names.lookup x=some .local)(hy:X.env.scope.names.lookup y=some .local)(ha:PA X [a,b] ta)
  (hw:swappedStores [.Tuple [.Name x px,.Name y py] kt pt] (.Tuple [a,b] k2 pt2) X.env=pure (some [x,y]))
  (hs:swapsWithSole [.Tuple [.Name x px,.Name y py] kt pt] (.Tuple [a,b] k2 pt2) pos.line X.env=pure false:=by rfl):
  PS X (.Assign [.Tuple [.Name x px,.Name y py] kt pt] (.Tuple [a,b] k2 pt2) pos) (Sk i j ta):=by
 intro pins s σ H D I h;rw[exec_Assign_arm];refine Qz (Uz ?_);rw[hs];refine Qz (Qv ?_);rw[Qt (by decide)]
 refine Qz (Tuple_ (i4 (ha _ pins s σ H _ I h) fun us s1 ⟨vs,H1,I1,r1,q1⟩=>?_))
 obtain⟨v,w,e1,q1⟩:=q1;subst e1;obtain⟨u1,u2,rfl,rv,rw'⟩:∃u1 u2,us=[u1,u2]/\D8 v u1/\D8 w u2:=by
  cases r1 with
  |cons p q=>
   cases q with
   |cons p' q'=>
    cases q';exact⟨_,_,rfl,p,p'⟩
 refine Zc ?_ (by show 2≤sizeLine;decide)
 have I2:Inv X pins σ H1 {s1 with heap:=s1.heap.push {cls:=.type "tuple",data:=.seq [u1,u2].toArray}}:=I1.kept (t':=s1.toks) fun b o e=>Qx _ e
 rw[hw];refine Qz (Qv ?_);show wpAny (model X.prog X.w) X.A (do rule "assign.swapped-stores";let items←unpackItems (.ref s1.heap.objs.size) 2 none;assignInOrder [fun v=>bindName X.env y v,fun v=>bindName X.env x v] items.reverse;pure Flow.next) _ _ _
 refine Qz (Ja (Qz (unpackItems_tuple (items:=#[u1,u2]) (I.ok.hd hc) (IsTup.new s1.heap _) fun h' hx'=>?_)))
 have I3:=I2.kept (h':=h') (t':=s1.toks) fun b o e=>hx' b o (Qs (Qu e)) e
 show wpAny _ _ (assignInOrder [fun v=>bindName X.env y v,fun v=>bindName X.env x v] [u2,u1]>>=fun _=>pure Flow.next) _ _ _
 refine Qz (assignInOrder_cons (wpAny_bindName (Bk I3 hN hj (.inl hy) rw' (fun s2 I4=>?_) (.inr hy))))
 refine assignInOrder_cons (wpAny_bindName (Bk I4 hN hi (.inl hx) rv (fun s3 I5=>assignInOrder_nil (Qv ?_)) (.inr hx)))
 rw[List.set_comm _ _ (Zg hij)]at I5;exact⟨_,H1,I5,q1⟩
def Sm(i:Nat)(te:TE)(ti:tO):TS:=fun D σ H=>∃x,σ[i]? =some (some x)/\te σ H fun y H1=>ti x y H1 fun z H2=>D.nx (σ.set i (some z)) H2
theorem Sn{i:Nat}{x:Str}{e:Expr}{te:TE}{op:Operator}{ti:tO}{pos':Pos}(hN:X.N.Nodup)(hi:X.N[i]? =some x)(hx:Loc X.env.scope x)(he:PE X e te)(ho:vW X op ti)(hf:X.fn x=true\/X.env.scope.names.lookup x=some .local:=by first|exact .inl rfl|exact .inr rfl|assumption):
  PS X (.AugAssign (.Name x pos') op e pos) (Sm i te ti):=by
 intro pins s σ H D I h;obtain⟨v,e1,h⟩:=h;obtain⟨m,hn,hl⟩:=I.loc;have vis:p7 X.env.scope x:=by rcases hx with k|k;exact .inl k;exact .inr (.inl k)
 obtain⟨u,r,l⟩:=hl i x v hi e1 vis;refine wpAny_AugAssign_Name ?_
 have go:wpAny (model X.prog X.w) X.A (eval e X.env) (fun w s₂=>wpAny (model X.prog X.w) X.A (inplaceOp op u w) (fun r s₃=>wpAny (model X.prog X.w) X.A (storeName X.env x r) (fun _=>SP X pins D .next) X.xe s₃) X.xe s₂) X.xe s:=by
  refine i4 (he pins s σ H _ I h) fun w s1 ⟨y,H1,I1,r1,q1⟩=>?_
  refine i4 (ho pins s1 σ H1 v y u w _ I1 r r1 q1) fun z s2 ⟨zv,H2,I2,r2,q2⟩=>?_
  exact Bk I2 hN hi hx r2 (fun s3 I3=>⟨_,H2,I3,q2⟩) hf
 rcases l with⟨hk,hm⟩|⟨hk,c,hc,hcell⟩
 ·exact wpAny_loadName_local I.ok.kind hk hn hm go
 ·rcases hk with hk|hk
  ·exact wpAny_loadName_cell I.ok.kind hk hc hcell go
  ·rcases hx with k|k
   ·have:X.env.scope.names.lookup x=some .free:=hk
    rw[k]at this;cases this
   ·have:X.env.scope.names.lookup x=some .free:=hk
    rw[k]at this;cases this
end
section
variable{X:Cx}{pos:Pos}
def So(c:TT)(tb:TS):TS:=fun D σ H=>∃W:Nat->St->Hp->Prop,(∃m,W m σ H)/\∀m σ H,W m σ H->
 c σ H fun b H1=>if b=true then∃N:St->Hp->Prop,(∀σ' H',N σ' H'->∃m',m'<m/\W m' σ' H')/\tb {D with nx:=N,ct:=N,bk:=D.nx} σ H1 else D.nx σ H1
theorem Sq{c:Expr}{body:List Stmt}{tc:TT}{tb:TS}(hp:PassesOwn (model X.prog X.w) X.A X.env X.xe)(hc:PT X c tc)(hb:m9 X body tb):PS X (.While c body [] pos) (So tc tb):=by
 intro pins s σ H D I h;obtain⟨W,⟨m0,w0⟩,turn⟩:=h;refine wpAny_While (codeAny_whileLoop (fun n s'=>∃σ' H',Inv X pins σ' H' s'/\W n σ' H') ?_ m0 ⟨σ,H,I,w0⟩)
 rintro n s1 ⟨σ1,H1,I1,w1⟩;refine Jr hp (i4 (hc pins s1 σ1 H1 _ I1 (turn n σ1 H1 w1)) fun b s2 ⟨H2,I2,q2⟩=>?_)
 cases b with
 |true=>
  obtain⟨N,hN,q2⟩:=q2;rw[Qc rfl];refine Jr hp (i4 (hb pins s2 σ1 H2 _ I2 q2) fun f s3 q3=>?_)
  cases f with
  |next=>
   obtain⟨σ3,H3,I3,n3⟩:=q3;obtain⟨m',hm,w3⟩:=hN σ3 H3 n3;exact⟨m',hm,σ3,H3,I3,w3⟩
  |cont=>
   obtain⟨σ3,H3,I3,n3⟩:=q3;obtain⟨m',hm,w3⟩:=hN σ3 H3 n3;exact⟨m',hm,σ3,H3,I3,w3⟩
  |brk=>exact q3
  |ret v=>exact q3
 |false=>
  rw[Qt Zo];exact Ux ⟨σ1,H2,I2,q2⟩
end
structure It where
 go:Nat->Hp->Prop
 yld:Nat->Hp->V->Hp->Prop
 stop:Nat->Hp->Prop
def T1(X:Cx)(pins:OX)(H:Hp)(b:Addr):Prop:=
 H b=none/\b≠X.env.locals/\b∉X.fs/\(b∈X.ex\/X.s₀.heap.objs.size≤b)/\(∀x c,X.env.cells.lookup x=some c->c≠b)/\∀p∈X.pn++pins,p.1≠b
theorem Inv.fpOk{X:Cx}{pins:OX}{σ:St}{H H':Hp}{s:Shared}{b:Addr}(I:Inv X pins σ H s)(hb:s.heap.objs.size≤b)(hn:H' b=none):T1 X pins H' b:=by
 refine⟨hn,Xe (Qd I.lt hb),I.nofs hb,.inr (Zs I.sz hb),fun x c e z=>?_,fun p hp z=>?_⟩
 ·obtain⟨v,q⟩:=I.cell x c e
  exact absurd (Qd q.lt (by rw[z];exact hb)) (Yr _)
 ·exact absurd (Qd (Qu (I.pin p hp).1) (by rw[z];exact hb)) (Yr _)
structure Turn(P:Program)(w:World)(K:Qq)(tg:Expr)(J:It)(fp:List Addr)(it:Addr)(tn:Nat->Heap->Prop):Prop where
 mem:it∈fp
 obj:∀i h,tn i h->∀b∈fp,∃o,h.get? b=some o/\∀v,o.data≠.cell v
 keep:∀i h h',tn i h->(∀b∈fp,∀o,h.get? b=some o->h'.get? b=some o)->tn i h'
 item:∀(X:Cx),X.prog=P->X.w=w->X.K=K->X.calm=true->∀(i:Nat) (pins:OX) (s:Shared) (σ:St) (H:Hp) (E:OE),Inv X pins σ H s->(∀b∈fp,T1 X pins H b)->tn i s.heap->J.go i H->
  wpAny (model P w) X.A (pyNext (.ref it)) (fun r s1=>∃u,r=some u/\
   wpAny (model P w) X.A (letOwnedTupleGo tg (.ref it) u) (fun _ s2=>∃x H',Inv X pins σ H' s2/\D8 x u/\J.yld i H x H'/\tn (i+1) s2.heap/\∀b∈fp,H' b=none) E s1) E s
 done:∀(X:Cx),X.prog=P->X.w=w->X.K=K->X.calm=true->∀(i:Nat) (pins:OX) (s:Shared) (σ:St) (H:Hp) (E:OE),Inv X pins σ H s->(∀b∈fp,T1 X pins H b)->tn i s.heap->J.stop i H->
  wpAny (model P w) X.A (pyNext (.ref it)) (fun r s1=>r=none/\Inv X pins σ H s1) E s
 self:∀(A:Around) (i:Nat) (s:Shared) (Q:OE) (E:OE),tn i s.heap->Q (.ref it) s->wpAny (model P w) A (pyIter (.ref it)) Q E s
abbrev TI:=St->Hp->(It->Hp->Prop)->Prop
def uR(X:Cx)(pins:OX)(σ:St)(tg:Expr)(R:It->Hp->Prop)(itv:Value)(s2:Shared):Prop:=
 ∃(it:Addr) (fp:List Addr) (tn:Nat->Heap->Prop) (J:It) (H':Hp),itv=.ref it/\Inv X pins σ H' s2/\Turn X.prog X.w X.K tg J fp it tn/\tn 0 s2.heap/\(∀b∈fp,T1 X pins H' b)/\R J H'
def PI(X:Cx)(tg iter:Expr)(wi:TI):Prop:=
 ∀(pins:OX) (s:Shared) (σ:St) (H:Hp) (R:It->Hp->Prop),Inv X pins σ H s->wi σ H R->
  wpAny (model X.prog X.w) X.A (eval iter X.env) (fun v s1=>wpAny (model X.prog X.w) X.A (pyIter v) (uR X pins σ tg R) X.xe s1) X.xe s
theorem HQ{M:Model}{A:Around}{E:OE}{s:Shared}{tg:Expr}{it:Addr}{u:Value}{o:Obj}{n:String}{vs:Array Value}{Q:Unit->Shared->Prop}(ho:s.heap.get? it=some o)(hc:o.cls=.type n)(hd:o.data=.fields vs)
    (hn:["enumerate","zip","dict_itemiterator","dict_reverseitemiterator","odict_iterator","itertools.zip_longest","itertools.pairwise"].contains n=false)(hQ:Q () s):wpAny M A (letOwnedTupleGo tg (.ref it) u) Q E s:=by
  unfold letOwnedTupleGo;cases tg<;>first
    |exact Qv hQ
    | (cases u<;>first
        |exact Qv hQ
        | (refine Qz (wpAny_load ho ?_)
           rw[hc,hd];show wpAny M A (if(["enumerate","zip","dict_itemiterator","dict_reverseitemiterator","odict_iterator","itertools.zip_longest","itertools.pairwise"].contains n&&vs[0]? ==some (rawInt _))=true then _ else _) Q E s
           rw[Qt (by intro h;rw[hn,Bool.false_and]at h;cases h)]
           exact Qv hQ))
def tP(K:Qq)(a:Addr):It:=
 ⟨fun i H=>∃xs x,lX K H a xs/\xs[i]? =some x,fun i H x H'=>H'=H/\∀xs,lX K H a xs->xs[i]? =some x,fun i H=>∃xs,lX K H a xs/\xs.length≤i⟩
def tQ(K:Qq)(a:Addr):It:=
 ⟨fun i H=>∃xs x,lY K H a xs/\xs[i]? =some x,fun i H x H'=>H'=H/\∀xs,lY K H a xs->xs[i]? =some x,fun i H=>∃xs,lY K H a xs/\xs.length≤i⟩
def r8(lo:Int)(n:Nat):It:=⟨fun i _=>i<n,fun i H x H'=>H'=H/\x=.int (lo+i),fun i _=>n≤i⟩
theorem Sr{P:Program}{w:World}{K:Qq}{tg:Expr}(a it:Addr):Turn P w K tg (tP K a) [it] it (fun i h=>h.IsListIter it a i)where
 mem:=by simp
 obj:=fun i h st b hb=>by
  have e:b=it:=by simpa using hb
  subst e;obtain⟨o,e,c,d⟩:=st;exact⟨o,e,fun v z=>by rw[d]at z;cases z⟩
 keep:=fun i h h' st k=>st.at fun o e=>k it (by simp) o e
 item:=by
  intro X hP hw hK hc i pins s σ H E I hf st hg;subst hP hw hK;obtain⟨xs,x,hq,hx⟩:=hg;obtain⟨its,rv,p,hz⟩:=I.list hq;obtain⟨u,hu,ru⟩:=rv.get hx;obtain⟨f0,f1,f2,f3,f4,f5⟩:=hf it (by simp)
  refine wpAny_pyNext_list_item st p.isList (x:=u) (by simpa using hu) fun h' st' sb=>?_
  have I1:Inv X pins σ H {s with heap:=h'}:=I.turned (t':=s.toks) (fun b o hb e=>(sb.2 b hb).trans e) f0 f1 f3 f4 f5
  obtain⟨o,e,c,d⟩:=id st';exact⟨u,rfl,HQ (s:={s with heap:=h'}) e c d (by decide) ⟨x,H,I1,ru,⟨rfl,fun ys hy=>by rw[I.list_inj hy hq];exact hx⟩,st',fun b hb=>(hf b hb).1⟩⟩
 done:=by
  intro X hP hw hK hc i pins s σ H E I hf st hg;subst hP hw hK;obtain⟨xs,hq,hx⟩:=hg;obtain⟨its,rv,p,hz⟩:=I.list hq;obtain⟨f0,f1,f2,f3,f4,f5⟩:=hf it (by simp)
  have hl:=rv.length
  exact wpAny_pyNext_list_end (I.ok.hd hc) st p.isList (by simp;omega) fun h' eb=>⟨rfl,I.turned (t':=s.toks) (fun b o hb e=>eb b o hb e) f0 f1 f3 f4 f5⟩
 self:=fun _ _ _ _ _ st h=>wpAny_pyIter_listiter st h
theorem Ss{P:Program}{w:World}{K:Qq}{tg:Expr}(a it:Addr):Turn P w K tg (tQ K a) [it] it (fun i h=>h.IsTupleIter it a i)where
 mem:=by simp
 obj:=fun i h st b hb=>by
  have e:b=it:=by simpa using hb
  subst e;obtain⟨o,e,c,d⟩:=st;exact⟨o,e,fun v z=>by rw[d]at z;cases z⟩
 keep:=fun i h h' st k=>st.at fun o e=>k it (by simp) o e
 item:=by
  intro X hP hw hK hc i pins s σ H E I hf st hg;subst hP hw hK;obtain⟨xs,x,hq,hx⟩:=hg;obtain⟨its,rv,p,hz⟩:=I.tuple hq;obtain⟨u,hu,ru⟩:=rv.get hx;obtain⟨f0,f1,f2,f3,f4,f5⟩:=hf it (by simp)
  refine wpAny_pyNext_tuple_item st (show s.heap.IsTuple a its.toArray from p) (x:=u) (by simpa using hu) fun h' st' sb=>?_
  have I1:Inv X pins σ H {s with heap:=h'}:=I.turned (t':=s.toks) (fun b o hb e=>(sb.2 b hb).trans e) f0 f1 f3 f4 f5
  obtain⟨o,e,c,d⟩:=id st';exact⟨u,rfl,HQ (s:={s with heap:=h'}) e c d (by decide) ⟨x,H,I1,ru,⟨rfl,fun ys hy=>by rw[I.tuple_inj hy hq];exact hx⟩,st',fun b hb=>(hf b hb).1⟩⟩
 done:=by
  intro X hP hw hK hc i pins s σ H E I hf st hg;subst hP hw hK;obtain⟨xs,hq,hx⟩:=hg;obtain⟨its,rv,p,hz⟩:=I.tuple hq;obtain⟨f0,f1,f2,f3,f4,f5⟩:=hf it (by simp)
  have hl:=rv.length
  exact wpAny_pyNext_tuple_end (I.ok.hd hc) st (show s.heap.IsTuple a its.toArray from p) (by simp;omega) fun h' eb=>⟨rfl,I.turned (t':=s.toks) (fun b o hb e=>eb b o hb e) f0 f1 f3 f4 f5⟩
 self:=fun _ _ _ _ _ st h=>wpAny_pyIter_tupleiter st h
theorem Su{P:Program}{w:World}{K:Qq}{tg:Expr}(it:Addr)(lo:Int)(n:Nat):Turn P w K tg (r8 lo n) [it] it (fun i h=>IsRangeIter h it (lo+(i:Nat) * 1) ((n:Int)-(i:Nat)) 1)where
 mem:=by simp
 obj:=fun i h st b hb=>by
  have e:b=it:=by simpa using hb
  subst e;exact⟨_,st,fun v z=>by
   have z':Data.fields _=Data.cell v:=z
   cases z'⟩
 keep:=fun i h h' st k=>k it (by simp) _ st
 item:=by
  intro X hP hw hK hc i pins s σ H E I hf st hg;subst hP hw hK;obtain⟨f0,f1,f2,f3,f4,f5⟩:=hf it (by simp)
  have W:=Walks.range (prog:=X.prog) (w:=X.w) (I.ok.hd hc) it lo 1 n
  refine W.item i s _ _ hg st fun v h' tk hv st' kk=>?_
  obtain⟨t,rfl⟩:=hv;have I1:Inv X pins σ H {s with heap:=h',toks:=tk}:=I.turned (fun b o hb e=>kk b o (by simpa using hb) e) f0 f1 f3 f4 f5
  refine⟨_,rfl,HQ (s:={s with heap:=h',toks:=tk}) (n:="range_iterator") st' rfl rfl (by decide) ⟨.int (lo+i),H,I1,⟨t,?_⟩,⟨rfl,rfl⟩,st',fun b hb=>(hf b hb).1⟩⟩
  rw[Int.mul_one]
 done:=by
  intro X hP hw hK hc i pins s σ H E I hf st hg;subst hP hw hK;obtain⟨f0,f1,f2,f3,f4,f5⟩:=hf it (by simp)
  exact wpAny_pyNext_range_end (I.ok.hd hc) st (by have:n≤i:=hg;omega) fun h' eb=>⟨rfl,I.turned (t':=s.toks) (fun b o hb e=>eb b o hb e) f0 f1 f3 f4 f5⟩
 self:=fun _ _ _ _ _ st h=>wpAny_pyIter_rangeiter st h
section
variable{X:Cx}{tg:Expr}
theorem LN{pins:OX}{σ:St}{H:Hp}{s:Shared}{R:It->Hp->Prop}{E:OE}{lo hi:Int}{t u v:Tok}{tk:Nat}(I:Inv X pins σ H s)(h1: -(2^62)≤lo)(h2:lo<2^62)(h3: -(2^62)≤hi)(h4:hi<2^62)
  (q:R (r8 lo (hi-lo).toNat) H):wpAny (model X.prog X.w) X.A (pyIter (.ref s.heap.objs.size)) (uR X pins σ tg R) E {s with heap:=s.heap.push {cls:=.type "range",data:=.fields #[.int lo t,.int hi u,.int 1 v]},toks:=tk}:=by
 refine wpAny_pyIter_range (IsRange.new ..) (small_one h1 h2 h3 h4) ?_
 have I1:Inv X pins σ H {s with heap:=s.heap.push {cls:=.type "range",data:=.fields #[.int lo t,.int hi u,.int 1 v]},toks:=tk}:=I.kept fun b o e=>Qx _ e
 refine⟨(s.heap.push {cls:=.type "range",data:=.fields #[.int lo t,.int hi u,.int 1 v]}).objs.size,[(s.heap.push {cls:=.type "range",data:=.fields #[.int lo t,.int hi u,.int 1 v]}).objs.size],_,_,H,rfl,
  I1.kept (t':=tk) fun b o e=>Qx _ e,Su _ lo (hi-lo).toNat,?_,fun b hb=>?_,q⟩
 ·have e1:lo+((0:Nat):Int) * 1=lo:=by simp
  have e2:(((hi-lo).toNat:Nat):Int)-((0:Nat):Int)=Builtin.Range.rangeSize lo hi 1:=by rw[rangeSize_one];split<;>omega
  show IsRangeIter _ _ (lo+((0:Nat):Int) * 1) ((((hi-lo).toNat:Nat):Int)-((0:Nat):Int)) 1;rw[e1,e2];exact Qh _ rfl
 ·have e:b=(s.heap.push {cls:=.type "range",data:=.fields #[.int lo t,.int hi u,.int 1 v]}).objs.size:=by simpa using hb
  subst e;exact I1.fpOk (Qm _) (I1.hok.fresh (Qm _))
def Sv(ta:TA):TI:=fun σ H R=>ta σ H fun vs H1=>∃j:Int,vs=[.int j]/\ -(2^62)≤j/\j<2^62/\R (r8 0 j.toNat) H1
def Sw(ta:TA):TI:=fun σ H R=>ta σ H fun vs H1=>∃i j:Int,vs=[.int i,.int j]/\(-(2^62)≤i/\i<2^62/\ -(2^62)≤j/\j<2^62)/\R (r8 i (j-i).toNat) H1
theorem Sy{a:Expr}{ta:TA}{p pos:Pos}(hg:Gl X "range")(hm:X.mg "range"=none)(ha:PA X [a] ta)(hs:starEach [a] X.env=[(false,eval a X.env)]:=by rfl):PI X tg (.Call (.Name "range" p) [a] [] pos) (Sv ta):=by
 intro pins s σ H R I h;refine Call_ (BA I hg hm boot_range (Jl (i4 (ha pos pins s σ H _ I h) fun us s1 ⟨vs,H1,I1,r1,q1⟩=>?_) hs rfl))
 obtain⟨j,e,q1,q2,q⟩:=q1;subst e;cases r1 with
 |cons r rr=>
  cases rr;obtain⟨t,rfl⟩:=r;exact call_range_1 (LN I1 (by omega) (by omega) q1 q2 (by simpa using q))
theorem TB{a b:Expr}{ta:TA}{p pos:Pos}(hg:Gl X "range")(hm:X.mg "range"=none)(ha:PA X [a,b] ta)(hs:starEach [a,b] X.env=[(false,eval a X.env),(false,eval b X.env)]:=by rfl)(hs2:starEach [b] X.env=[(false,eval b X.env)]:=by rfl):
  PI X tg (.Call (.Name "range" p) [a,b] [] pos) (Sw ta):=by
 intro pins s σ H R I h;refine Call_ (BA I hg hm boot_range (Jl (i4 (ha pos pins s σ H _ I h) fun us s1 ⟨vs,H1,I1,r1,q1⟩=>?_) (by rw[hs,hs2]) (by rw[hs2];rfl)))
 obtain⟨i,j,e,⟨q1,q2,q3,q4⟩,q⟩:=q1;subst e;cases r1 with
 |cons r rr=>
  cases rr with
  |cons r' rr=>
   cases rr;obtain⟨t,rfl⟩:=r;obtain⟨t',rfl⟩:=r';exact call_range_2 (LN I1 q1 q2 q3 q4 q)
def TC(wi:TI)(g:TG)(tb:TS):TS:=fun D σ H=>wi σ H fun J H1=>∃W:Nat->Nat->St->Hp->Prop,(∃m,W 0 m σ H1)/\∀i m σ H,W i m σ H->
 (J.stop i H/\D.nx σ H)\/(J.go i H/\∃N:St->Hp->Prop,(∀σ' H',N σ' H'->∃m',m'<m/\W (i+1) m' σ' H')/\∀x H',J.yld i H x H'->g x σ H' fun σ2 H2=>tb {D with nx:=N,ct:=N,bk:=D.nx} σ2 H2)
def CV(fp:List Addr)(h:Heap):OX:=fp.filterMap fun b=>(h.get? b).map fun o=>(b,o)
theorem CW{fp:List Addr}{h:Heap}{b:Addr}{o:Obj}(hb:b∈fp)(e:h.get? b=some o):(b,o)∈CV fp h:=Xb.mpr ⟨b,hb,by rw[e];rfl⟩
theorem TF{fp:List Addr}{h:Heap}{p:Addr×Obj}(hp:p∈CV fp h):p.1∈fp/\h.get? p.1=some p.2:=by
 obtain⟨b,hb,e⟩:=List.mem_filterMap.mp hp;cases q:h.get? b with
 |none=>rw[q]at e;cases e
 |some o=>
  rw[q]at e;have e':(b,o)=p:=Yv e;subst e';exact⟨hb,q⟩
theorem Inv.pinned{pins:OX}{σ:St}{H:Hp}{s:Shared}{fp:List Addr}(I:Inv X pins σ H s)(hf:∀b∈fp,T1 X pins H b)(ho:∀b∈fp,∃o,s.heap.get? b=some o/\∀v,o.data≠.cell v):Inv X (pins++CV fp s.heap) σ H s:=
 I.pins_of fun p hp=>(Zf.mp hp).elim (fun z=>I.pin p (Zk _ z)) fun z=>by
  obtain⟨hb,e⟩:=TF z;obtain⟨f0,f1,f2,_⟩:=hf p.1 hb;obtain⟨o,e',d⟩:=ho p.1 hb;rw[e]at e';cases e';exact⟨e,f0,f1,f2,d⟩
theorem Inv.unpinned{pins pl:OX}{σ:St}{H:Hp}{s:Shared}(I:Inv X (pins++pl) σ H s):Inv X pins σ H s:=I.pins_of fun p hp=>I.pin p (Zk _ (List.mem_append_left _ hp))
theorem LO{iter:Expr}{body:List Stmt}{wi:TI}{g:TG}{tb:TS}{pos:Pos}(hp:PassesOwn (model X.prog X.w) X.A X.env X.xe)(hc:X.calm=true)(hi:PI X tg iter wi)(hg:PG X tg g)(hb:m9 X body tb)
  (hs:∀x,foldedSetIterable iter X.env x=pure x:=by intro _;rfl):PS X (.For tg iter body [] pos) (TC wi g tb):=by
 intro pins s σ H D I h;refine wpAny_For (i4 (hi pins s σ H _ I h) fun v s1 h1=>i4 h1 fun itv s2 h2=>?_) hs
 obtain⟨it,fp,tn,J,H2,e,I2,T,st2,f2,W,⟨m0,w0⟩,turn⟩:=h2;subst e;have stat:∀{H':Hp},(∀b∈fp,H' b=none)->∀b∈fp,T1 X pins H' b:=fun hn b hb=>⟨hn b hb,(f2 b hb).2⟩
 refine codeAny_forLoop_any (fun n s'=>∃i σ' H',Inv X pins σ' H' s'/\tn i s'.heap/\(∀b∈fp,H' b=none)/\W i n σ' H') ?_ m0 ⟨0,σ,H2,I2,st2,fun b hb=>(f2 b hb).1,w0⟩
 rintro n s3 ⟨i,σ3,H3,I3,st3,fr3,w3⟩
 rcases turn i n σ3 H3 w3 with⟨stop,qn⟩|⟨go,N,hN,step⟩
 ·refine Jr hp (i4 (T.done X rfl rfl rfl hc i pins s3 σ3 H3 X.xe I3 (stat fr3) st3 stop) fun r s4 ⟨hr,I4⟩=>?_)
  subst hr;exact Ux ⟨σ3,H3,I4,qn⟩
 ·refine Jr hp (i4 (T.item X rfl rfl rfl hc i pins s3 σ3 H3 X.xe I3 (stat fr3) st3 go) fun r s4 ⟨u,hr,h4⟩=>?_)
  subst hr;refine Jr hp (i4 h4 fun _ s5 ⟨x,H5,I5,r5,y5,st5,fr5⟩=>?_)
  have I5':=I5.pinned (stat fr5) (T.obj _ _ st5)
  refine Jr hp (i4 (hg _ s5 σ3 H5 x u _ I5' r5 (step x H5 y5)) fun _ s6 ⟨σ6,H6,I6,q6⟩=>?_)
  refine Jr hp (i4 (hb _ s6 σ6 H6 _ I6 q6) fun f s7 q7=>?_)
  have again:∀{σ7:St}{H7:Hp},Inv X (pins++CV fp s5.heap) σ7 H7 s7->N σ7 H7->∃m,m<n/\∃i σ' H',Inv X pins σ' H' s7/\tn i s7.heap/\(∀b∈fp,H' b=none)/\W i m σ' H':=fun{σ7 H7} I7 n7=>by
   obtain⟨m',hm,w7⟩:=hN σ7 H7 n7;refine⟨m',hm,i+1,σ7,H7,I7.unpinned,T.keep _ _ _ st5 fun b hb o e=>(I7.pin (b,o) (Zk _ (Zk _ (CW hb e)))).1,fun b hb=>?_,w7⟩
   obtain⟨o,e,d⟩:=T.obj _ _ st5 b hb;exact(I7.pin (b,o) (Zk _ (Zk _ (CW hb e)))).2.1
  cases f with
  |next=>obtain⟨σ7,H7,I7,n7⟩:=q7;exact again I7 n7
  |cont=>obtain⟨σ7,H7,I7,n7⟩:=q7;exact again I7 n7
  |brk=>obtain⟨σ7,H7,I7,q7⟩:=q7;exact⟨σ7,H7,I7.unpinned,q7⟩
  |ret v=>obtain⟨x7,σ7,H7,I7,r7,q7⟩:=q7;exact⟨x7,σ7,H7,I7.unpinned,r7,q7⟩
end
abbrev R2:=V->V->Hp->VK->Prop
def kQ(X:Cx)(f:Value->Value->Sem Value)(r:R2):Prop:=
 ∀(pins:OX) (s:Shared) (σ:St) (H:Hp) (x y:V) (v u:Value) (Q:VK),Inv X pins σ H s->D8 x v->D8 y u->r x y H Q->
  wpAny (model X.prog X.w) X.A (f v u) (EP X pins σ Q) X.xe s
def tR(X:Cx)(f:Value->Sem Value)(r:V->Hp->VK->Prop):Prop:=
 ∀(pins:OX) (s:Shared) (σ:St) (H:Hp) (x:V) (v:Value) (Q:VK),Inv X pins σ H s->D8 x v->r x H Q->
  wpAny (model X.prog X.w) X.A (f v) (EP X pins σ Q) X.xe s
def O2(X:Cx)(f:Value)(r:List V->Hp->VK->Prop):Prop:=
 ∀(pins:OX) (s:Shared) (σ:St) (H:Hp) (xs:List V) (us:List Value) (Q:VK),Inv X pins σ H s->D3 xs us->r xs H Q->
  wpAny (model X.prog X.w) X.A (call f us) (EP X pins σ Q) X.xe s
def r9(r:R2)(ta tb:TE):TE:=fun σ H Q=>ta σ H fun x H1=>tb σ H1 fun y H2=>r x y H2 Q
def vX(r:V->Hp->VK->Prop)(ta:TE):TE:=fun σ H Q=>ta σ H fun x H1=>r x H1 Q
def rI(C:Int->Int->Prop)(g:Int->Int->V):R2:=fun x y H Q=>∃i j,x=.int i/\y=.int j/\C i j/\Q (g i j) H
def n9(g:Int->Int->V):R2:=fun x y H Q=>∃i j,x=.int i/\y=.int j/\Q (g i j) H
def rU(g:Int->V):V->Hp->VK->Prop:=fun x H Q=>∃i,x=.int i/\Q (g i) H
section
variable{X:Cx}{a b c:Expr}{ta tb tc:TE}{pos:Pos}
theorem HR(ha:PE X a ta)(hb:PE X b tb){pins:OX}{s:Shared}{σ:St}{H:Hp}{R:V->V->Hp->Prop}(I:Inv X pins σ H s)
  (h:ta σ H fun x H1=>tb σ H1 fun y H2=>R x y H2){Q:OE}{f:Value->Value->Sem Value}
  (hf:∀v u s2 x y H2,Inv X pins σ H2 s2->D8 x v->D8 y u->R x y H2->wpAny (model X.prog X.w) X.A (f v u) Q X.xe s2):
  wpAny (model X.prog X.w) X.A (eval a X.env) (fun v s₁=>wpAny (model X.prog X.w) X.A (eval b X.env) (fun u s₂=>wpAny (model X.prog X.w) X.A (f v u) Q X.xe s₂) X.xe s₁) X.xe s:=by
 refine i4 (ha pins s σ H _ I h) fun v s1 ⟨x,H1,I1,r1,q1⟩=>?_
 refine i4 (hb pins s1 σ H1 _ I1 q1) fun u s2 ⟨y,H2,I2,r2,q2⟩=>?_
 exact hf v u s2 x y H2 I2 r1 r2 q2
theorem LP{op:Operator}{r:R2}(ho:kQ X (binaryOp op) r)(ha:PE X a ta)(hb:PE X b tb):PE X (.BinOp a op b pos) (r9 r ta tb):=by
 intro pins s σ H Q I h;exact wpAny_BinOp (HR ha hb I h fun v u s2 x y H2 I2 rx ry q=>ho pins s2 σ H2 x y v u Q I2 rx ry q)
theorem LQ{op:UnaryOp}{r:V->Hp->VK->Prop}(ho:tR X (unaryOp op) r)(ha:PE X a ta):PE X (.UnaryOp op a pos) (vX r ta):=by
 intro pins s σ H Q I h;exact UnaryOp_ (i4 (ha pins s σ H _ I h) fun v s1 ⟨x,H1,I1,r1,q1⟩=>ho pins s1 σ H1 x v Q I1 r1 q1)
theorem rH{f:Value->Value->Sem Value}{C:Int->Int->Prop}{g:Int->Int->Int}
  (rule:∀(i j:Int) (t u:Tok) (s:Shared) (Q:OE) (E:OE),C i j->Q (.int (g i j) s.toks) {s with toks:=s.toks+1}->wpAny (model X.prog X.w) X.A (f (.int i t) (.int j u)) Q E s):
  kQ X f (rI C fun i j=>.int (g i j)):=by
 intro pins s σ H x y v u Q I rx ry h;obtain⟨i,j,rfl,rfl,hc,q⟩:=h;obtain⟨t,rfl⟩:=rx;obtain⟨t',rfl⟩:=ry;exact rule i j t t' s _ _ hc ⟨.int (g i j),H,I.tok _,⟨_,rfl⟩,q⟩
theorem LR{f:Value->Value->Sem Value}{g:Int->Int->Int}
  (rule:∀(i j:Int) (t u:Tok) (s:Shared) (Q:OE) (E:OE),Q (.int (g i j) s.toks) {s with toks:=s.toks+1}->wpAny (model X.prog X.w) X.A (f (.int i t) (.int j u)) Q E s):
  kQ X f (n9 fun i j=>.int (g i j)):=by
 intro pins s σ H x y v u Q I rx ry h;obtain⟨i,j,rfl,rfl,q⟩:=h;obtain⟨t,rfl⟩:=rx;obtain⟨t',rfl⟩:=ry;exact rule i j t t' s _ _ ⟨.int (g i j),H,I.tok _,⟨_,rfl⟩,q⟩
theorem FH{f:Value->Value->Sem Value}{g:Int->Int->Bool}
  (rule:∀(i j:Int) (t u:Tok) (s:Shared) (Q:OE) (E:OE),Q (.bool (g i j)) s->wpAny (model X.prog X.w) X.A (f (.int i t) (.int j u)) Q E s):
  kQ X f (n9 fun i j=>.bl (g i j)):=by
 intro pins s σ H x y v u Q I rx ry h;obtain⟨i,j,rfl,rfl,q⟩:=h;obtain⟨t,rfl⟩:=rx;obtain⟨t',rfl⟩:=ry;exact rule i j t t' s _ _ ⟨.bl (g i j),H,I,rfl,q⟩
def HS(i j:Int):Prop:=0<j/\j<1073741824
def HU(i j:Int):Prop:=0≤j/\j≤1000000/\i.natAbs<2^64
def Bl(i j:Int):Prop:=(-(2^64)<i/\i<2^64)\/(-(2^64)<j/\j<2^64)
theorem Bl.ok{i j:Int}(h:Bl i j):IntMulOk i j:=by
 rcases h with⟨h1,h2⟩|⟨h1,h2⟩
 ·exact .of_left (intBits_le_64 h1 h2)
 ·exact .of_right (intBits_le_64 h1 h2)
theorem TH:kQ X (binaryOp .Add) (n9 fun i j=>.int (i+j)):=LR fun _ _ _ _ _ _ _ q=>add_int q
theorem TJ:kQ X (binaryOp .Sub) (n9 fun i j=>.int (i-j)):=LR fun _ _ _ _ _ _ _ q=>sub_int q
theorem TK:kQ X (binaryOp .Mult) (rI Bl fun i j=>.int (i * j)):=rH fun _ _ _ _ _ _ _ hc q=>mul_int q hc.ok
theorem TM:kQ X (binaryOp .FloorDiv) (rI HS fun i j=>.int (i/j)):=rH fun i j _ _ _ _ _ hc q=>by
 have h1:(0:Int)<j:=hc.1
 have h2:j<1073741824:=hc.2
 exact floordiv_int (by omega) (by rw[Int.fdiv_eq_ediv_of_nonneg i (by omega)];exact q) (.inl (PyProof.noPylong_small (by omega)))
theorem TN:kQ X (binaryOp .Mod) (rI (fun _ j=>0<j) fun i j=>.int (i%j)):=rH fun i j _ _ _ _ _ hc q=>by
 have h1:(0:Int)<j:=hc
 exact mod_int' (by omega) (by rw[Int.fmod_eq_emod_of_nonneg i (by omega)];exact q)
theorem HV:kQ X (binaryOp .Pow) (rI HU fun i j=>.int (i^j.toNat)):=rH fun _ _ _ _ _ _ _ hc q=>pow_int_small hc.1 hc.2.1 hc.2.2 q
theorem mU{f:Value->Sem Value}{g:Int->Int}
  (rule:∀(i:Int) (t:Tok) (s:Shared) (Q:OE) (E:OE),Q (.int (g i) s.toks) {s with toks:=s.toks+1}->wpAny (model X.prog X.w) X.A (f (.int i t)) Q E s):
  tR X f (rU fun i=>.int (g i)):=by
 intro pins s σ H x v Q I rx h;obtain⟨i,rfl,q⟩:=h;obtain⟨t,rfl⟩:=rx;exact rule i t s _ _ ⟨.int (g i),H,I.tok _,⟨_,rfl⟩,q⟩
theorem LS:tR X (unaryOp .USub) (rU fun i=>.int (-i)):=mU fun _ _ _ _ _ q=>neg_int q
end
section
variable{X:Cx}{a b c:Expr}{ta tb tc:TE}{pos:Pos}
theorem TQ{pins:OX}{σ:St}{H:Hp}{s:Shared}{Q:VK}{k k':Bool}(I:Inv X pins σ H s)(q:Q (.bl k) H)(e:k=k'):EP X pins σ Q (.bool k') s:=by
 subst e;exact⟨.bl k,H,I,rfl,q⟩
theorem TR:kQ X (compareOp .Lt) (n9 fun i j=>.bl (decide (i<j))):=FH fun _ _ _ _ _ _ _ q=>lt_int q
theorem TU:kQ X (compareOp .LtE) (n9 fun i j=>.bl (decide (i≤j))):=FH fun _ _ _ _ _ _ _ q=>le_int q
theorem TV:kQ X (compareOp .Gt) (n9 fun i j=>.bl (decide (j<i))):=FH fun _ _ _ _ _ _ _ q=>gt_int q
theorem TY:kQ X (compareOp .GtE) (n9 fun i j=>.bl (decide (j≤i))):=FH fun _ _ _ _ _ _ _ q=>ge_int q
theorem TZ:kQ X (compareOp .Is) (fun x y H Q=>y=.non/\Q (.bl (decide (x=.non))) H):=by
 intro pins s σ H x y v u Q I rx ry h;obtain⟨rfl,q⟩:=h;cases ry;refine is_none_gen (TQ I q ?_);cases x<;>first
  |(cases rx;rfl)
  |(obtain⟨t,rfl⟩:=rx;rfl)
theorem l0(b:Expr){op:CmpOp}(h:op≠.In:=by decide)(h2:op≠.NotIn:=by decide):behindInMarks op b=false:=by
 have e1:(op==CmpOp.In)=false:=by cases op<;>first|rfl|exact absurd rfl h
 have e2:(op==CmpOp.NotIn)=false:=by cases op<;>first|rfl|exact absurd rfl h2
 cases b<;>simp[behindInMarks,e1,e2]
theorem Ta{op:CmpOp}{r:R2}(ho:kQ X (compareOp op) r)(ha:PE X a ta)(hb:PE X b tb)(hm:behindInMarks op b=false):PE X (.Compare a [op] [b] pos) (r9 r ta tb):=by
 intro pins s σ H Q I h;exact wpAny_Compare1 (HR ha hb I h fun v u s2 x y H2 I2 rx ry q=>ho pins s2 σ H2 x y v u Q I2 rx ry q) hm
def Tb(t:TE):TT:=fun σ H Q=>t σ H fun x H'=>∃k,x=.bl k/\Q k H'
theorem Tc{op:CmpOp}{r:R2}(ho:kQ X (compareOp op) r)(ha:PE X a ta)(hb:PE X b tb)(hm:behindInMarks op b=false):PT X (.Compare a [op] [b] pos) (Tb (r9 r ta tb)):=by
 intro pins s σ H Q I h;refine wpAny_isTrue_Compare1 (i4 (ha pins s σ H _ I h) fun v s1 ⟨x,H1,I1,r1,q1⟩=>i4 (hb pins s1 σ H1 _ I1 q1) fun u s2 ⟨y,H2,I2,r2,q2⟩=>
  i4 (ho pins s2 σ H2 x y v u _ I2 r1 r2 q2) fun c s3 ⟨z,H3,I3,r3,k,e,q3⟩=>?_) hm
 subst e;cases r3;exact Jw ⟨H3,I3,q3⟩
def LU(r r':R2)(ta tb tc:TE):TE:=fun σ H Q=>ta σ H fun x H1=>tb σ H1 fun y H2=>r x y H2 fun z H3=>∃k,z=.bl k/\
 (if k=true then tc σ H3 fun w' H4=>r' y w' H4 Q else Q (.bl false) H3)
theorem Td{op op':CmpOp}{r r':R2}(ho:kQ X (compareOp op) r)(ho':kQ X (compareOp op') r')(ha:PE X a ta)(hb:PE X b tb)(hc:PE X c tc)
  (hm:lastMarks [op,op'] [b,c]=false:=by with_unfolding_all rfl):PE X (.Compare a [op,op'] [b,c] pos) (LU r r' ta tb tc):=by
 intro pins s σ H Q I h;refine Compare_chain (i4 (ha pins s σ H _ I h) fun v s1 ⟨x,H1,I1,r1,q1⟩=>chain_link (i4 (hb pins s1 σ H1 _ I1 q1) fun u s2 ⟨y,H2,I2,r2,q2⟩=>
  i4 (ho pins s2 σ H2 x y v u _ I2 r1 r2 q2) fun d s3 ⟨z,H3,I3,r3,k,e,q3⟩=>?_)) hm
 subst e;cases r3;refine Jw ?_
 cases k with
 |false=>exact ite_ff ⟨.bl false,H3,I3,rfl,q3⟩
 |true=>exact ite_tt (chain_last (i4 (hc pins s3 σ H3 _ I3 q3) fun w' s4 ⟨z',H4,I4,r4,q4⟩=>ho' pins s4 σ H4 y z' u w' Q I4 r2 r4 q4))
theorem DY:(sizeLine:Nat)<2^63:=by rw[sizeLine_eq];decide
theorem Ai{x:V}{us:List Value}(r:D3 [x] us):∃u,us=[u]/\D8 x u:=by
 cases r with
 |cons r1 r2=>cases r2;exact⟨_,rfl,r1⟩
theorem BB{x y:V}{us:List Value}(r:D3 [x,y] us):∃u w',us=[u,w']/\D8 x u/\D8 y w':=by
 cases r with
 |cons r1 r2=>
  cases r2 with
  |cons r3 r4=>cases r4;exact⟨_,_,rfl,r1,r3⟩
theorem Te(hc:X.calm=true):O2 X (.builtin "max") (fun xs H Q=>∃i j,xs=[.int i,.int j]/\Q (.int (if j>i then j else i)) H):=by
 intro pins s σ H xs us Q I r h;obtain⟨i,j,rfl,q⟩:=h;obtain⟨u,w',rfl,⟨t,rfl⟩,⟨t',rfl⟩⟩:=BB r;refine max_two_ints (I.ok.hd hc) fun h' tk k=>⟨_,H,I.kept k,?_,q⟩
 by_cases hj:j>i
 ·rw[Qc hj,Qc hj];exact⟨_,rfl⟩
 ·rw[Qt hj,Qt hj];exact⟨_,rfl⟩
theorem Tf(hc:X.calm=true):O2 X (.builtin "min") (fun xs H Q=>∃i j,xs=[.int i,.int j]/\Q (.int (if j<i then j else i)) H):=by
 intro pins s σ H xs us Q I r h;obtain⟨i,j,rfl,q⟩:=h;obtain⟨u,w',rfl,⟨t,rfl⟩,⟨t',rfl⟩⟩:=BB r;refine min_two_ints (I.ok.hd hc) fun h' tk k=>⟨_,H,I.kept k,?_,q⟩
 by_cases hj:j<i
 ·rw[Qc hj,Qc hj];exact⟨_,rfl⟩
 ·rw[Qt hj,Qt hj];exact⟨_,rfl⟩
theorem DZ:O2 X (.type "int") (fun xs H Q=>(∃i,xs=[.int i]/\Q (.int i) H)\/ ∃k,xs=[.bl k]/\Q (.int (if k then 1 else 0)) H):=by
 intro pins s σ H xs us Q I r h
 rcases h with⟨i,rfl,q⟩|⟨k,rfl,q⟩
 ·obtain⟨u,rfl,t,rfl⟩:=Ai r
  exact call_int_int ⟨.int i,H,I,⟨_,rfl⟩,q⟩
 ·obtain⟨u,rfl,r1⟩:=Ai r
  cases r1;exact call_int_bool ⟨.int (if k then 1 else 0),H,I.tok _,⟨_,rfl⟩,q⟩
end
structure qR(h:Heap)(x dx C:Addr)(mA:OU):Prop where
 obj:h.get? x=some (PySem.W.instObj C dx)
 ns:h.Ns1 dx mA
 ne:dx≠x
theorem Tg{h:Heap}{dx:Addr}{mA:OU}(n:h.Ns1 dx mA):∃od,h.get? dx=some od/\∀name,PySem.W.lookIn name od=some (mA name):=by
 obtain⟨o,es,ep,ho,hd,hk,_,hm⟩:=n;refine⟨o,ho,fun name=>?_⟩
 have e:=hm name
 unfold nsFind findBy at e;rw[←Array.find?_toList]at e;unfold PySem.W.lookIn;rw[hd];dsimp only;split
 ·rename_i y q
  rw[q]at e;exact Za some e
 ·rename_i q
  rw[q]at e;have a:es.toList.any (·.refKey)=false:=by
   rw[List.any_eq_false];intro y hy;obtain⟨z,t,hkey⟩:=hk y (Array.mem_toList_iff.mp hy)
   simp[DictEntry.refKey,hkey]
  have a':¬ es.toList.any (·.refKey)=true:=by rw[a];exact Zo
  rw[Qt a'];exact Za some e
theorem qR.look{h:Heap}{x dx C:Addr}{mA:OU}(I:qR h x dx C mA):∃od,PySem.W.InstAt h x (PySem.W.instObj C dx) C (some od)/\∀name,PySem.W.lookIn name od=some (mA name):=
 let ⟨od,ho,hl⟩:=Tg I.ns
 ⟨od,⟨I.obj,rfl,rfl,ho⟩,hl⟩
section
variable{prog:Program}{w:World}{A:Around}{E:OE}{s:Shared}{K:Qq}{x dx C f:Addr}{mA:OU}{name:Str}{v:Value}
end
theorem AE.some_of{v:V}{o:Option Value}(r:AE (some v) o):∃u,o=some u/\D8 v u:=by
 cases o with
 |none=>exact(show False from r).elim
 |some u=>exact⟨u,rfl,r⟩
section
variable{P:Program}{w:World}{H H':Hp}{h h':Heap}{a C dx:Addr}{fs fs':List (Str×V)}
theorem Th(hok:mI P w H h)(e:H a=some (.ins C dx fs)):∃mA,qR h a dx C mA/\(∀f,AE (fs.lookup f) (mA f))/\PySem.Within mA (fs.map (·.1))/\fs.length≤1000/\H dx=some (.own a):=by
 obtain⟨d,z,ne,ob,mA,n,r,q⟩:=(show J9 P w H h a (.ins C dx fs)from hok a _ e)
 exact⟨mA,⟨ob,n,ne⟩,r,q,z,d⟩
end
structure tS(K:Qq)(C:Addr):Prop where
 pg:PySem.W.plainGet K C Str.empty=true
 hd:PySem.W.hasDictIn K C=true
 po:PySem.W.plainOver K C=true
 sa:PySem.W.findIn K (.ref C) "__setattr__"=some (some (.builtin "object.__setattr__"))
theorem tS.get{K:Qq}{C:Addr}(c:tS K C)(f:Str):PySem.W.plainGet K C f=true:=c.pg
structure Con(K:Qq)(C:Addr)(f:Str)(v:V)(u:Value):Prop where
 at_:PySem.W.findIn K (.ref C) f=some (some u)
 rel:D8 v u
 get:PySem.W.specialIn K u "__get__"=some none
 cp:PySem.W.copiedNames.contains f=false
structure vY(K:Qq)(C:Addr)(m:Str)(f:Addr):Prop where
 at_:PySem.W.findIn K (.ref C) m=some (some (.ref f))
 fn:PySem.W.isFn K (.ref f)=true
 kp:PySem.W.keepIn K (.ref f)=true
section
variable{X:Cx}{pins:OX}{σ:St}{H:Hp}{s:Shared}{a C dx:Addr}{fs:List (Str×V)}{f:Str}{v:V}{A:Around}{E:OE}
end
section
variable{X:Cx}{o e value:Expr}{f:Str}{pos pos' tpos:Pos}{ta tv:TE}
end
section
variable{X:Cx}{pins:OX}{σ:St}{H:Hp}{s:Shared}{A:Around}{E:OE}{Q:OE}{c:Value}{b:Bool}
inductive mY (K:Qq) (H:Hp):V->Value->Prop where
 |non:mY K H .non (.type "NoneType")
 |bl (x:Bool):mY K H (.bl x) (.type "bool")
 |int (i:Int):mY K H (.int i) (.type "int")
 |str (x:Str):mY K H (.str x) (.type "str")
 |flt (x:UInt64):mY K H (.flt x) (.type "float")
 |lst {a:Addr}{xs:List V}(e:H a=some (.lst xs)):mY K H (.ref a) (.type "list")
 |frz {a:Addr}{o:Obj}{xs:List V}(e:H a=some (.frz o (.lst xs))):mY K H (.ref a) (.type "list")
 |tup {a:Addr}{xs:List V}(e:H a=some (.tup xs)):mY K H (.ref a) (.type "tuple")
 |dK {a:Addr}{kvs:List (Key×V)}(e:H a=some (.dK kvs)):mY K H (.ref a) (.type "dict")
 |dT {a:Addr}{C:Addr->List Key->Prop}{kvs:List (List Key×V)}(e:H a=some (.dT C kvs)):mY K H (.ref a) (.type "dict")
 |ins {a C dx:Addr}{fs:List (Str×V)}(e:H a=some (.ins C dx fs)) (cl:tS K C) (ha:PySem.W.findIn K (.ref C) "__class__"=some (some (.builtin "object.__class__")))
   (hn:PySem.W.specialIn K (.builtin "object.__class__") "__get__"=some (some (.builtin "getset_descriptor.__get__"))) (htk:PySem.W.takesIn K (.builtin "object.__class__")=some true)
   (hm:PySem.W.mroIn K C (.type "object")=some true):mY K H (.ref a) (.ref C)
theorem CY{x:V}{u t:Value}(I:Inv X pins σ H s)(rx:D8 x u)(ty:mY X.K H x t)(e:PySem.W.kitOne X.K t c=some b)(h:∀tk,Q (.bool b) {s with toks:=tk}):
  wpAny (model X.prog X.w) A (call (.builtin "isinstance") [u,c]) Q E s:=by
 cases ty with
 |non=>cases (show u=Value.none from rx);exact Zp PySem.W.kitx_none I.kIn True.intro e (fun z=>nomatch z) h
 |bl y=>cases (show u=Value.bool y from rx);exact Zp PySem.W.kitx_bool I.kIn True.intro e (fun z=>nomatch z) h
 |int i=>obtain⟨t,q⟩:=(show∃t,u=Value.int i t from rx);cases q;exact Zp PySem.W.kitx_int I.kIn True.intro e (fun z=>nomatch z) h
 |str y=>obtain⟨t,q⟩:=(show∃t,u=Value.str y t from rx);cases q;exact Zp PySem.W.kitx_str I.kIn True.intro e (fun z=>nomatch z) h
 |flt y=>obtain⟨t,q⟩:=(show∃t,u=Value.float y t from rx);cases q;exact Zp PySem.W.kitx_float I.kIn True.intro e (fun z=>nomatch z) h
 |@lst a xs ea=>
  cases (show u=Value.ref a from rx)
  obtain⟨_,_,n,_,h1⟩:=(show J9 X.prog X.w H s.heap a (.lst xs)from I.hok a _ ea)
  exact Zp Vp I.kIn ⟨_,h1,rfl⟩ e (fun z=>nomatch z) h
 |@frz a ob xs ea=>
  cases (show u=Value.ref a from rx)
  obtain⟨_,_,_,n,_,h1⟩:=(show J9 X.prog X.w H s.heap a (.frz ob (.lst xs))from I.hok a _ ea)
  exact Zp Vp I.kIn ⟨_,h1,rfl⟩ e (fun z=>nomatch z) h
 |@tup a xs ea=>
  cases (show u=Value.ref a from rx)
  obtain⟨_,_,_,p⟩:=(show J9 X.prog X.w H s.heap a (.tup xs)from I.hok a _ ea)
  obtain⟨o,h1,h2,_⟩:=p;exact Zp Xg I.kIn ⟨o,h1,h2⟩ e (fun z=>nomatch z) h
 |@dK a kvs ea=>
  cases (show u=Value.ref a from rx)
  obtain⟨_,_,vs,_,p⟩:=(show J9 X.prog X.w H s.heap a (.dK kvs)from I.hok a _ ea)
  obtain⟨o,es,ep,h1,h2,_⟩:=p;exact Zp Yn I.kIn ⟨o,h1,h2.1⟩ e (fun z=>nomatch z) h
 |@dT a C kvs ea=>
  cases (show u=Value.ref a from rx)
  obtain⟨_,_,xs,_,o,es,ep,h1,h2,_⟩:=(show J9 X.prog X.w H s.heap a (.dT C kvs)from I.hok a _ ea)
  exact Zp Yn I.kIn ⟨o,h1,h2.1⟩ e (fun z=>nomatch z) h
 |@ins a C dx fs ea cl ha hn htk hm=>
  cases (show u=Value.ref a from rx)
  obtain⟨mA,O,_⟩:=Th I.hok ea;obtain⟨od,J,_⟩:=O.look;exact Zp (PySem.W.kitx_own (cl.get _) cl.hd ha hn htk hm) I.kIn J e (fun z=>nomatch z) h
end
structure g9(k:Nat)(A:Around):Prop where
 hd:A.handled=none
 dp:A.depth+3 * k+5<recursionLimit
 un:A.units+16 * k+200<cLine
theorem g9.mono{j k:Nat}{A:Around}(r:g9 k A)(h:j≤k):g9 j A:=⟨r.hd,by have:=r.dp;omega,by have:=r.un;omega⟩
theorem g9.deeper{k:Nat}{A:Around}(r:g9 (k+1) A)(env:Env):g9 k (A.deeper env):=
 ⟨r.hd,by have:=r.dp;show A.depth+1+3 * k+5<_;omega,by have:=r.un;show A.units+3+16 * k+200<_;omega⟩
theorem g9.depth{k:Nat}{A:Around}(r:g9 k A):A.depth<recursionLimit:=by have:=r.dp;omega
theorem g9.units{k:Nat}{A:Around}(r:g9 k A):A.units+64<cLine:=by have:=r.un;omega
def LV:TA:=fun _ H Q=>Q [] H
def HW(ta:TE)(tr:TA):TA:=fun σ H Q=>ta σ H fun x H1=>tr σ H1 fun xs H2=>Q (x::xs) H2
section
variable{X:Cx}{e:Expr}{es:List Expr}{te:TE}{t:TA}{pos:Pos}
theorem Aj:PA X [] LV:=fun _ _ _ _ H Q I h=>Calls.spliced_nil ⟨[],H,I,.nil,h⟩
theorem O5(ha:PE X e te)(hr:PA X es t)(hs:starEach (e::es) X.env=(false,eval e X.env)::starEach es X.env:=by rfl):PA X (e::es) (HW te t):=by
 intro pos pins s σ H Q I h;rw[hs];show wpAny _ _ (spliced ((false,eval e X.env)::backTo pos (starEach es X.env))) _ _ s;refine Calls.spliced_cons (i4 (ha pins s σ H _ I h) fun u s1 ⟨x,H1,I1,r1,q1⟩=>?_)
 exact i4 (hr pos pins s1 σ H1 _ I1 q1) fun us s2 ⟨xs,H2,I2,r2,q2⟩=>⟨x::xs,H2,I2,.cons r1 r2,q2⟩
def LX(t:TA):TE:=fun σ H Q=>t σ H fun xs H1=>xs.length≤sizeLine/\∀p,H1 p=none->Q (.ref p) (upd H1 p (.tup xs))
def Ti(t:TA):TE:=fun σ H Q=>t σ H fun xs H1=>xs.length≤sizeLine/\∀p,H1 p=none->Q (.ref p) (upd H1 p (.lst xs))
theorem LY{x1}(h:PA X es t):PE X (.Tuple es x1 pos) (LX t):=by
 intro pins s σ H Q I hq;refine wpAny_Tuple_spliced (i4 (h pos pins s σ H _ I hq) fun us s1 ⟨xs,H1,I1,r,z,q⟩=>⟨by rw[←r.length];exact z,?_⟩)
 have hf:H1 s1.heap.objs.size=none:=I1.hok.fresh (Qm _)
 refine⟨.ref s1.heap.objs.size,upd H1 s1.heap.objs.size (.tup xs),I1.laid (t':=s1.toks) (fun b u e=>Qx _ e) (Qm _) ?_,rfl,q _ hf⟩
 exact⟨z,us,r,⟨_,Qh _ rfl,rfl,rfl,_,rfl⟩⟩
theorem Tl(h:PA X es t):PE X (.List es pos) (Ti t):=by
 intro pins s σ H Q I hq;refine wpAny_List_spliced (i4 (h pos pins s σ H _ I hq) fun us s1 ⟨xs,H1,I1,r,z,q⟩=>⟨by rw[←r.length];exact z,?_⟩)
 have hf:H1 s1.heap.objs.size=none:=I1.hok.fresh (Qm _)
 refine⟨.ref s1.heap.objs.size,upd H1 s1.heap.objs.size (.lst xs),I1.laid (t':=s1.toks) (fun b u e=>Qx _ e) (Qm _) ?_,rfl,q _ hf⟩
 exact⟨z,us,0,r,Qh _ rfl⟩
end
abbrev Sp:=List V->Hp->VK->XK->Prop
abbrev pJ:=List Env->Hp->Shared->XK->OE
structure oA(P:Program)(w:World)(K:Qq)(mg:OU)(base:Heap)(A:Around)(outer:List Env)(s:Shared)(H:Hp):Prop where
 frames:A.frames=some outer
 mod:Mod K mg base
 bs:∀b o,base.get? b=some o->s.heap.get? b=some o/\H b=none
 bsz:base.objs.size≤s.heap.objs.size
 funs:s.heap.FunFrames base outer
 frf:∀b∈lL outer,H b=none
 hok:mI P w H s.heap
 bare:AllBare s.gens
def CE(outer:List Env)(P:Program)(w:World)(H:Hp)(s:Shared)(Q:VK)(u:Value)(s':Shared):Prop:=
 ∃v H',s'.os=s.os/\AllBare s'.gens/\Un (lL outer) [] H H' s.heap s'.heap/\mI P w H' s'.heap/\D8 v u/\Q v H'
def CR(CX:pJ)(outer:List Env)(P:Program)(w:World)(H:Hp)(s:Shared)(Q:VK)(E:XK)(r:Result)(s':Shared):Prop:=
 match r with
 |.ok (.ret u)=>CE outer P w H s Q u s'
 |.ok _=>False
 |.error e=>CX outer H s E e s'
structure f6(P:Program)(w:World)(K:Qq)(mg:OU)(base:Heap)(CX:pJ)(k:Nat)(f:Addr)(fd:FuncData)(ps:List Str)(sp:Sp):Prop where
 len:∀vs H Q E,sp vs H Q E->vs.length=ps.length
 run:∀(A:Around) (outer:List Env) (s:Shared) (H:Hp) (args:Args) (us:List Value) (vs:List V) (Q:VK) (E:XK),g9 k A->oA P w K mg base A outer s H->BindsTo s fd args (ps.zip us)->D3 vs us->sp vs H Q E->
  codeAny (model P w) A (.call (.ref f) args) (CR CX outer P w H s Q E) s
section
variable{X:Cx}{pins:OX}{σ:St}{H:Hp}{s s':Shared}
theorem Inv.oB(I:Inv X pins σ H s):oA X.prog X.w X.K X.mg X.base X.A X.stack s H:=
 ⟨I.ok.frames,I.ok.mod,I.bs,Zs I.ok.bsz I.sz,I.stack,I.stkFree,I.hok,I.bare⟩
theorem Inv.after{Q:VK}{u:Value}(I:Inv X pins σ H s)(h:CE X.stack X.prog X.w H s Q u s'):EP X pins σ Q u s':=by
 obtain⟨v,H',os,bare,un,hok,r,q⟩:=h;obtain⟨hh,g,d,t,os'⟩:=s';obtain rfl:os'=s.os:=os;exact⟨v,H',I.call (h':=hh) (g':=g) (d':=d) (t':=t) (ch:=[]) un hok bare (fun b z=>absurd z (by simp)),r,q⟩
end
def FI(sp:Sp)(dvs:List V)(E:XK)(t:TA):TE:=fun σ H Q=>t σ H fun vs H1=>sp (vs++dvs) H1 Q E
def O6(K:Qq)(fd:FuncData)(ps:List Str)(ds:List Value):Prop:=
 ∀(s:Shared) (us:List Value),K.In s.heap->(us++ds).length=ps.length->BindsTo s fd ⟨us,[]⟩ (ps.zip (us++ds))
theorem O6.all{K:Qq}{fd:FuncData}{ps:List Str}(h:∀us:List Value,us.length=ps.length->bindArgs fd ⟨us,[]⟩=pure (ps.zip us)):O6 K fd ps []:=fun s us _ hl=>by
 rw[Yg]at hl ⊢;exact .of_eq (h us hl)
def Da(CX:pJ)(X:Cx)(E:XK):Prop:=∀(pins:OX) (σ:St) (H:Hp) (s:Shared) (e:Value) (s':Shared),Inv X pins σ H s->CX X.stack H s E e s'->X.xe e s'
section
variable{X:Cx}{CX:pJ}{k:Nat}{f C:Addr}{fd:FuncData}{ps:List Str}{sp:Sp}{dvs:List V}{ds:List Value}{E:XK}{x m:Str}{p pos apos:Pos}{e o:Expr}{es:List Expr}{ta:TE}{t:TA}
theorem LZ{pins:OX}{σ:St}{H:Hp}{s:Shared}{Q:VK}{us:List Value}{vs:List V}(F:f6 X.prog X.w X.K X.mg X.base CX k f fd ps sp)(hr:g9 k X.A)(hb:O6 X.K fd ps ds)(hd:D3 dvs ds)(hx:Da CX X E)
  (I:Inv X pins σ H s)(r:D3 vs us)(h:sp (vs++dvs) H Q E):wpAny (model X.prog X.w) X.A (call (.ref f) us) (EP X pins σ Q) X.xe s:=by
 have r2:D3 (vs++dvs) (us++ds):=r.append hd
 have hl:(us++ds).length=ps.length:=by rw[←r2.length];exact F.len _ _ _ _ h
 refine wpAny_call (Vi (F.run X.A X.stack s H ⟨us,[]⟩ (us++ds) (vs++dvs) Q E hr I.oB (hb s us I.kIn hl) r2 h) fun r s' hq=>?_)
 cases r with
 |error e=>exact hx pins σ H s e s' I hq
 |ok fl=>
  cases fl with
  |ret u=>exact I.after hq
  |next=>exact False.elim hq
  |brk=>exact False.elim hq
  |cont=>exact False.elim hq
theorem Dc(F:f6 X.prog X.w X.K X.mg X.base CX k f fd ps sp)(hr:g9 k X.A)(hg:Gl X x)(hm:X.mg x=some (.ref f))(hk:PySem.W.keepIn X.K (.ref f)=true)(hb:O6 X.K fd ps ds)(hd:D3 dvs ds)(hx:Da CX X E)
  (ha:PA X (e::es) t)(hdb:(x==("__debug__":Str))=false:=by decide)(he:starEach (e::es) X.env=(false,eval e X.env)::starEach es X.env:=by rfl)(hpl:(backTo pos (starEach es X.env)).any (·.1)=false:=by rfl):
  PE X (.Call (.Name x p) (e::es) [] pos) (FI sp dvs E t):=by
 intro pins s σ H Q I h;refine Yo (DX I hg hm ?_ hdb);refine PySem.W.callWith_K (h₀:=X.base) I.ok.mod.kin hk (i4 (ha pos pins s σ H _ I h) fun us s1 ⟨vs,H1,I1,r,q⟩=>⟨I1.kIn,?_⟩) he hpl
 exact LZ F hr hb hd hx I1 r q
structure Mk(K:Qq)(C f:Addr):Prop where
 makes:PySem.W.makesIn K C=true
 init:PySem.W.findIn K (.ref C) "__init__"=some (some (.ref f))
 fn:PySem.W.isFn K (.ref f)=true
 kp:PySem.W.keepIn K (.ref C)=true
end
section
variable{X:Cx}{CX:pJ}{k:Nat}{f C:Addr}{fd:FuncData}{ps ks:List Str}{sp:Sp}{E:XK}{x m:Str}{p pos apos kpos:Pos}{e o:Expr}{es:List Expr}{kws:List Keyword}{te ta:TE}{t tk:TA}{nm:Option Str}
structure tT(K:Qq)(fd:FuncData)(ps ks:List Str)(g:List Value->List Value->List Value)(gV:List V->List V->List V):Prop where
 to:∀(s:Shared) (us ws:List Value),K.In s.heap->(g us ws).length=ps.length->BindsTo s fd ⟨us,ks.zip ws⟩ (ps.zip (g us ws))
 rel:∀{vs:List V}{us:List Value}{zs:List V}{ws:List Value},D3 vs us->D3 zs ws->D3 (gV vs zs) (g us ws)
variable{g:List Value->List Value->List Value}{gV:List V->List V->List V}
end
structure c4(N P:List Str)(sc:Scope):Prop where
 kind:sc.kind=.function
 co:sc.isCoroutine=false
 gen:sc.isGenerator=false
 nd:N.Nodup
 pre:N.take P.length=P
 par:∀x∈P,sc.names.lookup x=some .local\/sc.names.lookup x=some .cell
 nofree:∀y∈sc.names,y.2≠.free
theorem La{kindOf:Str->Option NameKind}{x:Str}:∀{binds:List (Str×Value)}{m:OU},(∀v,(x,v)∉binds)->bindL kindOf binds m x=m x
 |[],_,_=>rfl
 |(n,v)::r,m,h=>by
  unfold bindL;rw[La fun w hw=>h w (Qe _ hw)]
  split
  ·have:x≠n:=by rintro rfl;exact h v Zu
   simp[this]
  ·rfl
theorem Lb{kindOf:Str->Option NameKind}{x:Str}:∀{binds:List (Str×Value)}{m:OU},(∀v,(x,v)∉binds)->bindC kindOf binds m x=m x
 |[],_,_=>rfl
 |(n,v)::r,m,h=>by
  unfold bindC;rw[Lb fun w hw=>h w (Qe _ hw)]
  split
  ·rfl
  ·have:x≠n:=by rintro rfl;exact h v Zu
   simp[this]
theorem Lc{kindOf:Str->Option NameKind}{x:Str}{v:Value}:∀{P:List Str}{vs:List Value}{i:Nat}{m:OU},P.Nodup->P[i]? =some x->vs[i]? =some v->kindOf x=some .local->
  bindL kindOf (P.zip vs) m x=some v
 |[],_,_,_,_,h,_,_=>by simp at h
 |_::_,[],_,_,_,_,h,_=>by simp at h
 |p::P,w::vs,0,m,nd,h1,h2,hk=>by
  simp at h1 h2;subst h1;subst h2
  show bindL kindOf ((p,w)::P.zip vs) m p=_;unfold bindL;rw[La fun v hv=>(Uk.mp nd).1 (Vt hv).1,Qc hk]
  simp
 |p::P,w::vs,i+1,m,nd,h1,h2,hk=>by
  show bindL kindOf ((p,w)::P.zip vs) m x=_;unfold bindL;exact Lc (i:=i) (Uk.mp nd).2 (by simpa using h1) (by simpa using h2) hk
theorem Ld{kindOf:Str->Option NameKind}{x:Str}{v:Value}:∀{P:List Str}{vs:List Value}{i:Nat}{m:OU},P.Nodup->P[i]? =some x->vs[i]? =some v->kindOf x≠some .local->
  bindC kindOf (P.zip vs) m x=some v
 |[],_,_,_,_,h,_,_=>by simp at h
 |_::_,[],_,_,_,_,h,_=>by simp at h
 |p::P,w::vs,0,m,nd,h1,h2,hk=>by
  simp at h1 h2;subst h1;subst h2
  show bindC kindOf ((p,w)::P.zip vs) m p=_;unfold bindC;rw[Lb fun v hv=>(Uk.mp nd).1 (Vt hv).1,Qt hk]
  simp
 |p::P,w::vs,i+1,m,nd,h1,h2,hk=>by
  show bindC kindOf ((p,w)::P.zip vs) m x=_;unfold bindC;exact Ld (i:=i) (Uk.mp nd).2 (by simpa using h1) (by simpa using h2) hk
def start(N:List Str)(vs:List V):St:=vs.map some++List.replicate (N.length-vs.length) none
def M9(CX:pJ)(P:Program)(w:World)(K:Qq)(mg:OU)(base:Heap)(N:List Str)(qual:Str)(scope:Scope)(f:Addr)(cd:Value)(A:Around)(outer:List Env)(s:Shared)(H:Hp)(E:XK):Cx where
 prog:=P
 w:=w
 K:=K
 mg:=mg
 base:=base
 A:=A.deeper (envOfC qual scope s.heap.objs.size f cd)
 N:=N
 s₀:=s
 H₀:=H
 env:=envOfC qual scope s.heap.objs.size f cd
 outer:=outer
 stack:=envOfC qual scope s.heap.objs.size f cd::outer
 ex:=[]
 calm:=true
 fn:=fun _=>true
 pn:=[]
 xe:=fun e s'=>wpAny (model P w) (A.deeper (envOfC qual scope s.heap.objs.size f cd)) (leaving (envOfC qual scope s.heap.objs.size f cd) e) (fun _ s''=>CX outer H s E e s'') (fun e' s''=>CX outer H s E e' s'') s'
theorem Lf{sc:Scope}{n:Nat}{x:Str}(h:sc.names.lookup x=some .cell):∃c,(cellsFrom n sc.names []).lookup x=some c:=by
 have q:=Uh sc.names n [] (.inl h)
 exact Yj.mp q
theorem Lg{CX:pJ}{P:Program}{w:World}{K:Qq}{mg:OU}{base:Heap}{N ps:List Str}{qual:Str}{scope:Scope}{f:Addr}{cd:Value}{A:Around}{outer:List Env}{s s1:Shared}{H:Hp}{E:XK}{us:List Value}{vs:List V}
  (S:c4 N ps scope)(hd:A.handled=none)(e0:oA P w K mg base A outer s H)(hl:vs.length=ps.length)(r:D3 vs us)
  (x:InCallC s s.heap.objs.size (bindL (envOfC qual scope s.heap.objs.size f cd).kindOf (ps.zip us) fun _=>none) (cellsFrom (s.heap.objs.size+1) scope.names []) (bindC (envOfC qual scope s.heap.objs.size f cd).kindOf (ps.zip us) fun _=>none) s1):
  Inv (M9 CX P w K mg base N qual scope f cd A outer s H E) [] (start N vs) H s1:=by
 have hpl:ps.length≤N.length:=by have:=Za List.length S.pre;rw[Yi]at this;omega
 obtain⟨h1,tk,rfl,hk⟩:=x.done;have noA:∀b:Addr,b∉(M9 CX P w K mg base N qual scope f cd A outer s H E).ex:=fun b z=>absurd (show b∈([]:List Addr)from z) (by simp)
 refine⟨⟨e0.mod,S.kind,rfl,rfl,Qm _,fun y z c h1 h2=>?_,fun y hy=>?_,fun y c _ h=>?_,fun _=>hd,Around.frames_deeper e0.frames,.inr ⟨rfl,rfl⟩,fun b z=>absurd z (noA b),e0.bs,e0.bsz,fun b _ _=>noA b,fun b z=>absurd z (noA b),e0.funs,e0.frf⟩,
  rfl,e0.bare,Un.kept hk,⟨_,x.toInCall.ns,fun i y v h1 h2 h3=>?_⟩,fun y c h=>⟨_,x.cell y c h⟩,e0.hok.fresh (Qm _),fun y c h=>?_,fun p hp=>absurd (show p∈([]:OX)from hp) (by simp),e0.hok.kept hk,?_⟩
 ·exact name_of_addr x.apart (Zj h1) (Zj h2)
 ·have hy:scope.names.lookup y=some .cell\/scope.names.lookup y=some .free:=hy
  rcases hy with hy|hy
  ·exact Lf hy
  ·exact absurd rfl (S.nofree _ (Zj hy))
 ·exact Jx (x.above y c (Zj h))
 ·have hi:i<vs.length:=by
   unfold start at h2
   by_cases hi:i<vs.length
   ·exact hi
   ·rw[Ys (by simpa using hi)]at h2
    rw[Jp]at h2;split at h2<;>cases h2
  have ha:vs[i]? =some v:=by
   unfold start at h2;rw[Yz (by simpa using hi),Zy]at h2
   cases e:vs[i]? with
   |none=>rw[e]at h2;cases h2
   |some a=>rw[e]at h2;cases h2;rfl
  obtain⟨u,hu,rv⟩:=r.get ha;have hp:ps[i]? =some y:=by
   rw[←S.pre,List.getElem?_take_of_lt (by omega)];exact h1
  have ndP:ps.Nodup:=by rw[←S.pre];exact S.nd.sublist (List.take_sublist _ _)
  refine⟨u,rv,?_⟩
  rcases S.par y (Jk hp)with k|k
  ·exact .inl ⟨k,Lc ndP hp hu k⟩
  ·obtain⟨c,e⟩:=Lf (n:=s.heap.objs.size+1) k
   refine .inr ⟨.inl k,c,e,?_⟩;have q:=x.cell y c e;rw[Ld ndP hp hu (by show scope.names.lookup y≠_;rw[k];decide)]at q
   exact q
 ·exact e0.hok.fresh (Jx (x.above y c (Zj h)))
 ·unfold start
  show _=N.length;rw[Ql,Qk,Zt]
  omega
theorem HX{CX:pJ}{P:Program}{w:World}{K:Qq}{mg:OU}{base:Heap}{k:Nat}{f:Addr}{name qual:Str}{params:Arguments}{body:List Stmt}{scope:Scope}{dV kV doc pm cdv ct oc:Value}{an od:Option Addr}
  {osl:Array (Option Value)}{N ps:List Str}{sp:Sp}(lk:K.lookup f=some ⟨oc,od,.func (PySem.W.fnOf name qual params body scope dV kV doc pm an cdv ct),osl⟩)(hcd:PySem.W.codeIn K cdv qual=true)(S:c4 N ps scope)
  (len:∀vs H Q E,sp vs H Q E->vs.length=ps.length)
  (hbody:∀(A:Around) (outer:List Env) (s:Shared) (H:Hp) (vs:List V) (Q:VK) (E:XK),g9 k (A.deeper (envOfC qual scope s.heap.objs.size f cdv))->sp vs H Q E->
   ∃t,m9 (M9 CX P w K mg base N qual scope f cdv A outer s H E) body t/\t {nx:=fun _ H'=>Q .non H',rt:=Q} (start N vs) H):
  f6 P w K mg base CX (k+1) f (PySem.W.fnOf name qual params body scope dV kV doc pm an cdv ct) ps sp:=by
 refine⟨len,fun A outer s H args us vs Q E hr e0 hb r hsp=>?_⟩
 have hl:=len _ _ _ _ hsp
 have KX:K.In s.heap:=e0.mod.kin.keeps fun b o e=>(e0.bs b o e).1
 have lim:s.heap.NoLimit:=e0.mod.nolimit.keeps fun b o e=>(e0.bs b o e).1
 have hkind:∀y∈ps.zip us,scope.names.lookup y.1=some .local\/(scope.names.lookup y.1=some .cell/\((cellsFrom (s.heap.objs.size+1) scope.names []).lookup y.1).isSome=true):=fun⟨n,v⟩ hy=>by
  rcases S.par n (Vt hy).1 with q|q
  ·exact .inl q
  ·exact .inr ⟨q,Uh _ _ _ (.inl q)⟩
 refine codeAny_call_function hr.depth (KX _ _ lk) rfl S.co S.gen rfl (PySem.W.codeRec_of KX hcd) (hb _ _ _ _ ?_);refine wpAny_newFunctionEnv_cells S.kind hkind fun env he s1 x=>?_
 subst he;refine⟨lim.keeps x.toInCall.keep,codeAny_func ?_⟩;obtain⟨t,ht,hq⟩:=hbody A outer s H vs Q E (hr.deeper _) hsp;have I:Inv (M9 CX P w K mg base N qual scope f cdv A outer s H E) [] (start N vs) H s1:=Lg S hr.hd e0 hl r x;refine Qi (ht [] s1 (start N vs) H _ I hq) (fun fl s' hs=>?_) fun e s' hs=>hs
 have fin:∀{σ':St}{H':Hp}{v:V}{u:Value},Inv (M9 CX P w K mg base N qual scope f cdv A outer s H E) [] σ' H' s'->D8 v u->Q v H'->CE outer P w H s Q u s':=
  fun{σ' H' v u} J rv q=>⟨v,H',J.os,J.bare,J.base,J.hok,rv,q⟩
 cases fl with
 |ret u=>
  obtain⟨v,σ',H',J,rv,q⟩:=hs;exact fin J rv q
 |next=>
  obtain⟨σ',H',J,q⟩:=hs;exact fin (v:=V.non) (u:=Value.none) J rfl q
 |brk=>
  obtain⟨_,_,_,q⟩:=hs;exact False.elim q
 |cont=>
  obtain⟨_,_,_,q⟩:=hs;exact False.elim q
section
variable{X:Cx}{x:Str}{p pos:Pos}{e:Expr}{es:List Expr}{t:TA}{id T:String}{r:List V->Hp->VK->Prop}
def sN(r:List V->Hp->VK->Prop)(t:TA):TE:=fun σ H Q=>t σ H fun vs H1=>r vs H1 Q
theorem De(hc:O2 X (.builtin id) r)(hg:Gl X x)(hm:X.mg x=none)(hv:bootBuiltins x=some (.builtin id))(ha:PA X (e::es) t)(hn:x≠"__name__":=by decide)(hdb:(x==("__debug__":Str))=false:=by decide)
  (he:starEach (e::es) X.env=(false,eval e X.env)::starEach es X.env:=by rfl)(hpl:(backTo pos (starEach es X.env)).any (·.1)=false:=by rfl):PE X (.Call (.Name x p) (e::es) [] pos) (sN r t):=by
 intro pins s σ H Q I h;refine Yo (BA I hg hm hv ?_ hn hdb);exact PyProof.Rows.callWith_builtin1 (i4 (ha pos pins s σ H _ I h) fun us s1 ⟨vs,H1,I1,r1,q1⟩=>hc pins s1 σ H1 vs us Q I1 r1 q1) he hpl
theorem Lh(hc:O2 X (.type T) r)(hg:Gl X x)(hm:X.mg x=none)(hv:bootBuiltins x=some (.type T))(ha:PA X (e::es) t)(hn:x≠"__name__":=by decide)(hdb:(x==("__debug__":Str))=false:=by decide)
  (he:starEach (e::es) X.env=(false,eval e X.env)::starEach es X.env:=by rfl)(hpl:(backTo pos (starEach es X.env)).any (·.1)=false:=by rfl):PE X (.Call (.Name x p) (e::es) [] pos) (sN r t):=by
 intro pins s σ H Q I h;refine Yo (BA I hg hm hv ?_ hn hdb);exact Jl (i4 (ha pos pins s σ H _ I h) fun us s1 ⟨vs,H1,I1,r1,q1⟩=>hc pins s1 σ H1 vs us Q I1 r1 q1) he hpl
end
end L2
namespace HT
open PySem PyProof.Rows
def lexLt:List Int->List Int->Bool
 |[],[]=>false
 |[],_::_=>true
 |_::_,[]=>false
 |x::xs,y::ys=>if x=y then lexLt xs ys else decide (x<y)
section
open PySem.SeqAt
open PySem.AutoSeq1 (wpAny_loadPart')
open PySem.MeetsSeq PySem.MeetsSeq2 PySem.MeetsSeq3
end
section
variable{prog:Program}{w:World}{A:Around}{E:OE}{s:Shared}
def j8(n d:Nat):Option Int->Nat
 |none=>d
 |some v=>if v<0 then(v+(n:Int)).toNat else min v.toNat n
theorem p9(n d k:Nat):j8 n d (some (k:Int))=min k n:=by
 show(if(k:Int)<0 then((k:Int)+(n:Int)).toNat else min (k:Int).toNat n)=min k n
 rw[Qt (by omega),Ji]
theorem qS(n d:Nat)(hd:d≤n)(o:Option Int):j8 n d o≤n:=by
 cases o with
 |none=>exact hd
 |some v=>
  show(if v<0 then(v+(n:Int)).toNat else min v.toNat n)≤n
  by_cases hv:v<0
  ·rw[Qc hv];omega
  ·rw[Qt hv];exact Nat.min_le_right _ _
theorem oW(v:Int)(n d:Nat):(if v<0 then max (v+(n:Int)) 0 else min v (n:Int))=((j8 n d (some v):Nat):Int):=by
 show(if v<0 then max (v+(n:Int)) 0 else min v (n:Int))=(((if v<0 then(v+(n:Int)).toNat else min v.toNat n):Nat):Int)
 by_cases hv:v<0
 ·simp only[Qc hv];omega
 ·simp only[Qt hv];omega
theorem oN(lo hi:Option Int)(n:Nat):Builtin.Slice.sliceAdjust lo hi 1 (n:Int)=(((j8 n 0 lo:Nat):Int),((j8 n n hi:Nat):Int)):=by
 have h1:¬ ((1:Int)<0):=by omega
 unfold Builtin.Slice.sliceAdjust;simp only[h1,Yu];refine Jo ?_ ?_
 ·cases lo with
  |none=>rfl
  |some v=>exact oW v n 0
 ·cases hi with
  |none=>rfl
  |some v=>exact oW v n n
theorem oO(i j:Nat):Builtin.Slice.slicePlaces (i:Int) (j:Int) 1=j-i:=by
 unfold Builtin.Slice.slicePlaces;have h1:(1:Int)>0:=by omega
 simp only[h1,Zm,Int.ediv_one];split<;>omega
theorem nC{v:Value}{o:Option Int}{Q:Option Int->Shared->Prop}(p:IsPart v o)(h:Q o s):wpAny (model prog w) A (Builtin.Slice.slicePartIndex v) Q E s:=by
 cases p with
 |none=>exact slicePart_none h
 |int i t=>exact slicePart_int h
theorem k8{sl:Addr}{vl vu:Value}{lo hi:Option Int}{n:Nat}{Q:Int×Int×Nat->Shared->Prop}(hs:s.heap.IsSliceOf sl vl vu .none)(pl:IsPart vl lo)(pu:IsPart vu hi)
  (h:Q (((j8 n 0 lo:Nat):Int),1,j8 n n hi-j8 n 0 lo) s):wpAny (model prog w) A (Builtin.Slice.sliceApplied (.ref sl) (pure (n:Int))) Q E s:=by
 obtain⟨os,hos,hcs,hds⟩:=id hs;unfold Builtin.Slice.sliceApplied Builtin.Slice.sliceFields;refine Qz (Qz (Zr hos hds (x:=vl) rfl (Qz (Zr hos hds (x:=vu) rfl (Qz (Zr hos hds (x:=.none) rfl (Qv ?_)))))));refine Qz (slicePart_none ?_);show wpAny _ _ (if((1:Int)==0)=true then _ else _) _ _ s
 rw[Qt (by decide)]
 refine Qz (nC pl (Qz (nC pu (Qz (Qv ?_)))));show wpAny _ _ (match Builtin.Slice.sliceAdjust lo hi 1 (n:Int)with|(lo,hi)=>pure (lo,(1:Int),Builtin.Slice.slicePlaces lo hi 1)) _ _ s
 rw[oN lo hi n];show wpAny _ _ (pure (((j8 n 0 lo:Nat):Int),(1:Int),Builtin.Slice.slicePlaces ((j8 n 0 lo:Nat):Int) ((j8 n n hi:Nat):Int) 1)) _ _ s;rw[oO];exact Qv h
theorem pK(xs:Array Value)(i k:Nat):((List.range k).filterMap fun(m:Nat)=>xs[((i:Int)+(m:Int) * 1).toNat]?).toArray=((xs.toList.drop i).take k).toArray:=by
 have e:(fun(m:Nat)=>xs[((i:Int)+(m:Int) * 1).toNat]?)=fun m=>xs[i+m]?:=by
  funext m
  have:((i:Int)+(m:Int) * 1).toNat=i+m:=by omega
  rw[this]
 rw[e];have:=pick_run xs i k;rw[List.filterMap_map]at this;have e2:((fun x=>xs[x]?)∘fun x=>i+x)=fun m=>xs[i+m]?:=rfl
 rw[e2]at this;rw[this]
theorem mJ{t sl:Addr}{items:Array Value}{vl vu:Value}{lo hi:Option Int}{Q:OE}(ht:IsTup s.heap t items)(hs:s.heap.IsSliceOf sl vl vu .none)(pl:IsPart vl lo)(pu:IsPart vu hi)
  (hw:¬ (j8 items.size 0 lo=0/\j8 items.size items.size hi=items.size))
  (h:Q (.ref s.heap.objs.size) {s with heap:=s.heap.push {cls:=.type "tuple",data:=.seq ((items.toList.drop (j8 items.size 0 lo)).take (j8 items.size items.size hi-j8 items.size 0 lo)).toArray}})
  (hsz:items.size≤sizeLine):wpAny (model prog w) A (getItem (.ref t) (.ref sl)) Q E s:=by
 have htake:sizeOk (.seq ((items.toList.drop (j8 items.size 0 lo)).take (j8 items.size items.size hi-j8 items.size 0 lo)).toArray):=by
  show((items.toList.drop (j8 items.size 0 lo)).take (j8 items.size items.size hi-j8 items.size 0 lo)).toArray.size≤sizeLine;rw[Qp,Yi,Xo,Ue]
  omega
 have hj:j8 items.size items.size hi≤items.size:=qS _ _ (Qm _) hi
 obtain⟨os,hos,hcs,hds⟩:=id hs;have hTs:s.TypeIs (.ref sl) "slice":=⟨os,hos,hcs⟩;unfold getItem
 try with_reducible refine Jy ?_
 first|refine Qz (Qv ?_)|skip
 refine Qz (wpAny_sequenceKey ht.typeIs (by decide) ?_)
 refine Qz (Yw (name:=Str.ofString "__getitem__") ht.typeIs Zw
  (Jh Zw ht.typeIs entry_tuple_getitem ?_ (args_tuple_getitem _ _)))
 show wpAny _ _ (Builtin.Tuple.tupleItemsOf (.ref t)>>=_) _ _ s;refine Qz (tupleItemsOf_ ht ?_);refine Qz (wpAny_typeOf hTs ?_);rw[Qc (by decide)]
 refine Qz (k8 hs pl pu ?_);have hno:¬ ((((j8 items.size 0 lo:Nat):Int)==0&&(1:Int)==1&&(j8 items.size items.size hi-j8 items.size 0 lo)==items.size)=true):=by
  intro q;rw[Qw,Qw]at q;have q1:((j8 items.size 0 lo:Nat):Int)=0:=Uv q.1.1;have q2:j8 items.size items.size hi-j8 items.size 0 lo=items.size:=Uv q.2;exact hw ⟨by omega,by omega⟩
 show wpAny _ _ (if(((j8 items.size 0 lo:Nat):Int)==0&&(1:Int)==1&&(j8 items.size items.size hi-j8 items.size 0 lo)==items.size)=true then _ else _) _ _ s
 rw[Qt hno,pK]
 first
  |exact Qz (m:=Builtin.Tuple.tupleExact _) (Zc (Qv ⟨_,rfl,Qv h⟩) htake)
  |exact Qz (m:=Builtin.Tuple.tupleExact _) (Zc (Qz (Qv (Qv ⟨_,rfl,Qv h⟩))) htake)
  |exact Qz (Qz (m:=Builtin.Tuple.tupleExact _) (Zc (Qv (Qv ⟨_,rfl,Qv h⟩)) htake))
  |exact Qz (Qz (m:=Builtin.Tuple.tupleExact _) (Zc (Qv ⟨_,rfl,Qv h⟩) htake))
end
end HT
namespace L2
open PySem PySem.Spec PyProof.Rows
abbrev TO:=St->Hp->(Option Int->Hp->Prop)->Prop
def PO(X:Cx)(e:Option Expr)(t:TO):Prop:=
 ∀(pins:OX) (s:Shared) (σ:St) (H:Hp) (Q:Option Int->Hp->Prop),Inv X pins σ H s->t σ H Q->
  wpAny (model X.prog X.w) X.A (evalPart e X.env) (fun u s'=>∃o H',Inv X pins σ H' s'/\IsPart u o/\Q o H') X.xe s
def Tn:TO:=fun _ H Q=>Q none H
def To(t:TE):TO:=fun σ H Q=>t σ H fun x H1=>∃i,x=.int i/\Q (some i) H1
theorem Dg{ns:List Int}:∀{us:List Value},D3 (ns.map V.int) us->IntsAre us ns:=by
 induction ns with
 |nil=>intro us r;rw[Va]at r;cases r;exact .nil
 |cons n ns ih=>
  intro us r;rw[Qr]at r;cases r with
  |cons r1 r2=>
   obtain⟨t,e⟩:=r1;subst e;exact .cons n t (ih r2)
section
variable{X:Cx}{e:Expr}{te:TE}{lo hi:Option Expr}{tl th:TO}{pos p2:Pos}
theorem Tp:PO X none Tn:=by
 intro pins s σ H Q I h;rw[evalPart_none];exact Qv ⟨none,H,I,.none,h⟩
theorem Tr(h:PE X e te):PO X (some e) (To te):=by
 intro pins s σ H Q I hw;rw[evalPart_some];refine i4 (h pins s σ H _ I hw) fun u s1 ⟨x,H1,I1,r1,q1⟩=>?_
 obtain⟨i,rfl,q⟩:=q1;obtain⟨t,rfl⟩:=r1;exact⟨some i,H1,I1,.int i t,q⟩
def tU(X:Cx)(r:V->Option Int->Option Int->Hp->VK->Prop):Prop:=
 ∀(pins:OX) (s:Shared) (σ:St) (H:Hp) (x:V) (v vl vu:Value) (lo hi:Option Int) (sl:Addr) (Q:VK),Inv X pins σ H s->D8 x v->s.heap.IsSliceOf sl vl vu .none->IsPart vl lo->IsPart vu hi->r x lo hi H Q->
  ∃T id,typeLookup (.type T) "__getitem__"=pure (some (.builtin id))/\s.TypeIs v T/\wpAny (model X.prog X.w) X.A (getItem v (.ref sl)) (EP X pins σ Q) X.xe s
def vZ(r:V->Option Int->Option Int->Hp->VK->Prop)(te:TE)(tl th:TO):TE:=fun σ H Q=>te σ H fun x H1=>tl σ H1 fun l H2=>th σ H2 fun u H3=>r x l u H3 Q
theorem Ts{r:V->Option Int->Option Int->Hp->VK->Prop}(hr:tU X r)(he:PE X e te)(hl:PO X lo tl)(hu:PO X hi th):PE X (.Subscript e (.Slice lo hi none p2) pos) (vZ r te tl th):=by
 intro pins s σ H Q I h;refine Subscript_ (i4 (he pins s σ H _ I h) fun v s1 ⟨x,H1,I1,r1,q1⟩=>?_)
 refine wpAny_Slice (i4 (hl pins s1 σ H1 _ I1 q1) fun vl s2 ⟨l,H2,I2,pl,q2⟩=>i4 (hu pins s2 σ H2 _ I2 q2) fun vu s3 ⟨u,H3,I3,pu,q3⟩=>?_)
 rw[evalPart_none];refine Qv ?_
 have I4:Inv X pins σ H3 {s3 with heap:=s3.heap.push {cls:=.type "slice",data:=.fields #[vl,vu,.none]}}:=I3.kept (t':=s3.toks) fun b ob q=>Qx _ q
 obtain⟨T,id,hT,ht,hg⟩:=hr pins {s3 with heap:=s3.heap.push {cls:=.type "slice",data:=.fields #[vl,vu,.none]}} σ H3 x v vl vu l u s3.heap.objs.size Q I4 r1 (Heap.IsSliceOf.new ..) pl pu q3
 show wpAny (model X.prog X.w) X.A (subscriptTail e (.Slice lo hi none p2) v (.ref s3.heap.objs.size)) (EP X pins σ Q) X.xe {s3 with heap:=s3.heap.push {cls:=.type "slice",data:=.fields #[vl,vu,.none]}}
 exact tail_any (ops:=[.ref s3.heap.objs.size,v]) ht hT hg (by with_unfolding_all rfl)
def Bm(xs:List V)(lo hi:Option Int):List V:=(xs.drop (HT.j8 xs.length 0 lo)).take (HT.j8 xs.length xs.length hi-HT.j8 xs.length 0 lo)
theorem Tt(xs:List V)(lo hi:Option Int):(Bm xs lo hi).length≤xs.length:=by
 unfold Bm;rw[Yi,Xo]
 omega
def Tu(K:Qq):V->Option Int->Option Int->Hp->VK->Prop:=fun x lo hi H Q=>∃a xs,x=.ref a/\lY K H a xs/\
 ¬ (HT.j8 xs.length 0 lo=0/\HT.j8 xs.length xs.length hi=xs.length)/\∀p,H p=none->Q (.ref p) (upd H p (.tup (Bm xs lo hi)))
theorem Li:tU X (Tu X.K):=by
 intro pins s σ H x v vl vu lo hi sl Q I rx hs pl pu h;obtain⟨a,xs,rfl,hx,hw,q⟩:=h;cases rx;obtain⟨its,r,ht,hz⟩:=I.tuple hx;have hlen:its.toArray.size=xs.length:=by rw[Qp];exact r.length.symm
 refine⟨"tuple",_,Zw.lookup,ht.typeIs,?_⟩;refine HT.mJ ht hs pl pu (by rw[hlen];exact hw) ?_ (by rw[hlen];exact hz)
 rw[hlen];refine⟨.ref s.heap.objs.size,_,I.laid (t':=s.toks) (o:=.tup (Bm xs lo hi)) (fun b ob q=>Qx _ q) (Qm _) ?_,rfl,q _ (I.hok.fresh (Qm _))⟩
 exact⟨Zs (Tt xs lo hi) hz,_,(r.drop (HT.j8 xs.length 0 lo)).take (HT.j8 xs.length xs.length hi-HT.j8 xs.length 0 lo),V8.new _ _⟩
theorem D3.nil_iff{xs:List V}{us:List Value}(r:D3 xs us):us=[]↔xs=[]:=by
 cases r with
 |nil=>simp
 |cons _ _=>simp
end
def qT(n:Nat)(i:Int):Option Nat:=if 0≤i then(if i<n then some i.toNat else none)else if-(n:Int)≤i then some (i+n).toNat else none
def o5{α:Type}(xs:List α)(i:Int):Option α:=(qT xs.length i).bind fun j=>xs[j]?
theorem Lj{n:Nat}{i:Int}{j:Nat}(h:qT n i=some j):seqIndex? i n=some j/\j<n/\ -(n:Int)≤i/\i<n:=by
 unfold qT at h
 by_cases h0:0≤i
 ·rw[Qc h0]at h
  by_cases h1:i<n
  ·rw[Qc h1]at h
   have e:i.toNat=j:=Yv h
   exact⟨by rw[seqIndex_of h0 h1,e],by omega,by omega,h1⟩
  ·rw[Qt h1]at h;cases h
 ·rw[Qt h0]at h
  by_cases h1: -(n:Int)≤i
  ·rw[Qc h1]at h
   have e:(i+n).toNat=j:=Yv h
   exact⟨by rw[seqIndex_neg (by omega) h1,e],by omega,h1,by omega⟩
  ·rw[Qt h1]at h;cases h
theorem HY{α:Type}{xs:List α}{i:Int}{v:α}(h:o5 xs i=some v):∃j,seqIndex? i xs.length=some j/\xs[j]? =some v/\j<xs.length/\ -(xs.length:Int)≤i/\i<xs.length:=by
 unfold o5 at h;cases e:qT xs.length i with
 |none=>rw[e]at h;cases h
 |some j=>
  rw[e]at h;obtain⟨h1,h2,h3,h4⟩:=Lj e;exact⟨j,h1,h,h2,h3,h4⟩
def Dh(b:Expr):Prop:=∀o i,subscripted b false o i=operate [o,i] (getItem o i)
def qA(X:Cx)(r:R2):Prop:=
 ∀(value slice:Expr) (pins:OX) (s:Shared) (σ:St) (H:Hp) (x y:V) (v u:Value) (Q:VK),Inv X pins σ H s->D8 x v->D8 y u->r x y H Q->
  subscripted slice false v u=operate [v,u] (getItem v u)->wpAny (model X.prog X.w) X.A (subscriptTail value slice v u) (EP X pins σ Q) X.xe s
def v7(X:Cx)(id:String)(r:V->List V->Hp->VK->Prop):Prop:=
 ∀(pins:OX) (s:Shared) (σ:St) (H:Hp) (x:V) (xs:List V) (v:Value) (us:List Value) (Q:VK),Inv X pins σ H s->D8 x v->D3 xs us->r x xs H Q->
  wpAny (model X.prog X.w) X.A (call (.builtin id) (v::us)) (EP X pins σ Q) X.xe s
section
variable{X:Cx}{a b:Expr}{ta tb:TE}{pos:Pos}
theorem qA.or{r r':R2}(h:qA X r)(h':qA X r'):qA X (fun x y H Q=>r x y H Q\/r' x y H Q):=by
 intro value slice pins s σ H x y v u Q I rx ry q hs
 rcases q with q|q
 ·exact h value slice pins s σ H x y v u Q I rx ry q hs
 ·exact h' value slice pins s σ H x y v u Q I rx ry q hs
theorem Lk{r:R2}(hr:qA X r)(ha:PE X a ta)(hb:PE X b tb)(hs:Dh b):PE X (.Subscript a b pos) (r9 r ta tb):=by
 intro pins s σ H Q I h;exact Subscript_ (HR ha hb I h fun v u s2 x y H2 I2 rx ry q=>hr a b pins s2 σ H2 x y v u Q I2 rx ry q (hs _ _))
def Ll(K:Qq):R2:=fun x y H Q=>∃p xs i v,x=.ref p/\y=.int i/\lX K H p xs/\o5 xs i=some v/\Q v H
def Lm(K:Qq):R2:=fun x y H Q=>∃p xs i v,x=.ref p/\y=.int i/\lY K H p xs/\o5 xs i=some v/\Q v H
def Ln:R2:=fun x y H Q=>∃z i c,x=.str z/\y=.int i/\z.length≤sizeLine/\o5 z.cps.toList i=some c/\Q (.str ⟨#[c]⟩) H
theorem Lo:qA X (Ll X.K):=by
 intro value slice pins s σ H x y v u Q I rx ry h hs;obtain⟨p,xs,i,z,rfl,rfl,hq,he,q⟩:=h;cases rx;obtain⟨t,rfl⟩:=ry;obtain⟨its,r,pl,hz⟩:=I.list hq;obtain⟨j,h1,h2,h3,h4,h5⟩:=HY he;obtain⟨w,ew,rw'⟩:=r.get h2;have hl:=r.length;have hn:=DY;have fin:EP X pins σ Q w s:=⟨z,H,I,rw',q⟩
 by_cases h0:0≤i
 ·have hj:i.toNat=j:=by
   rw[seqIndex_of h0 h5]at h1;exact Yv h1
  exact item_listR pl.isList h0 (by omega) (by rw[hj];simpa using ew) fin hs
 ·have hj:(i+(its.toArray.size:Int)).toNat=j:=by
   rw[seqIndex_neg (by omega) h4]at h1
   rw[Qp,←hl];exact Yv h1
  exact subscriptTail_builtinR (x:=w) pl.isList.typeIs slot_list_getitem.lookup
   (wpAny_getItem_list_neg (Q:=fun r s'=>r=w/\EP X pins σ Q r s') pl.isList (by omega) (by rw[Qp]<;>omega) (by omega) (by rw[hj];simpa using ew) ⟨rfl,fin⟩) hs
theorem UA:qA X (Lm X.K):=by
 intro value slice pins s σ H x y v u Q I rx ry h hs;obtain⟨p,xs,i,z,rfl,rfl,hq,he,q⟩:=h;cases rx;obtain⟨t,rfl⟩:=ry;obtain⟨its,r,pl,hz⟩:=I.tuple hq;obtain⟨j,h1,h2,h3,h4,h5⟩:=HY he;obtain⟨w,ew,rw'⟩:=r.get h2;have hl:=r.length;have hn:=DY;have fin:EP X pins σ Q w s:=⟨z,H,I,rw',q⟩;exact subscriptTail_builtinR (x:=w) pl.typeIs slot_tuple_getitem.lookup
  (getItem_tuple (j:=j) (Q:=fun r s'=>r=w/\EP X pins σ Q r s') pl (by omega) (by omega) (by rw[Qp,←hl];exact h1) (by simpa using ew) ⟨rfl,fin⟩) hs
theorem UB:qA X Ln:=by
 intro value slice pins s σ H x y v u Q I rx ry h hs;obtain⟨z,i,c,rfl,rfl,hz,he,q⟩:=h;obtain⟨t,rfl⟩:=rx;obtain⟨t',rfl⟩:=ry;obtain⟨j,h1,h2,h3,h4,h5⟩:=HY he;have hl:z.cps.toList.length=z.length:=by simp[Str.length]
 rw[hl]at h1 h4 h5;have hn:=DY;exact tail_any (typeIs_str s z t) slot_str_getitem.lookup (getItem_str (c:=c) (by
  have e1:decide (i< -(2^63:Int))=false:=Zx (by omega)
  have e2:decide (i ≥ 2^63)=false:=Zx (by omega)
  rw[e1,e2,Bool.or_false]) (by rw[h1];simpa using h2) ⟨.str ⟨#[c]⟩,H,I.tok _,⟨_,rfl⟩,q⟩) hs
def uS(K:Qq):R2:=fun x y H Q=>Ll K x y H Q\/Lm K x y H Q\/Ln x y H Q
theorem UC:qA X (uS X.K):=Lo.or (UA.or UB)
theorem UD(its:List Value)(n j:Nat)(u:Value):Obj.mapSeq (·.setIfInBounds j u) {cls:=.type "list",data:=.seq its.toArray n}={cls:=.type "list",data:=.seq (its.set j u).toArray n}:=by
 simp[Obj.mapSeq]
theorem Inv.lst{pins:OX}{σ:St}{H:Hp}{s:Shared}{p:Addr}{xs:List V}(I:Inv X pins σ H s)(h:H p=some (.lst xs)):
  ∃(its:List Value) (n:Nat),D3 xs its/\s.heap.get? p=some {cls:=.type "list",data:=.seq its.toArray n}/\xs.length≤sizeLine:=by
 obtain⟨z,its,n,r,e⟩:=I.hok p _ h;exact⟨its,n,r,e,z⟩
theorem Inv.lstUpd{pins:OX}{σ:St}{H:Hp}{s:Shared}{p:Addr}{xs ys:List V}{its its':List Value}{n n':Nat}{f:Obj->Obj}(I:Inv X pins σ H s)(h:H p=some (.lst xs))
  (ho:s.heap.get? p=some {cls:=.type "list",data:=.seq its.toArray n})(hf:f {cls:=.type "list",data:=.seq its.toArray n}={cls:=.type "list",data:=.seq its'.toArray n'})(r:D3 ys its')(hz:ys.length≤sizeLine)(t:Nat):
  Inv X pins σ (upd H p (.lst ys)) {s with heap:=s.heap.update p f,toks:=t}:=by
 have e:(s.heap.update p f).get? p=some {cls:=.type "list",data:=.seq its'.toArray n'}:=by
  rw[Heap.get?_update_self f ho (by rw[hf]<;>rfl),hf]
 refine I.write (x:=p) (e:=p) (by rw[h];trivial) (.inl rfl) (fun b u hb q=>(Heap.get?_update_other _ _ (Zg hb)).trans q) ⟨_,e⟩ ?_
 exact⟨hz,its',n',r,e⟩
def UE:V->V->V->Hp->(Hp->Prop)->Prop:=fun o i v H Q=>∃p xs k j,o=.ref p/\i=.int k/\H p=some (.lst xs)/\qT xs.length k=some j/\Q (upd H p (.lst (xs.set j v)))
theorem UG:HL X UE:=by
 intro pins s σ H o i v ov iv u Q I ro ri rv h;obtain⟨p,xs,k,j,rfl,rfl,hp,hj,q⟩:=h;cases ro;obtain⟨t,rfl⟩:=ri;obtain⟨its,n,r,ho,hz⟩:=I.lst hp;obtain⟨h1,h2,h3,h4⟩:=Lj hj;have hl:=r.length;have hn:=DY;have I':Inv X pins σ (upd H p (.lst (xs.set j v))) {s with heap:=s.heap.update p (Obj.mapSeq (·.setIfInBounds j u))}:=
  I.lstUpd hp ho (UD its n j u) (r.set rv j) (by rw[Zn];exact hz) s.toks
 by_cases h0:0≤k
 ·have hk:k.toNat=j:=by
   rw[seqIndex_of h0 h4]at h1;exact Yv h1
  exact PySem.W.ki_setAt ho h0 (by omega) (by rw[Qp,←hl];exact h4) (by rw[hk];exact⟨_,I',q⟩)
 ·have hk:(k+(its.toArray.size:Int)).toNat=j:=by
   rw[seqIndex_neg (by omega) h3]at h1
   rw[Qp,←hl];exact Yv h1
  exact PySem.W.ki_setBack ho (by omega) (by rw[Qp,←hl];exact h3) (by omega) (by rw[hk];exact⟨_,I',q⟩)
def X0:V->Bool
 |.non=>true
 |.bl _=>true
 |.int _=>true
 |.str _=>true
 |_=>false
def qF:V->V->Bool
 |.non,.non=>true
 |.bl a,.bl b=>a==b
 |.bl a,.int b=>(if a then 1 else 0)==b
 |.int a,.bl b=>a==(if b then 1 else 0)
 |.int a,.int b=>a==b
 |.str a,.str b=>a==b
 |_,_=>false
theorem UH{A:Around}{s:Shared}{y x:V}{u v:Value}(ry:D8 y u)(rx:D8 x v)(fy:X0 y=true)(fx:X0 x=true):SeqAt.EqAt A s u v (qF y x):=by
 cases y with
 |non=>
  cases ry;cases x with
  |non=>cases rx;exact SeqAt.EqAt.same _
  |bl b=>cases rx;exact SeqAt.EqAt.none_bool b
  |int b=>obtain⟨t,rfl⟩:=rx;exact SeqAt.EqAt.none_int b t
  |str b=>obtain⟨t,rfl⟩:=rx;exact SeqAt.EqAt.none_str b t
  |_=>exact absurd (show false=true from fx) Zo
 |bl a=>
  cases ry;cases x with
  |non=>cases rx;exact SeqAt.EqAt.bool_none a
  |bl b=>cases rx;exact SeqAt.EqAt.bool_bool a b
  |int b=>obtain⟨t,rfl⟩:=rx;exact SeqAt.EqAt.bool_int a b t
  |str b=>obtain⟨t,rfl⟩:=rx;exact SeqAt.EqAt.bool_str a b t
  |_=>exact absurd (show false=true from fx) Zo
 |int a=>
  obtain⟨t',rfl⟩:=ry;cases x with
  |non=>cases rx;exact SeqAt.EqAt.int_none a t'
  |bl b=>cases rx;exact SeqAt.EqAt.int_bool a t' b
  |int b=>obtain⟨t,rfl⟩:=rx;exact SeqAt.EqAt.int_int a t' b t
  |str b=>obtain⟨t,rfl⟩:=rx;exact SeqAt.EqAt.int_str a t' b t
  |_=>exact absurd (show false=true from fx) Zo
 |str a=>
  obtain⟨t',rfl⟩:=ry;cases x with
  |non=>cases rx;exact SeqAt.EqAt.str_none a t'
  |bl b=>cases rx;exact SeqAt.EqAt.str_bool a t' b
  |int b=>obtain⟨t,rfl⟩:=rx;exact SeqAt.EqAt.str_int a t' b t
  |str b=>obtain⟨t,rfl⟩:=rx;exact SeqAt.EqAt.str_str a t' b t
  |_=>exact absurd (show false=true from fx) Zo
 |_=>exact absurd (show false=true from fy) Zo
def oH(x:V)(u:Value):Bool:=match u with
 |.none=>qF .non x
 |.bool b=>qF (.bl b) x
 |.int i _=>qF (.int i) x
 |.str z _=>qF (.str z) x
 |_=>false
theorem Lp{x y:V}{u:Value}(r:D8 y u)(f:X0 y=true):oH x u=qF y x:=by
 cases y with
 |non=>cases r;rfl
 |bl b=>cases r;rfl
 |int i=>obtain⟨t,rfl⟩:=r;rfl
 |str z=>obtain⟨t,rfl⟩:=r;rfl
 |_=>exact absurd (show false=true from f) Zo
theorem Di{x:V}:∀{xs:List V}{us:List Value},D3 xs us->xs.all X0=true->us.any (oH x)=xs.any fun y=>qF y x
 |_,_,.nil,_=>rfl
 |y::xs,u::us,.cons r t,f=>by
  rw[Xh,Qw]at f;rw[Xm,Xm,Lp r f.1,Di t f.2]
theorem CZ{A:Around}{s:Shared}{x:V}{v:Value}(rx:D8 x v)(fx:X0 x=true):∀{xs:List V}{us:List Value},D3 xs us->xs.all X0=true->∀u∈us,SeqAt.EqAt A s u v (oH x u)
 |_,_,.nil,_=>fun u hu=>by cases hu
 |y::xs,u::us,.cons r t,f=>fun u' hu=>by
  rw[Xh,Qw]at f
  rcases Qg.mp hu with rfl|hu
  ·rw[Lp r f.1];exact UH r rx f.1 fx
  ·exact CZ rx fx t f.2 u' hu
def sO(x:V)(xs:List V):Bool:=xs.any fun y=>qF y x
def tV(K:Qq)(neg:Bool):R2:=fun x y H Q=>∃p xs,y=.ref p/\(lX K H p xs\/lY K H p xs)/\X0 x=true/\xs.all X0=true/\Q (.bl (if neg then !sO x xs else sO x xs)) H
theorem UI:kQ X (compareOp .In) (tV X.K false):=by
 intro pins s σ H x y v u Q I rx ry h;obtain⟨p,xs,rfl,hq,fx,fs,q⟩:=h;cases ry
 rcases hq with hq|hq
 ·obtain⟨its,r,pl,hz⟩:=I.list hq
  refine SeqAt.in_listAt (oH x) pl.isList (fun w hw=>CZ rx fx r fs w (by simpa using hw)) ⟨.bl _,H,I,rfl,?_⟩
  rw[show its.toArray.any (oH x)=its.any (oH x) by simp,Di r fs]
  exact q
 ·obtain⟨its,r,pl,hz⟩:=I.tuple hq
  refine SeqAt.in_tupleAt (oH x) pl (fun w hw=>CZ rx fx r fs w (by simpa using hw)) ⟨.bl _,H,I,rfl,?_⟩
  rw[show its.toArray.any (oH x)=its.any (oH x) by simp,Di r fs]
  exact q
theorem UJ:kQ X (compareOp .NotIn) (tV X.K true):=by
 intro pins s σ H x y v u Q I rx ry h;obtain⟨p,xs,rfl,hq,fx,fs,q⟩:=h;cases ry
 rcases hq with hq|hq
 ·obtain⟨its,r,pl,hz⟩:=I.list hq
  refine SeqAt.notIn_listAt (oH x) pl.isList (fun w hw=>CZ rx fx r fs w (by simpa using hw)) ⟨.bl _,H,I,rfl,?_⟩
  rw[show its.toArray.any (oH x)=its.any (oH x) by simp,Di r fs]
  exact q
 ·obtain⟨its,r,pl,hz⟩:=I.tuple hq
  refine SeqAt.notIn_tupleAt (oH x) pl (fun w hw=>CZ rx fx r fs w (by simpa using hw)) ⟨.bl _,H,I,rfl,?_⟩
  rw[show its.toArray.any (oH x)=its.any (oH x) by simp,Di r fs]
  exact q
theorem U5:O2 X (.builtin "len") (fun xs H Q=>∃p ys,xs=[.ref p]/\(lX X.K H p ys\/lY X.K H p ys)/\Q (.int ys.length) H):=by
 intro pins s σ H xs us Q I r h;obtain⟨p,ys,rfl,hq,q⟩:=h;obtain⟨u,rfl,rx⟩:=Ai r;cases rx;have hn:=DY
 rcases hq with hq|hq
 ·obtain⟨its,r',pl,hz⟩:=I.list hq
  have hlen:=r'.length
  exact Calls.call_len_list pl.isList (by simp only[Qp]<;>omega) ⟨.int ys.length,H,I.tok _,⟨s.toks+1,by rw[Qp,hlen]⟩,q⟩
 ·obtain⟨its,r',pl,hz⟩:=I.tuple hq
  have hlen:=r'.length
  exact len_tuple pl (by simp only[Qp]<;>omega) ⟨.int ys.length,H,I.tok _,⟨s.toks+1,by rw[Qp,hlen]⟩,q⟩
theorem HZ:O2 X (.type "list") (fun xs H Q=>∃p ys,xs=[.ref p]/\(lX X.K H p ys\/lY X.K H p ys)/\∀l,H l=none->Q (.ref l) (upd H l (.lst ys))):=by
 intro pins s σ H xs us Q I r h;obtain⟨p,ys,rfl,hq,q⟩:=h;obtain⟨u,rfl,rx⟩:=Ai r;cases rx;have fin:∀(its:List Value),D3 ys its->ys.length≤sizeLine->∀(h':Heap) (c':Nat),(∀b o',s.heap.get? b=some o'->h'.get? b=some o')->
   h'.get? s.heap.objs.size=some {cls:=.type "list",dict:=none,data:=.seq its.toArray c',slots:=#[]}->EP X pins σ Q (.ref s.heap.objs.size) {s with heap:=h'}:=fun its r' hz h' c' kp e=>
  ⟨.ref s.heap.objs.size,_,I.laid (t':=s.toks) kp (Qm _) (show J9 X.prog X.w _ h' _ (.lst ys)from⟨hz,its,c',r',e⟩),rfl,q _ (I.hok.fresh (Qm _))⟩
 rcases hq with hq|hq
 ·obtain⟨its,r',pl,hz⟩:=I.list hq
  have hlen:=r'.length
  obtain⟨o,ho,hc,n,hd⟩:=pl.isList;exact call_list_seq p (.inl rfl) ho hc hd (fun h' c' kp e=>fin its r' hz h' c' kp e) (by simp only[Qp]<;>omega)
 ·obtain⟨its,r',pl,hz⟩:=I.tuple hq
  have hlen:=r'.length
  obtain⟨o,ho,hc,n,hd⟩:=pl;exact call_list_seq p (.inr rfl) ho hc hd (fun h' c' kp e=>fin its r' hz h' c' kp e) (by simp only[Qp]<;>omega)
theorem FJ:O2 X (.type "tuple") (fun xs H Q=>∃p ys,xs=[.ref p]/\((lX X.K H p ys/\∀l,H l=none->Q (.ref l) (upd H l (.tup ys)))\/(lY X.K H p ys/\Q (.ref p) H))):=by
 intro pins s σ H xs us Q I r h;obtain⟨p,ys,rfl,h⟩:=h;obtain⟨u,rfl,rx⟩:=Ai r;cases rx
 rcases h with⟨hq,q⟩|⟨hq,q⟩
 ·obtain⟨its,r',pl,hz⟩:=I.list hq
  have hlen:=r'.length
  refine call_tuple_list pl.isList (fun h' kp=>?_) (by simp only[Qp]<;>omega)
  have I1:Inv X pins σ H {s with heap:=h'}:=I.kept (t':=s.toks) kp
  have I2:Inv X pins σ (upd H h'.objs.size (.tup ys)) {s with heap:=h'.push {cls:=.type "tuple",data:=.seq its.toArray}}:=
   I1.laid (t':=s.toks) (fun b o e=>Qx _ e) (Qm _) (show J9 X.prog X.w _ _ _ (.tup ys)from⟨hz,its,r',V8.new _ _⟩)
  exact⟨.ref h'.objs.size,_,I2,rfl,q _ (I1.hok.fresh (Qm _))⟩
 ·obtain⟨its,r',pl,hz⟩:=I.tuple hq
  exact call_tuple_same pl ⟨.ref p,H,I,rfl,q⟩
def uT(K:Qq)(T:String)(x:V)(H:Hp):Prop:=match x with
 |.str _=>T="str"
 |.int _=>T="int"
 |.ref p=>(T="list"/\ ∃xs,lX K H p xs)\/(T="tuple"/\ ∃o,K.lookup p=some o/\o.cls=.type "tuple"/\o.dict=none)\/
   (T="dict"/\((∃kvs,H p=some (.dK kvs))\/ ∃C kvs,H p=some (.dT C kvs)))\/(T="set"/\ ∃S n,H p=some (.set S n))
 |_=>False
theorem UK{pins:OX}{σ:St}{H:Hp}{s:Shared}{T:String}{x:V}{v:Value}(I:Inv X pins σ H s)(r:D8 x v)(ty:uT X.K T x H):
  s.TypeIs v T/\∀a,v=.ref a->∃ob,s.heap.get? a=some ob/\ob.dict=none:=by
 cases x with
 |str z=>
  obtain⟨t,rfl⟩:=r;cases (show T="str" from ty)
  exact⟨typeIs_str s z t,fun _ e=>nomatch e⟩
 |int i=>
  obtain⟨t,rfl⟩:=r;cases (show T="int" from ty)
  exact⟨typeIs_int s i t,fun _ e=>nomatch e⟩
 |ref p=>
  cases r
  rcases ty with⟨rfl,xs,hq⟩|⟨rfl,o,hk,hc,hd⟩|⟨rfl,hk⟩|⟨rfl,S,n,hk⟩
  ·obtain⟨its,_,pl,_⟩:=I.list hq
   refine⟨pl.isList.typeIs,fun a e=>?_⟩
   cases e;obtain⟨o,n,e,c,hd,_⟩:=pl;exact⟨o,e,hd⟩
  ·refine⟨⟨o,I.kIn p o hk,hc⟩,fun a e=>?_⟩
   cases e;exact⟨o,I.kIn _ o hk,hd⟩
  ·have z:∃o,s.heap.get? p=some o/\o.ExactDict:=by
    rcases hk with⟨kvs,hk⟩|⟨C,kvs,hk⟩
    ·obtain⟨_,_,_,_,o,_,_,e,ex,_⟩:=I.hok p _ hk
     exact⟨o,e,ex⟩
    ·obtain⟨_,_,_,_,o,_,_,e,ex,_⟩:=I.hok p _ hk
     exact⟨o,e,ex⟩
   obtain⟨o,e,ex⟩:=z;refine⟨⟨o,e,ex.1⟩,fun a e2=>?_⟩
   cases e2;exact⟨o,e,ex.2.1⟩
  ·obtain⟨o,_,_,_,e,ex,_⟩:=I.hok p _ hk
   refine⟨⟨o,e,ex.1⟩,fun a e2=>?_⟩
   cases e2;exact⟨o,e,ex.2.1⟩
 |_=>exact False.elim ty
def v8(K:Qq)(T:String)(r:V->List V->Hp->VK->Prop)(to:TE)(t:TA):TE:=fun σ H Q=>to σ H fun x H1=>uT K T x H1/\t σ H1 fun xs H2=>r x xs H2 Q
variable{o e:Expr}{es:List Expr}{to:TE}{t:TA}{name:Str}{apos cpos:Pos}{T id:String}{r:V->List V->Hp->VK->Prop}
theorem Lq(pa:PlainAttrs T)(slot:Slot T name id)(hty:typeOf (.builtin id)=pure (.type "method_descriptor"))(hm:v7 X id r)(ho:PE X o to)(ha:PA X (e::es) t)
  (hbase:attributeBase o name X.env (eval o X.env)=eval o X.env:=by rfl)
  (hfew:((backTo cpos (starEach (e::es) X.env)).all (fun x=>!x.1)&&(backToKw cpos (keywordEach [] X.env)).all (fun x=>x.1.isSome)
   &&decide ((e::es).length+([]:List Keyword).length+(if([]:List Keyword).isEmpty then 0 else 1)<30))=true:=by rfl)
  (hline:(apos.endLine==cpos.line)=true:=by rfl)(hs:starEach (e::es) X.env=(false,eval e X.env)::starEach es X.env:=by rfl)(hplain:(backTo cpos (starEach es X.env)).any (·.1)=false:=by rfl):
  PE X (.Call (.Attribute o name apos) (e::es) [] cpos) (v8 X.K T r to t):=by
 intro pins s σ H Q I h;refine wpAny_Call_method_late hbase hfew hline rfl (i4 (ho pins s σ H _ I h) fun v s1 ⟨x,H1,I1,r1,ty,q1⟩=>?_)
 obtain⟨h1,h2⟩:=UK I1 r1 ty;refine⟨T,id,pa,slot,hty,h1,h2,?_⟩;have hA:=ha cpos pins s1 σ H1 _ I1 q1;rw[hs]at hA ⊢;refine Calls.callWith_builtin (by show(false||(backTo cpos (starEach es X.env)).any (·.1))=false;rw[hplain]<;>rfl) (Calls.evalArgs_plain ?_)
 exact i4 hA fun us s2 ⟨vs,H2,I2,r2,q2⟩=>hm pins s2 σ H2 x vs v us Q I2 r1 r2 q2
end
def uU(X:Cx)(id:String)(r:V->List V->Hp->VK->Prop):Prop:=
 ∀(pins:OX) (s:Shared) (σ:St) (H:Hp) (x:V) (xs:List V) (v:Value) (us:List Value) (Q:VK),Inv X pins σ H s->D8 x v->D3 xs us->r x xs H Q->
  wpAny (model X.prog X.w) X.A (call (.builtin id) (v::us)) (EP X pins σ Q) X.xe s
theorem D3.one:∀{x:V}{us:List Value},D3 [x] us->∃u,us=[u]/\D8 x u
 |_,_,.cons r .nil=>⟨_,rfl,r⟩
theorem D3.reverse{xs:List V}{us:List Value}(h:D3 xs us):D3 xs.reverse us.reverse:=by
 induction h with
 |nil=>exact .nil
 |cons r t ih=>rw[Xl,Xl];exact D3.append ih (.cons r .nil)
theorem D3.rep{xs:List V}{us:List Value}(h:D3 xs us):∀k:Nat,D3 (List.replicate k xs).flatten (List.replicate k us).flatten
 |0=>.nil
 |k+1=>by
  rw[Zi,Zi,Ul,Ul];exact D3.append h (D3.rep h k)
theorem Lr(its:List Value):∀(k:Nat) (acc:List Value),
  List.foldl (fun x1 x2=>x1++x2) acc.toArray (List.replicate k its.toArray)=(acc++(List.replicate k its).flatten).toArray
 |0,acc=>by simp
 |k+1,acc=>by
  have e:acc.toArray++its.toArray=(acc++its).toArray:=by simp
  have e2:(acc++its)++(List.replicate k its).flatten=acc++(List.replicate (k+1) its).flatten:=by
   rw[Zi,Ul,Vb]
  rw[←e2,←Lr its k (acc++its),←e,Zi,List.foldl_cons]
section
variable{X:Cx}{pins:OX}{σ:St}{H:Hp}{s:Shared}{l b:Addr}{xs ys zs:List V}
theorem Inv.lset{its its':List Value}{n:Nat}{f:Array Value->Array Value}{t':Nat}(I:Inv X pins σ H s)(hH:H l=some (.lst xs))
  (e:s.heap.get? l=some {cls:=.type "list",data:=.seq its.toArray n})(hf:f its.toArray=its'.toArray)(hv:D3 ys its')(hz:ys.length≤sizeLine):
  Inv X pins σ (upd H l (.lst ys)) {s with heap:=s.heap.update l (Obj.mapSeq f),toks:=t'}:=by
 have q:=PySem.IsL.update e f
 rw[hf]at q;refine I.write (x:=l) (e:=l) (by rw[hH];exact trivial) (.inl rfl) (fun b' u hb hu=>(Heap.get?_update_other s.heap (Obj.mapSeq f) (Zg hb)).trans hu) ⟨_,q⟩ ?_
 exact⟨hz,its',_,hv,q⟩
theorem Inv.lnew{its:List Value}{t':Nat}(I:Inv X pins σ H s)(hv:D3 ys its)(hz:ys.length≤sizeLine):
  Inv X pins σ (upd H s.heap.objs.size (.lst ys)) {s with heap:=s.heap.push {cls:=.type "list",data:=.seq its.toArray},toks:=t'}:=
 I.laid (fun _ _ q=>Qx _ q) (Qm _) ⟨hz,its,0,hv,Qh _ rfl⟩
theorem Inv.fresh(I:Inv X pins σ H s):H s.heap.objs.size=none:=I.hok.fresh (Qm _)
theorem Inv.lstM(I:Inv X pins σ H s)(hH:H l=some (.lst xs)):xs.length≤sizeLine/\∃(its:List Value) (n:Nat),D3 xs its/\xs.length=its.length/\s.heap.get? l=some {cls:=.type "list",data:=.seq its.toArray n}:=by
 obtain⟨z,its,n,r,e⟩:=I.hok l _ hH;exact⟨z,its,n,r,r.length,e⟩
end
section
variable{X:Cx}
def UL:V->List V->Hp->VK->Prop:=fun x vs H Q=>∃l xs y,x=.ref l/\vs=[y]/\H l=some (.lst xs)/\xs.length<sizeLine/\Q .non (upd H l (.lst (xs++[y])))
theorem Ls:uU X "list.append" UL:=by
 intro pins s σ H x vs v us Q I rx rv h;obtain⟨l,xs,y,rfl,rfl,hH,hz,q⟩:=h;cases rx;obtain⟨u,rfl,ru⟩:=rv.one;obtain⟨z,its,n,r,hl,e⟩:=I.lstM hH;refine Xa F.slot_list_append ⟨_,e,rfl⟩ F.entry_list_append (F.args_list_append_2 _ _) (PySem.list_append l its.toArray n u (by rw[Qp];omega)) ⟨e,?_⟩
 refine⟨.non,_,I.lset (its':=its++[u]) hH e (by simp) (r.append (.cons ru .nil)) ?_,rfl,q⟩
 rw[Ql,List.length_singleton]
 omega
theorem Lu{α:Type}(xs:List α)(k:Nat):(List.replicate k xs).flatten.length=k * xs.length:=by
 induction k with
 |zero=>simp
 |succ k ih=>rw[Zi,Ul,Ql,ih,Nat.succ_mul,Nat.add_comm]
end
section
variable{prog:Program}{w:World}{A:Around}{E:OE}{s:Shared}
set_option maxRecDepth 100000 in
end
section
variable{X:Cx}
end
end L2
namespace Att
open PySem PySem.W PySem.Calls PyProof.Rows
theorem mZ{P:Params}{h:Heap}:∀(ns:List Int) (vs:List Value),WellAll P h vs (ns.map WData.int)->IntsAre vs ns:=by
 intro ns
 induction ns with
 |nil=>
  intro vs w;rw[Va]at w;cases w;exact .nil
 |cons n ns ih=>
  intro vs w;rw[Qr]at w;cases w with
  |cons a b=>
   cases a;exact .cons _ _ (ih _ b)
theorem o6{l:OpenLaw}{n:Nat}(hn:l.most=some n){P:Params}{h:Heap}{args:List WData}{vals:List Value}
  (hpre:l.row.toRowW.claim.pre args=true)(hwl:WellAll P h vals args):
  ∃a vs ns,vals=[Value.ref a]/\args=[WData.list (ns.map WData.int)]/\h.get? a=some {cls:=.type "list",data:=.seq vs.toArray}/\IntsAre vs ns/\ns.length≤n:=by
 have hsh:WShape.hasAll [] args [.list .int]=true:=(pre_splitW hpre).1
 have hc:l.pre.holds [] {args:=args}=true:=(pre_splitW hpre).2
 obtain⟨d,r,rfl,h1,h2⟩:=hasAllW_cons hsh;obtain rfl:=hasAllW_nil h2;obtain⟨xs,rfl,h3⟩:=hasW_list h1;obtain⟨ns,rfl⟩:=items_int h3;have hlen:ns.length≤n:=by
  unfold OpenLaw.pre at hc;have h4:(WTm.not (.lt (.lit (.int (n:Int))) (.len (.arg 0)))).holds [] {args:=[.list (ns.map .int)]}=true:=by
   have h4:=(holds_andW hc).1
   rw[hn]at h4;exact h4
  have h5:=condW_of h4 (w_not (w_lt w_lit (w_len_list (w_arg rfl))))
  rw[Qk]at h5;refine Nat.le_of_not_lt fun q=>?_
  have q':(n:Int)<((ns.length:Nat):Int):=by omega
  first
   |(rw[Yx q']at h5;exact absurd h5 (by decide))
   |(simp at h5;omega)
 cases hwl with
 |cons w1 w2=>
  cases w2;cases w1 with
  |list ho hall=>exact⟨_,_,ns,rfl,rfl,ho,mZ ns _ hall,hlen⟩
theorem o7(l:OpenLaw)(args:List WData):l.row.toRowW.claim.post args (.bool true) args=true:=
 postW_of (r:=l.row.toRowW) (X:=(true==true))
  (show WShape.has [] (.bool true) .bool=true by first|rfl|decide|simp[WShape.has,WShape.arms,WShape.armsAll])
  (show(WTm.eq .res (.lit (.bool true))).value [] {args:=args,res:=some (.bool true),after:=args}=some (.bool (true==true))from w_eq_bool (w_res rfl) w_lit) rfl
theorem oC{l:OpenLaw}{n:Nat}{q:Program}{loose:List Str}{XP:(OU)->Heap->Prop}{YP:World->Heap->Prop}{d:DefRec}
  (hn:l.most=some n)(hdf:d.params.defaults=[])
  (call:∀(w:World) (s₀ s₁:Shared) (mg mb:OU) (fa:Addr) (o:Obj) (pm cd doc:Value) (a:Addr) (vs:List Value) (ns:List Int),
   Ground q loose [] XP w s₀ mg mb s₁.heap->YP w s₁.heap->
   s₁.heap.get? fa=some o->o.data=.func (docDef d.name d.params d.body d.scope pm cd doc)->s₁.heap.CodeRec cd d.name->mg d.name=some (.ref fa)->
   s₁.heap.get? a=some {cls:=.type "list",data:=.seq vs.toArray}->IntsAre vs ns->ns.length≤n->s₁.gens= #[]->
   codeAny (model l.prog w) callerA (.call (.ref fa) ⟨[.ref a],[]⟩) (fun r s'=>r=.ok (.ret (.bool true))/\OldK s₁.heap s'.heap/\s'.os=s₁.os/\AllBare s'.gens) s₁):
  WalkO q loose XP YP l.row.toRowW d [] (fun f vs=>PySem.call f vs):=by
 intro w s₀ s₁ mg mb G Y fa o pm cd doc dV kV ho hd hcd hD hmg hg args vals as hpre hlay hrd hwl hlo;obtain rfl:dV=.none:=Dflts.none hD hdf;obtain rfl:kV=.none:=Dflts.noKw hD;obtain⟨a,vs,ns,rfl,rfl,hobj,hints,hlen⟩:=o6 hn hpre hwl;refine enter_call (Vi (call w s₀ s₁ mg mb fa o pm cd doc a vs ns G Y ho (fd_plain hd) hcd hmg hobj hints hlen hg) fun r s' hq=>?_)
 obtain⟨rfl,h2,h3,h4⟩:=hq;exact⟨.inl ⟨.bool true,.bool true,[],rfl,fun _=>rfl,.bool true,o7 l _,fun _=>⟨List.Pairwise.nil,fun _ hm=>(nomatch hm)⟩⟩,h2,h3,h4⟩
section
variable{prog:Program}{w:World}{A:Around}{E:OE}{s:Shared}{K:Frag}
end
end Att
namespace L2
open PySem PySem.Spec PyProof.Rows
theorem Lv:∀{vs:List Value}{ns:List Int},IntsAre vs ns->D3 (ns.map V.int) vs
 |_,_,.nil=>.nil
 |_,_,.cons n t h=>.cons ⟨t,rfl⟩ (Lv h)
def Bn(s:Stmt):Arguments:=match s with
 |.FunctionDef _ a _ _ _ _ _ _ _ _=>a
 |_=>{posonlyargs:=[],args:=[],vararg:=none,kwonlyargs:=[],kw_defaults:=[],kwarg:=none,defaults:=[]}
def X1(s:Stmt):List Stmt:=match s with
 |.FunctionDef _ _ b _ _ _ _ _ _ _=>b
 |_=>[]
def E8(s:Stmt):Scope:=match s with
 |.FunctionDef _ _ _ _ _ _ sc _ _ _=>sc
 |_=>{kind:=.function,names:=[],isGenerator:=false,isCoroutine:=false}
abbrev kF:pJ:=fun _ _ _ _ _ _=>False
abbrev E0:XK:=fun _ _ _=>False
theorem Dj{X:Cx}:Da kF X E0:=fun _ _ _ _ _ _ _ h=>h.elim
structure kM(K:Qq)(x qual:Str)(st:Stmt)(f:Addr)(fd:FuncData):Prop where
 ex:∃(oc:Value) (od:Option Addr) (kV doc pm:Value) (an:Option Addr) (cdv ct:Value) (osl:Array (Option Value)),
  fd=PySem.W.fnOf x qual (Bn st) (X1 st) (E8 st) .none kV doc pm an cdv ct/\K.lookup f=some ⟨oc,od,.func fd,osl⟩/\PySem.W.codeIn K cdv qual=true
 kp:PySem.W.keepIn K (.ref f)=true
section
variable{P:Program}{w:World}{K:Qq}{mg:OU}{base:Heap}
theorem kM.ok{x qual:Str}{st:Stmt}{f:Addr}{fd:FuncData}{N ps:List Str}{k:Nat}{sp:Sp}(F:kM K x qual st f fd)(S:c4 N ps (E8 st))(len:∀vs H Q E,sp vs H Q E->vs.length=ps.length)
  (hbody:∀(cdv:Value) (A:Around) (outer:List Env) (s:Shared) (H:Hp) (vs:List V) (Q:VK) (E:XK),g9 k (A.deeper (envOfC qual (E8 st) s.heap.objs.size f cdv))->sp vs H Q E->
   ∃t,m9 (M9 kF P w K mg base N qual (E8 st) f cdv A outer s H E).nox (X1 st) t/\t {nx:=fun _ H'=>Q .non H',rt:=Q} (start N vs) H):f6 P w K mg base kF (k+1) f fd ps sp:=by
 obtain⟨oc,od,kV,doc,pm,an,cdv,ct,osl,rfl,lk,hcd⟩:=F.ex;refine HX lk hcd S len fun A outer s H vs Q E hr hsp=>?_
 obtain⟨t,h,q⟩:=hbody cdv A outer s H vs Q E hr hsp;exact⟨t,h.nox,q⟩
theorem kM.binds{x qual:Str}{st:Stmt}{f:Addr}{fd:FuncData}{ps:List Str}(F:kM K x qual st f fd)
  (h:∀(kV doc pm:Value) (an:Option Addr) (cdv ct:Value) (us:List Value),us.length=ps.length->bindArgs (PySem.W.fnOf x qual (Bn st) (X1 st) (E8 st) .none kV doc pm an cdv ct) ⟨us,[]⟩=pure (ps.zip us)):O6 K fd ps []:=by
 obtain⟨oc,od,kV,doc,pm,an,cdv,ct,osl,rfl,lk,hcd⟩:=F.ex;exact .all (h kV doc pm an cdv ct)
theorem UM{x qual:Str}{st:Stmt}{f:Addr}{oc:Value}{od an:Option Addr}{osl:Array (Option Value)}{kV doc pm cdv ct:Value}(l:K.lookup f=some ⟨oc,od,.func (PySem.W.fnOf x qual (Bn st) (X1 st) (E8 st) .none kV doc pm an cdv ct),osl⟩)
  (c:PySem.W.codeIn K cdv qual=true)(k:PySem.W.keepIn K (.ref f)=true):kM K x qual st f (PySem.W.fnOf x qual (Bn st) (X1 st) (E8 st) .none kV doc pm an cdv ct):=⟨⟨oc,od,kV,doc,pm,an,cdv,ct,osl,rfl,l,c⟩,k⟩
end
theorem Dk{n:Nat}(h:n≤1000):n<sizeLine:=Vj h (by decide)
section
variable{X:Cx}
theorem pv(i:Nat){x:Str}{pos:Pos}(hN:X.N[i]? =some x:=by rfl)(hv:p7 X.env.scope x:=by first|exact Or.inl rfl|exact Or.inr (Or.inl rfl)|exact Or.inr (Or.inr rfl))(hd:(x==("__debug__":Str))=false:=by decide)
  (hcd:(x==("__classdict__":Str))=false:=by decide):PE X (.Name x pos) (Q3 i):=HH hN hv hd hcd
end
section
variable{κ:Type}[DecidableEq κ]
def X2(kvs:List (κ×V))(k:κ):Option V:=(kvs.find? fun kv=>decide (kv.1=k)).map (·.2)
def AG(kvs:List (κ×V))(k:κ)(v:V):List (κ×V):=
 if(kvs.any fun kv=>decide (kv.1=k))=true then kvs.map (fun kv=>if kv.1=k then(kv.1,v)else kv)else kvs++[(k,v)]
theorem FK{p:κ×V}{r:List (κ×V)}{k:κ}(e:p.1=k):X2 (p::r) k=some p.2:=by simp[X2,Ve,e]
theorem FL{p:κ×V}{r:List (κ×V)}{k:κ}(e:¬ p.1=k):X2 (p::r) k=X2 r k:=by simp[X2,Ve,e]
theorem Ha(k:κ):∀kvs:List (κ×V),(kvs.any fun kv=>decide (kv.1=k))=(X2 kvs k).isSome
 |[]=>rfl
 |p::r=>by
  rw[Xm]
  by_cases e:p.1=k
  ·simp only[FK e,Yx e,Bool.true_or,Option.isSome_some]
  ·rw[FL e,Zx e,Vn];exact Ha k r
theorem UN(kvs:List (κ×V))(k:κ)(v:V):(AG kvs k v).length≤kvs.length+1:=by
 unfold AG;split
 ·rw[Qk];omega
 ·rw[Ql,Qo,Yc];omega
end
theorem AE.isSome_eq{o:Option V}{u:Option Value}(r:AE o u):o.isSome=u.isSome:=by
 cases o with
 |none=>cases u with
  |none=>rfl
  |some _=>exact(show False from r).elim
 |some _=>cases u with
  |none=>exact(show False from r).elim
  |some _=>rfl
theorem UO{P:Program}{w:World}{k:Key}{u:Value}(r:D8 (kV k) u):(Q1 P w).is k u=true:=by
 cases k with
 |inl i=>obtain⟨t,e⟩:=(show∃t,u=Value.int i t from r);subst e;exact Rq P w i t
 |inr x=>obtain⟨t,e⟩:=(show∃t,u=Value.str x t from r);subst e;exact Rt P w x t
theorem Hb{P:Program}{w:World}:∀{ks:List Key}{us:List Value},D3 (ks.map kV) us->ItemsAre (Q1 P w) ks us
 |[],_,r=>by rw[Va]at r;cases r;exact .nil
 |k::ks,_,r=>by
  rw[Qr]at r;cases r with
  |cons h t=>exact .cons (UO h) (Hb t)
abbrev KT(C:Addr->List Key->Prop)(H:Hp):List (List Key×V)->List (List Key×Addr×Value)->Prop:=Paired fun p q=>p.1=q.1/\(H q.2.1=some (.tup (p.1.map kV))\/C q.2.1 p.1)/\D8 p.2 q.2.2
theorem KT.val{C:Addr->List Key->Prop}{H:Hp}{kvs:List (List Key×V)}{xs:List (List Key×Addr×Value)}(r:KT C H kvs xs)(k:List Key):AE (X2 kvs k) ((atKey xs k).map (·.2)):=by
 induction r with
 |nil=>exact True.intro
 |@cons p q ps qs h t ih=>
  obtain⟨h1,_,h2⟩:=h
  by_cases e:p.1=k
  ·have e':q.1=k:=h1.symm.trans e
   have b:atKey (q::qs) k=some q.2:=by simp[atKey,Ve,e']
   rw[FK e,b];exact h2
  ·have e':¬ q.1=k:=fun z=>e (h1.trans z)
   have b:atKey (q::qs) k=atKey qs k:=by simp[atKey,Ve,e']
   rw[FL e,b];exact ih
theorem KT.repl{C:Addr->List Key->Prop}{H:Hp}{kvs:List (List Key×V)}{xs:List (List Key×Addr×Value)}(r:KT C H kvs xs)(k:List Key){y:V}{u:Value}(ry:D8 y u):
  KT C H (kvs.map fun kv=>if kv.1=k then(kv.1,y)else kv) (xs.map (putAt k u)):=by
 induction r with
 |nil=>exact .nil
 |@cons p q ps qs h t ih=>
  rw[Qr,Qr];refine .cons ?_ ih;obtain⟨h1,h2,h3⟩:=h;unfold putAt
  by_cases e:p.1=k
  ·rw[Qc e,Qc (h1.symm.trans e)];exact⟨h1,h2,ry⟩
  ·rw[Qt e,Qt (fun z=>e (h1.trans z))];exact⟨h1,h2,h3⟩
theorem KT.put{C:Addr->List Key->Prop}{H:Hp}{kvs:List (List Key×V)}{xs:List (List Key×Addr×Value)}(r:KT C H kvs xs)(k:List Key){b:Addr}{y:V}{u:Value}(hb:H b=some (.tup (k.map kV))\/C b k)(ry:D8 y u):
  KT C H (AG kvs k y) (storedH xs k b u):=by
 have e:(kvs.any fun kv=>decide (kv.1=k))=(atKey xs k).isSome:=by
  rw[Ha,(r.val k).isSome_eq,Xd]
 unfold AG storedH;rw[e]
 by_cases q:(atKey xs k).isSome=true
 ·rw[Qc q,Qc q];exact r.repl k ry
 ·rw[Qt q,Qt q];exact Paired.snoc r ⟨rfl,hb,ry⟩
theorem KT.keeps{C:Addr->List Key->Prop}{H H':Hp}{kvs:List (List Key×V)}{xs:List (List Key×Addr×Value)}(r:KT C H kvs xs)(ht:∀b ys,H b=some (.tup ys)->H' b=some (.tup ys)):KT C H' kvs xs:=
 Paired.mapP r fun _ _ z=>⟨z.1,z.2.1.imp (ht _ _) id,z.2.2⟩
section
variable{P:Program}{w:World}{H:Hp}{h:Heap}{a:Addr}
theorem UP{ks:List Key}(ok:mI P w H h)(e:H a=some (.tup (ks.map kV))):(tupleKind (Q1 P w)).is h ks a:=by
 obtain⟨_,its,r,o,h1,h2,_,n,h3⟩:=(show J9 P w H h a (.tup (ks.map kV))from ok a _ e)
 exact⟨o,its.toArray,n,h1,h2,h3,by simpa using Hb r⟩
end
section
variable{X:Cx}{pins:OX}{σ:St}{H:Hp}{s:Shared}{a:Addr}{y v:V}{u r:Value}{o:Option V}{A:Around}{E:OE}
theorem UQ{h':Heap}{t':Nat}{ob:HO}(I:Inv X pins σ H s)(mu:rZ (H a))(hs:Heap.SameBut a s.heap h')(he:∃q,h'.get? a=some q)(new:J9 X.prog X.w (upd H a ob) h' a ob):
  Inv X pins σ (upd H a ob) {s with heap:=h',toks:=t'}:=
 I.write (x:=a) (e:=a) mu (.inl rfl) (fun b q hb z=>(hs.2 b hb).trans z) he new
end
def UR(i:Expr):Prop:=∀ov iv,subscripted i false ov iv=operate [ov,iv] (getItem ov iv)
theorem Lw{prog:Program}{w:World}{A:Around}{E:OE}{s:Shared}{env:Env}{value slice:Expr}{pos:Pos}{T id:String}{Q:OE}
  (hl:typeLookup (.type T) "__getitem__"=pure (some (.builtin id)))(hs:UR slice)
  (h:wpAny (model prog w) A (eval value env) (fun o s₁=>wpAny (model prog w) A (eval slice env) (fun i s₂=>s₂.TypeIs o T/\wpAny (model prog w) A (getItem o i) Q E s₂) E s₁) E s):
  wpAny (model prog w) A (eval (.Subscript value slice pos) env) Q E s:=by
 refine Subscript_ (Qi h (fun o s₁ h₁=>Qi h₁ (fun i s₂ h₂=>?_) fun _ _ x=>x) fun _ _ x=>x)
 obtain⟨hT,h₂⟩:=h₂;unfold subscriptTail;refine Qz ?_
 rw[getitemInPython_of_ne hT.not_modules];refine Qz (wpAny_specialOf hT hl ?_);have fin:wpAny (model prog w) A (subscripted slice false o i) (fun r s₃=>wpAny (model prog w) A (letTemporaryGo value o r>>=fun _=>pure r) Q E s₃) E s₂:=by
  rw[hs o i];exact wpAny_operating (Qi h₂ (fun r s₃ h₃=>Qz (wpAny_letTemporaryGo (Qv h₃))) fun _ _ x=>x)
 first
  |exact Qv (Qz fin)
  |exact Qz (Qv (Qz fin))
  |exact Qz fin
theorem Inv.big(I:Inv X pins σ H s):sysModules<s.heap.objs.size:=by
 have h:mainGlobals<s.heap.objs.size:=(I.mod.glob.keeps I.bk).lt
 exact Uq (by decide) h
end L2
namespace L2.Mir
open PySem PySem.Spec PyProof.Rows
inductive Ob where
 |exc (n:Str)|fn (n:Str)|dk (kvs:List (Key×Key))|dt (kvs:List (Str×List Int))
 deriving Inhabited
inductive D where
 |non|bl (b:Bool)|int (i:Int)|str (x:Str)|tup (ds:List D)|lst (ds:List D)|emp|obj (o:Ob)|dct (ks:OI) (vs:List D)
 deriving Inhabited
def Lx(K:Qq)(t:Value):Prop:=∀T∈(["tuple","list","int","bool","str"]:List String),PySem.W.kitOne K t (.type T)=some false
def pT(K:Qq)(G:Hp)(a:Addr)(xs:List V):Prop:=G a=some (.tup xs)\/ ∃(o:Obj) (its:Array Value) (n:Nat),K.lookup a=some o/\o.cls=.type "tuple"/\o.dict=none/\o.data=.seq its n/\its.size≤sizeLine/\D3 xs its.toList
theorem pT.t{K:Qq}{G:Hp}{a:Addr}{xs:List V}(h:pT K G a xs):lY K G a xs:=h.imp (fun e=>.inl e) id
def Ca(K:Qq)(G:Hp):List (Key×V)->List (Str×List Int)->Prop
 |[],[]=>True
 |p::ps,q::qs=>p.1=.inr q.1/\(∃a,p.2=.ref a/\pT K G a (q.2.map V.int))/\Ca K G ps qs
 |_,_=>False
def FM(K:Qq)(G:Hp)(v:V):Ob->Prop
 |.exc n=>∃a C HP,v=.ref a/\PySem.W.nsIn K mainGlobals n=some (some (.ref C))/\G a=some (.ext HP)/\PySem.W.KitX K (.ref a) (.ref C) HP/\Lx K (.ref C)
 |.fn n=>∃f,v=.ref f/\PySem.W.nsIn K mainGlobals n=some (some (.ref f))/\PySem.W.KitX K (.ref f) (.type "function") (fun _=>True)
 |.dk kvs=>∃a,v=.ref a/\G a=some (.dK (kvs.map fun p=>(p.1,kV p.2)))
 |.dt kvs=>∃a ps,v=.ref a/\G a=some (.dK ps)/\Ca K G ps kvs
abbrev L9(k:List Int):List Key:=k.map Sum.inl
def L8(K:Qq):Addr->List Key->Prop:=fun b k=>pT K (fun _=>none) b (k.map kV)
mutual
def b0(K:Qq)(G:Hp):V->D->Prop
 |v,.non=>v=.non
 |v,.bl b=>v=.bl b
 |v,.int i=>v=.int i
 |v,.str x=>v=.str x/\x.length≤sizeLine
 |v,.tup ds=>∃a xs,v=.ref a/\pT K G a xs/\C3 K G xs ds
 |v,.lst ds=>∃a xs,v=.ref a/\lX K G a xs/\C3 K G xs ds
 |v,.emp=>∃a kvs,v=.ref a/\G a=some (.dK kvs)
 |v,.obj o=>FM K G v o
 |v,.dct ks vs=>∃a kvs,v=.ref a/\G a=some (.dT (L8 K) kvs)/\kvs.map (·.1)=ks.map L9/\C3 K G (kvs.map (·.2)) vs
def C3(K:Qq)(G:Hp):List V->List D->Prop
 |xs,[]=>xs=[]
 |xs,d::ds=>∃x r,xs=x::r/\b0 K G x d/\C3 K G r ds
end
def Le(G G':Hp):Prop:=∀b o,G b=some o->G' b=some o
theorem Le.refl{G:Hp}:Le G G:=fun _ _ e=>e
theorem Le.trans{G G1 G2:Hp}(a:Le G G1)(b:Le G1 G2):Le G G2:=fun x o e=>b x o (a x o e)
theorem Le.upd{G:Hp}{a:Addr}{o:HO}(h:G a=none):Le G (upd G a o):=fun b u e=>by rw[D6 (Q2 e h)];exact e
theorem Le.sqU{K:Qq}{G G':Hp}(l:Le G G'){a:Addr}{xs:List V}(h:pT K G a xs):pT K G' a xs:=h.imp (fun e=>l _ _ e) id
theorem Le.sqT{K:Qq}{G G':Hp}(l:Le G G'){a:Addr}{xs:List V}(h:pT K G a xs):lY K G' a xs:=(l.sqU h).t
theorem Le.sqT'{K:Qq}{G G':Hp}(l:Le G G'){a:Addr}{xs:List V}(h:lY K G a xs):lY K G' a xs:=by
 rcases h with h|h
 ·rcases h with h|⟨o,h⟩
  ·exact .inl (.inl (l _ _ h))
  ·exact .inl (.inr ⟨o,l _ _ h⟩)
 ·exact .inr h
theorem Le.sqL{K:Qq}{G G':Hp}(l:Le G G'){a:Addr}{xs:List V}(h:lX K G a xs):lX K G' a xs:=by
 rcases h with h|h
 ·rcases h with h|⟨o,h⟩
  ·exact .inl (.inl (l _ _ h))
  ·exact .inl (.inr ⟨o,l _ _ h⟩)
 ·exact .inr h
theorem Ca.mono{K:Qq}{G G':Hp}(l:Le G G'):∀{ps:List (Key×V)}{qs:List (Str×List Int)},Ca K G ps qs->Ca K G' ps qs
 |[],[],_=>trivial
 |_::_,_::_,⟨h1,⟨a,h2,h3⟩,h4⟩=>⟨h1,⟨a,h2,l.sqU h3⟩,Ca.mono l h4⟩
theorem FM.mono{K:Qq}{G G':Hp}(l:Le G G'){v:V}:∀{o:Ob},FM K G v o->FM K G' v o
 |.exc n,⟨a,C,HP,h1,h2,h3,h4⟩=>⟨a,C,HP,h1,h2,l _ _ h3,h4⟩
 |.fn n,h=>h
 |.dk kvs,⟨a,h1,h2⟩=>⟨a,h1,l _ _ h2⟩
 |.dt kvs,⟨a,ps,h1,h2,h3⟩=>⟨a,ps,h1,l _ _ h2,h3.mono l⟩
mutual
theorem b0.mono{K:Qq}{G G':Hp}(l:Le G G'):∀(d:D) {v:V},b0 K G v d->b0 K G' v d
 |.non,_,h=>by simpa only[b0]using h
 |.bl b,_,h=>by simpa only[b0]using h
 |.int i,_,h=>by simpa only[b0]using h
 |.str x,_,h=>by simpa only[b0]using h
 |.tup ds,_,h=>by
  simp only[b0]at h ⊢;obtain⟨a,xs,e,q,r⟩:=h;exact⟨a,xs,e,l.sqU q,C3.mono l ds r⟩
 |.lst ds,_,h=>by
  simp only[b0]at h ⊢;obtain⟨a,xs,e,q,r⟩:=h;exact⟨a,xs,e,l.sqL q,C3.mono l ds r⟩
 |.emp,_,h=>by
  simp only[b0]at h ⊢;obtain⟨a,kvs,e,q⟩:=h;exact⟨a,kvs,e,l _ _ q⟩
 |.obj o,_,h=>by
  simp only[b0]at h ⊢;exact h.mono l
 |.dct ks vs,_,h=>by
  simp only[b0]at h ⊢;obtain⟨a,kvs,e,q,k,r⟩:=h;exact⟨a,kvs,e,l _ _ q,k,C3.mono l vs r⟩
theorem C3.mono{K:Qq}{G G':Hp}(l:Le G G'):∀(ds:List D) {xs:List V},C3 K G xs ds->C3 K G' xs ds
 |[],_,h=>by simpa only[C3]using h
 |d::ds,_,h=>by
  simp only[C3]at h ⊢;obtain⟨x,r,e,q,t⟩:=h;exact⟨x,r,e,b0.mono l d q,C3.mono l ds t⟩
end
theorem f7{K:Qq}{G:Hp}:C3 K G [] []:=by simp only[C3]
theorem d9{K:Qq}{G:Hp}{x:V}{xs:List V}{d:D}{ds:List D}(h:b0 K G x d)(t:C3 K G xs ds):C3 K G (x::xs) (d::ds):=by
 simp only[C3];exact⟨x,xs,rfl,h,t⟩
theorem C3.length{K:Qq}{G:Hp}:∀{ds:List D}{xs:List V},C3 K G xs ds->xs.length=ds.length
 |[],_,h=>by simp only[C3]at h;subst h;rfl
 |d::ds,_,h=>by
  simp only[C3]at h;obtain⟨x,r,e,q,t⟩:=h;subst e
  simp[C3.length t]
theorem C3.append{K:Qq}{G:Hp}:∀{ds es:List D}{xs ys:List V},C3 K G xs ds->C3 K G ys es->C3 K G (xs++ys) (ds++es)
 |[],_,_,_,h,t=>by simp only[C3]at h;subst h;exact t
 |d::ds,_,_,_,h,t=>by
  simp only[C3]at h;obtain⟨x,r,e,q,u⟩:=h;subst e;exact d9 q (C3.append u t)
theorem C3.get{K:Qq}{G:Hp}:∀{ds:List D}{xs:List V}{i:Nat}{d:D},C3 K G xs ds->ds[i]? =some d->∃x,xs[i]? =some x/\b0 K G x d
 |[],_,i,d,h,e=>by simp at e
 |d::ds,_,i,d',h,e=>by
  simp only[C3]at h;obtain⟨x,r,e1,q,t⟩:=h;subst e1;cases i with
  |zero=>simp at e;subst e;exact⟨x,rfl,q⟩
  |succ i=>simpa using C3.get (i:=i) t (by simpa using e)
theorem C3.get'{K:Qq}{G:Hp}{ds:List D}{xs:List V}{i:Nat}{x:V}(h:C3 K G xs ds)(e:xs[i]? =some x):∃d,ds[i]? =some d/\b0 K G x d:=by
 have hl:=h.length
 have hi:i<xs.length:=(Qb.mp e).1
 obtain⟨x',e',r⟩:=h.get (i:=i) (d:=ds[i]'(by omega)) (by simp)
 rw[e]at e';cases e';exact⟨_,by simp,r⟩
theorem C3.take{K:Qq}{G:Hp}:∀{ds:List D}{xs:List V}(n:Nat),C3 K G xs ds->C3 K G (xs.take n) (ds.take n)
 |_,_,0,_=>by simp[f7]
 |[],_,n+1,h=>by simp only[C3]at h;subst h;simp[f7]
 |d::ds,_,n+1,h=>by
  simp only[C3]at h;obtain⟨x,r,e,q,t⟩:=h;subst e;exact d9 q (t.take n)
theorem C3.drop{K:Qq}{G:Hp}:∀{ds:List D}{xs:List V}(n:Nat),C3 K G xs ds->C3 K G (xs.drop n) (ds.drop n)
 |_,_,0,h=>h
 |[],_,n+1,h=>by simp only[C3]at h;subst h;simp[f7]
 |d::ds,_,n+1,h=>by
  simp only[C3]at h;obtain⟨x,r,e,q,t⟩:=h;subst e;exact t.drop n
theorem C3.reverse{K:Qq}{G:Hp}:∀{ds:List D}{xs:List V},C3 K G xs ds->C3 K G xs.reverse ds.reverse
 |[],_,h=>by simp only[C3]at h;subst h;simp[f7]
 |d::ds,_,h=>by
  simp only[C3]at h;obtain⟨x,r,e,q,t⟩:=h;subst e;simp only[Xl];exact t.reverse.append (d9 q f7)
theorem C3.set{K:Qq}{G:Hp}:∀{ds:List D}{xs:List V}{x:V}{d:D}(n:Nat),C3 K G xs ds->b0 K G x d->C3 K G (xs.set n x) (ds.set n d)
 |[],_,_,_,n,h,_=>by simp only[C3]at h;subst h;simp[f7]
 |d::ds,_,_,_,0,h,q'=>by
  simp only[C3]at h;obtain⟨x,r,e,q,t⟩:=h;subst e;exact d9 q' t
 |d::ds,_,_,_,n+1,h,q'=>by
  simp only[C3]at h;obtain⟨x,r,e,q,t⟩:=h;subst e;exact d9 q (t.set n q')
inductive Mu where
 |l (ds:List D)|d (ks:OI) (vs:List D)
 deriving Inhabited
inductive W where
 |nil|dat (d:D)|own (ds:List D)|par (ds:List D)|ownD (ks:OI) (vs:List D)|parD (ks:OI) (vs:List D)
 deriving Inhabited
abbrev a9:=List W
abbrev OZ:=D->a9->Option a9
def W.mut:W->Option Mu
 |.own ds=>some (.l ds)
 |.par ds=>some (.l ds)
 |.ownD ks vs=>some (.d ks vs)
 |.parD ks vs=>some (.d ks vs)
 |_=>none
def W.mutL:W->Option (List D)
 |.own ds=>some ds
 |.par ds=>some ds
 |_=>none
def W.mutD:W->Option (OI×List D)
 |.ownD ks vs=>some (ks,vs)
 |.parD ks vs=>some (ks,vs)
 |_=>none
def W.put:W->List D->W
 |.own _,ds=>.own ds
 |.par _,ds=>.par ds
 |w,_=>w
def W.isOwn:W->Bool
 |.own _=>true
 |.ownD _ _=>true
 |_=>false
def W.isPar:W->Bool
 |.par _=>true
 |.parD _ _=>true
 |_=>false
def W.putM(w:W):Mu->W
 |.l ds=>if w.isOwn then .own ds else if w.isPar then .par ds else w
 |.d ks vs=>if w.isOwn then .ownD ks vs else if w.isPar then .parD ks vs else w
theorem W.mutL_of{w:W}{ds:List D}(h:w.mutL=some ds):w.mut=some (.l ds):=by cases w<;>first|(cases h;rfl)|cases h
theorem W.mutD_of{w:W}{ks:OI}{vs:List D}(h:w.mutD=some (ks,vs)):w.mut=some (.d ks vs):=by cases w<;>first|(cases h;rfl)|cases h
theorem W.put_eq{w:W}{ds:List D}(h:w.mutL=some ds)(ds':List D):w.put ds'=w.putM (.l ds'):=by cases w<;>first|rfl|cases h
theorem W.putM_mut{w:W}{m:Mu}(h:w.mut=some m)(m':Mu):(w.putM m').mut=some m':=by
 cases w<;>cases m'<;>first|rfl|cases h
theorem W.putM_own{w:W}{m:Mu}(h:w.mut=some m)(m':Mu):(w.putM m').isOwn=w.isOwn:=by
 cases w<;>cases m'<;>first|rfl|cases h
theorem W.putM_par{w:W}{m:Mu}(h:w.mut=some m)(m':Mu):(w.putM m').isPar=w.isPar:=by
 cases w<;>cases m'<;>first|rfl|cases h
def d8(σ:St)(env:a9)(a:Addr):Prop:=∃(i:Nat) (w:W) (m:Mu),env[i]? =some w/\w.mut=some m/\σ[i]? =some (some (V.ref a))
theorem nA{w:W}(h:w.isOwn=true):∃m,w.mut=some m:=by cases w<;>first|exact⟨_,rfl⟩|cases h
theorem mK{w:W}(h:w.isPar=true):∃m,w.mut=some m:=by cases w<;>first|exact⟨_,rfl⟩|cases h
def NT(o:HO):Prop:=∀ps,o≠.tbl ps
theorem lC{xs:List V}:NT (.lst xs):=fun _ z=>by cases z
theorem qU{xs:List V}:NT (.tup xs):=fun _ z=>by cases z
def mV(q:Str):Str:=(q++".<locals>.")++"<lambda>"
def pL(K:Qq)(P:Addr)(q:Str):Bool:=K.all fun p=>match p.2 with
 |⟨.type "code",_,.fields vs,_⟩=>(match (vs[11]? :Option Value)with|some (.ref P')=>P' !=P|_=>true)||(match vs.toList with|_::.str n _::_=>n==q|_=>false)
 |_=>true
def oD(K:Qq)(P a:Addr):HO:=.ext fun h=>∀q,pL K P q=true->h.CodeRec (.ref a) (mV q)
def lD(K:Qq)(H:Hp):Prop:=∀P ps,H P=some (.tbl ps)->TriplesOk ps.toList/\∀pos v,codeAmong pos ps.toList=some v->∃a,v=.ref a/\H a=some (oD K P a)
theorem lD.mono{K:Qq}{H H':Hp}(t:lD K H)(h1:∀P ps,H' P=some (.tbl ps)->H P=some (.tbl ps))(h2:∀a φ,H a=some (.ext φ)->H' a=some (.ext φ)):lD K H':=fun P ps e=>by
 obtain⟨q1,q2⟩:=t P ps (h1 P ps e);refine⟨q1,fun pos v e=>?_⟩
 obtain⟨a,e1,e2⟩:=q2 pos v e;exact⟨a,e1,h2 _ _ e2⟩
theorem lD.upd{K:Qq}{H:Hp}(t:lD K H){a:Addr}{o:HO}(no:NT o)(h:∀φ,H a≠some (.ext φ)):lD K (upd H a o):=
 t.mono (fun P ps e=>by
  by_cases hb:P=a
  ·subst hb;rw[F9]at e;cases e;exact absurd rfl (no ps)
  ·rw[D6 hb]at e;exact e) fun b φ e=>by
  by_cases hb:b=a
  ·subst hb;exact absurd e (h φ)
  ·rw[D6 hb];exact e
def m5(K:Qq)(G:Hp)(o:HO):Mu->Prop
 |.l ds=>∃xs,o=.lst xs/\C3 K G xs ds
 |.d ks vs=>∃kvs,o=.dT (L8 K) kvs/\kvs.map (·.1)=ks.map L9/\C3 K G (kvs.map (·.2)) vs
theorem m5.mono{K:Qq}{G G':Hp}(l:Le G G'){o:HO}:∀{m:Mu},m5 K G o m->m5 K G' o m
 |.l ds,⟨xs,e,r⟩=>⟨xs,e,C3.mono l ds r⟩
 |.d ks vs,⟨kvs,e,k,r⟩=>⟨kvs,e,k,C3.mono l vs r⟩
theorem m5.nt{K:Qq}{G:Hp}{o:HO}:∀{m:Mu},m5 K G o m->NT o
 |.l ds,⟨xs,e,r⟩=>by subst e;exact lC
 |.d ks vs,⟨kvs,e,k,r⟩=>by subst e;exact fun _ z=>by cases z
theorem m5.ne{K:Qq}{G:Hp}{o:HO}{m:Mu}(r:m5 K G o m):∀φ,o≠.ext φ:=by
 cases m with
 |l ds=>obtain⟨xs,e,_⟩:=r;subst e;exact fun _ z=>by cases z
 |d ks vs=>obtain⟨xs,e,_⟩:=r;subst e;exact fun _ z=>by cases z
structure Rel(K:Qq)(B:OA)(G:Hp)(σ:St)(env:a9)(H:Hp):Prop where
 sub:Le G H
 len:env.length=σ.length
 dat:∀(i:Nat) (d:D),env[i]? =some (.dat d)->∃v,σ[i]? =some (some v)/\b0 K G v d
 own:∀(i:Nat) (w:W) (m:Mu),env[i]? =some w->w.mut=some m->∃a o,σ[i]? =some (some (V.ref a))/\H a=some o/\m5 K G o m/\G a=none
 inj:∀(i j:Nat) (w w':W) (ds es:Mu) (a:Addr),env[i]? =some w->w.mut=some ds->env[j]? =some w'->w'.mut=some es->σ[i]? =some (some (V.ref a))->σ[j]? =some (some (V.ref a))->i=j
 fresh:∀(i:Nat) (w:W) (a:Addr),env[i]? =some w->w.isOwn=true->σ[i]? =some (some (V.ref a))-> ¬ B a
 old:∀b,B b->H b≠none
 tabs:lD K H
 gnt:∀b o,G b=some o->NT o
structure Ev(K:Qq)(B:OA)(G:Hp)(σ:St)(env:a9)(H:Hp)(G':Hp)(σ':St)(env':a9)(H':Hp):Prop where
 rel:Rel K B G' σ' env' H'
 same:Le G G'
 keep:∀b o,¬ d8 σ env b->NT o->H b=some o->H' b=some o
 live:∀b,H b≠none->H' b≠none
 stay:∀b,H b≠none-> ¬ d8 σ env b->G b=none->G' b=none
 sub:∀a,d8 σ' env' a->d8 σ env a\/H a=none
 par:∀(i:Nat) (w:W),env'[i]? =some w->w.isPar=true->σ'[i]? =σ[i]? /\ ∃w0,env[i]? =some w0/\w0.isPar=true
 slen:σ'.length=σ.length
theorem Ev.refl{K:Qq}{B:OA}{G:Hp}{σ:St}{env:a9}{H:Hp}(r:Rel K B G σ env H):Ev K B G σ env H G σ env H:=
 ⟨r,Le.refl,fun _ _ _ _ e=>e,fun _ e=>e,fun _ _ _ e=>e,fun _ e=>.inl e,fun _ w e h=>⟨rfl,w,e,h⟩,rfl⟩
theorem Ev.trans{K:Qq}{B:OA}{G G1 G2:Hp}{σ σ1 σ2:St}{env a8 f9:a9}{H H1 H2:Hp}(a:Ev K B G σ env H G1 σ1 a8 H1)(b:Ev K B G1 σ1 a8 H1 G2 σ2 f9 H2):Ev K B G σ env H G2 σ2 f9 H2 where
 rel:=b.rel
 same:=a.same.trans b.same
 keep:=fun x o n t e=>b.keep x o (fun z=>(a.sub x z).elim n fun q=>by rw[e]at q;cases q) t (a.keep x o n t e)
 live:=fun x e=>b.live x (a.live x e)
 stay:=fun x e n g=>b.stay x (a.live x e) (fun z=>(a.sub x z).elim n fun q=>e q) (a.stay x e n g)
 sub:=fun x z=>(b.sub x z).elim (fun q=>a.sub x q) fun q=>.inr (by
  cases h:H x with
  |none=>rfl
  |some o=>exact absurd q (a.live x (by rw[h];simp)))
 par:=fun i w e h=>by
  obtain⟨h1,d1,e1,p1⟩:=b.par i w e h;obtain⟨h2,d2,e2,p2⟩:=a.par i d1 e1 p1;exact⟨h1.trans h2,d2,e2,p2⟩
 slen:=b.slen.trans a.slen
theorem Rel.ownL{K:Qq}{B:OA}{G:Hp}{σ:St}{env:a9}{H:Hp}(r:Rel K B G σ env H)(i:Nat)(w:W)(ds:List D)(e1:env[i]? =some w)(e2:w.mutL=some ds):∃a xs,σ[i]? =some (some (V.ref a))/\H a=some (.lst xs)/\C3 K G xs ds/\G a=none:=by
 obtain⟨a,o,h1,h2,⟨xs,rfl,h3⟩,h4⟩:=r.own i w (.l ds) e1 (W.mutL_of e2);exact⟨a,xs,h1,h2,h3,h4⟩
theorem Rel.ownD{K:Qq}{B:OA}{G:Hp}{σ:St}{env:a9}{H:Hp}(r:Rel K B G σ env H)(i:Nat)(w:W)(ks:OI)(vs:List D)(e1:env[i]? =some w)(e2:w.mutD=some (ks,vs)):∃a kvs,σ[i]? =some (some (V.ref a))/\H a=some (.dT (L8 K) kvs)/\kvs.map (·.1)=ks.map L9/\C3 K G (kvs.map (·.2)) vs/\G a=none:=by
 obtain⟨a,o,h1,h2,⟨kvs,rfl,h3,h4⟩,h5⟩:=r.own i w (.d ks vs) e1 (W.mutD_of e2);exact⟨a,kvs,h1,h2,h3,h4,h5⟩
abbrev Mo(α:Type):=a9->Option (α×a9)
section
variable(K:Qq)(B:OA)
def TD(m:Mo D):TE:=fun σ H Q=>∃G env d env',Rel K B G σ env H/\m env=some (d,env')/\∀v G' H',Ev K B G σ env H G' σ env' H'->b0 K G' v d->Q v H'
def TL(m:Mo (List D)):TE:=fun σ H Q=>∃G env ds env',Rel K B G σ env H/\m env=some (ds,env')/\∀a xs G' H',Ev K B G σ env H G' σ env' H'->H a=none-> ¬ d8 σ env' a->H' a=some (.lst xs)->G' a=none->C3 K G' xs ds->Q (.ref a) H'
def nH(m:Mo Bool):TT:=fun σ H Q=>∃G env b env',Rel K B G σ env H/\m env=some (b,env')/\∀G' H',Ev K B G σ env H G' σ env' H'->Q b H'
inductive Ar where
 |d (d:D)|sl (i:Nat)
 deriving Inhabited
def j9(G:Hp)(σ:St):List V->List Ar->Prop
 |xs,[]=>xs=[]
 |xs,.d d::as=>∃x r,xs=x::r/\b0 K G x d/\j9 G σ r as
 |xs,.sl i::as=>∃x r,xs=x::r/\σ[i]? =some (some x)/\j9 G σ r as
def uV(m:Mo (List Ar)):TA:=fun σ H Q=>∃G env as env',Rel K B G σ env H/\m env=some (as,env')/\∀vs G' H',Ev K B G σ env H G' σ env' H'->j9 K G' σ vs as->Q vs H'
def sP(m:Mo (List D)):TA:=fun σ H Q=>∃G env ds env',Rel K B G σ env H/\m env=some (ds,env')/\∀vs G' H',Ev K B G σ env H G' σ env' H'->C3 K G' vs ds->Q vs H'
inductive Fl where
 |nx|bk|ct|ret (d:D)|retL (ds:List D)
def Post(G:Hp)(σ:St)(env:a9)(H:Hp)(env':a9)(D:Ends):Fl->Prop
 |.nx=>∀σ' G' H',Ev K B G σ env H G' σ' env' H'->D.nx σ' H'
 |.bk=>∀σ' G' H',Ev K B G σ env H G' σ' env' H'->D.bk σ' H'
 |.ct=>∀σ' G' H',Ev K B G σ env H G' σ' env' H'->D.ct σ' H'
 |.ret d=>∀v σ' G' H',Ev K B G σ env H G' σ' env' H'->b0 K G' v d->D.rt v H'
 |.retL ds=>∀a xs σ' G' H',Ev K B G σ env H G' σ' env' H'-> ¬ B a-> ¬ d8 σ' env' a->H' a=some (.lst xs)->G' a=none->C3 K G' xs ds->D.rt (.ref a) H'
def tW(m:Mo Fl):TS:=fun D σ H=>∃G env fl env',Rel K B G σ env H/\m env=some (fl,env')/\Post K B G σ env H env' D fl
theorem Post.after{G G1:Hp}{σ σ1:St}{env a8 env':a9}{H H1:Hp}{D:Ends}{fl:Fl}(k:Post K B G σ env H env' D fl)(ev:Ev K B G σ env H G1 σ1 a8 H1):Post K B G1 σ1 a8 H1 env' D fl:=by
 cases fl with
 |nx=>exact fun σ2 G2 H2 d7=>k σ2 G2 H2 (ev.trans d7)
 |bk=>exact fun σ2 G2 H2 d7=>k σ2 G2 H2 (ev.trans d7)
 |ct=>exact fun σ2 G2 H2 d7=>k σ2 G2 H2 (ev.trans d7)
 |ret d=>exact fun v σ2 G2 H2 d7=>k v σ2 G2 H2 (ev.trans d7)
 |retL d=>exact fun a xs σ2 G2 H2 d7=>k a xs σ2 G2 H2 (ev.trans d7)
end
abbrev ED(X:Cx)(B:OA)(e:Expr)(m:Mo D):Prop:=PE X e (TD X.K B m)
abbrev EL(X:Cx)(B:OA)(e:Expr)(m:Mo (List D)):Prop:=PE X e (TL X.K B m)
abbrev ET(X:Cx)(B:OA)(e:Expr)(m:Mo Bool):Prop:=PT X e (nH X.K B m)
abbrev pC(X:Cx)(B:OA)(es:List Expr)(m:Mo (List Ar)):Prop:=PA X es (uV X.K B m)
abbrev oP(X:Cx)(B:OA)(es:List Expr)(m:Mo (List D)):Prop:=PA X es (sP X.K B m)
abbrev ES(X:Cx)(B:OA)(s:Stmt)(m:Mo Fl):Prop:=PS X s (tW X.K B m)
abbrev pD(X:Cx)(B:OA)(s:List Stmt)(m:Mo Fl):Prop:=m9 X s (tW X.K B m)
theorem d6{X:Cx}{e:Expr}{t t':TE}(h:PE X e t)(i:∀σ H Q,t' σ H Q->t σ H Q):PE X e t':=fun pins s σ H Q I q=>h pins s σ H Q I (i σ H Q q)
theorem nL{X:Cx}{e:Expr}{t t':TT}(h:PT X e t)(i:∀σ H Q,t' σ H Q->t σ H Q):PT X e t':=fun pins s σ H Q I q=>h pins s σ H Q I (i σ H Q q)
theorem pw_imp{X:Cx}{e:Expr}{t t':TT}(h:PW X e t)(i:∀σ H Q,t' σ H Q->t σ H Q):PW X e t':=fun wh pins s σ H Q I q=>h wh pins s σ H Q I (i σ H Q q)
theorem mB{X:Cx}{e:List Expr}{t t':TA}(h:PA X e t)(i:∀σ H Q,t' σ H Q->t σ H Q):PA X e t':=fun pos pins s σ H Q I q=>h pos pins s σ H Q I (i σ H Q q)
theorem jZ{X:Cx}{e:Stmt}{t t':TS}(h:PS X e t)(i:∀D σ H,t' D σ H->t D σ H):PS X e t':=fun pins s σ H D I q=>h pins s σ H D I (i D σ H q)
theorem nM{X:Cx}{e:List Stmt}{t t':TS}(h:m9 X e t)(i:∀D σ H,t' D σ H->t D σ H):m9 X e t':=fun pins s σ H D I q=>h pins s σ H D I (i D σ H q)
section
variable{K:Qq}{B:OA}{G G':Hp}{σ σ':St}{env env':a9}{H H':Hp}
theorem Rel.gnone(r:Rel K B G σ env H){p:Addr}(h:H p=none):G p=none:=by
 cases e:G p with
 |none=>rfl
 |some o=>rw[r.sub p o e]at h;cases h
theorem Rel.unowned(r:Rel K B G σ env H){p:Addr}(h:H p=none):¬ d8 σ env p:=by
 rintro⟨i,w,ds,e1,e2,e3⟩;obtain⟨a,xs,e4,e5,_⟩:=r.own i w ds e1 e2;rw[e3]at e4;cases e4;rw[h]at e5;cases e5
theorem Hc{G:Hp}{p:Addr}{o:HO}(h:∀b o,G b=some o->NT o)(no:NT o):∀b u,upd G p o b=some u->NT u:=fun b u e=>by
 by_cases hb:b=p
 ·subst hb;rw[F9]at e;cases e;exact no
 ·rw[D6 hb]at e;exact h b u e
theorem Rel.alloc(r:Rel K B G σ env H){p:Addr}{o:HO}(h:H p=none)(no:NT o:=by intro _ z;cases z):Ev K B G σ env H (upd G p o) σ env (upd H p o):=by
 have gp:=r.gnone h
 refine⟨⟨fun b u e=>?_,r.len,fun i d e=>?_,fun i w ds e1 e2=>?_,r.inj,r.fresh,fun b e=>?_,r.tabs.upd no (fun φ z=>by rw[h]at z;cases z),Hc r.gnt no⟩,Le.upd gp,fun b u _ _ e=>?_,fun b e=>?_,fun b e _ g=>?_,fun a z=>.inl z,fun i w e hp=>⟨rfl,w,e,hp⟩,rfl⟩
 ·by_cases hb:b=p
  ·subst hb;rw[F9]at e ⊢;exact e
  ·rw[D6 hb]at e ⊢;exact r.sub b u e
 ·obtain⟨v,e1,e2⟩:=r.dat i d e
  exact⟨v,e1,b0.mono (Le.upd gp) d e2⟩
 ·obtain⟨a,xs,e3,e4,e5,e6⟩:=r.own i w ds e1 e2
  have ha:a≠p:=Q2 e4 h
  exact⟨a,xs,e3,by rw[D6 ha];exact e4,e5.mono (Le.upd gp),by rw[D6 ha];exact e6⟩
 ·by_cases hb:b=p
  ·subst hb;rw[F9];simp
  ·rw[D6 hb];exact r.old b e
 ·rw[D6 (Q2 e h)];exact e
 ·by_cases hb:b=p
  ·subst hb;rw[F9];simp
  ·rw[D6 hb];exact e
 ·have hb:b≠p:=fun z=>e (z ▸ h)
  rw[D6 hb];exact g
theorem Rel.allocM(r:Rel K B G σ env H){p:Addr}{o:HO}(h:H p=none)(no:NT o:=by intro _ z;cases z):Ev K B G σ env H G σ env (upd H p o):=by
 refine⟨⟨fun b u e=>?_,r.len,r.dat,fun i w ds e1 e2=>?_,r.inj,r.fresh,fun b e=>?_,r.tabs.upd no (fun φ z=>by rw[h]at z;cases z),r.gnt⟩,Le.refl,fun b u _ _ e=>?_,fun b e=>?_,fun b e _ g=>g,fun a z=>.inl z,fun i w e hp=>⟨rfl,w,e,hp⟩,rfl⟩
 ·rw[D6 (Q2 (r.sub b u e) h)];exact r.sub b u e
 ·obtain⟨a,xs,e3,e4,e5,e6⟩:=r.own i w ds e1 e2
  exact⟨a,xs,e3,by rw[D6 (Q2 e4 h)];exact e4,e5,e6⟩
 ·by_cases hb:b=p
  ·subst hb;rw[F9];simp
  ·rw[D6 hb];exact r.old b e
 ·rw[D6 (Q2 e h)];exact e
 ·by_cases hb:b=p
  ·subst hb;rw[F9];simp
  ·rw[D6 hb];exact e
theorem Ev.frz{a:Addr}{xs:List V}(v:Ev K B G σ env H G' σ' env' H')(ha:H a=none)(no:¬ d8 σ' env' a)(h':H' a=some (.lst xs))(g':G' a=none):
  Ev K B G σ env H (upd G' a (.lst xs)) σ' env' H':=by
 refine⟨⟨fun b u e=>?_,v.rel.len,fun i d e=>?_,fun i w ds e1 e2=>?_,v.rel.inj,v.rel.fresh,v.rel.old,v.rel.tabs,Hc v.rel.gnt lC⟩,v.same.trans (Le.upd g'),v.keep,v.live,fun b e n g=>?_,v.sub,v.par,v.slen⟩
 ·by_cases hb:b=a
  ·subst hb;rw[F9]at e;cases e;exact h'
  ·rw[D6 hb]at e;exact v.rel.sub b u e
 ·obtain⟨x,e1,e2⟩:=v.rel.dat i d e
  exact⟨x,e1,b0.mono (Le.upd g') d e2⟩
 ·obtain⟨p,ys,e3,e4,e5,e6⟩:=v.rel.own i w ds e1 e2
  have hp:p≠a:=fun z=>no ⟨i,w,ds,e1,e2,by rw[←z];exact e3⟩
  exact⟨p,ys,e3,e4,e5.mono (Le.upd g'),by rw[D6 hp];exact e6⟩
 ·have hb:b≠a:=fun z=>e (z ▸ ha)
  rw[D6 hb];exact v.stay b e n g
theorem Hd{a:Addr}{xs:List V}{ds:List D}(h:G a=some (.lst xs))(r:C3 K G xs ds):b0 K G (.ref a) (.lst ds):=by
 simp only[b0];exact⟨a,xs,rfl,.inl (.inl h),r⟩
theorem Bo{a:Addr}{xs:List V}{ds:List D}(h:G a=some (.tup xs))(r:C3 K G xs ds):b0 K G (.ref a) (.tup ds):=by
 simp only[b0];exact⟨a,xs,rfl,.inl h,r⟩
theorem Rel.frzSlotM{i:Nat}{w0:W}{m:Mu}{d:D}(r:Rel K B G σ env H)(e:env[i]? =some w0)(em:w0.mut=some m)(hrep:∀G1 a o,G1 a=some o->m5 K G1 o m->b0 K G1 (.ref a) d):
  ∃a o,σ[i]? =some (some (.ref a))/\b0 K (upd G a o) (.ref a) d/\Ev K B G σ env H (upd G a o) σ (env.set i (.dat d)) H:=by
 obtain⟨a,o,e1,e2,e3,e4⟩:=r.own i _ m e em;have rp:b0 K (upd G a o) (.ref a) d:=hrep _ a o F9 (e3.mono (Le.upd e4));have ow:d8 σ env a:=⟨i,_,m,e,em,e1⟩;have hi:i<env.length:=(Qb.mp e).1;have ne:∀j w es,(env.set i (.dat d))[j]? =some w->w.mut=some es->j≠i/\env[j]? =some w:=fun j w es q1 q2=>by
  by_cases hj:j=i
  ·subst hj;rw[Zd hi]at q1;cases q1;cases q2
  ·rw[Qn (Zg hj)]at q1;exact⟨hj,q1⟩
 refine⟨a,o,e1,rp,⟨⟨fun b u q=>?_,by rw[Zn];exact r.len,fun j d q=>?_,fun j w es q1 q2=>?_,fun j k w w' es fs b q1 q2 q3 q4 q5 q6=>?_,fun j w b q1 qo q2=>?_,r.old,r.tabs,Hc r.gnt e3.nt⟩,Le.upd e4,fun b o _ _ q=>q,fun b q=>q,fun b q n g=>?_,fun b z=>?_,fun j w q qp=>?_,rfl⟩⟩
 ·by_cases hb:b=a
  ·subst hb;rw[F9]at q;cases q;exact e2
  ·rw[D6 hb]at q;exact r.sub b u q
 ·by_cases hj:j=i
  ·subst hj;rw[Zd hi]at q;cases q;exact⟨_,e1,rp⟩
  ·rw[Qn (Zg hj)]at q
   obtain⟨x,q1,q2⟩:=r.dat j d q;exact⟨x,q1,b0.mono (Le.upd e4) d q2⟩
 ·obtain⟨hj,q⟩:=ne j w es q1 q2
  obtain⟨p,ys,e3',e4',e5',e6'⟩:=r.own j w es q q2;have hp:p≠a:=fun z=>hj (r.inj j i w _ es m a q q2 e em (by rw[e3',z]) e1)
  exact⟨p,ys,e3',e4',e5'.mono (Le.upd e4),by rw[D6 hp];exact e6'⟩
 ·exact r.inj j k w w' es fs b (ne j w es q1 q2).2 q2 (ne k w' fs q3 q4).2 q4 q5 q6
 ·obtain⟨es,hm⟩:=nA qo
  exact r.fresh j w b (ne j _ es q1 hm).2 qo q2
 ·have hb:b≠a:=fun z=>n (z ▸ ow)
  rw[D6 hb];exact g
 ·obtain⟨j,w,es,q1,q2,q3⟩:=z
  exact .inl ⟨j,w,es,(ne j w es q1 q2).2,q2,q3⟩
 ·obtain⟨es,hm⟩:=mK qp
  exact⟨rfl,w,(ne j _ es q hm).2,qp⟩
theorem Rel.frzSlot{i:Nat}{ds:List D}(r:Rel K B G σ env H)(e:env[i]? =some (.own ds)):
  ∃a o,σ[i]? =some (some (.ref a))/\b0 K (upd G a o) (.ref a) (.lst ds)/\Ev K B G σ env H (upd G a o) σ (env.set i (.dat (.lst ds))) H:=
 r.frzSlotM (m:=.l ds) e rfl fun G1 a o h ⟨xs,z,q⟩=>by subst z;exact Hd h q
theorem Rel.frzSlotD{i:Nat}{ks:OI}{vs:List D}(r:Rel K B G σ env H)(e:env[i]? =some (.ownD ks vs)):
  ∃a o,σ[i]? =some (some (.ref a))/\b0 K (upd G a o) (.ref a) (.dct ks vs)/\Ev K B G σ env H (upd G a o) σ (env.set i (.dat (.dct ks vs))) H:=
 r.frzSlotM (m:=.d ks vs) e rfl fun G1 a o h ⟨kvs,z,q1,q2⟩=>by subst z;simp only[b0];exact⟨a,kvs,rfl,h,q1,q2⟩
end
def A0(i:Nat):Mo D:=fun env=>match env[i]? with
 |some (.dat d)=>some (d,env)
 |some (.own ds)=>some (.lst ds,env.set i (.dat (.lst ds)))
 |some (.ownD ks vs)=>some (.dct ks vs,env.set i (.dat (.dct ks vs)))
 |_=>none
def mC(d:D):Mo D:=fun env=>some (d,env)
section
variable{X:Cx}{B:OA}{pos:Pos}
theorem B3{i:Nat}{x:Str}(h:PE X (.Name x pos) (Q3 i)):ED X B (.Name x pos) (A0 i):=by
 refine d6 h fun σ H Q q=>?_
 obtain⟨G,env,d,env',r,e,k⟩:=q;unfold A0 at e;split at e
 ·rename_i d' e1
  cases e;obtain⟨v,e2,e3⟩:=r.dat i _ e1;exact⟨v,e2,k v G H (.refl r) e3⟩
 ·rename_i ds e1
  cases e;obtain⟨a,xs,e2,e3,e4⟩:=r.frzSlot e1;exact⟨_,e2,k _ _ H e4 e3⟩
 ·rename_i ks vs e1
  cases e;obtain⟨a,xs,e2,e3,e4⟩:=r.frzSlotD e1;exact⟨_,e2,k _ _ H e4 e3⟩
 ·cases e
theorem Dl{e:Expr}{v:V}{d:D}(h:PE X e (tC v))(hd:∀K G,b0 K G v d):ED X B e (mC d):=by
 refine d6 h fun σ H Q q=>?_
 obtain⟨G,env,d',env',r,e,k⟩:=q;cases e;exact k v G H (.refl r) (hd _ _)
theorem C1{i:Int}{j:Nat}:ED X B (.Constant (.int i) j pos) (mC (.int i)):=Dl LD fun _ _=>by simp only[b0]
theorem N0{b:Bool}{j:Nat}:ED X B (.Constant (.bool b) j pos) (mC (.bl b)):=Dl LF fun _ _=>by simp only[b0]
theorem AH{j:Nat}:ED X B (.Constant .none j pos) (mC .non):=Dl LG fun _ _=>by simp only[b0]
theorem M0{x:Str}{j:Nat}(hx:x.length≤1000):ED X B (.Constant (.str x) j pos) (mC (.str x)):=Dl Rz fun _ _=>by simp only[b0];exact⟨trivial,Jx (Dk hx)⟩
theorem US{x:Str}{i:Int}{t:Tok}(hg:Gl X x)(hm:X.mg x=some (.int i t))(hd:(x==("__debug__":Str))=false:=by decide):ED X B (.Name x pos) (mC (.int i)):=
 Dl (HI (v:=.int i) hg hm ⟨t,rfl⟩ hd) fun _ _=>by simp only[b0]
def B8(f:D->D->Option D)(ma mb:Mo D):Mo D:=fun env=>(ma env).bind fun p=>(mb p.2).bind fun q=>(f p.1 q.1).map fun d=>(d,q.2)
def lN(X:Cx)(B:OA)(r:R2)(f:D->D->Option D):Prop:=
 ∀(G:Hp) (σ:St) (env:a9) (H:Hp) (x y:V) (a b c:D) (Q:VK),Rel X.K B G σ env H->b0 X.K G x a->b0 X.K G y b->f a b=some c->
  (∀v G' H',Ev X.K B G σ env H G' σ env H'->b0 X.K G' v c->Q v H')->r x y H Q
theorem FN{r:R2}{f:D->D->Option D}{ma mb:Mo D}(o:lN X B r f):∀σ H Q,TD X.K B (B8 f ma mb) σ H Q->r9 r (TD X.K B ma) (TD X.K B mb) σ H Q:=by
 rintro σ H Q ⟨G,env,d,env',rl,e,k⟩;unfold B8 at e;cases ea:ma env with
 |none=>rw[ea]at e;cases e
 |some p=>
  obtain⟨d1,a8⟩:=p;rw[ea]at e;simp only[Qj]at e;cases eb:mb a8 with
  |none=>rw[eb]at e;cases e
  |some p=>
   obtain⟨d2,f9⟩:=p;rw[eb]at e;simp only[Qj]at e;cases ef:f d1 d2 with
   |none=>rw[ef]at e;cases e
   |some c=>
    rw[ef]at e;cases e;refine⟨G,env,d1,a8,rl,ea,fun v1 G1 H1 v r1=>⟨G1,a8,d2,_,v.rel,eb,fun v2 G2 H2 v' r2=>?_⟩⟩
    exact o G2 σ _ H2 v1 v2 d1 d2 _ Q v'.rel (b0.mono v'.same _ r1) r2 ef fun v3 G3 H3 v3' r3=>k v3 G3 H3 ((v.trans v').trans v3') r3
theorem D9{op:Operator}{r:R2}{f:D->D->Option D}{a b:Expr}{ma mb:Mo D}(ho:kQ X (binaryOp op) r)(o:lN X B r f)(ha:ED X B a ma)(hb:ED X B b mb):ED X B (.BinOp a op b pos) (B8 f ma mb):=
 d6 (LP ho ha hb) (FN o)
theorem Cb{op:CmpOp}{r:R2}{f:D->D->Option D}{a b:Expr}{ma mb:Mo D}(ho:kQ X (compareOp op) r)(o:lN X B r f)(ha:ED X B a ma)(hb:ED X B b mb)(hm:behindInMarks op b=false):ED X B (.Compare a [op] [b] pos) (B8 f ma mb):=
 d6 (Ta ho ha hb hm) (FN o)
def fI(C:Int->Int->Bool)(g:Int->Int->D):D->D->Option D
 |.int i,.int j=>if C i j then some (g i j)else none
 |_,_=>none
theorem Cc{C:Int->Int->Prop}{c:Int->Int->Bool}{g:Int->Int->V}{g':Int->Int->D}(hc:∀i j,c i j=true->C i j)(hg:∀K G i j,b0 K G (g i j) (g' i j)):lN X B (rI C g) (fI c g'):=by
 intro G σ env H x y a b d Q rl ra rb e k;cases a<;>cases b<;>first|(exact absurd (show(none:Option D)=some d from e) (by simp))|skip
 rename_i i j;simp only[b0]at ra rb;subst ra rb;simp only[fI]at e;split at e
 ·rename_i h
  cases e;exact⟨i,j,rfl,rfl,hc i j h,k _ G H (.refl rl) (hg _ _ i j)⟩
 ·cases e
theorem Cd{g:Int->Int->V}{g':Int->Int->D}(hg:∀K G i j,b0 K G (g i j) (g' i j)):lN X B (n9 g) (fI (fun _ _=>true) g'):=by
 intro G σ env H x y a b d Q rl ra rb e k;cases a<;>cases b<;>first|(exact absurd (show(none:Option D)=some d from e) (by simp))|skip
 rename_i i j;simp only[b0]at ra rb;subst ra rb;simp only[fI,Zm]at e;cases e;exact⟨i,j,rfl,rfl,k _ G H (.refl rl) (hg _ _ i j)⟩
theorem kQ.or{f:Value->Value->Sem Value}{r r':R2}(h:kQ X f r)(h':kQ X f r'):kQ X f (fun x y H Q=>r x y H Q\/r' x y H Q):=by
 intro pins s σ H x y v u Q I rx ry q
 rcases q with q|q
 ·exact h pins s σ H x y v u Q I rx ry q
 ·exact h' pins s σ H x y v u Q I rx ry q
def sA(f g:D->D->Option D):D->D->Option D:=fun a b=>match f a b with
 |some c=>some c
 |none=>g a b
theorem lN.or{r r':R2}{f g:D->D->Option D}(h:lN X B r f)(h':lN X B r' g):lN X B (fun x y H Q=>r x y H Q\/r' x y H Q) (sA f g):=by
 intro G σ env H x y a b d Q rl ra rb e k;unfold sA at e;split at e
 ·rename_i c ec
  cases e;exact .inl (h G σ env H x y a b _ Q rl ra rb ec k)
 ·exact .inr (h' G σ env H x y a b d Q rl ra rb e k)
def Bp(i j:Int):Bool:=(decide (-(2^64)<i)&&decide (i<2^64))||(decide (-(2^64)<j)&&decide (j<2^64))
def FO(_ j:Int):Bool:=decide (0<j)&&decide (j<1073741824)
def FP(i j:Int):Bool:=decide (0≤j)&&decide (j≤1000000)&&decide (i.natAbs<2^64)
def FQ:=fI (fun _ _=>true) fun i j=>.int (i-j)
def He:=fI Bp fun i j=>.int (i * j)
def Dm:=fI FO fun i j=>.int (i/j)
def R1:=fI (fun _ j=>decide (0<j)) fun i j=>.int (i%j)
def U6:=fI FP fun i j=>.int (i^j.toNat)
def Ly:=fI (fun _ _=>true) fun i j=>.int (i+j)
def rJ:=fI (fun _ _=>true) fun i j=>.bl (decide (i<j))
def tX:=fI (fun _ _=>true) fun i j=>.bl (decide (i≤j))
def qV:=fI (fun _ _=>true) fun i j=>.bl (decide (j<i))
def tY:=fI (fun _ _=>true) fun i j=>.bl (decide (j≤i))
theorem UT:lN X B (n9 fun i j=>.int (i-j)) FQ:=Cd fun _ _ _ _=>by simp only[b0]
theorem UU:lN X B (n9 fun i j=>.int (i+j)) Ly:=Cd fun _ _ _ _=>by simp only[b0]
theorem UW:lN X B (rI Bl fun i j=>.int (i * j)) He:=Cc (fun i j h=>by simpa [Bl,Bp]using h) fun _ _ _ _=>by simp only[b0]
theorem UX:lN X B (rI HS fun i j=>.int (i/j)) Dm:=Cc (fun i j h=>by simpa [HS,FO]using h) fun _ _ _ _=>by simp only[b0]
theorem UY:lN X B (rI (fun _ j=>0<j) fun i j=>.int (i%j)) R1:=Cc (fun i j h=>by simpa using h) fun _ _ _ _=>by simp only[b0]
theorem Hf:lN X B (rI HU fun i j=>.int (i^j.toNat)) U6:=Cc (fun i j h=>by simpa [HU,FP,and_assoc]using h) fun _ _ _ _=>by simp only[b0]
theorem UZ:lN X B (n9 fun i j=>.bl (decide (i<j))) rJ:=Cd fun _ _ _ _=>by simp only[b0]
theorem VA:lN X B (n9 fun i j=>.bl (decide (i≤j))) tX:=Cd fun _ _ _ _=>by simp only[b0]
theorem VB:lN X B (n9 fun i j=>.bl (decide (j<i))) qV:=Cd fun _ _ _ _=>by simp only[b0]
theorem VC:lN X B (n9 fun i j=>.bl (decide (j≤i))) tY:=Cd fun _ _ _ _=>by simp only[b0]
end
section
variable{X:Cx}{B:OA}{pos:Pos}{a b c e:Expr}{ma mb mc:Mo D}{ta tb:Mo Bool}
theorem TD.bind{K:Qq}{m:Mo D}{σ:St}{H:Hp}{Q:VK}{G:Hp}{env env':a9}{d:D}(r:Rel K B G σ env H)(e:m env=some (d,env'))
  (k:∀v G' H',Ev K B G σ env H G' σ env' H'->b0 K G' v d->Q v H'):TD K B m σ H Q:=⟨G,env,d,env',r,e,k⟩
def v9:D×a9->Option (Bool×a9)
 |(.bl b,e)=>some (b,e)
 |_=>none
def mT(m:Mo D):Mo Bool:=fun env=>(m env).bind v9
theorem Lz{t:TE}{m:Mo D}(i:∀σ H Q,TD X.K B m σ H Q->t σ H Q)(mono:True):∀σ H Q,nH X.K B (mT m) σ H Q->(fun σ H (Q:Bool->Hp->Prop)=>t σ H fun x H'=>∃k,x=.bl k/\Q k H') σ H Q:=by
 rintro σ H Q ⟨G,env,b,env',rl,e,k⟩;unfold mT at e;cases em:m env with
 |none=>rw[em]at e;cases e
 |some p=>
  obtain⟨d,a8⟩:=p;rw[em]at e;simp only[Qj]at e;cases d<;>first|(exact absurd (show(none:Option (Bool×a9))=some (b,env')from e) (by simp))|skip
  cases e;refine i σ H _ (.bind rl em fun v G' H' ev r=>?_)
  simp only[b0]at r;exact⟨_,r,k G' H' ev⟩
theorem R3(h:ED X B e ma)(he:∀whole,isTrue e X.env whole=(do let v←whole;standAt e.pos;holding [v] (truthy v)):=by intro _;rfl):ET X B e (mT ma):=
 nL (SD h he) (Lz (fun _ _ _ q=>q) trivial)
theorem J5{op:CmpOp}{r:R2}{f:D->D->Option D}(ho:kQ X (compareOp op) r)(o:lN X B r f)(ha:ED X B a ma)(hb:ED X B b mb)(hm:behindInMarks op b=false):ET X B (.Compare a [op] [b] pos) (mT (B8 f ma mb)):=
 nL (Tc ho ha hb hm) (Lz (FN o) trivial)
def K0(t:Mo Bool):Mo Bool:=fun env=>(t env).map fun p=>(!p.1,p.2)
theorem U7(h:ET X B a ta):ET X B (.UnaryOp .Not a pos) (K0 ta):=by
 refine nL (SJ h) ?_
 rintro σ H Q ⟨G,env,b,env',rl,e,k⟩;unfold K0 at e;cases em:ta env with
 |none=>rw[em]at e;cases e
 |some p=>rw[em]at e;cases e;exact⟨G,env,_,_,rl,em,k⟩
def Ce(t u:Mo Bool):Mo Bool:=fun env=>(t env).bind fun p=>if p.1 then u p.2 else some (false,p.2)
def L4(t u:Mo Bool):Mo Bool:=fun env=>(t env).bind fun p=>if p.1 then some (true,p.2)else u p.2
theorem VD:∀σ H Q,nH X.K B (Ce ta tb) σ H Q->LH (nH X.K B ta) (nH X.K B tb) σ H Q:=by
 rintro σ H Q ⟨G,env,b,env',rl,e,k⟩;unfold Ce at e;cases em:ta env with
 |none=>rw[em]at e;cases e
 |some p=>
  obtain⟨b1,a8⟩:=p;rw[em]at e;simp only[Qj]at e;refine⟨G,env,b1,a8,rl,em,fun G1 H1 ev=>?_⟩
  cases b1 with
  |true=>
   simp only[Zm]at e ⊢;exact⟨G1,a8,b,env',ev.rel,e,fun G2 H2 d7=>k G2 H2 (ev.trans d7)⟩
  |false=>
   simp only[Zz,Yu]at e ⊢;cases e;exact k G1 H1 ev
theorem VE:∀σ H Q,nH X.K B (L4 ta tb) σ H Q->uQ (nH X.K B ta) (nH X.K B tb) σ H Q:=by
 rintro σ H Q ⟨G,env,b,env',rl,e,k⟩;unfold L4 at e;cases em:ta env with
 |none=>rw[em]at e;cases e
 |some p=>
  obtain⟨b1,a8⟩:=p;rw[em]at e;simp only[Qj]at e;refine⟨G,env,b1,a8,rl,em,fun G1 H1 ev=>?_⟩
  cases b1 with
  |false=>
   simp only[Zz,Yu]at e ⊢;exact⟨G1,a8,b,env',ev.rel,e,fun G2 H2 d7=>k G2 H2 (ev.trans d7)⟩
  |true=>
   simp only[Zm]at e ⊢;cases e;exact k G1 H1 ev
abbrev EW(X:Cx)(B:OA)(e:Expr)(m:Mo Bool):Prop:=PW X e (nH X.K B m)
variable{rest:List Expr}
theorem FR(h:ET X B a ta):EW X B (.BoolOp .And [a] pos) ta:=SF h
theorem BC(h:ET X B a ta):EW X B (.BoolOp .Or [a] pos) ta:=SG h
theorem FT(h:ET X B a ta)(h2:EW X B (.BoolOp .And (b::rest) pos) tb):EW X B (.BoolOp .And (a::b::rest) pos) (Ce ta tb):=pw_imp (SH h h2) VD
theorem AI(h:ET X B a ta)(h2:EW X B (.BoolOp .Or (b::rest) pos) tb):EW X B (.BoolOp .Or (a::b::rest) pos) (L4 ta tb):=pw_imp (SI h h2) VE
theorem Z0(h:EW X B e ta):ET X B e ta:=h.pt
def X3(m n:Mo D):Mo D:=fun env=>(m env).bind fun p=>match p.1 with
 |.bl true=>n p.2
 |.bl false=>some (.bl false,p.2)
 |_=>none
theorem Bq{op}(h:ED X B a ma):ED X B (.BoolOp op [a] pos) ma:=SM h
theorem Br(ha:ED X B a ma)(hb:ED X B (.BoolOp .And (b::rest) pos) mb):ED X B (.BoolOp .And (a::b::rest) pos) (X3 ma mb):=by
 refine d6 (SN ha hb) ?_
 rintro σ H Q ⟨G,env,d,env',rl,e,k⟩;unfold X3 at e;cases em:ma env with
 |none=>rw[em]at e;cases e
 |some p=>
  obtain⟨d1,a8⟩:=p;rw[em]at e;simp only[Qj]at e;refine .bind rl em fun v G1 H1 ev r1=>?_
  split at e
  ·simp only[b0]at r1
   exact⟨true,r1,by simp only[Zm];exact .bind ev.rel e fun v2 G2 H2 d7 r2=>k v2 G2 H2 (ev.trans d7) r2⟩
  ·simp only[b0]at r1
   cases e;exact⟨false,r1,by simp only[Zz,Yu];exact k _ G1 H1 ev (by simp only[b0])⟩
  ·cases e
def FU(m:Mo D):Mo D:=fun env=>(m env).bind fun p=>match p.1 with
 |.bl b=>some (.bl (!b),p.2)
 |_=>none
theorem Hg(ha:ED X B a ma):ED X B (.UnaryOp .Not a pos) (FU ma):=by
 refine d6 (SO ha) ?_
 rintro σ H Q ⟨G,env,d,env',rl,e,k⟩;unfold FU at e;cases em:ma env with
 |none=>rw[em]at e;cases e
 |some p=>
  obtain⟨d1,a8⟩:=p;rw[em]at e;simp only[Qj]at e;refine .bind rl em fun v G1 H1 ev r1=>?_
  split at e
  ·rename_i b1
   simp only[b0]at r1;cases e;exact⟨b1,r1,k _ G1 H1 ev (by simp only[b0])⟩
  ·cases e
def T2(m:Mo D):Mo D:=fun env=>(m env).bind fun p=>match p.1 with
 |.int b=>some (.int (-b),p.2)
 |_=>none
theorem BD(ha:ED X B a ma):ED X B (.UnaryOp .USub a pos) (T2 ma):=by
 refine d6 (LQ LS ha) ?_
 rintro σ H Q ⟨G,env,d,env',rl,e,k⟩;unfold T2 at e;cases em:ma env with
 |none=>rw[em]at e;cases e
 |some p=>
  obtain⟨d1,a8⟩:=p;rw[em]at e;simp only[Qj]at e;refine .bind rl em fun v G1 H1 ev r1=>?_
  split at e
  ·rename_i b1
   simp only[b0]at r1;cases e;exact⟨b1,r1,k _ G1 H1 ev (by simp only[b0])⟩
  ·cases e
def FV(f g:D->D->Option D)(ma mb mc:Mo D):Mo D:=fun env=>(ma env).bind fun p=>(mb p.2).bind fun q=>match f p.1 q.1 with
 |some (.bl true)=>(mc q.2).bind fun r=>(g q.1 r.1).map fun d=>(d,r.2)
 |some (.bl false)=>some (.bl false,q.2)
 |_=>none
theorem VF{r r':R2}{f g:D->D->Option D}(o:lN X B r f)(o':lN X B r' g):∀σ H Q,TD X.K B (FV f g ma mb mc) σ H Q->LU r r' (TD X.K B ma) (TD X.K B mb) (TD X.K B mc) σ H Q:=by
 rintro σ H Q ⟨G,env,d,env',rl,e,k⟩;unfold FV at e;cases ea:ma env with
 |none=>rw[ea]at e;cases e
 |some p=>
  obtain⟨d1,a8⟩:=p;rw[ea]at e;simp only[Qj]at e;cases eb:mb a8 with
  |none=>rw[eb]at e;cases e
  |some p=>
   obtain⟨d2,f9⟩:=p;rw[eb]at e;simp only[Qj]at e;refine .bind rl ea fun v1 G1 H1 j5 r1=>.bind j5.rel eb fun v2 G2 H2 d7 r2=>?_
   split at e
   ·rename_i ef
    refine o G2 σ _ H2 v1 v2 d1 d2 _ _ d7.rel (b0.mono d7.same _ r1) r2 ef fun v3 G3 H3 mR r3=>?_
    simp only[b0]at r3;refine⟨true,r3,?_⟩;simp only[Zm];cases ec:mc f9 with
    |none=>rw[ec]at e;cases e
    |some p=>
     obtain⟨d3,mL⟩:=p;rw[ec]at e;simp only[Qj]at e;cases eg:g d2 d3 with
     |none=>rw[eg]at e;cases e
     |some d4=>
      rw[eg]at e;cases e;refine .bind mR.rel ec fun v4 G4 H4 nU r4=>?_
      exact o' G4 σ _ H4 v2 v4 d2 d3 _ Q nU.rel (b0.mono nU.same _ (b0.mono mR.same _ r2)) r4 eg fun v5 G5 H5 oQ r5=>k v5 G5 H5 ((((j5.trans d7).trans mR).trans nU).trans oQ) r5
   ·rename_i ef
    cases e;refine o G2 σ _ H2 v1 v2 d1 d2 _ _ d7.rel (b0.mono d7.same _ r1) r2 ef fun v3 G3 H3 mR r3=>?_
    simp only[b0]at r3;refine⟨false,r3,?_⟩;simp only[Zz,Yu];exact k _ G3 H3 ((j5.trans d7).trans mR) (by simp only[b0])
   ·cases e
theorem MA{op op':CmpOp}{r r':R2}{f g:D->D->Option D}(ho:kQ X (compareOp op) r)(ho':kQ X (compareOp op') r')(o:lN X B r f)(o':lN X B r' g)(ha:ED X B a ma)(hb:ED X B b mb)(hc:ED X B c mc)
  (hm:lastMarks [op,op'] [b,c]=false:=by with_unfolding_all rfl):ED X B (.Compare a [op,op'] [b,c] pos) (FV f g ma mb mc):=d6 (Td ho ho' ha hb hc hm) (VF o o')
variable{es:List Expr}{ms:Mo (List D)}{as:Mo (List Ar)}
def B6:Mo (List D):=fun env=>some ([],env)
def B0(m:Mo D)(ms:Mo (List D)):Mo (List D):=fun env=>(m env).bind fun p=>(ms p.2).map fun q=>(p.1::q.1,q.2)
theorem C4:oP X B [] B6:=by
 refine mB Aj ?_
 rintro σ H Q ⟨G,env,d,env',rl,e,k⟩;cases e;exact k [] G H (.refl rl) f7
theorem B5(ha:ED X B e ma)(hr:oP X B es ms)(hs:starEach (e::es) X.env=(false,eval e X.env)::starEach es X.env:=by rfl):oP X B (e::es) (B0 ma ms):=by
 refine mB (O5 ha hr hs) ?_
 rintro σ H Q ⟨G,env,d,env',rl,e,k⟩;unfold B0 at e;cases ea:ma env with
 |none=>rw[ea]at e;cases e
 |some p=>
  obtain⟨d1,a8⟩:=p;rw[ea]at e;simp only[Qj]at e;cases eb:ms a8 with
  |none=>rw[eb]at e;cases e
  |some p=>
   obtain⟨d2,f9⟩:=p;rw[eb]at e;cases e;exact .bind rl ea fun v1 G1 H1 j5 r1=>⟨G1,a8,d2,_,j5.rel,eb,fun vs G2 H2 d7 r2=>k _ G2 H2 (j5.trans d7) (d9 (b0.mono d7.same _ r1) r2)⟩
def B9:Mo (List Ar):=fun env=>some ([],env)
def B4(m:Mo D)(ms:Mo (List Ar)):Mo (List Ar):=fun env=>(m env).bind fun p=>(ms p.2).map fun q=>(.d p.1::q.1,q.2)
def G0(i:Nat)(ms:Mo (List Ar)):Mo (List Ar):=fun env=>((env[i]?).bind W.mut).bind fun _=>(ms env).map fun q=>(.sl i::q.1,q.2)
theorem D2:pC X B [] B9:=by
 refine mB Aj ?_
 rintro σ H Q ⟨G,env,d,env',rl,e,k⟩;cases e;exact k [] G H (.refl rl) (by simp only[j9])
theorem C5(ha:ED X B e ma)(hr:pC X B es as)(hs:starEach (e::es) X.env=(false,eval e X.env)::starEach es X.env:=by rfl):pC X B (e::es) (B4 ma as):=by
 refine mB (O5 ha hr hs) ?_
 rintro σ H Q ⟨G,env,d,env',rl,e,k⟩;unfold B4 at e;cases ea:ma env with
 |none=>rw[ea]at e;cases e
 |some p=>
  obtain⟨d1,a8⟩:=p;rw[ea]at e;simp only[Qj]at e;cases eb:as a8 with
  |none=>rw[eb]at e;cases e
  |some p=>
   obtain⟨d2,f9⟩:=p;rw[eb]at e;cases e;exact .bind rl ea fun v1 G1 H1 j5 r1=>⟨G1,a8,d2,_,j5.rel,eb,fun vs G2 H2 d7 r2=>k _ G2 H2 (j5.trans d7) (by simp only[j9];exact⟨_,_,rfl,b0.mono d7.same _ r1,r2⟩)⟩
theorem M7{i:Nat}{x:Str}{p:Pos}(ha:PE X (.Name x p) (Q3 i))(hr:pC X B es as)(hs:starEach (.Name x p::es) X.env=(false,eval (.Name x p) X.env)::starEach es X.env:=by rfl):pC X B (.Name x p::es) (G0 i as):=by
 refine mB (O5 ha hr hs) ?_
 rintro σ H Q ⟨G,env,d,env',rl,e,k⟩;unfold G0 at e;cases ew:env[i]? with
 |none=>rw[ew]at e;cases e
 |some w=>
  rw[ew]at e;simp only[Qj]at e;cases em:w.mut with
  |none=>rw[em]at e;cases e
  |some ds=>
   rw[em]at e;simp only[Qj]at e;cases eb:as env with
   |none=>rw[eb]at e;cases e
   |some p=>
    obtain⟨d2,f9⟩:=p;rw[eb]at e;cases e;obtain⟨a',xs,hv,_⟩:=rl.own i w ds ew em;exact⟨_,hv,G,env,d2,_,rl,eb,fun vs G2 H2 d7 r2=>k _ G2 H2 d7 (by simp only[j9];exact⟨_,_,rfl,hv,r2⟩)⟩
end
section
variable{X:Cx}{B:OA}{pos:Pos}{a b c e:Expr}{ma mb mc:Mo D}{ms:Mo (List D)}{es:List Expr}
theorem C7{α β:Type}{o:Option α}{f:α->Option β}{y:β}(h:o.bind f=some y):∃x,o=some x/\f x=some y:=by
 cases o with
 |none=>cases h
 |some x=>exact⟨x,rfl,h⟩
theorem E9{α β:Type}{o:Option α}{f:α->β}{y:β}(h:o.map f=some y):∃x,o=some x/\f x=y:=by
 cases o with
 |none=>cases h
 |some x=>exact⟨x,rfl,Yv h⟩
def D1(ms:Mo (List D)):Mo D:=fun env=>(ms env).bind fun p=>if p.1.length≤1000 then some (.tup p.1,p.2)else none
theorem E5{x1:Nat}(h:oP X B es ms):ED X B (.Tuple es x1 pos) (D1 ms):=by
 refine d6 (LY h) ?_
 rintro σ H Q ⟨G,env,d,env',rl,e,k⟩;obtain⟨⟨ds,a8⟩,e1,e2⟩:=C7 e;dsimp only at e2;split at e2
 ·rename_i hl
  cases e2;refine⟨G,env,ds,_,rl,e1,fun vs G1 H1 ev r1=>⟨by rw[r1.length];exact Jx (Dk hl),fun p hp=>?_⟩⟩
  exact k _ _ _ (ev.trans (ev.rel.alloc hp)) (Bo F9 (C3.mono (Le.upd (ev.rel.gnone hp)) _ r1))
 ·cases e2
def F7(ms:Mo (List D)):Mo (List D):=fun env=>(ms env).bind fun p=>if p.1.length≤1000 then some p else none
theorem FW{K:Qq}{G G1:Hp}{σ:St}{env a8:a9}{H H1:Hp}{p:Addr}{xs:List V}{ds:List D}{Q:VK}(ev:Ev K B G σ env H G1 σ a8 H1)(hp:H1 p=none)(r:C3 K G1 xs ds)
  (k:∀a xs G' H',Ev K B G σ env H G' σ a8 H'->H a=none-> ¬ d8 σ a8 a->H' a=some (.lst xs)->G' a=none->C3 K G' xs ds->Q (.ref a) H'):Q (.ref p) (upd H1 p (.lst xs)):=by
 refine k p xs G1 _ (ev.trans (ev.rel.allocM hp)) ?_ (ev.rel.unowned hp) F9 (ev.rel.gnone hp) r;cases h:H p with
 |none=>rfl
 |some o=>exact absurd hp (ev.live p (by rw[h];simp))
theorem K4(h:oP X B es ms):EL X B (.List es pos) (F7 ms):=by
 refine d6 (Tl h) ?_
 rintro σ H Q ⟨G,env,d,env',rl,e,k⟩;obtain⟨⟨ds,a8⟩,e1,e2⟩:=C7 e;dsimp only at e2;split at e2
 ·rename_i hl
  cases e2;exact⟨G,env,_,_,rl,e1,fun vs G1 H1 ev r1=>⟨by rw[r1.length];exact Jx (Dk hl),fun p hp=>FW ev hp r1 k⟩⟩
 ·cases e2
def mF(m:Mo (List D)):Mo D:=fun env=>(m env).map fun p=>(.lst p.1,p.2)
theorem E6(h:EL X B e ms):ED X B e (mF ms):=by
 refine d6 h ?_
 rintro σ H Q ⟨G,env,d,env',rl,e,k⟩;obtain⟨⟨ds,a8⟩,e1,e2⟩:=E9 e;cases e2;exact⟨G,env,ds,_,rl,e1,fun a xs G' H' ev ha no h' g' r=>k (.ref a) _ H' (ev.frz ha no h' g') (Hd F9 (C3.mono (Le.upd g') ds r))⟩
theorem Hh{K:Qq}{G:Hp}{xs:List V}{ds:List D}{k:Int}{d:D}(r:C3 K G xs ds)(h:o5 ds k=some d):∃x,o5 xs k=some x/\b0 K G x d:=by
 unfold o5 at h ⊢;rw[r.length];obtain⟨j,e1,e2⟩:=C7 h;rw[e1];exact r.get e2
def lP:D->D->Option D
 |.lst ds,.int k=>o5 ds k
 |.tup ds,.int k=>o5 ds k
 |_,_=>none
theorem VG:lN X B (uS X.K) lP:=by
 intro G σ env H x y a b d Q rl ra rb e k;cases a<;>cases b<;>first|(exact absurd (show(none:Option D)=some d from e) (by simp))|skip
 ·simp only[b0]at ra rb
  obtain⟨p,xs,e1,q,r⟩:=ra;subst e1 rb;obtain⟨v,e3,e4⟩:=Hh r e;exact .inr (.inl ⟨p,xs,_,v,rfl,rfl,rl.sub.sqT q,e3,k v G H (.refl rl) e4⟩)
 ·simp only[b0]at ra rb
  obtain⟨p,xs,e1,q,r⟩:=ra;subst e1 rb;obtain⟨v,e3,e4⟩:=Hh r e;exact .inl ⟨p,xs,_,v,rfl,rfl,rl.sub.sqL q,e3,k v G H (.refl rl) e4⟩
theorem T3(ha:ED X B a ma)(hb:ED X B b mb)(hs:Dh b):ED X B (.Subscript a b pos) (B8 lP ma mb):=d6 (Lk UC ha hb hs) (FN VG)
def R4(i:Nat)(mb:Mo D):Mo D:=fun env=>(mb env).bind fun p=>((p.2[i]?).bind W.mutL).bind fun ds=>(lP (.lst ds) p.1).map fun d=>(d,p.2)
theorem BE{i:Nat}{x:Str}{p:Pos}(ha:PE X (.Name x p) (Q3 i))(hb:ED X B b mb)(hs:Dh b)(hr:∀env d env' w ds,mb env=some (d,env')->env'[i]? =some w->w.mut=some ds->∃w0 ds0,env[i]? =some w0/\w0.mut=some ds0):
  ED X B (.Subscript (.Name x p) b pos) (R4 i mb):=by
 refine d6 (Lk Lo ha hb hs) ?_
 rintro σ H Q ⟨G,env,d,env',rl,e,k⟩;obtain⟨⟨d1,a8⟩,e1,e2⟩:=C7 e;obtain⟨ds,e3,e4⟩:=C7 e2;obtain⟨w,e5,e6⟩:=C7 e3;obtain⟨d2,e7,e8⟩:=E9 e4;cases e8;obtain⟨w0,ds0,e9,e10⟩:=hr env d1 _ w (.l ds) e1 e5 (W.mutL_of e6);obtain⟨q,xs,h1,_⟩:=rl.own i w0 ds0 e9 e10;refine⟨_,h1,.bind rl e1 fun v G1 H1 ev r1=>?_⟩
 obtain⟨q',ys,h2,h3,h4,h5⟩:=ev.rel.ownL i w ds e5 e6;rw[h1]at h2;cases h2;dsimp only at e7;cases d1<;>first|(exact absurd (show(none:Option D)=some _ from e7) (by simp))|skip
 simp only[b0]at r1;obtain⟨z,h6,h7⟩:=Hh h4 e7;exact⟨q,ys,_,z,rfl,r1,.inl (.inl h3),h6,k z G1 H1 ev h7⟩
def Z1(X:Cx)(B:OA)(r:List V->Hp->VK->Prop)(f:List D->Option D):Prop:=
 ∀(G:Hp) (σ:St) (env:a9) (H:Hp) (xs:List V) (ds:List D) (c:D) (Q:VK),Rel X.K B G σ env H->C3 X.K G xs ds->f ds=some c->
  (∀v G' H',Ev X.K B G σ env H G' σ env H'->b0 X.K G' v c->Q v H')->r xs H Q
def Hi(X:Cx)(B:OA)(r:List V->Hp->VK->Prop)(f:List D->Option (List D)):Prop:=
 ∀(G:Hp) (σ:St) (env:a9) (H:Hp) (xs:List V) (ds:List D) (c:List D) (Q:VK),Rel X.K B G σ env H->C3 X.K G xs ds->f ds=some c->
  (∀p ys G' H',Ev X.K B G σ env H G' σ env H'->H' p=none->C3 X.K G' ys c->Q (.ref p) (upd H' p (.lst ys)))->r xs H Q
def i5(f:List D->Option D)(ms:Mo (List D)):Mo D:=fun env=>(ms env).bind fun p=>(f p.1).map fun d=>(d,p.2)
def pU(f:List D->Option (List D))(ms:Mo (List D)):Mo (List D):=fun env=>(ms env).bind fun p=>(f p.1).map fun d=>(d,p.2)
theorem MB{r:List V->Hp->VK->Prop}{f:List D->Option D}(o:Z1 X B r f):∀σ H Q,TD X.K B (i5 f ms) σ H Q->sN r (sP X.K B ms) σ H Q:=by
 rintro σ H Q ⟨G,env,d,env',rl,e,k⟩;obtain⟨⟨ds,a8⟩,e1,e2⟩:=C7 e;obtain⟨d1,e3,e4⟩:=E9 e2;cases e4;exact⟨G,env,ds,_,rl,e1,fun vs G1 H1 ev r1=>o G1 σ _ H1 vs ds _ Q ev.rel r1 e3 fun v G2 H2 d7 r2=>k v G2 H2 (ev.trans d7) r2⟩
theorem VH{r:List V->Hp->VK->Prop}{f:List D->Option (List D)}(o:Hi X B r f):∀σ H Q,TL X.K B (pU f ms) σ H Q->sN r (sP X.K B ms) σ H Q:=by
 rintro σ H Q ⟨G,env,d,env',rl,e,k⟩;obtain⟨⟨ds,a8⟩,e1,e2⟩:=C7 e;obtain⟨d1,e3,e4⟩:=E9 e2;cases e4;exact⟨G,env,ds,_,rl,e1,fun vs G1 H1 ev r1=>o G1 σ _ H1 vs ds _ Q ev.rel r1 e3 fun p ys G2 H2 d7 hp r2=>FW (ev.trans d7) hp r2 k⟩
variable{r:List V->Hp->VK->Prop}{f:List D->Option D}{g:List D->Option (List D)}{id T:String}{x:Str}{p:Pos}
theorem K9(hc:O2 X (.builtin id) r)(o:Z1 X B r f)(hg:Gl X x)(hm:X.mg x=none)(hv:bootBuiltins x=some (.builtin id))(ha:oP X B (e::es) ms)(hn:x≠"__name__":=by decide)(hdb:(x==("__debug__":Str))=false:=by decide)
  (he:starEach (e::es) X.env=(false,eval e X.env)::starEach es X.env:=by rfl)(hpl:(backTo pos (starEach es X.env)).any (·.1)=false:=by rfl):ED X B (.Call (.Name x p) (e::es) [] pos) (i5 f ms):=
 d6 (De hc hg hm hv ha hn hdb he hpl) (MB o)
theorem Cf(hc:O2 X (.type T) r)(o:Z1 X B r f)(hg:Gl X x)(hm:X.mg x=none)(hv:bootBuiltins x=some (.type T))(ha:oP X B (e::es) ms)(hn:x≠"__name__":=by decide)(hdb:(x==("__debug__":Str))=false:=by decide)
  (he:starEach (e::es) X.env=(false,eval e X.env)::starEach es X.env:=by rfl)(hpl:(backTo pos (starEach es X.env)).any (·.1)=false:=by rfl):ED X B (.Call (.Name x p) (e::es) [] pos) (i5 f ms):=
 d6 (Lh hc hg hm hv ha hn hdb he hpl) (MB o)
theorem Hj(hc:O2 X (.type T) r)(o:Hi X B r g)(hg:Gl X x)(hm:X.mg x=none)(hv:bootBuiltins x=some (.type T))(ha:oP X B (e::es) ms)(hn:x≠"__name__":=by decide)(hdb:(x==("__debug__":Str))=false:=by decide)
  (he:starEach (e::es) X.env=(false,eval e X.env)::starEach es X.env:=by rfl)(hpl:(backTo pos (starEach es X.env)).any (·.1)=false:=by rfl):EL X B (.Call (.Name x p) (e::es) [] pos) (pU g ms):=
 d6 (Lh hc hg hm hv ha hn hdb he hpl) (VH o)
theorem U8{K:Qq}{G:Hp}{xs:List V}{d:D}(h:C3 K G xs [d]):∃x,xs=[x]/\b0 K G x d:=by
 simp only[C3]at h;obtain⟨x,r,e,q,t⟩:=h;subst t;exact⟨x,e,q⟩
theorem Dn{K:Qq}{G:Hp}{xs:List V}{d d':D}(h:C3 K G xs [d,d']):∃x y,xs=[x,y]/\b0 K G x d/\b0 K G y d':=by
 simp only[C3]at h;obtain⟨x,r,e,q,y,r2,e2,q2,t⟩:=h;subst t e2;exact⟨x,y,e,q,q2⟩
def D.items:D->Option (List D)
 |.lst ds=>some ds
 |.tup ds=>some ds
 |_=>none
theorem Hk{K:Qq}{G H:Hp}{v:V}{d:D}{ds:List D}(l:Le G H)(r:b0 K G v d)(h:d.items=some ds):∃a xs,v=.ref a/\(lX K H a xs\/lY K H a xs)/\C3 K G xs ds:=by
 cases d<;>first|(exact absurd (show(none:Option (List D))=some ds from h) (by simp))|skip
 ·cases h;simp only[b0]at r;obtain⟨a,xs,e,q,t⟩:=r;exact⟨a,xs,e,.inr (l.sqT q),t⟩
 ·cases h;simp only[b0]at r;obtain⟨a,xs,e,q,t⟩:=r;exact⟨a,xs,e,.inl (l.sqL q),t⟩
def J7:List D->Option D
 |[d]=>d.items.map fun ds=>.int ds.length
 |_=>none
theorem Dp:Z1 X B (fun xs H Q=>∃p ys,xs=[.ref p]/\(lX X.K H p ys\/lY X.K H p ys)/\Q (.int ys.length) H) J7:=by
 intro G σ env H xs ds c Q rl r e k
 match ds,e with
 |[d],e=>
  obtain⟨x,rfl,q⟩:=U8 r;obtain⟨ds,e1,e2⟩:=E9 e;obtain⟨a,ys,rfl,h1,h2⟩:=Hk rl.sub q e1;exact⟨a,ys,rfl,h1,k _ G H (.refl rl) (by rw[←e2,h2.length];simp only[b0])⟩
def Hl:List D->Option D
 |[d]=>d.items.map fun ds=>.tup ds
 |_=>none
theorem VI:Z1 X B (fun xs H Q=>∃p ys,xs=[.ref p]/\((lX X.K H p ys/\∀l,H l=none->Q (.ref l) (upd H l (.tup ys)))\/(lY X.K H p ys/\Q (.ref p) H))) Hl:=by
 intro G σ env H xs ds c Q rl r e k
 match ds,e with
 |[d],e=>
  obtain⟨x,rfl,q⟩:=U8 r;obtain⟨ds,e1,e2⟩:=E9 e;subst e2;cases d<;>first|(exact absurd (show(none:Option (List D))=some ds from e1) (by simp))|skip
  ·cases e1
   have q0:=q
   simp only[b0]at q;obtain⟨a,ys,rfl,h1,h2⟩:=q;exact⟨a,ys,rfl,.inr ⟨rl.sub.sqT h1,k _ G H (.refl rl) q0⟩⟩
  ·cases e1
   simp only[b0]at q;obtain⟨a,ys,rfl,h1,h2⟩:=q;exact⟨a,ys,rfl,.inl ⟨rl.sub.sqL h1,fun l hl=>k _ _ _ (rl.alloc hl) (Bo F9 (C3.mono (Le.upd (rl.gnone hl)) _ h2))⟩⟩
def Bs:List D->Option (List D)
 |[d]=>d.items
 |_=>none
theorem Hm:Hi X B (fun xs H Q=>∃p ys,xs=[.ref p]/\(lX X.K H p ys\/lY X.K H p ys)/\∀l,H l=none->Q (.ref l) (upd H l (.lst ys))) Bs:=by
 intro G σ env H xs ds c Q rl r e k
 match ds,e with
 |[d],e=>
  obtain⟨x,rfl,q⟩:=U8 r;obtain⟨a,ys,rfl,h1,h2⟩:=Hk rl.sub q e;exact⟨a,ys,rfl,h1,fun l hl=>k l ys G H (.refl rl) hl h2⟩
end
section
variable{K:Qq}{B:OA}{G G1:Hp}{σ σ1:St}{env a8:a9}{H H1:Hp}{i:Nat}
theorem M1{α:Type}{l:List α}{i j:Nat}{a b:α}(h:(l.set i a)[j]? =some b):(j=i/\b=a)\/(j≠i/\l[j]? =some b):=by
 by_cases hj:j=i
 ·subst hj
  have hl:j<l.length:=by
   have:=(Qb.mp h).1;rwa [Zn]at this
  rw[Zd hl]at h;cases h;exact .inl ⟨rfl,rfl⟩
 ·rw[Qn (Zg hj)]at h
  exact .inr ⟨hj,h⟩
theorem Cg{α β:Type}{l:List α}{m:List β}{i:Nat}{a b:α}{c:β}(h:(l.set i a)[i]? =some b)(hl:l.length=m.length):(m.set i c)[i]? =some c:=by
 have:=(Qb.mp h).1;rw[Zn]at this;exact Zd (by omega)
theorem Ev.setDat{v:V}{d:D}(ev:Ev K B G σ env H G1 σ1 a8 H1)(r:b0 K G1 v d):Ev K B G σ env H G1 (σ1.set i (some v)) (a8.set i (.dat d)) H1:=by
 have rl:=ev.rel
 have ne:∀(j:Nat) (w:W) (es:Mu),(a8.set i (.dat d))[j]? =some w->w.mut=some es->j≠i/\a8[j]? =some w:=fun j w es q1 q2=>by
  rcases M1 q1 with⟨_,z⟩|z
  ·rw[z]at q2;cases q2
  ·exact z
 refine⟨⟨rl.sub,by rw[Zn,Zn];exact rl.len,fun j d' q=>?_,fun j w es q1 q2=>?_,fun j k w w' es fs b q1 q2 q3 q4 q5 q6=>?_,fun j w b q1 qo q2=>?_,rl.old,rl.tabs,rl.gnt⟩,ev.same,ev.keep,ev.live,ev.stay,fun b z=>?_,fun j w q qp=>?_,by rw[Zn];exact ev.slen⟩
 ·rcases M1 q with⟨z1,z2⟩|⟨z1,z2⟩
  ·subst z1;cases z2
   exact⟨v,Cg q rl.len,r⟩
  ·obtain⟨x,q1,q2⟩:=rl.dat j d' z2
   exact⟨x,by rw[Qn (Zg z1)];exact q1,q2⟩
 ·obtain⟨hj,q⟩:=ne j w es q1 q2
  obtain⟨p,ys,e3,e4⟩:=rl.own j w es q q2;exact⟨p,ys,by rw[Qn (Zg hj)];exact e3,e4⟩
 ·obtain⟨h1,h2⟩:=ne j w es q1 q2
  obtain⟨h3,h4⟩:=ne k w' fs q3 q4;rw[Qn (Zg h1)]at q5;rw[Qn (Zg h3)]at q6;exact rl.inj j k w w' es fs b h2 q2 h4 q4 q5 q6
 ·obtain⟨es,hm⟩:=nA qo
  obtain⟨h1,h2⟩:=ne j _ es q1 hm;rw[Qn (Zg h1)]at q2;exact rl.fresh j w b h2 qo q2
 ·obtain⟨j,w,es,q1,q2,q3⟩:=z
  obtain⟨h1,h2⟩:=ne j w es q1 q2;rw[Qn (Zg h1)]at q3;exact ev.sub b ⟨j,w,es,h2,q2,q3⟩
 ·obtain⟨es,hm⟩:=mK qp
  obtain⟨h1,h2⟩:=ne j _ es q hm;obtain⟨h3,h4⟩:=ev.par j w h2 qp;exact⟨by rw[Qn (Zg h1)];exact h3,h4⟩
theorem Ev.setOwnM{a:Addr}{o:HO}{m:Mu}{wn:W}(ev:Ev K B G σ env H G1 σ1 a8 H1)(nb:¬ B a)(ha:H a=none)(no:¬ d8 σ1 a8 a)(h1:H1 a=some o)(g1:G1 a=none)(r:m5 K G1 o m)(wm:wn.mut=some m)(wo:wn.isPar=false):
  Ev K B G σ env H G1 (σ1.set i (some (.ref a))) (a8.set i wn) H1:=by
 have rl:=ev.rel
 refine⟨⟨rl.sub,by rw[Zn,Zn];exact rl.len,fun j d' q=>?_,fun j w es q1 q2=>?_,fun j k w w' es fs b q1 q2 q3 q4 q5 q6=>?_,fun j w b q1 qo q2=>?_,rl.old,rl.tabs,rl.gnt⟩,ev.same,ev.keep,ev.live,ev.stay,fun b z=>?_,fun j w q qp=>?_,by rw[Zn];exact ev.slen⟩
 ·rcases M1 q with⟨z1,z2⟩|⟨z1,z2⟩
  ·rw[←z2]at wm;cases wm
  ·obtain⟨x,q1,q2⟩:=rl.dat j d' z2
   exact⟨x,by rw[Qn (Zg z1)];exact q1,q2⟩
 ·rcases M1 q1 with⟨z1,z2⟩|⟨z1,z2⟩
  ·subst z1 z2;rw[wm]at q2;cases q2
   exact⟨a,o,Cg q1 rl.len,h1,r,g1⟩
  ·obtain⟨p,ys,e3,e4⟩:=rl.own j w es z2 q2
   exact⟨p,ys,by rw[Qn (Zg z1)];exact e3,e4⟩
 ·rcases M1 q1 with⟨z1,z2⟩|⟨z1,z2⟩
  ·rcases M1 q3 with⟨y1,y2⟩|⟨y1,y2⟩
   ·rw[z1,y1]
   ·subst z1
    rw[Cg q1 rl.len]at q5;cases q5;rw[Qn (Zg y1)]at q6;exact absurd ⟨k,w',fs,y2,q4,q6⟩ no
  ·rw[Qn (Zg z1)]at q5
   rcases M1 q3 with⟨y1,y2⟩|⟨y1,y2⟩
   ·subst y1
    rw[Cg q3 rl.len]at q6;cases q6;exact absurd ⟨j,w,es,z2,q2,q5⟩ no
   ·rw[Qn (Zg y1)]at q6
    exact rl.inj j k w w' es fs b z2 q2 y2 q4 q5 q6
 ·rcases M1 q1 with⟨z1,z2⟩|⟨z1,z2⟩
  ·subst z1
   rw[Cg q1 rl.len]at q2;cases q2;exact nb
  ·rw[Qn (Zg z1)]at q2
   exact rl.fresh j w b z2 qo q2
 ·obtain⟨j,w,es,q1,q2,q3⟩:=z
  rcases M1 q1 with⟨z1,z2⟩|⟨z1,z2⟩
  ·subst z1
   rw[Cg q1 rl.len]at q3;cases q3;exact .inr ha
  ·rw[Qn (Zg z1)]at q3
   exact ev.sub b ⟨j,w,es,z2,q2,q3⟩
 ·rcases M1 q with⟨z1,z2⟩|⟨z1,z2⟩
  ·rw[z2,wo]at qp;cases qp
  ·obtain⟨h3,h4⟩:=ev.par j w z2 qp
   exact⟨by rw[Qn (Zg z1)];exact h3,h4⟩
theorem Ev.setOwn{a:Addr}{xs:List V}{ds:List D}(ev:Ev K B G σ env H G1 σ1 a8 H1)(nb:¬ B a)(ha:H a=none)(no:¬ d8 σ1 a8 a)(h1:H1 a=some (.lst xs))(g1:G1 a=none)(r:C3 K G1 xs ds):
  Ev K B G σ env H G1 (σ1.set i (some (.ref a))) (a8.set i (.own ds)) H1:=ev.setOwnM (m:=.l ds) nb ha no h1 g1 ⟨xs,rfl,r⟩ rfl rfl
theorem Ev.setNil(ev:Ev K B G σ env H G1 σ1 a8 H1):Ev K B G σ env H G1 σ1 (a8.set i .nil) H1:=by
 have rl:=ev.rel
 have ne:∀(j:Nat) (w:W),(a8.set i .nil)[j]? =some w->w≠.nil->j≠i/\a8[j]? =some w:=fun j w q1 q2=>by
  rcases M1 q1 with⟨_,z⟩|z
  ·exact absurd z q2
  ·exact z
 have nm:∀(w:W) (es:Mu),w.mut=some es->w≠.nil:=fun w es h z=>by rw[z]at h;cases h
 refine⟨⟨rl.sub,by rw[Zn];exact rl.len,fun j d' q=>rl.dat j d' (ne j _ q (by simp)).2,fun j w es q1 q2=>rl.own j w es (ne j w q1 (nm w es q2)).2 q2,fun j k w w' es fs b q1 q2 q3 q4 q5 q6=>rl.inj j k w w' es fs b (ne j w q1 (nm _ _ q2)).2 q2 (ne k w' q3 (nm _ _ q4)).2 q4 q5 q6,
  fun j w b q1 qo q2=>rl.fresh j w b (ne j _ q1 (by rintro rfl;cases qo)).2 qo q2,rl.old,rl.tabs,rl.gnt⟩,ev.same,ev.keep,ev.live,ev.stay,fun b z=>?_,fun j w q qp=>ev.par j w (ne j _ q (by rintro rfl;cases qp)).2 qp,ev.slen⟩
 obtain⟨j,w,es,q1,q2,q3⟩:=z;exact ev.sub b ⟨j,w,es,(ne j w q1 (nm _ _ q2)).2,q2,q3⟩
theorem Ev.writeM{a:Addr}{o':HO}{w:W}{m m':Mu}(ev:Ev K B G σ env H G1 σ1 a8 H1)(e1:a8[i]? =some w)(e2:w.mut=some m)(e3:σ1[i]? =some (some (.ref a)))(r:m5 K G1 o' m'):
  Ev K B G σ env H G1 σ1 (a8.set i (w.putM m')) (upd H1 a o'):=by
 have rl:=ev.rel
 obtain⟨a',o0,h1,h2,h3,h4⟩:=rl.own i w m e1 e2;rw[e3]at h1;cases h1;have ow:d8 σ1 a8 a:=⟨i,w,m,e1,e2,e3⟩;have wp:(w.putM m').mut=some m':=W.putM_mut e2 m';have nd:∀d,w.putM m'≠.dat d:=fun d z=>by rw[z]at wp;cases wp
 have oo:d8 σ env a\/H a=none:=ev.sub a ow
 refine⟨⟨fun b u e=>?_,by rw[Zn];exact rl.len,fun j d' q=>?_,fun j v es q1 q2=>?_,fun j k v v' es fs b q1 q2 q3 q4 q5 q6=>?_,fun j v b q1 qo q2=>?_,fun b hb=>?_,rl.tabs.upd r.nt (fun φ z=>by rw[h2]at z;cases z;exact h3.ne φ rfl),rl.gnt⟩,ev.same,fun b o n t e=>?_,fun b e=>?_,ev.stay,fun b z=>?_,fun j v q qp=>?_,ev.slen⟩
 ·have hb:b≠a:=fun z=>by rw[z,h4]at e;cases e
  rw[D6 hb];exact rl.sub b u e
 ·rcases M1 q with⟨z1,z2⟩|⟨z1,z2⟩
  ·exact absurd z2.symm (nd d')
  ·exact rl.dat j d' z2
 ·rcases M1 q1 with⟨z1,z2⟩|⟨z1,z2⟩
  ·subst z1 z2
   rw[wp]at q2;cases q2;exact⟨a,o',e3,F9,r,h4⟩
  ·obtain⟨p,ys,f1,f2,f3,f4⟩:=rl.own j v es z2 q2
   have hp:p≠a:=fun z=>z1 (rl.inj j i v w es m a z2 q2 e1 e2 (by rw[f1,z]) e3)
   exact⟨p,ys,f1,by rw[D6 hp];exact f2,f3,f4⟩
 ·have g:∀(n:Nat) (v:W) (es:Mu),(a8.set i (w.putM m'))[n]? =some v->v.mut=some es->∃v0 es0,a8[n]? =some v0/\v0.mut=some es0:=fun n v es y1 y2=>by
   rcases M1 y1 with⟨z1,z2⟩|⟨z1,z2⟩
   ·rw[z1];exact⟨w,m,e1,e2⟩
   ·exact⟨v,es,z2,y2⟩
  obtain⟨v0,es0,y1,y2⟩:=g j v es q1 q2;obtain⟨v1,es1,y3,y4⟩:=g k v' fs q3 q4;exact rl.inj j k v0 v1 es0 es1 b y1 y2 y3 y4 q5 q6
 ·rcases M1 q1 with⟨z1,z2⟩|⟨z1,z2⟩
  ·subst z1
   exact rl.fresh j w b e1 (by rw[z2,W.putM_own e2]at qo;exact qo) q2
  ·exact rl.fresh j v b z2 qo q2
 ·by_cases h:b=a
  ·subst h;rw[F9];simp
  ·rw[D6 h];exact rl.old b hb
 ·have hb:b≠a:=fun z=>by
   rcases oo with q|q
   ·exact n (z ▸ q)
   ·rw[z,q]at e;cases e
  rw[D6 hb];exact ev.keep b o n t e
 ·by_cases h:b=a
  ·subst h;rw[F9];simp
  ·rw[D6 h];exact ev.live b e
 ·obtain⟨j,v,es,q1,q2,q3⟩:=z
  rcases M1 q1 with⟨z1,z2⟩|⟨z1,z2⟩
  ·rw[z1,e3]at q3;cases q3
   exact oo
  ·exact ev.sub b ⟨j,v,es,z2,q2,q3⟩
 ·rcases M1 q with⟨z1,z2⟩|⟨z1,z2⟩
  ·subst z1
   exact ev.par j w e1 (by rw[z2,W.putM_par e2]at qp;exact qp)
  ·exact ev.par j v z2 qp
theorem Ev.write{a:Addr}{xs':List V}{w:W}{ds ds':List D}(ev:Ev K B G σ env H G1 σ1 a8 H1)(e1:a8[i]? =some w)(e2:w.mutL=some ds)(e3:σ1[i]? =some (some (.ref a)))(r:C3 K G1 xs' ds'):
  Ev K B G σ env H G1 σ1 (a8.set i (w.put ds')) (upd H1 a (.lst xs')):=by
 rw[W.put_eq e2];exact ev.writeM e1 (W.mutL_of e2) e3 ⟨xs',rfl,r⟩
end
section
variable{X:Cx}{B:OA}{pos:Pos}{a b c e:Expr}{ma mb mc:Mo D}{ms:Mo (List D)}{es:List Expr}{st:Stmt}{rest:List Stmt}{s1 s2:Mo Fl}
def kO:Mo Fl:=fun env=>some (.nx,env)
def C6(m n:Mo Fl):Mo Fl:=fun env=>(m env).bind fun p=>match p.1 with
 |.nx=>n p.2
 |fl=>some (fl,p.2)
theorem K6:pD X B [] kO:=by
 refine nM SU ?_
 rintro D σ H ⟨G,env,fl,env',rl,e,k⟩;cases e;exact k σ G H (.refl rl)
theorem C9(h1:ES X B st s1)(h2:pD X B rest s2):pD X B (st::rest) (C6 s1 s2):=by
 refine nM (CT h1 h2) ?_
 rintro D σ H ⟨G,env,fl,env',rl,e,k⟩;obtain⟨⟨tZ,a8⟩,e1,e2⟩:=C7 e;dsimp only at e2;cases tZ with
 |nx=>
  dsimp only at e2;exact⟨G,env,.nx,a8,rl,e1,fun σ1 G1 H1 ev=>⟨G1,a8,fl,env',ev.rel,e2,Post.after _ _ k ev⟩⟩
 |bk=>cases e2;exact⟨G,env,.bk,_,rl,e1,k⟩
 |ct=>cases e2;exact⟨G,env,.ct,_,rl,e1,k⟩
 |ret d=>cases e2;exact⟨G,env,.ret d,_,rl,e1,k⟩
 |retL d=>cases e2;exact⟨G,env,.retL d,_,rl,e1,k⟩
theorem D5(h1:ES X B st s1):pD X B [st] s1:=LI h1
def F3(t:Mo Bool)(m n:Mo Fl):Mo Fl:=fun env=>(t env).bind fun p=>if p.1 then m p.2 else n p.2
theorem K7{c:Expr}{s t:List Stmt}{tc:Mo Bool}(hc:ET X B c tc)(h1:pD X B s s1)(h2:pD X B t s2):ES X B (.If c s t pos) (F3 tc s1 s2):=by
 refine jZ (LJ hc h1 h2) ?_
 rintro D σ H ⟨G,env,fl,env',rl,e,k⟩;obtain⟨⟨b1,a8⟩,e1,e2⟩:=C7 e;dsimp only at e2;refine⟨G,env,b1,a8,rl,e1,fun G1 H1 ev=>?_⟩
 cases b1 with
 |true=>simp only[Zm]at e2 ⊢;exact⟨G1,a8,fl,env',ev.rel,e2,Post.after _ _ k ev⟩
 |false=>simp only[Zz,Yu]at e2 ⊢;exact⟨G1,a8,fl,env',ev.rel,e2,Post.after _ _ k ev⟩
def AJ:Mo Fl:=fun _=>none
theorem BF:ES X B st AJ:=by
 refine jZ SY ?_
 rintro D σ H ⟨G,env,fl,env',rl,e,k⟩;cases e
def E2(m:Mo D):Mo Fl:=fun env=>(m env).map fun p=>(.ret p.1,p.2)
theorem G7(h:ED X B e ma):ES X B (.Return (some e) pos) (E2 ma):=by
 refine jZ (HK h) ?_
 rintro D σ H ⟨G,env,fl,env',rl,e,k⟩;obtain⟨⟨d,a8⟩,e1,e2⟩:=E9 e;cases e2;exact⟨G,env,d,_,rl,e1,fun v G' H' ev r=>k v σ G' H' ev r⟩
def AK(m:Mo (List D)):Mo Fl:=fun env=>(m env).map fun p=>(.retL p.1,p.2)
theorem Bu(h:EL X B e ms):ES X B (.Return (some e) pos) (AK ms):=by
 refine jZ (HK h) ?_
 rintro D σ H ⟨G,env,fl,env',rl,e,k⟩;obtain⟨⟨d,a8⟩,e1,e2⟩:=E9 e;cases e2;exact⟨G,env,d,_,rl,e1,fun a xs G' H' ev ha no h' g' r=>k a xs σ G' H' ev (fun z=>rl.old a z ha) no h' g' r⟩
def jV(i:Nat):Mo Fl:=fun env=>match env[i]? with
 |some (.own ds)=>some (.retL ds,env.set i .nil)
 |_=>none
def D0(i:Nat)(m:Mo D):Mo Fl:=fun env=>(m env).map fun p=>(.nx,p.2.set i (.dat p.1))
def O7(i:Nat)(m:Mo (List D)):Mo Fl:=fun env=>(m env).map fun p=>(.nx,p.2.set i (.own p.1))
section
variable{i:Nat}{x:Str}{pos':Pos}
theorem F8(hN:X.N.Nodup)(hi:X.N[i]? =some x)(hx:Loc X.env.scope x)(he:ED X B e ma)(hs:swapsWith e (some (.Name x pos')) pos.line X.env=pure false:=by rfl)(hf:X.fn x=true\/X.env.scope.names.lookup x=some .local:=by first|exact .inl rfl|exact .inr rfl|assumption):
  ES X B (.Assign [.Name x pos'] e pos) (D0 i ma):=by
 refine jZ (CU hN hi hx he hs hf) ?_
 rintro D σ H ⟨G,env,fl,env',rl,e,k⟩;obtain⟨⟨d,a8⟩,e1,e2⟩:=E9 e;cases e2;exact⟨G,env,d,_,rl,e1,fun v G' H' ev r=>k _ G' H' (ev.setDat r)⟩
theorem Bv(hN:X.N.Nodup)(hi:X.N[i]? =some x)(hx:Loc X.env.scope x)(he:EL X B e ms)(hs:swapsWith e (some (.Name x pos')) pos.line X.env=pure false:=by rfl)(hf:X.fn x=true\/X.env.scope.names.lookup x=some .local:=by first|exact .inl rfl|exact .inr rfl|assumption):
  ES X B (.Assign [.Name x pos'] e pos) (O7 i ms):=by
 refine jZ (CU hN hi hx he hs hf) ?_
 rintro D σ H ⟨G,env,fl,env',rl,e,k⟩;obtain⟨⟨d,a8⟩,e1,e2⟩:=E9 e;cases e2;exact⟨G,env,d,_,rl,e1,fun a xs G' H' ev ha no h' g' r=>k _ G' H' (ev.setOwn (fun z=>rl.old a z ha) ha no h' g' r)⟩
def Dq(i:Nat)(f:D->D->Option D)(m:Mo D):Mo Fl:=fun env=>match env[i]? with
 |some (.dat d0)=>(m env).bind fun p=>(f d0 p.1).map fun d=>(.nx,p.2.set i (.dat d))
 |_=>none
theorem FX{op:Operator}{r:R2}{f:D->D->Option D}(hN:X.N.Nodup)(hi:X.N[i]? =some x)(hx:Loc X.env.scope x)(he:ED X B e ma)(ho:kQ X (inplaceOp op) r)(o:lN X B r f)
  (hf:X.fn x=true\/X.env.scope.names.lookup x=some .local:=by first|exact .inl rfl|exact .inr rfl|assumption):ES X B (.AugAssign (.Name x pos') op e pos) (Dq i f ma):=by
 refine jZ (Sn hN hi hx he (ti:=r) (fun pins s σ H x y v u Q I rx ry q=>ho pins s σ H x y v u Q I rx ry q) hf) ?_
 rintro D σ H ⟨G,env,fl,env',rl,e,k⟩;unfold Dq at e;split at e
 ·rename_i d0 e0
  obtain⟨⟨d,a8⟩,e1,e2⟩:=C7 e;obtain⟨d2,e3,e4⟩:=E9 e2;cases e4;obtain⟨v0,h0,r0⟩:=rl.dat i d0 e0;exact⟨v0,h0,.bind rl e1 fun v G' H' ev r1=>o G' σ _ H' v0 v d0 d _ _ ev.rel (b0.mono ev.same _ r0) r1 e3 fun v2 G2 H2 d7 r2=>k _ G2 H2 ((ev.trans d7).setDat r2)⟩
 ·cases e
end
def Dr(i:Nat)(m:Mo D):Mo Fl:=fun env=>((env[i]?).bind W.mutL).bind fun _=>(m env).bind fun p=>(p.2[i]?).bind fun w=>w.mutL.bind fun ds=>if ds.length<100000 then some (.nx,p.2.set i (w.put (ds++[p.1])))else none
theorem Ds{i:Nat}{x:Str}{p apos cpos:Pos}(ho:PE X (.Name x p) (Q3 i))(ha:oP X B [e] (B0 ma B6))
  (hbase:attributeBase (.Name x p) "append" X.env (eval (.Name x p) X.env)=eval (.Name x p) X.env:=by rfl)
  (hfew:((backTo cpos (starEach [e] X.env)).all (fun x=>!x.1)&&(backToKw cpos (keywordEach [] X.env)).all (fun x=>x.1.isSome)
   &&decide ([e].length+([]:List Keyword).length+(if([]:List Keyword).isEmpty then 0 else 1)<30))=true:=by rfl)
  (hline:(apos.endLine==cpos.line)=true:=by rfl)(hs:starEach [e] X.env=(false,eval e X.env)::starEach [] X.env:=by rfl)(hplain:(backTo cpos (starEach [] X.env)).any (·.1)=false:=by rfl)
  (hsw:swapsWith (.Call (.Attribute (.Name x p) "append" apos) [e] [] cpos) none pos.line X.env=pure false:=by rfl):
  ES X B (.Expr (.Call (.Attribute (.Name x p) "append" apos) [e] [] cpos) pos) (Dr i ma):=by
 refine jZ (HJ (Lq PySem.F.plainAttrs_list PySem.F.slot_list_append PySem.F.type_list_append Ls ho ha hbase hfew hline hs hplain) hsw) ?_
 rintro D σ H ⟨G,env,fl,env',rl,e,k⟩;obtain⟨ds0,e0,e⟩:=C7 e;obtain⟨w0,e00,em0⟩:=C7 e0;obtain⟨⟨d,a8⟩,e1,e2⟩:=C7 e;obtain⟨w,e3,e4⟩:=C7 e2;obtain⟨ds,e5,e6⟩:=C7 e4;dsimp only at e3 e6;split at e6
 ·rename_i hl
  cases e6;obtain⟨q,xs0,h1,h2,h3,h4⟩:=rl.ownL i w0 ds0 e00 em0;refine⟨_,h1,.inl ⟨rfl,xs0,.inl (.inl h2)⟩,G,env,[d],a8,rl,by show(ma env).bind _=_;rw[e1];rfl,fun vs G1 H1 ev r1=>?_⟩
  obtain⟨v,rfl,rv⟩:=U8 r1;obtain⟨q',xs,g1,g2,g3,g4⟩:=ev.rel.ownL i w ds e3 e5;rw[h1]at g1;cases g1;have hz:xs.length<sizeLine:=by rw[g3.length];exact Uq hl (by decide)
  exact⟨q,xs,v,rfl,rfl,g2,hz,k _ G1 _ (ev.write e3 e5 h1 (g3.append (d9 rv f7)))⟩
 ·cases e6
end
section
variable(K:Qq)(B:OA)
def sQ(n:Nat)(g:OZ):TG:=fun v σ H Q=>∃G env d env',Rel K B G σ env H/\b0 K G v d/\g d env=some env'/\∀σ' G' H',Ev K B G σ env H G' σ' env' H'->(∀j,j<n->σ'[j]? =σ[j]?)->Q σ' H'
def VJ(n:Nat)(g:List D->a9->Option a9):p8:=fun vs σ H Q=>∃G env ds env',Rel K B G σ env H/\C3 K G vs ds/\g ds env=some env'/\∀σ' G' H',Ev K B G σ env H G' σ' env' H'->(∀j,j<n->σ'[j]? =σ[j]?)->Q σ' H'
end
abbrev EG(X:Cx)(B:OA)(n:Nat)(e:Expr)(g:OZ):Prop:=PG X e (sQ X.K B n g)
abbrev sR(X:Cx)(B:OA)(n:Nat)(es:List Expr)(g:List D->a9->Option a9):Prop:=qE X es (VJ X.K B n g)
theorem FY{X:Cx}{e:Expr}{t t':TG}(h:PG X e t)(i:∀v σ H Q,t' v σ H Q->t v σ H Q):PG X e t':=fun pins s σ H v u Q I r q=>h pins s σ H v u Q I r (i v σ H Q q)
theorem MC{X:Cx}{e:List Expr}{t t':p8}(h:qE X e t)(i:∀v σ H Q,t' v σ H Q->t v σ H Q):qE X e t':=fun pins s σ H v u Q I r q=>h pins s σ H v u Q I r (i v σ H Q q)
def gN(i:Nat):OZ:=fun d env=>some (env.set i (.dat d))
def oR:List D->a9->Option a9:=fun ds env=>match ds with
 |[]=>some env
 |_=>none
def mS(g:OZ)(gs:List D->a9->Option a9):List D->a9->Option a9:=fun ds env=>match ds with
 |d::ds=>(g d env).bind (gs ds)
 |[]=>none
def gT(n:Nat)(gs:List D->a9->Option a9):OZ:=fun d env=>match d with
 |.tup ds=>if ds.length=n then gs ds env else none
 |_=>none
section
variable{X:Cx}{B:OA}{pos:Pos}{a b c e tg:Expr}{ma mb mc:Mo D}{ms:Mo (List D)}{es:List Expr}{g:OZ}{gs:List D->a9->Option a9}
theorem G8{n i:Nat}{x:Str}(hn:n≤i)(hN:X.N.Nodup)(hi:X.N[i]? =some x)(hx:Loc X.env.scope x)(hf:X.fn x=true\/X.env.scope.names.lookup x=some .local:=by first|exact .inl rfl|exact .inr rfl|assumption):EG X B n (.Name x pos) (gN i):=by
 refine FY (SZ hN hi hx hf) ?_
 rintro v σ H Q ⟨G,env,d,env',rl,r,e,k⟩;cases e;exact k _ G H ((Ev.refl rl).setDat r) fun j hj=>Qn (by omega)
theorem BG{n:Nat}:sR X B n [] oR:=by
 refine MC Se ?_
 rintro vs σ H Q ⟨G,env,ds,env',rl,r,e,k⟩;unfold oR at e;split at e
 ·cases e
  simp only[C3]at r;exact⟨r,k _ G H (.refl rl) fun _ _=>rfl⟩
 ·cases e
theorem T4{n:Nat}(h1:EG X B n e g)(h2:sR X B n es gs)(hs:(assignEach (e::es) X.env).map (·.2)=assign e X.env::(assignEach es X.env).map (·.2):=by rfl):sR X B n (e::es) (mS g gs):=by
 refine MC (Sf h1 h2 hs) ?_
 rintro vs σ H Q ⟨G,env,ds,env',rl,r,e,k⟩;unfold mS at e;split at e
 ·rename_i d ds
  obtain⟨a8,e1,e2⟩:=C7 e;simp only[C3]at r;obtain⟨x,xs,e3,r1,r2⟩:=r;exact⟨x,xs,e3,G,env,d,a8,rl,r1,e1,fun σ1 G1 H1 ev y1=>⟨G1,a8,ds,env',ev.rel,C3.mono ev.same _ r2,e2,fun σ2 G2 H2 d7 y2=>k σ2 G2 H2 (ev.trans d7) fun j hj=>(y2 j hj).trans (y1 j hj)⟩⟩
 ·cases e
theorem BH{nb n k':Nat}(hc:X.calm=true)(h:sR X B nb es gs)(hn:(assignEach es X.env).length=n:=by rfl)(hst:(assignEach es X.env).findIdx? (·.1)=none:=by rfl):EG X B nb (.Tuple es k' pos) (gT n gs):=by
 refine FY (Sh hc h hn hst) ?_
 rintro v σ H Q ⟨G,env,d,env',rl,r,e,k⟩;unfold gT at e;split at e
 ·rename_i ds
  split at e
  ·rename_i hl
   simp only[b0]at r;obtain⟨p,xs,e1,q,t⟩:=r;exact⟨p,xs,e1,rl.sub.sqT q,t.length.trans hl,G,env,ds,env',rl,t,e,k⟩
  ·cases e
 ·cases e
def gS(s:Nat)(mi:Mo D):OZ:=fun d env=>((env[s]?).bind W.mutL).bind fun _=>(mi env).bind fun p=>match p.1 with
 |.int k=>(p.2[s]?).bind fun w=>w.mutL.bind fun ds=>(qT ds.length k).map fun j=>p.2.set s (w.put (ds.set j d))
 |_=>none
theorem Hn{n s:Nat}{x:Str}{p:Pos}(ho:PE X (.Name x p) (Q3 s))(hi:ED X B b mb)
  (ha:∀v,assign (.Subscript (.Name x p) b pos) X.env v=(do
   let ov←holding [v] (eval (.Name x p) X.env)
   let iv←holding [v,ov] (eval b X.env)
   standAt pos
   holding [v,ov,iv] (setItem ov iv v)
   release [v,ov,iv] []):=by intro _;rfl):EG X B n (.Subscript (.Name x p) b pos) (gS s mb):=by
 refine FY (LM ho hi UG ha) ?_
 rintro v σ H Q ⟨G,env,d,env',rl,r,e,k⟩;obtain⟨ds0,e0,e⟩:=C7 e;obtain⟨w0,e00,em0⟩:=C7 e0;obtain⟨⟨d1,a8⟩,e1,e2⟩:=C7 e;dsimp only at e2;split at e2
 ·rename_i kk
  obtain⟨w,e3,e4⟩:=C7 e2;obtain⟨ds,e5,e6⟩:=C7 e4;obtain⟨j,e7,e8⟩:=E9 e6;cases e8;obtain⟨q,xs0,h1,h2,h3,h4⟩:=rl.ownL s w0 ds0 e00 em0;refine⟨_,h1,.bind rl e1 fun iv G1 H1 ev r1=>?_⟩
  simp only[b0]at r1;obtain⟨q',xs,g1,g2,g3,g4⟩:=ev.rel.ownL s w ds e3 e5;rw[h1]at g1;cases g1;exact⟨q,xs,kk,j,rfl,r1,g2,by rw[g3.length];exact e7,k _ G1 _ (ev.write e3 e5 h1 (g3.set j (b0.mono ev.same _ r))) fun _ _=>rfl⟩
 ·cases e2
def Q4(m:Mo D)(g:OZ):Mo Fl:=fun env=>(m env).bind fun p=>(g p.1 p.2).map fun e=>(.nx,e)
theorem Ch(he:ED X B e ma)(hg:EG X B 0 tg g)(hs:swapsWithSole [tg] e pos.line X.env=pure false:=by rfl)(hw:swappedStores [tg] e X.env=pure none:=by rfl)
  (h1:(assignEach [tg] X.env).map (·.2)=[assign tg X.env]:=by rfl):ES X B (.Assign [tg] e pos) (Q4 ma g):=by
 refine jZ (Sj he hg hs hw h1) ?_
 rintro D σ H ⟨G,env,fl,env',rl,e,k⟩;obtain⟨⟨d1,a8⟩,e1,e2⟩:=C7 e;obtain⟨f9,e3,e4⟩:=E9 e2;cases e4;exact .bind rl e1 fun v G1 H1 ev r=>⟨G1,a8,d1,_,ev.rel,r,e3,fun σ2 G2 H2 d7 _=>k σ2 G2 H2 (ev.trans d7)⟩
def AL(i j:Nat)(ms:Mo (List D)):Mo Fl:=fun env=>(ms env).bind fun p=>match p.1 with
 |[d,d']=>some (.nx,(p.2.set i (.dat d)).set j (.dat d'))
 |_=>none
theorem Ci{i j:Nat}{x y:Str}{px py pt pt2:Pos}{kt k2}(hc:X.calm=true)(hN:X.N.Nodup)(hi:X.N[i]? =some x)(hj:X.N[j]? =some y)(hij:i≠j)
  (hx:X.env.scope.names.lookup x=some .local)(hy:X.env.scope.names.lookup y=some .local)(ha:oP X B [a,b] ms)
  (hw:swappedStores [.Tuple [.Name x px,.Name y py] kt pt] (.Tuple [a,b] k2 pt2) X.env=pure (some [x,y]))
  (hs:swapsWithSole [.Tuple [.Name x px,.Name y py] kt pt] (.Tuple [a,b] k2 pt2) pos.line X.env=pure false:=by rfl):
  ES X B (.Assign [.Tuple [.Name x px,.Name y py] kt pt] (.Tuple [a,b] k2 pt2) pos) (AL i j ms):=by
 refine jZ (Sl hc hN hi hj hij hx hy ha hw hs) ?_
 rintro D σ H ⟨G,env,fl,env',rl,e,k⟩;obtain⟨⟨ds,a8⟩,e1,e2⟩:=C7 e;dsimp only at e2;split at e2
 ·cases e2
  refine⟨G,env,_,a8,rl,e1,fun vs G1 H1 ev r=>?_⟩
  obtain⟨v,w,rfl,r1,r2⟩:=Dn r;exact⟨v,w,rfl,k _ G1 H1 ((ev.setDat r1).setDat r2)⟩
 ·cases e2
structure rK(K:Qq)(J:It)(G:Hp)(ds:List D):Prop where
 go:∀i H,Le G H->i<ds.length->J.go i H
 stop:∀i H,Le G H->ds.length≤i->J.stop i H
 yld:∀i H x H' d,Le G H->J.yld i H x H'->ds[i]? =some d->(H'=H/\b0 K G x d)\/ ∃p o,NT o/\H p=none/\H'=upd H p o/\b0 K (upd G p o) x d
end
section
variable(K:Qq)(B:OA)
def t7(m:Mo (List D)):TI:=fun σ H R=>∃G env ds env',Rel K B G σ env H/\m env=some (ds,env')/\∀J G' H',Ev K B G σ env H G' σ env' H'->rK K J G' ds->R J H'
end
abbrev EI(X:Cx)(B:OA)(tg e:Expr)(m:Mo (List D)):Prop:=PI X tg e (t7 X.K B m)
theorem FZ{X:Cx}{tg e:Expr}{t t':TI}(h:PI X tg e t)(i:∀σ H R,t' σ H R->t σ H R):PI X tg e t':=fun pins s σ H R I q=>h pins s σ H R I (i σ H R q)
section
variable{X:Cx}{B:OA}{pos:Pos}{a b c e tg:Expr}{ma mb mc:Mo D}{ms:Mo (List D)}{es:List Expr}{g:OZ}{gs:List D->a9->Option a9}
def VL(K:Qq)(tl:TE):TI:=fun σ H R=>tl σ H fun x H1=>∃a,x=.ref a/\(((∃xs,lX K H1 a xs)/\R (tP K a) H1)\/((∃xs,lY K H1 a xs)/\R (tQ K a) H1))
theorem VM{l:Expr}{tl:TE}(hl:PE X l tl):PI X tg l (VL X.K tl):=by
 intro pins s σ H R I h;refine i4 (hl pins s σ H _ I h) fun v s1 ⟨x,H1,I1,r1,q1⟩=>?_
 obtain⟨a,e,q⟩:=q1;subst e;cases r1
 rcases q with⟨⟨xs,hq⟩,q⟩|⟨⟨xs,hq⟩,q⟩
 ·obtain⟨its,rv,p,hz⟩:=I1.list hq
  refine Ud p.isList ?_
  refine⟨s1.heap.objs.size,[s1.heap.objs.size],_,_,H1,rfl,I1.kept (t':=s1.toks) fun b o e=>Qx _ e,Sr a _,⟨_,Qh _ rfl,rfl,rfl⟩,fun b hb=>?_,q⟩
  have e:b=s1.heap.objs.size:=by simpa using hb
  subst e;exact I1.fpOk (Qm _) (I1.hok.fresh (Qm _))
 ·obtain⟨its,rv,p,hz⟩:=I1.tuple hq
  refine Uw (show s1.heap.IsTuple a its.toArray from p) ?_
  refine⟨s1.heap.objs.size,[s1.heap.objs.size],_,_,H1,rfl,I1.kept (t':=s1.toks) fun b o e=>Qx _ e,Ss a _,⟨_,Qh _ rfl,rfl,rfl⟩,fun b hb=>?_,q⟩
  have e:b=s1.heap.objs.size:=by simpa using hb
  subst e;exact I1.fpOk (Qm _) (I1.hok.fresh (Qm _))
def F4(m:Mo D):Mo (List D):=fun env=>(m env).bind fun p=>p.1.items.map fun ds=>(ds,p.2)
theorem VN{K:Qq}{G:Hp}{p:Addr}{xs:List V}{ds:List D}(q:lX K G p xs)(r:C3 K G xs ds):rK K (tP K p) G ds where
 go:=fun i H l hi=>⟨xs,xs[i]'(by rw[r.length];exact hi),l.sqL q,by simp⟩
 stop:=fun i H l hi=>⟨xs,l.sqL q,by rw[r.length];exact hi⟩
 yld:=fun i H x H' d l y e=>by
  obtain⟨rfl,y⟩:=y;obtain⟨x',e1,e2⟩:=r.get e;have:=y xs (l.sqL q);rw[e1]at this;cases this;exact .inl ⟨rfl,e2⟩
theorem VO{K:Qq}{G:Hp}{p:Addr}{xs:List V}{ds:List D}(q:pT K G p xs)(r:C3 K G xs ds):rK K (tQ K p) G ds where
 go:=fun i H l hi=>⟨xs,xs[i]'(by rw[r.length];exact hi),l.sqT q,by simp⟩
 stop:=fun i H l hi=>⟨xs,l.sqT q,by rw[r.length];exact hi⟩
 yld:=fun i H x H' d l y e=>by
  obtain⟨rfl,y⟩:=y;obtain⟨x',e1,e2⟩:=r.get e;have:=y xs (l.sqT q);rw[e1]at this;cases this;exact .inl ⟨rfl,e2⟩
theorem L5(h:ED X B e ma):EI X B tg e (F4 ma):=by
 refine FZ (VM h) ?_
 rintro σ H R ⟨G,env,ds,env',rl,e,k⟩;obtain⟨⟨d,a8⟩,e1,e2⟩:=C7 e;obtain⟨ds',e3,e4⟩:=E9 e2;cases e4;refine .bind rl e1 fun v G1 H1 ev r=>?_
 cases d<;>first|(exact absurd (show(none:Option (List D))=some _ from e3) (by simp))|skip
 ·cases e3
  simp only[b0]at r;obtain⟨p,xs,e5,q,t⟩:=r;exact⟨p,e5,.inr ⟨⟨xs,ev.rel.sub.sqT q⟩,k _ G1 H1 ev (VO q t)⟩⟩
 ·cases e3
  simp only[b0]at r;obtain⟨p,xs,e5,q,t⟩:=r;exact⟨p,e5,.inl ⟨⟨xs,ev.rel.sub.sqL q⟩,k _ G1 H1 ev (VN q t)⟩⟩
def V9(lo:Int)(n:Nat):List D:=(List.range n).map fun(i:Nat)=>D.int (lo+i)
theorem MD{K:Qq}{G:Hp}{lo:Int}{n:Nat}:rK K (r8 lo n) G (V9 lo n)where
 go:=fun i H l hi=>by
  have h:i<n:=by simpa [V9]using hi
  exact h
 stop:=fun i H l hi=>by
  have h:n≤i:=by simpa [V9]using hi
  exact h
 yld:=fun i H x H' d l y e=>by
  obtain⟨rfl,rfl⟩:=y;refine .inl ⟨rfl,?_⟩;unfold V9 at e;rw[Zy]at e;cases hr:(List.range n)[i]? with
  |none=>rw[hr]at e;cases e
  |some j=>
   rw[hr]at e;cases e;obtain⟨h1,h2⟩:=Qb.mp hr
   simp at h2
   subst h2;simp only[b0]
def AM(ms:Mo (List D)):Mo (List D):=fun env=>(ms env).bind fun p=>match p.1 with
 |[.int j]=>if-1000000<j/\j<1000000 then some (V9 0 j.toNat,p.2)else none
 |_=>none
def ME(ms:Mo (List D)):Mo (List D):=fun env=>(ms env).bind fun p=>match p.1 with
 |[.int i,.int j]=>if-1000000<i/\i<1000000/\ -1000000<j/\j<1000000 then some (V9 i (j-i).toNat,p.2)else none
 |_=>none
theorem Dt{p:Pos}(hg:Gl X "range")(hm:X.mg "range"=none)(ha:oP X B [a] ms)(hs:starEach [a] X.env=[(false,eval a X.env)]:=by rfl):EI X B tg (.Call (.Name "range" p) [a] [] pos) (AM ms):=by
 have h0:=Sy (tg:=tg) (p:=p) (pos:=pos) hg hm ha hs
 refine FZ h0 ?_
 rintro σ H R ⟨G,env,ds,env',rl,e,k⟩;obtain⟨⟨ds',a8⟩,e1,e2⟩:=C7 e;dsimp only at e2;split at e2
 ·rename_i j
  split at e2
  ·rename_i hj
   cases e2;refine⟨G,env,_,_,rl,e1,fun vs G1 H1 ev r=>?_⟩
   obtain⟨v,rfl,r1⟩:=U8 r;simp only[b0]at r1;subst r1;exact⟨j,rfl,by omega,by omega,k _ G1 H1 ev MD⟩
  ·cases e2
 ·cases e2
theorem MF{p:Pos}(hg:Gl X "range")(hm:X.mg "range"=none)(ha:oP X B [a,b] ms)(hs:starEach [a,b] X.env=[(false,eval a X.env),(false,eval b X.env)]:=by rfl)(hs2:starEach [b] X.env=[(false,eval b X.env)]:=by rfl):EI X B tg (.Call (.Name "range" p) [a,b] [] pos) (ME ms):=by
 have h0:=TB (tg:=tg) (p:=p) (pos:=pos) hg hm ha hs hs2
 refine FZ h0 ?_
 rintro σ H R ⟨G,env,ds,env',rl,e,k⟩;obtain⟨⟨ds',a8⟩,e1,e2⟩:=C7 e;dsimp only at e2;split at e2
 ·rename_i i j
  split at e2
  ·rename_i hj
   cases e2;refine⟨G,env,_,_,rl,e1,fun vs G1 H1 ev r=>?_⟩
   obtain⟨v,w,rfl,r1,r2⟩:=Dn r;simp only[b0]at r1 r2;subst r1 r2;exact⟨i,j,rfl,⟨by omega,by omega,by omega,by omega⟩,k _ G1 H1 ev MD⟩
  ·cases e2
 ·cases e2
def loop(g:OZ)(body:Mo Fl):List D->Mo Fl
 |[],env=>some (.nx,env)
 |d::ds,env=>(g d env).bind fun e1=>(body e1).bind fun p=>match p.1 with
  |.nx=>loop g body ds p.2
  |.ct=>loop g body ds p.2
  |.bk=>some (.nx,p.2)
  |.ret d=>some (.ret d,p.2)
  |.retL d=>some (.retL d,p.2)
def M6(mi:Mo (List D))(g:OZ)(body:Mo Fl):Mo Fl:=fun env=>(mi env).bind fun p=>loop g body p.1 p.2
theorem R5{iter:Expr}{body:List Stmt}{mi:Mo (List D)}{mbd:Mo Fl}(hp:PassesOwn (model X.prog X.w) X.A X.env X.xe)(hc:X.calm=true)(hi:EI X B tg iter mi)(hg:EG X B 0 tg g)(hb:pD X B body mbd)
  (hs:∀x,foldedSetIterable iter X.env x=pure x:=by intro _;rfl):ES X B (.For tg iter body [] pos) (M6 mi g mbd):=by
 refine jZ (LO hp hc hi hg hb hs) ?_
 rintro D σ H ⟨G,env,fl,env',rl,e,k⟩;obtain⟨⟨ds,a8⟩,e1,e2⟩:=C7 e;dsimp only at e2;refine⟨G,env,ds,a8,rl,e1,fun J G1 H1 j5 it=>?_⟩
 refine⟨fun i m σ2 H2=>m=ds.length-i/\i≤ds.length/\∃G2 f9,Ev X.K B G σ env H G2 σ2 f9 H2/\Le G1 G2/\loop g mbd (ds.drop i) f9=some (fl,env'),⟨_,rfl,Jj _,G1,a8,j5,Le.refl,by simpa using e2⟩,?_⟩
 rintro i m σ2 H2 ⟨rfl,hi2,G2,f9,d7,l2,e3⟩;have lH:Le G1 H2:=l2.trans d7.rel.sub
 by_cases hlt:i<ds.length
 ·refine .inr ⟨it.go i H2 lH hlt,fun σ' H'=>∃G3 mL,Ev X.K B G σ env H G3 σ' mL H'/\Le G1 G3/\loop g mbd (ds.drop (i+1)) mL=some (fl,env'),?_,fun x H3 y=>?_⟩
  ·rintro σ' H' ⟨G3,mL,mR,l3,e4⟩
   exact⟨ds.length-(i+1),by omega,rfl,hlt,G3,mL,mR,l3,e4⟩
  ·have ed:ds.drop i=ds[i]::ds.drop (i+1):=Vq hlt
   rw[ed]at e3;obtain⟨mM,e4,e5⟩:=C7 e3;obtain⟨⟨pV,lU⟩,e6,e7⟩:=C7 e5;have hget:ds[i]? =some ds[i]:=by simp[hlt]
   have st:∃G3,Ev X.K B G σ env H G3 σ2 f9 H3/\Le G1 G3/\b0 X.K G3 x ds[i]:=by
    rcases it.yld i H2 x H3 ds[i] lH y hget with⟨rfl,r⟩|⟨p,o,hno,hp2,rfl,r⟩
    ·exact⟨G2,d7,l2,b0.mono l2 _ r⟩
    ·have gp:=d7.rel.gnone hp2
     refine⟨upd G2 p o,d7.trans (d7.rel.alloc hp2 hno),l2.trans (Le.upd gp),b0.mono (fun b u q=>?_) _ r⟩
     by_cases hb2:b=p
     ·subst hb2;rw[F9]at q ⊢;exact q
     ·rw[D6 hb2]at q ⊢;exact l2 b u q
   obtain⟨G3,mR,l3,r3⟩:=st;refine⟨G3,f9,ds[i],mM,mR.rel,r3,e4,fun σ4 G4 H4 nU _=>?_⟩
   have oQ:=mR.trans nU
   refine⟨G4,mM,pV,lU,nU.rel,e6,?_⟩;cases pV with
   |nx=>exact fun σ6 G6 H6 lV=>⟨G6,lU,oQ.trans lV,(l3.trans nU.same).trans lV.same,e7⟩
   |ct=>exact fun σ6 G6 H6 lV=>⟨G6,lU,oQ.trans lV,(l3.trans nU.same).trans lV.same,e7⟩
   |bk=>cases e7;exact fun σ6 G6 H6 lV=>k σ6 G6 H6 (oQ.trans lV)
   |ret d=>cases e7;exact fun v σ6 G6 H6 lV=>k v σ6 G6 H6 (oQ.trans lV)
   |retL d=>cases e7;exact fun a xs σ6 G6 H6 lV=>k a xs σ6 G6 H6 (oQ.trans lV)
 ·have ei:i=ds.length:=by omega
  subst ei;rw[Tq]at e3;cases e3;exact .inl ⟨it.stop _ H2 lH (Qm _),k σ2 G2 H2 d7⟩
end
inductive Rr where
 |d (d:D)|l (ds:List D)
abbrev Fn:=List W->Option (Rr×List W)
def N4:OA:=fun _=>False
def Cj(ws:List W):Prop:=∀w∈ws,(∃d,w=.dat d)\/w.isPar=true
def VP(K:Qq)(G:Hp)(vs:List V)(ws:List W)(H:Hp)(ws':List W)(Q:VK):Rr->Prop
 |.d d=>∀v G' H',Ev K N4 G (vs.map some) ws H G' (vs.map some) ws' H'->b0 K G' v d->Q v H'
 |.l ds=>∀a xs G' H',Ev K N4 G (vs.map some) ws H G' (vs.map some) ws' H'->H a=none-> ¬ d8 (vs.map some) ws' a->H' a=some (.lst xs)->G' a=none->C3 K G' xs ds->Q (.ref a) H'
def k7(K:Qq)(n:Nat)(f:Fn):Sp:=fun vs H Q _=>∃G ws r ws',ws.length=n/\Cj ws/\Rel K N4 G (vs.map some) ws H/\f ws=some (r,ws')/\VP K G vs ws H ws' Q r
def Du:W->W->W
 |.par _,.par ds=>.par ds
 |.par _,.parD ks vs=>.parD ks vs
 |.parD _ _,.par ds=>.par ds
 |.parD _ _,.parD ks vs=>.parD ks vs
 |.par _,_=>.nil
 |.parD _ _,_=>.nil
 |w,_=>w
def U9(ws env:List W):List W:=List.zipWith Du ws env
def kJ(N:Nat)(mb:Mo Fl):Fn:=fun ws=>match mb (ws++List.replicate (N-ws.length) .nil)with
 |some (.ret d,env)=>some (.d d,U9 ws env)
 |some (.retL ds,env)=>some (.l ds,U9 ws env)
 |some (.nx,env)=>some (.d .non,U9 ws env)
 |_=>none
theorem AN{N:List Str}{vs:List V}{i:Nat}(hi:i<vs.length):(start N vs)[i]? =(vs.map some)[i]?:=by
 unfold start;rw[Yz (by simpa using hi)]
theorem BI{α:Type}{l:List α}{n i:Nat}{a b:α}(h:(l++List.replicate n a)[i]? =some b):(i<l.length/\l[i]? =some b)\/(l.length≤i/\b=a):=by
 by_cases hi:i<l.length
 ·rw[Yz hi]at h;exact .inl ⟨hi,h⟩
 ·rw[Ys (by omega),Jp]at h
  split at h
  ·cases h;exact .inr ⟨by omega,rfl⟩
  ·cases h
section
variable{K:Qq}{G:Hp}{vs:List V}{ws:List W}{H:Hp}{N:List Str}
theorem MG(hl:ws.length=vs.length){n:Nat}{a:Addr}:d8 (start N vs) (ws++List.replicate n .nil) a↔d8 (vs.map some) ws a:=by
 constructor
 ·rintro⟨i,w,ds,e1,e2,e3⟩
  rcases BI e1 with⟨h1,h2⟩|⟨h1,h2⟩
  ·rw[AN (by omega)]at e3;exact⟨i,w,ds,h2,e2,e3⟩
  ·rw[h2]at e2;cases e2
 ·rintro⟨i,w,ds,e1,e2,e3⟩
  have hi:i<ws.length:=(Qb.mp e1).1
  exact⟨i,w,ds,by rw[Yz hi];exact e1,e2,by rw[AN (by omega)];exact e3⟩
theorem Ho(r:Rel K N4 G (vs.map some) ws H)(ok:Cj ws)(hN:vs.length≤N.length):Rel K (fun b=>H b≠none) G (start N vs) (ws++List.replicate (N.length-ws.length) .nil) H:=by
 have hl:ws.length=vs.length:=by have:=r.len;rwa [Qk]at this
 have noOwn:∀(i:Nat) (w:W),ws[i]? =some w->w.isOwn=true->False:=fun i w e h=>by
  rcases ok _ (Jk e)with⟨d,z⟩|z
  ·subst z;cases h
  ·cases w<;>first|(cases h;done)|(cases z;done)
 refine⟨r.sub,?_,fun i d e=>?_,fun i w ds e1 e2=>?_,fun i j w w' ds es a q1 q2 q3 q4 q5 q6=>?_,fun i w a q1 qo q2=>?_,fun b h=>h,r.tabs,r.gnt⟩
 ·unfold start
  simp only[Ql,Zt,Qk]
  omega
 ·rcases BI e with⟨h1,h2⟩|⟨h1,h2⟩
  ·obtain⟨v,e1,e2⟩:=r.dat i d h2
   exact⟨v,by rw[AN (by omega)];exact e1,e2⟩
  ·cases h2
 ·rcases BI e1 with⟨h1,h2⟩|⟨h1,h2⟩
  ·obtain⟨a,xs,e3,e4⟩:=r.own i w ds h2 e2
   exact⟨a,xs,by rw[AN (by omega)];exact e3,e4⟩
  ·rw[h2]at e2;cases e2
 ·rcases BI q1 with⟨h1,h2⟩|⟨h1,h2⟩
  ·rcases BI q3 with⟨h3,h4⟩|⟨h3,h4⟩
   ·rw[AN (by omega)]at q5 q6
    exact r.inj i j w w' ds es a h2 q2 h4 q4 q5 q6
   ·rw[h4]at q4;cases q4
  ·rw[h2]at q2;cases q2
 ·rcases BI q1 with⟨h1,h2⟩|⟨h1,h2⟩
  ·exact(noOwn i w h2 qo).elim
  ·subst h2;cases qo
theorem Fa{ws env:List W}{i:Nat}{w:W}(h:(U9 ws env)[i]? =some w):∃w1 w2,ws[i]? =some w1/\env[i]? =some w2/\w=Du w1 w2:=by
 unfold U9 at h;rw[Jq]at h;cases e1:ws[i]? with
 |none=>rw[e1]at h;cases h
 |some w1=>
  cases e2:env[i]? with
  |none=>rw[e1,e2]at h;cases h
  |some w2=>rw[e1,e2]at h;cases h;exact⟨w1,w2,rfl,rfl,rfl⟩
theorem Hq{w1 w2:W}{m:Mu}(ok:(∃d,w1=.dat d)\/w1.isPar=true)(h:(Du w1 w2).mut=some m):w2.mut=some m/\w2.isPar=true/\Du w1 w2=w2/\w1.isPar=true:=by
 rcases ok with⟨d,z⟩|z
 ·subst z;cases h
 ·cases w1<;>cases w2<;>first|exact⟨h,rfl,rfl,rfl⟩|(cases z;done)|(cases h;done)
theorem Bw{G':Hp}{σ':St}{env':a9}{H':Hp}(r:Rel K N4 G (vs.map some) ws H)(ok:Cj ws)(hN:vs.length≤N.length)
  (ev:Ev K (fun b=>H b≠none) G (start N vs) (ws++List.replicate (N.length-ws.length) .nil) H G' σ' env' H'):Ev K N4 G (vs.map some) ws H G' (vs.map some) (U9 ws env') H':=by
 have hl:ws.length=vs.length:=by have:=r.len;rwa [Qk]at this
 have okg:∀{i:Nat}{w:W},ws[i]? =some w->(∃d,w=.dat d)\/w.isPar=true:=fun e=>ok _ (Jk e)
 have hle:ws.length≤env'.length:=by
  have h1:=ev.rel.len
  have h2:=ev.slen
  have h3:(start N vs).length=N.length:=by unfold start;simp only[Ql,Zt,Qk];omega
  omega
 have par:∀(i:Nat) (w:W) (m:Mu),(U9 ws env')[i]? =some w->w.mut=some m->∃w0,ws[i]? =some w0/\w0.isPar=true/\env'[i]? =some w/\w.isPar=true/\σ'[i]? =(vs.map some)[i]?:=fun i w m e1 e2=>by
  obtain⟨w1,w2,h1,h2,h3⟩:=Fa e1;subst h3;obtain⟨h4,h5,h6,h7⟩:=Hq (okg h1) e2;have hi:i<vs.length:=by have:=(Qb.mp h1).1;omega
  rw[h6];exact⟨w1,h1,h7,h2,h5,(ev.par i w2 h2 h5).1.trans (AN hi)⟩
 refine⟨⟨ev.rel.sub,?_,fun i d e=>?_,fun i w ds e1 e2=>?_,fun i j w w' ds es a q1 q2 q3 q4 q5 q6=>?_,fun i w a q1 qo q2 h=>h,fun b h=>h.elim,ev.rel.tabs,ev.rel.gnt⟩,ev.same,fun b o n t e=>ev.keep b o (fun z=>n ((MG hl).mp z)) t e,ev.live,fun b e n g=>ev.stay b e (fun z=>n ((MG hl).mp z)) g,fun a z=>?_,fun i w e hp=>?_,rfl⟩
 ·unfold U9
  rw[Yp,Qk];omega
 ·obtain⟨w1,w2,h1,h2,h3⟩:=Fa e
  rcases okg h1 with⟨d1,z⟩|z
  ·subst z
   cases h3;obtain⟨v,e1,e2⟩:=r.dat i d h1;exact⟨v,e1,b0.mono ev.same d e2⟩
  ·cases w1<;>cases w2<;>first|(cases h3;done)|(cases z;done)
 ·obtain⟨d0,h1,hp,h2,h3,h4⟩:=par i w ds e1 e2
  obtain⟨a,xs,e3,e4⟩:=ev.rel.own i _ ds h2 e2;exact⟨a,xs,by rw[←h4];exact e3,e4⟩
 ·obtain⟨d0,h1,hp,h2,h3,h4⟩:=par i w ds q1 q2
  obtain⟨d1,h5,hp',h6,h7,h8⟩:=par j w' es q3 q4;exact ev.rel.inj i j _ _ ds es a h2 q2 h6 q4 (by rw[h4];exact q5) (by rw[h8];exact q6)
 ·obtain⟨i,w,ds,e1,e2,e3⟩:=z
  obtain⟨d0,h1,hp,h2,h3,h4⟩:=par i w ds e1 e2;obtain⟨m0,hm0⟩:=mK hp;exact .inl ⟨i,_,m0,h1,hm0,e3⟩
 ·obtain⟨m,hm⟩:=mK hp
  obtain⟨d0,h1,hp',h2,h3,h4⟩:=par i _ m e hm;exact⟨rfl,d0,h1,hp'⟩
end
theorem K8{P:Program}{w:World}{K:Qq}{mg:OU}{base:Heap}{x qual:Str}{st:Stmt}{f:Addr}{fd:FuncData}{N ps:List Str}{k:Nat}{mb:Mo Fl}(F:kM K x qual st f fd)(S:c4 N ps (E8 st))
  (hb:∀(cdv:Value) (A:Around) (outer:List Env) (s:Shared) (H:Hp) (E:XK),g9 k (A.deeper (envOfC qual (E8 st) s.heap.objs.size f cdv))->
   pD (M9 kF P w K mg base N qual (E8 st) f cdv A outer s H E).nox (fun b=>H b≠none) (X1 st) mb):f6 P w K mg base kF (k+1) f fd ps (k7 K ps.length (kJ N.length mb)):=by
 have hpl:ps.length≤N.length:=by have:=Za List.length S.pre;rw[Yi]at this;omega
 refine F.ok S (fun vs H Q E h=>?_) (fun cdv A outer s H vs Q E hr h=>?_)
 ·obtain⟨G,ws,r,ws',hl,ok,rl,_⟩:=h
  have:=rl.len;rw[Qk]at this;omega
 ·obtain⟨G,ws,r,ws',hl,ok,rl,e,k⟩:=h
  have hv:ws.length=vs.length:=by have:=rl.len;rwa [Qk]at this
  refine⟨_,hb cdv A outer s H E hr,?_⟩;have rl':=Ho (N:=N) rl ok (by omega)
  unfold kJ at e;split at e
  ·rename_i d env em
   cases e;refine⟨G,_,_,env,rl',em,?_⟩;exact fun v σ' G' H' ev rp=>k v G' H' (Bw rl ok (by omega) ev) rp
  ·rename_i ds env em
   cases e;refine⟨G,_,_,env,rl',em,?_⟩;intro a xs σ' G' H' ev nb no h' g' rp;refine k a xs G' H' (Bw rl ok (by omega) ev) (Je nb) ?_ h' g' rp
   rintro⟨i,w',es,e1,e2,e3⟩;obtain⟨w1,w2,q1,q2,q3⟩:=Fa e1;subst q3;obtain⟨q4,q5,q6,q7⟩:=Hq (ok _ (Jk q1)) e2;have hi:i<vs.length:=by have:=(Qb.mp q1).1;omega
   exact no ⟨i,_,es,q2,q4,by rw[(ev.par i w2 q2 q5).1,AN hi];exact e3⟩
  ·rename_i env em
   cases e;refine⟨G,_,_,env,rl',em,?_⟩;exact fun σ' G' H' ev=>k .non G' H' (Bw rl ok (by omega) ev) (by simp only[b0])
  ·cases e
def slots:List Ar->List Nat
 |[]=>[]
 |.d _::r=>slots r
 |.sl i::r=>i::slots r
def Bx:Mu->W
 |.l ds=>.par ds
 |.d ks vs=>.parD ks vs
theorem MH(c:Mu):(Bx c).mut=some c:=by cases c<;>rfl
theorem MI(c:Mu):(Bx c).isPar=true:=by cases c<;>rfl
def N1(c:Mu):Ar->W
 |.d d=>.dat d
 |.sl _=>Bx c
def Ak:List W->Option Mu
 |[]=>none
 |.par ds::_=>some (.l ds)
 |.parD ks vs::_=>some (.d ks vs)
 |_::r=>Ak r
def V0(n:Nat)(f:Fn)(as:Mo (List Ar)):Mo Rr:=fun env=>(as env).bind fun p=>if p.1.length=n then
 match slots p.1 with
 |[]=>(f (p.1.map (N1 (.l [])))).map fun q=>(q.1,p.2)
 |[i]=>(p.2[i]?).bind fun w=>w.mut.bind fun c=>(f (p.1.map (N1 c))).bind fun q=>(Ak q.2).map fun c'=>(q.1,p.2.set i (w.putM c'))
 |_=>none
 else none
theorem AO:∀{as:List Ar},slots as=[]->∀(k j:Nat),as[k]? ≠some (.sl j)
 |[],_,k,j,e=>by simp at e
 |.d _::r,h,k,j,e=>by
  cases k with
  |zero=>simp at e
  |succ k=>exact AO (as:=r) h k j (by simpa using e)
 |.sl i::r,h,k,j,e=>by simp[slots]at h
theorem Hr:∀{as:List Ar}{i:Nat},slots as=[i]->∃k:Nat,as[k]? =some (.sl i)/\∀(k' j:Nat),as[k']? =some (.sl j)->k'=k/\j=i
 |[],_,h=>by simp[slots]at h
 |.d _::r,i,h=>by
  obtain⟨k,h1,h2⟩:=Hr (as:=r) h;refine⟨k+1,by simpa using h1,fun k' j e=>?_⟩
  cases k' with
  |zero=>simp at e
  |succ k'=>
   obtain⟨a,b⟩:=h2 k' j (by simpa using e)
   exact⟨by omega,b⟩
 |.sl i'::r,i,h=>by
  simp only[slots,Vo]at h;obtain⟨rfl,h⟩:=h;refine⟨0,by simp,fun k' j e=>?_⟩
  cases k' with
  |zero=>simp at e;exact⟨rfl,e.symm⟩
  |succ k'=>exact absurd (by simpa using e) (AO h k' j)
theorem Dv:∀{ws:List W}{c:Mu},Ak ws=some c->∃k:Nat,ws[k]? =some (Bx c)
 |[],_,h=>by simp[Ak]at h
 |.par ds::r,c,h=>by simp only[Ak,Zl]at h;subst h;exact⟨0,by simp[Bx]⟩
 |.parD ks vs::r,c,h=>by simp only[Ak,Zl]at h;subst h;exact⟨0,by simp[Bx]⟩
 |.nil::r,c,h=>by obtain⟨k,e⟩:=Dv (ws:=r) h;exact⟨k+1,by simpa using e⟩
 |.dat _::r,c,h=>by obtain⟨k,e⟩:=Dv (ws:=r) h;exact⟨k+1,by simpa using e⟩
 |.own _::r,c,h=>by obtain⟨k,e⟩:=Dv (ws:=r) h;exact⟨k+1,by simpa using e⟩
 |.ownD _ _::r,c,h=>by obtain⟨k,e⟩:=Dv (ws:=r) h;exact⟨k+1,by simpa using e⟩
section
variable{K:Qq}{G:Hp}{σ:St}
theorem j9.length:∀{as:List Ar}{vs:List V},j9 K G σ vs as->vs.length=as.length
 |[],_,h=>by simp only[j9]at h;subst h;rfl
 |.d d::as,_,h=>by
  simp only[j9]at h;obtain⟨x,r,rfl,_,t⟩:=h
  simp[j9.length t]
 |.sl i::as,_,h=>by
  simp only[j9]at h;obtain⟨x,r,rfl,_,t⟩:=h
  simp[j9.length t]
theorem j9.getD:∀{as:List Ar}{vs:List V}{k:Nat}{d:D},j9 K G σ vs as->as[k]? =some (.d d)->∃v,vs[k]? =some v/\b0 K G v d
 |[],_,k,d,h,e=>by simp at e
 |.d d'::as,_,k,d,h,e=>by
  simp only[j9]at h;obtain⟨x,r,rfl,q,t⟩:=h;cases k with
  |zero=>simp at e;subst e;exact⟨x,by simp,q⟩
  |succ k=>simpa using j9.getD (k:=k) t (by simpa using e)
 |.sl i::as,_,k,d,h,e=>by
  simp only[j9]at h;obtain⟨x,r,rfl,q,t⟩:=h;cases k with
  |zero=>simp at e
  |succ k=>simpa using j9.getD (k:=k) t (by simpa using e)
theorem j9.getS:∀{as:List Ar}{vs:List V}{k i:Nat},j9 K G σ vs as->as[k]? =some (.sl i)->∃v,vs[k]? =some v/\σ[i]? =some (some v)
 |[],_,k,i,h,e=>by simp at e
 |.d d'::as,_,k,i,h,e=>by
  simp only[j9]at h;obtain⟨x,r,rfl,q,t⟩:=h;cases k with
  |zero=>simp at e
  |succ k=>simpa using j9.getS (k:=k) t (by simpa using e)
 |.sl i'::as,_,k,i,h,e=>by
  simp only[j9]at h;obtain⟨x,r,rfl,q,t⟩:=h;cases k with
  |zero=>simp at e;subst e;exact⟨x,by simp,q⟩
  |succ k=>simpa using j9.getS (k:=k) t (by simpa using e)
end
section
variable{K:Qq}{B:OA}{G:Hp}{σ:St}{env:a9}{H:Hp}{as:List Ar}{vs:List V}{c:Mu}
theorem Fb:Cj (as.map (N1 c)):=fun w hw=>by
 obtain⟨a,_,rfl⟩:=Zq.mp hw;cases a with
 |d d=>exact .inl ⟨d,rfl⟩
 |sl i=>exact .inr (MI c)
theorem Ck{k:Nat}{w:W}(e:(as.map (N1 c))[k]? =some w):(∃d,as[k]? =some (.d d)/\w=.dat d)\/ ∃j,as[k]? =some (.sl j)/\w=Bx c:=by
 rw[Zy]at e;cases h:as[k]? with
 |none=>rw[h]at e;cases e
 |some a=>
  rw[h]at e;cases a with
  |d d=>cases e;exact .inl ⟨d,rfl,rfl⟩
  |sl j=>cases e;exact .inr ⟨j,rfl,rfl⟩
theorem MJ{k:Nat}{v:V}(h:vs[k]? =some v):(vs.map some)[k]? =some (some v):=by rw[Zy,h];rfl
theorem MK{k:Nat}{v:V}(h:(vs.map some)[k]? =some (some v)):vs[k]? =some v:=by
 rw[Zy]at h;cases e:vs[k]? with
 |none=>rw[e]at h;cases h
 |some u=>rw[e]at h;cases h;rfl
theorem Fc{i:Nat}{w:W}(rl:Rel K B G σ env H)(ra:j9 K G σ vs as)(u:∀(k j:Nat),as[k]? =some (.sl j)->j=i/\env[i]? =some w/\w.mut=some c)(un:∀(k k' j j':Nat),as[k]? =some (.sl j)->as[k']? =some (.sl j')->k=k'):
  Rel K N4 G (vs.map some) (as.map (N1 c)) H:=by
 refine⟨rl.sub,by rw[Qk,Qk,ra.length],fun k d e=>?_,fun k v ds e1 e2=>?_,fun k k' v v' ds es a q1 q2 q3 q4 q5 q6=>?_,fun k w a e _ _ h=>h,fun b h=>h.elim,rl.tabs,rl.gnt⟩
 ·rcases Ck e with⟨d',h1,h2⟩|⟨j,h1,h2⟩
  ·cases h2
   obtain⟨v,q1,q2⟩:=ra.getD h1;exact⟨v,MJ q1,q2⟩
  ·cases c<;>cases h2
 ·rcases Ck e1 with⟨d',h1,h2⟩|⟨j,h1,h2⟩
  ·subst h2;cases e2
  ·subst h2;rw[MH]at e2;cases e2
   obtain⟨v,q1,q2⟩:=ra.getS h1;obtain⟨rfl,q3,q4⟩:=u k j h1;obtain⟨a,xs,q5,q6,q7,q8⟩:=rl.own j w c q3 q4;rw[q2]at q5;cases q5;exact⟨a,xs,MJ q1,q6,q7,q8⟩
 ·rcases Ck q1 with⟨d',h1,h2⟩|⟨j,h1,h2⟩
  ·subst h2;cases q2
  ·rcases Ck q3 with⟨d',h3,h4⟩|⟨j',h3,h4⟩
   ·subst h4;cases q4
   ·exact un k k' j j' h1 h3
theorem ML{i:Nat}(ra:j9 K G σ vs as)(u:∀(k j:Nat),as[k]? =some (.sl j)->j=i){a:Addr}(h:d8 (vs.map some) (as.map (N1 c)) a):σ[i]? =some (some (V.ref a))/\∃k:Nat,as[k]? =some (Ar.sl i):=by
 obtain⟨k,v,ds,e1,e2,e3⟩:=h
 rcases Ck e1 with⟨d',h1,h2⟩|⟨j,h1,h2⟩
 ·subst h2;cases e2
 ·obtain⟨v',q1,q2⟩:=ra.getS h1
  have:=u k j h1;subst this;have e4:=MK e3;rw[q1]at e4;cases e4;exact⟨q2,k,h1⟩
theorem Fd{G2 H2:Hp}{ws':List W}(rl:Rel K B G σ env H)(ra:j9 K G σ vs as)(hs:slots as=[])(ev:Ev K N4 G (vs.map some) (as.map (N1 c)) H G2 (vs.map some) ws' H2):Ev K B G σ env H G2 σ env H2:=by
 have no:∀a,¬ d8 (vs.map some) (as.map (N1 c)) a:=fun a z=>by
  obtain⟨_,k,e⟩:=ML (i:=0) ra (fun k j e=>absurd e (AO hs k j)) z
  exact AO hs k 0 e
 refine⟨⟨ev.rel.sub,rl.len,fun i d e=>?_,fun i w ds e1 e2=>?_,rl.inj,rl.fresh,fun b h=>ev.live b (rl.old b h),ev.rel.tabs,ev.rel.gnt⟩,ev.same,fun b o _ t e=>ev.keep b o (no b) t e,ev.live,fun b e _ g=>ev.stay b e (no b) g,fun a z=>.inl z,fun i w e hp=>⟨rfl,w,e,hp⟩,rfl⟩
 ·obtain⟨v,q1,q2⟩:=rl.dat i d e
  exact⟨v,q1,b0.mono ev.same d q2⟩
 ·obtain⟨a,xs,q1,q2,q3,q4⟩:=rl.own i w ds e1 e2
  exact⟨a,xs,q1,ev.keep a _ (no a) q3.nt q2,q3.mono ev.same,ev.stay a (by rw[q2];simp) (no a) q4⟩
theorem MM{G2 H2:Hp}{ws':List W}{i:Nat}{w:W}{c':Mu}(rl:Rel K B G σ env H)(ra:j9 K G σ vs as)(hs:slots as=[i])(e1:env[i]? =some w)(e2:w.mut=some c)(hp:Ak ws'=some c')
  (ev:Ev K N4 G (vs.map some) (as.map (N1 c)) H G2 (vs.map some) ws' H2):Ev K B G σ env H G2 σ (env.set i (w.putM c')) H2:=by
 obtain⟨k,hk,uk⟩:=Hr hs;obtain⟨a,xs,h1,h2,h3,h4⟩:=rl.own i w c e1 e2;have ow:d8 σ env a:=⟨i,w,c,e1,e2,h1⟩;have isA:∀b,d8 (vs.map some) (as.map (N1 c)) b->b=a:=fun b z=>by
  obtain⟨q,_⟩:=ML ra (fun k j e=>(uk k j e).2) z
  rw[h1]at q;cases q;rfl
 obtain⟨k',hk'⟩:=Dv hp;have ek:k'=k:=by
  obtain⟨_,d0,q,qp⟩:=ev.par k' _ hk' (MI c')
  rcases Ck q with⟨d',z1,z2⟩|⟨j,z1,z2⟩
  ·subst z2;cases qp
  ·exact(uk k' j z1).1
 subst ek;obtain⟨a2,ys,g1,g2,g3,g4⟩:=ev.rel.own k' _ c' hk' (MH c');obtain⟨v,q1,q2⟩:=ra.getS hk;have g5:=MK g1;rw[q1]at g5;cases g5;rw[h1]at q2;cases q2;have wp:(w.putM c').mut=some c':=W.putM_mut e2 c';have nd:∀d,w.putM c'≠.dat d:=fun d z=>by rw[z]at wp;cases wp
 refine⟨⟨ev.rel.sub,by rw[Zn];exact rl.len,fun j d' q=>?_,fun j v es y1 y2=>?_,fun j m v v' es fs b y1 y2 y3 y4 y5 y6=>?_,fun j v b y1 yo y2=>?_,fun b h=>ev.live b (rl.old b h),ev.rel.tabs,ev.rel.gnt⟩,ev.same,fun b o n t e=>ev.keep b o (fun z=>n (isA b z ▸ ow)) t e,ev.live,fun b e n g=>ev.stay b e (fun z=>n (isA b z ▸ ow)) g,fun b z=>.inl ?_,fun j v q qp=>⟨rfl,?_⟩,rfl⟩
 ·rcases M1 q with⟨z1,z2⟩|⟨z1,z2⟩
  ·exact absurd z2.symm (nd d')
  ·obtain⟨v,q1,q2⟩:=rl.dat j d' z2
   exact⟨v,q1,b0.mono ev.same d' q2⟩
 ·rcases M1 y1 with⟨z1,z2⟩|⟨z1,z2⟩
  ·subst z1 z2
   rw[wp]at y2;cases y2;exact⟨a,ys,h1,g2,g3,g4⟩
  ·obtain⟨p,zs,f1,f2,f3,f4⟩:=rl.own j v es z2 y2
   have hp:p≠a:=fun z=>z1 (rl.inj j i v w es c a z2 y2 e1 e2 (by rw[f1,z]) h1)
   have np:¬ d8 (vs.map some) (as.map (N1 c)) p:=fun z=>hp (isA p z)
   exact⟨p,zs,f1,ev.keep p _ np f3.nt f2,f3.mono ev.same,ev.stay p (by rw[f2];simp) np f4⟩
 ·have g:∀(m:Nat) (v:W) (es:Mu),(env.set i (w.putM c'))[m]? =some v->v.mut=some es->∃v0 es0,env[m]? =some v0/\v0.mut=some es0:=fun m v es y1 y2=>by
   rcases M1 y1 with⟨z1,z2⟩|⟨z1,z2⟩
   ·rw[z1];exact⟨w,c,e1,e2⟩
   ·exact⟨v,es,z2,y2⟩
  obtain⟨v0,es0,x1,x2⟩:=g j v es y1 y2;obtain⟨v1,es1,x3,x4⟩:=g m v' fs y3 y4;exact rl.inj j m v0 v1 es0 es1 b x1 x2 x3 x4 y5 y6
 ·rcases M1 y1 with⟨z1,z2⟩|⟨z1,z2⟩
  ·subst z1
   exact rl.fresh j w b e1 (by rw[z2,W.putM_own e2]at yo;exact yo) y2
  ·exact rl.fresh j v b z2 yo y2
 ·obtain⟨j,v,es,y1,y2,y3⟩:=z
  rcases M1 y1 with⟨z1,z2⟩|⟨z1,z2⟩
  ·rw[z1,h1]at y3;cases y3;exact ow
  ·exact⟨j,v,es,z2,y2,y3⟩
 ·rcases M1 q with⟨z1,z2⟩|⟨z1,z2⟩
  ·subst z1
   exact⟨w,e1,by rw[z2,W.putM_par e2]at qp;exact qp⟩
  ·exact⟨v,z2,qp⟩
end
def sC:Rr×a9->Option (D×a9)
 |(.d d,e)=>some (d,e)
 |_=>none
def wA:Rr×a9->Option (List D×a9)
 |(.l d,e)=>some (d,e)
 |_=>none
def c9(n:Nat)(f:Fn)(as:Mo (List Ar)):Mo D:=fun env=>(V0 n f as env).bind sC
def M3(n:Nat)(f:Fn)(as:Mo (List Ar)):Mo (List D):=fun env=>(V0 n f as env).bind wA
def MN(K:Qq)(B:OA)(G:Hp)(σ:St)(env:a9)(H:Hp)(env':a9)(Q:VK):Rr->Prop
 |.d d=>∀v G' H',Ev K B G σ env H G' σ env' H'->b0 K G' v d->Q v H'
 |.l ds=>∀a xs G' H',Ev K B G σ env H G' σ env' H'->H a=none-> ¬ d8 σ env' a->H' a=some (.lst xs)->G' a=none->C3 K G' xs ds->Q (.ref a) H'
theorem Fe{K:Qq}{B:OA}{n:Nat}{f:Fn}{as:Mo (List Ar)}{σ:St}{H:Hp}{G:Hp}{env env':a9}{r:Rr}{Q:VK}{E:XK}(rl:Rel K B G σ env H)(e:V0 n f as env=some (r,env'))
  (k:MN K B G σ env H env' Q r):
  FI (k7 K n f) [] E (uV K B as) σ H Q:=by
 obtain⟨⟨av,a8⟩,e1,e2⟩:=C7 e;dsimp only at e2;split at e2
 ·rename_i hn
  refine⟨G,env,av,a8,rl,e1,fun vs G1 H1 ev ra=>?_⟩
  show k7 K n f (vs++[]) H1 Q E;rw[Yg];have hnone:∀a,H1 a=none->H a=none:=fun a h=>by
   cases q:H a with
   |none=>rfl
   |some o=>exact absurd h (ev.live a (by rw[q];simp))
  split at e2
  ·rename_i hs
   obtain⟨⟨r',ws'⟩,e3,e4⟩:=E9 e2;cases e4;refine⟨G1,av.map (N1 (.l [])),r',ws',by rw[Qk];exact hn,Fb,Fc (i:=0) (w:=.nil) ev.rel ra (fun k j e=>absurd e (AO hs k j)) (fun k k' j j' e=>absurd e (AO hs k j)),e3,?_⟩
   cases r' with
   |d d=>exact fun v G2 H2 d7 rp=>k v G2 H2 (ev.trans (Fd ev.rel ra hs d7)) rp
   |l ds=>
    intro a xs G2 H2 d7 ha no h' g' rp;exact k a xs G2 H2 (ev.trans (Fd ev.rel ra hs d7)) (hnone a ha) (ev.rel.unowned ha) h' g' rp
  ·rename_i i hs
   obtain⟨w,e3,e4⟩:=C7 e2;obtain⟨c,e5,e6⟩:=C7 e4;obtain⟨⟨r',ws'⟩,e7,e8⟩:=C7 e6;obtain⟨c',e9,e10⟩:=E9 e8;cases e10;obtain⟨kk,hk,uk⟩:=Hr hs;refine⟨G1,av.map (N1 c),r',ws',by rw[Qk];exact hn,Fb,Fc (i:=i) (w:=w) ev.rel ra (fun k j e=>⟨(uk k j e).2,e3,e5⟩) (fun k k' j j' h1 h2=>(uk k j h1).1.trans (uk k' j' h2).1.symm),e7,?_⟩
   cases r' with
   |d d=>exact fun v G2 H2 d7 rp=>k v G2 H2 (ev.trans (MM ev.rel ra hs e3 e5 e9 d7)) rp
   |l ds=>
    intro a xs G2 H2 d7 ha no h' g' rp;have evc:=MM ev.rel ra hs e3 e5 e9 d7;refine k a xs G2 H2 (ev.trans evc) (hnone a ha) (fun z=>?_) h' g' rp
    rcases evc.sub a z with q|q
    ·exact ev.rel.unowned ha q
    ·obtain⟨j,v,es,y1,y2,y3⟩:=z
     rcases M1 y1 with⟨z1,z2⟩|⟨z1,z2⟩
     ·subst z1
      exact ev.rel.unowned ha ⟨j,w,c,e3,e5,y3⟩
     ·exact ev.rel.unowned ha ⟨j,v,es,z2,y2,y3⟩
  ·cases e2
 ·cases e2
section
variable{X:Cx}{B:OA}{pos p:Pos}{e:Expr}{es:List Expr}{as:Mo (List Ar)}{fn:Fn}{k:Nat}{f:Addr}{fd:FuncData}{ps:List Str}{x:Str}
theorem VQ(F:f6 X.prog X.w X.K X.mg X.base kF k f fd ps (k7 X.K ps.length fn))(hr:g9 k X.A)(hg:Gl X x)(hm:X.mg x=some (.ref f))(hk:PySem.W.keepIn X.K (.ref f)=true)(hb:O6 X.K fd ps [])
  (ha:pC X B (e::es) as)(hdb:(x==("__debug__":Str))=false:=by decide)(he:starEach (e::es) X.env=(false,eval e X.env)::starEach es X.env:=by rfl)(hpl:(backTo pos (starEach es X.env)).any (·.1)=false:=by rfl):
  ED X B (.Call (.Name x p) (e::es) [] pos) (c9 ps.length fn as):=by
 refine d6 (Dc F hr hg hm hk hb .nil Dj ha hdb he hpl) ?_
 rintro σ H Q ⟨G,env,d,env',rl,e,k⟩;obtain⟨⟨r,a8⟩,e1,e2⟩:=C7 e;cases r with
 |d d'=>cases e2;exact Fe rl e1 k
 |l ds=>cases e2
theorem VR(F:f6 X.prog X.w X.K X.mg X.base kF k f fd ps (k7 X.K ps.length fn))(hr:g9 k X.A)(hg:Gl X x)(hm:X.mg x=some (.ref f))(hk:PySem.W.keepIn X.K (.ref f)=true)(hb:O6 X.K fd ps [])
  (ha:pC X B (e::es) as)(hdb:(x==("__debug__":Str))=false:=by decide)(he:starEach (e::es) X.env=(false,eval e X.env)::starEach es X.env:=by rfl)(hpl:(backTo pos (starEach es X.env)).any (·.1)=false:=by rfl):
  EL X B (.Call (.Name x p) (e::es) [] pos) (M3 ps.length fn as):=by
 refine d6 (Dc F hr hg hm hk hb .nil Dj ha hdb he hpl) ?_
 rintro σ H Q ⟨G,env,d,env',rl,e,k⟩;obtain⟨⟨r,a8⟩,e1,e2⟩:=C7 e;cases r with
 |d d'=>cases e2
 |l ds=>cases e2;exact Fe rl e1 k
end
def N5(cells:List (Str×Addr)):List (Str×NameKind)->List (Str×Addr)->List (Str×Addr)
 |[],acc=>acc
 |(n,k)::r,acc=>if k==.free then(match cells.lookup n with
  |some c=>N5 cells r ((n,c)::acc)
  |none=>N5 cells r acc)else N5 cells r acc
theorem T8{α:Type}{n x:Str}{a:α}{r:List (Str×α)}:((n,a)::r).lookup x=if x=n then some a else r.lookup x:=by
 rw[Tz]
 by_cases h:x=n
 ·subst h;simp
 ·have:(x==n)=false:=by simpa using h
  rw[this,Qt h]
theorem BJ{cells:List (Str×Addr)}:∀{names:List (Str×NameKind)}{acc:List (Str×Addr)}{x:Str}{c:Addr},(N5 cells names acc).lookup x=some c->acc.lookup x=some c\/cells.lookup x=some c
 |[],acc,x,c,h=>.inl h
 |(n,k)::r,acc,x,c,h=>by
  unfold N5 at h;split at h
  ·split at h
   ·rename_i c' hc
    rcases BJ h with q|q
    ·rw[T8]at q
     split at q
     ·rename_i e;subst e;cases q;exact .inr hc
     ·exact .inl q
    ·exact .inr q
   ·exact BJ h
  ·exact BJ h
theorem Ff{cells:List (Str×Addr)}:∀{names:List (Str×NameKind)}{acc:List (Str×Addr)}{x:Str},(acc.lookup x).isSome=true->((N5 cells names acc).lookup x).isSome=true
 |[],acc,x,h=>h
 |(n,k)::r,acc,x,h=>by
  unfold N5;split
  ·split
   ·refine Ff ?_
    rw[T8];split<;>simp[h]
   ·exact Ff h
  ·exact Ff h
theorem By{cells:List (Str×Addr)}:∀{names:List (Str×NameKind)}{acc:List (Str×Addr)}{x:Str},(x,NameKind.free)∈names->(cells.lookup x).isSome=true->((N5 cells names acc).lookup x).isSome=true
 |[],acc,x,h,_=>by cases h
 |(n,k)::r,acc,x,h,hc=>by
  unfold N5
  rcases Qg.mp h with e|h
  ·cases e
   rw[Qc (by decide)]
   split
   ·refine Ff ?_
    rw[T8];simp
   ·rename_i hn;rw[hn]at hc;cases hc
  ·split
   ·split
    ·exact By h hc
    ·exact By h hc
   ·exact By h hc
theorem Hs:∀{names:List (Str×NameKind)}{h:Heap}{acc:List (Str×Addr)}{x:Str}{c:Addr},(cellsFrom h.objs.size names acc).lookup x=some c->
  acc.lookup x=some c\/((pushCells h names).IsCell c none/\h.objs.size≤c/\(x,NameKind.cell)∈names)
 |[],h,acc,x,c,q=>.inl q
 |(n,k)::r,h,acc,x,c,q=>by
  unfold cellsFrom at q;unfold pushCells;split at q
  ·rename_i hk
   rw[Qc hk];have hk':k=.cell:=by simpa using hk
   have ih:=Hs (names:=r) (h:=h.push {cls:=.type "cell",data:=.cell none}) (acc:=(n,h.objs.size)::acc) (x:=x) (c:=c) (by rw[Yk];exact q)
   rcases ih with z|⟨z1,z2,z3⟩
   ·rw[T8]at z
    split at z
    ·rename_i e;subst e;cases z
     exact .inr ⟨⟨_,Xq _ _ _ _ (Qh _ rfl),rfl⟩,Qm _,by rw[hk'];exact Zu⟩
    ·exact .inl z
   ·rw[Yk]at z2
    exact .inr ⟨z1,by omega,Qe _ z3⟩
  ·rename_i hk
   rw[Qt hk]
   rcases Hs q with z|⟨z1,z2,z3⟩
   ·exact .inl z
   ·exact .inr ⟨z1,z2,Qe _ z3⟩
theorem Ht:∀{names:List (Str×NameKind)}{n:Nat}{acc:List (Str×Addr)},(∀x y c,acc.lookup x=some c->acc.lookup y=some c->x=y)->(∀x c,acc.lookup x=some c->c<n)->
  ∀x y c,(cellsFrom n names acc).lookup x=some c->(cellsFrom n names acc).lookup y=some c->x=y
 |[],n,acc,h1,h2=>h1
 |(m,k)::r,n,acc,h1,h2=>by
  unfold cellsFrom;split
  ·refine Ht (names:=r) (fun x y c q1 q2=>?_) (fun x c q=>?_)
   ·rw[T8]at q1 q2
    split at q1<;>split at q2
    ·rename_i e1 e2;rw[e1,e2]
    ·cases q1;exact absurd (h2 _ _ q2) (Yr _)
    ·cases q2;exact absurd (h2 _ _ q1) (Yr _)
    ·exact h1 x y c q1 q2
   ·rw[T8]at q
    split at q
    ·cases q;exact Tj _
    ·exact Ur (h2 _ _ q)
  ·exact Ht (names:=r) h1 h2
theorem Fg{env:Env}{x:Str}:∀{names:List (Str×NameKind)},((names.map fun(n,k)=>if(k==NameKind.free&&env.scope.kind==.function&&env.kindOf n==some .cell)then(n,NameKind.cell)else(n,k)).lookup x)=
  (names.lookup x).map fun k=>if(k==NameKind.free&&env.scope.kind==.function&&env.kindOf x==some .cell)then NameKind.cell else k
 |[]=>rfl
 |(n,k)::r=>by
  have ih:=Fg (env:=env) (x:=x) (names:=r)
  show List.lookup x ((if(k==NameKind.free&&env.scope.kind==.function&&env.kindOf n==some .cell)=true then(n,NameKind.cell)else(n,k))::_)=_
  by_cases hx:x=n
  ·subst hx
   rw[T8 (a:=k),Qc rfl]
   by_cases hc:(k==NameKind.free&&env.scope.kind==.function&&env.kindOf x==some .cell)=true
   ·rw[Qc hc,T8,Qc rfl]
    show _=some (if(k==NameKind.free&&env.scope.kind==.function&&env.kindOf x==some .cell)=true then NameKind.cell else k)
    rw[Qc hc]
   ·rw[Qt hc,T8,Qc rfl]
    show _=some (if(k==NameKind.free&&env.scope.kind==.function&&env.kindOf x==some .cell)=true then NameKind.cell else k)
    rw[Qt hc]
  ·rw[T8 (a:=k),Qt hx]
   by_cases hc:(k==NameKind.free&&env.scope.kind==.function&&env.kindOf n==some .cell)=true
   ·rw[Qc hc,T8,Qt hx];exact ih
   ·rw[Qt hc,T8,Qt hx];exact ih
theorem Fh:∀{names:List (Str×NameKind)}{n:Nat}{acc:List (Str×Addr)}{x:Str}{c0:Addr},acc.lookup x=some c0->∃c,(cellsFrom n names acc).lookup x=some c/\(c=c0\/n≤c)
 |[],n,acc,x,c0,h=>⟨c0,h,.inl rfl⟩
 |(m,k)::r,n,acc,x,c0,h=>by
  unfold cellsFrom;split
  ·by_cases hx:x=m
   ·obtain⟨c,h1,h2⟩:=Fh (names:=r) (n:=n+1) (acc:=(m,n)::acc) (x:=x) (c0:=n) (by rw[T8,Qc hx])
    exact⟨c,h1,.inr (h2.elim (fun z=>Nat.le_of_eq z.symm) fun z=>Jt z)⟩
   ·obtain⟨c,h1,h2⟩:=Fh (names:=r) (n:=n+1) (acc:=(m,n)::acc) (x:=x) (c0:=c0) (by rw[T8,Qt hx];exact h)
    exact⟨c,h1,h2.elim .inl fun z=>.inr (Jt z)⟩
  ·exact Fh h
theorem Hu:∀{names:List (Str×NameKind)}{n:Nat}{acc:List (Str×Addr)}{x:Str},(x,NameKind.cell)∈names->∃c,(cellsFrom n names acc).lookup x=some c/\n≤c
 |[],n,acc,x,h=>by cases h
 |(m,k)::r,n,acc,x,h=>by
  unfold cellsFrom
  rcases Qg.mp h with e|h
  ·cases e
   rw[Qc (by decide)]
   obtain⟨c,h1,h2⟩:=Fh (names:=r) (n:=n+1) (acc:=(m,n)::acc) (x:=m) (c0:=n) (by rw[T8,Qc rfl])
   exact⟨c,h1,h2.elim (fun z=>Nat.le_of_eq z.symm) fun z=>Jt z⟩
  ·split
   ·obtain⟨c,h1,h2⟩:=Hu (names:=r) (n:=n+1) (acc:=(m,n)::acc) h
    exact⟨c,h1,Jt h2⟩
   ·exact Hu h
def Cm(scope:Scope)(env:Env)(C:Addr):Env:=
 {scope:=relabel scope env,locals:=C,globals:=env.globals,cells:=cellsFrom (C+1) scope.names (N5 env.cells scope.names []),qual:=env.qual,func:=none,code:=env.code,frame:=env.frame,builtins:=env.builtins}
def J1(X:Cx)(N':List Str)(scope:Scope)(s:Shared)(H:Hp)(fp:List Addr):Cx where
 prog:=X.prog
 w:=X.w
 K:=X.K
 mg:=X.mg
 base:=X.base
 A:=X.A
 N:=N'
 s₀:=s
 H₀:=H
 env:=Cm scope X.env s.heap.objs.size
 outer:=X.stack
 stack:=X.stack
 ex:=fp
 fn:=fun x=>scope.names.lookup x==some .cell
 calm:=X.calm
 pn:=[]
 xe:=fun _ _=>False
structure kY(X:Cx)(N':List Str)(scope:Scope)(keep:List Bool)(more:Nat):Prop where
 kind:scope.kind=.function
 uniq:∀y∈scope.names,scope.names.lookup y.1=some y.2
 clos:closureFor scope X.env=pure (N5 X.env.cells scope.names [])
 free:∀y∈scope.names,y.2=.free->(X.env.cells.lookup y.1).isSome=true
 klen:keep.length=X.N.length
 len:N'.length=X.N.length+more
 kept:∀(i:Nat) (x:Str),keep[i]? =some true->N'[i]? =some x->X.N[i]? =some x/\scope.names.lookup x≠some .local/\scope.names.lookup x≠some .cell
 outVis:∀(i:Nat) (x:Str),keep[i]? =some true->X.N[i]? =some x->scope.names.lookup x=some .free->X.env.scope.names.lookup x=some .cell\/X.env.scope.names.lookup x=some .free
def N6(keep:List Bool)(more:Nat)(σ:St):St:=List.zipWith (fun k v=>if k then v else none) keep σ++List.replicate more none
theorem Bz{keep:List Bool}{more:Nat}{σ:St}{i:Nat}{v:V}(h:(N6 keep more σ)[i]? =some (some v)):keep[i]? =some true/\σ[i]? =some (some v):=by
 unfold N6 at h
 rcases BI h with⟨_,h⟩|⟨_,h⟩
 ·rw[Jq]at h
  cases e1:keep[i]? with
  |none=>rw[e1]at h;cases h
  |some k=>
   cases e2:σ[i]? with
   |none=>rw[e1,e2]at h;cases h
   |some u=>
    rw[e1,e2]at h;cases k with
    |true=>simp at h;exact⟨rfl,by rw[h]⟩
    |false=>simp at h
 ·cases h
theorem VS{X:Cx}{N':List Str}{scope:Scope}{keep:List Bool}{more:Nat}{pins:OX}{σ:St}{H:Hp}{s:Shared}{fp:List Addr}(ok:kY X N' scope keep more)(I:Inv X pins σ H s)
  (hf:∀b∈fp,T1 X pins H b/\b<s.heap.objs.size):
  Inv (J1 X N' scope s H fp) [] (N6 keep more σ) H {s with heap:=pushCells (s.heap.push {cls:=.type "dict",data:=.dict #[]}) scope.names}:=by
 have hsz:(s.heap.push {cls:=.type "dict",data:=.dict #[]}).objs.size=s.heap.objs.size+1:=Yk ..
 have keepAll:∀b u,s.heap.get? b=some u->(pushCells (s.heap.push {cls:=.type "dict",data:=.dict #[]}) scope.names).get? b=some u:=fun b u e=>Xq _ _ _ _ (Qx _ e)
 have cases':∀x c,(Cm scope X.env s.heap.objs.size).cells.lookup x=some c->X.env.cells.lookup x=some c\/((pushCells (s.heap.push {cls:=.type "dict",data:=.dict #[]}) scope.names).IsCell c none/\s.heap.objs.size+1≤c/\(x,NameKind.cell)∈scope.names):=fun x c e=>by
  have e':(cellsFrom ((s.heap.push {cls:=.type "dict",data:=.dict #[]}).objs.size) scope.names (N5 X.env.cells scope.names [])).lookup x=some c:=by rw[hsz];exact e
  rcases Hs e' with z|⟨z1,z2,z3⟩
  ·rcases BJ z with y|y
   ·cases y
   ·exact .inl y
  ·rw[hsz]at z2;exact .inr ⟨z1,z2,z3⟩
 have cellLt:∀x c,X.env.cells.lookup x=some c->c<s.heap.objs.size:=fun x c e=>by
  obtain⟨v,q⟩:=I.cell x c e;exact q.lt
 have fsSub:∀b∈lL X.stack,b<s.heap.objs.size:=fun b hb=>by
  obtain⟨_,o,ho,_⟩:=I.stack.mem hb;exact Qu ho
 refine⟨⟨I.ok.mod,?_,I.ok.glob,I.ok.blt,Qm _,fun x y c e1 e2=>?_,fun x hx=>?_,fun x c e1 e2=>?_,I.ok.hd,I.ok.frames,.inl rfl,fun b hb=>?_,I.bs,Zs I.ok.bsz I.sz,fun b o e hb=>?_,fun b hb hb2=>?_,I.stack,I.stkFree⟩,
  rfl,I.bare,Un.kept keepAll,⟨fun _=>none,(Heap.Ns.new s.heap (.type "dict")).keeps (Xq _ _),fun i x v e1 e2 e3=>?_⟩,fun x c e=>?_,I.hok.fresh (Qm _),fun x c e=>?_,fun p hp=>absurd (show p∈([]:OX)from hp) (by simp),I.hok.kept keepAll,?_⟩
 ·show(relabel scope X.env).kind=.function
  exact ok.kind
 ·refine Ht (names:=scope.names) (n:=s.heap.objs.size+1) (acc:=N5 X.env.cells scope.names []) (fun x y c q1 q2=>?_) (fun x c q=>?_) x y c e1 e2
  ·rcases BJ q1 with z1|z1
   ·cases z1
   ·rcases BJ q2 with z2|z2
    ·cases z2
    ·exact I.ok.inj x y c z1 z2
  ·rcases BJ q with z1|z1
   ·cases z1
   ·exact Ur (cellLt x c z1)
 ·have hx':(relabel scope X.env).names.lookup x=some .cell\/(relabel scope X.env).names.lookup x=some .free:=hx
  have h1:scope.names.lookup x=some .cell\/scope.names.lookup x=some .free:=by
   unfold relabel at hx';rw[Fg]at hx';cases q:scope.names.lookup x with
   |none=>rw[q]at hx';simp at hx'
   |some k=>
    rw[q]at hx';cases k<;>simp at hx'<;>first|exact .inl rfl|exact .inr rfl
  refine Yj.mp (Uh scope.names _ _ ?_)
  rcases h1 with h1|h1
  ·exact .inl h1
  ·exact .inr (By (Zj h1) (ok.free _ (Zj h1) rfl))
 ·have e1':scope.names.lookup x=some .cell:=by simpa [J1]using e1
  obtain⟨c',q1,q2⟩:=Hu (names:=scope.names) (n:=s.heap.objs.size+1) (acc:=N5 X.env.cells scope.names []) (Zj e1');have e2':(cellsFrom (s.heap.objs.size+1) scope.names (N5 X.env.cells scope.names [])).lookup x=some c:=e2;rw[q1]at e2';cases e2';exact Jt q2
 ·refine⟨Qs (hf b hb).2,fun x c e z=>?_⟩
  rcases cases' x c e with y|⟨_,y,_⟩
  ·exact(hf b hb).1.2.2.2.2.1 x c y z
  ·exact absurd (Qd (hf b hb).2 (Jt y)) (by rw[z];exact Yr _)
 ·have:=(I.bs b o e).1
  rcases(hf b hb).1.2.2.2.1 with z|z
  ·exact I.ok.noex b o e z
  ·exact absurd (Qd (Qu e) (Zs I.ok.bsz z)) (Yr _)
 ·rcases Qg.mp (I.stkSub b hb2)with z|z
  ·exact(hf b hb).1.2.1 z
  ·exact(hf b hb).1.2.2.1 z
 ·obtain⟨k1,k2⟩:=Bz e2
  obtain⟨h1,h2,h3⟩:=ok.kept i x k1 e1;have e3':(relabel scope X.env).names.lookup x=some .local\/(relabel scope X.env).names.lookup x=some .cell\/(relabel scope X.env).names.lookup x=some .free:=e3;have hfree:scope.names.lookup x=some .free:=by
   unfold relabel at e3';rw[Fg]at e3';cases q:scope.names.lookup x with
   |none=>rw[q]at e3';simp at e3'
   |some k=>
    rw[q]at e3' h2 h3;cases k<;>simp at e3' h2 h3<;>rfl
  obtain⟨m,hn,hl⟩:=I.loc;have ov:=ok.outVis i x k1 h1 hfree;obtain⟨u,r,l⟩:=hl i x v h1 k2 (.inr ov);refine⟨u,r,.inr ?_⟩;obtain⟨c0,hc0⟩:=Yj.mp (ok.free _ (Zj hfree) rfl);have hcell:s.heap.IsCell c0 (some u):=by
   rcases l with⟨kl,_⟩|⟨_,c,hc,hz⟩
   ·have kl':X.env.scope.names.lookup x=some .local:=kl
    rcases ov with z|z<;>(rw[z]at kl';cases kl')
   ·have hc':X.env.cells.lookup x=some c:=hc
    have hc0':X.env.cells.lookup x=some c0:=hc0
    rw[hc']at hc0';cases hc0';exact hz
  have hk:(Cm scope X.env s.heap.objs.size).kindOf x=some .cell\/(Cm scope X.env s.heap.objs.size).kindOf x=some .free:=by
   show(relabel scope X.env).names.lookup x=some .cell\/(relabel scope X.env).names.lookup x=some .free
   rcases e3' with z|z
   ·exfalso
    unfold relabel at z;rw[Fg,hfree]at z;simp only[Yl,Zl]at z;split at z<;>cases z
   ·exact z
  refine⟨hk,c0,?_,hcell.keeps keepAll⟩;obtain⟨c1,hc1⟩:=Yj.mp (Uh (x:=x) scope.names (s.heap.objs.size+1) (N5 X.env.cells scope.names []) (.inr (By (Zj hfree) (ok.free _ (Zj hfree) rfl))));have hc1':(Cm scope X.env s.heap.objs.size).cells.lookup x=some c1:=hc1
  rcases cases' x c1 hc1' with z|⟨_,_,z⟩
  ·have hc0':X.env.cells.lookup x=some c0:=hc0
   rw[hc0']at z;cases z;exact hc1'
  ·have:=ok.uniq _ z
   rw[hfree]at this;cases this
 ·rcases cases' x c e with y|⟨y,_,_⟩
  ·obtain⟨v,q⟩:=I.cell x c y
   exact⟨v,q.keeps keepAll⟩
  ·exact⟨none,y⟩
 ·rcases cases' x c e with y|⟨_,y,_⟩
  ·exact I.freeC x c y
  ·exact I.hok.fresh (by omega)
 ·show(N6 keep more σ).length=N'.length
  unfold N6;rw[Ql,Yp,Zt,ok.len,ok.klen,I.len]
  omega
section
variable{prog:Program}{w:World}{A:Around}{R:Result->Shared->Prop}{s:Shared}
theorem VT{M:Model}{E:OE}{scope:Scope}{env:Env}{Q:Env->Shared->Prop}(cl:List (Str×Addr))
  (h:Q {scope:=scope,locals:=s.heap.objs.size,globals:=env.globals,cells:=cellsFrom (s.heap.objs.size+1) scope.names cl,qual:=env.qual,func:=none,code:=env.code,frame:=env.frame,builtins:=env.builtins}
   {s with heap:=pushCells (s.heap.push {cls:=.type "dict",data:=.dict #[]}) scope.names}):
  wpAny M A (newFunctionEnv scope env.globals cl [] env.qual none .none (some env)) Q E s:=by
 simp only[newFunctionEnv,Option.isSome_some,Zm];refine Qz (wpAny_alloc ?_);refine Qz (wpAny_layCells _ (fun name kind cells=>by cases hkc:kind==NameKind.cell<;>simp[hkc]) _ _ _ _ ?_)
 rw[show({s with heap:=s.heap.push {cls:=.type "dict",data:=.dict #[]}}:Shared).heap.objs.size=s.heap.objs.size+1 from Yk ..]
 exact Qz (by rw[Xy];exact Qv (Qv h))
end
def V1(X:Cx)(ifs:List Expr)(t:TT):Prop:=
 ∀(pins:OX) (s:Shared) (σ:St) (H:Hp) (Q:Bool->Hp->Prop),Inv X pins σ H s->t σ H Q->
  wpAny (model X.prog X.w) X.A (forIn ifs true fun c r=>if r=true then do let ok←isTrue c X.env (eval c X.env);pure (ForInStep.yield ok)else pure (ForInStep.yield r)) (TP X pins σ Q) X.xe s
theorem VU{X:Cx}:V1 X [] (fun _ H Q=>Q true H):=fun _ _ _ H _ I h=>wpAny_tests_nil ⟨H,I,h⟩
theorem VV{X:Cx}{c:Expr}{t:TT}(h:PT X c t):V1 X [c] t:=fun pins s σ H Q I q=>wpAny_tests_one (h pins s σ H Q I q)
section
variable{X:Cx}{N':List Str}{scope:Scope}{keep:List Bool}{more:Nat}{tg iter elt:Expr}{ifs:List Expr}{g:TG}{tt:TT}{te:TE}{pos:Pos}
end
def N7(keep:List Bool)(more:Nat)(env:a9):a9:=List.zipWith (fun k w=>if k then w else .nil) keep env++List.replicate more .nil
def X4:Bool->W->W->Option W
 |false,w,_=>some w
 |true,.nil,_=>some .nil
 |true,.dat d,_=>some (.dat d)
 |true,.own _,.own ds=>some (.own ds)
 |true,.own _,.dat d=>some (.dat d)
 |true,.par _,.par ds=>some (.par ds)
 |true,.ownD _ _,.ownD ks vs=>some (.ownD ks vs)
 |true,.ownD _ _,.dat d=>some (.dat d)
 |true,.parD _ _,.parD ks vs=>some (.parD ks vs)
 |_,_,_=>none
theorem VW{w w2 w':W}{m:Mu}(h:X4 true w w2=some w')(e:w'.mut=some m):w2=w'/\∃d0,w.mut=some d0/\w.isOwn=w'.isOwn/\w.isPar=w'.isPar:=by
 cases w<;>cases w2<;>first
  |(simp only[X4,Zl]at h;subst h;exact⟨rfl,_,rfl,rfl,rfl⟩)
  |(simp only[X4,Zl]at h;subst h;cases e;done)
  |(simp[X4]at h;done)
theorem VX{w w2:W}{d:D}(h:X4 true w w2=some (.dat d)):w=.dat d\/(w2=.dat d/\∃d0,w.mut=some d0):=by
 cases w<;>cases w2<;>first
  |(simp only[X4,Zl]at h;exact .inl h)
  |(simp only[X4,Zl]at h;exact .inr ⟨h,_,rfl⟩)
  |(simp[X4]at h;done)
def M8:List Bool->a9->a9->Option a9
 |[],[],_=>some []
 |k::ks,w::ws,w2::t9=>(X4 k w w2).bind fun x=>(M8 ks ws t9).map fun r=>x::r
 |_,_,_=>none
theorem Hv:∀{keep:List Bool}{env f9 env':a9}{i:Nat}{w':W},M8 keep env f9=some env'->env'[i]? =some w'->∃k w w2,keep[i]? =some k/\env[i]? =some w/\f9[i]? =some w2/\X4 k w w2=some w'
 |[],[],_,env',i,w',h,e=>by simp only[M8,Zl]at h;subst h;simp at e
 |[],_::_,_,env',i,w',h,e=>by simp[M8]at h
 |k::ks,[],_,env',i,w',h,e=>by simp[M8]at h
 |k::ks,w::ws,[],env',i,w',h,e=>by simp[M8]at h
 |k::ks,w::ws,w2::t9,env',i,w',h,e=>by
  unfold M8 at h;obtain⟨x,h1,h2⟩:=C7 h;obtain⟨r,h3,h4⟩:=E9 h2;subst h4;cases i with
  |zero=>simp at e;subst e;exact⟨k,w,w2,rfl,rfl,rfl,h1⟩
  |succ i=>simpa using Hv (i:=i) h3 (by simpa using e)
theorem MO:∀{keep:List Bool}{env f9 env':a9},M8 keep env f9=some env'->env'.length=env.length
 |[],[],_,env',h=>by simp only[M8,Zl]at h;subst h;rfl
 |[],_::_,_,env',h=>by simp[M8]at h
 |k::ks,[],_,env',h=>by simp[M8]at h
 |k::ks,w::ws,[],env',h=>by simp[M8]at h
 |k::ks,w::ws,w2::t9,env',h=>by
  unfold M8 at h;obtain⟨x,h1,h2⟩:=C7 h;obtain⟨r,h3,h4⟩:=E9 h2;subst h4
  simp[MO h3]
theorem CA{keep:List Bool}{more:Nat}{env:a9}{i:Nat}{w:W}(h:(N7 keep more env)[i]? =some w)(hw:w≠.nil):keep[i]? =some true/\env[i]? =some w:=by
 unfold N7 at h
 rcases BI h with⟨_,h⟩|⟨_,h⟩
 ·rw[Jq]at h
  cases e1:keep[i]? with
  |none=>rw[e1]at h;cases h
  |some k=>
   cases e2:env[i]? with
   |none=>rw[e1,e2]at h;cases h
   |some u=>
    rw[e1,e2]at h;cases k with
    |true=>simp at h;exact⟨rfl,by rw[h]⟩
    |false=>simp at h;exact absurd h.symm hw
 ·exact absurd h hw
theorem Dw{keep:List Bool}{more:Nat}{σ:St}{i:Nat}{v:Option V}(hk:keep[i]? =some true)(h:σ[i]? =some v):(N6 keep more σ)[i]? =some v:=by
 unfold N6;have h1:i<keep.length:=(Qb.mp hk).1;have h2:i<σ.length:=(Qb.mp h).1;rw[Yz (by rw[Yp];omega),Jq,hk,h]
 rfl
theorem Dx{w:W}{ds:Mu}(h:w.mut=some ds):w≠.nil:=fun z=>by rw[z]at h;cases h
section
variable{K:Qq}{B:OA}{G G':Hp}{σ σ':St}{env f9 env':a9}{H H':Hp}{keep:List Bool}{more:Nat}
theorem Hw{a:Addr}(h:d8 (N6 keep more σ) (N7 keep more env) a):d8 σ env a:=by
 obtain⟨i,w,ds,e1,e2,e3⟩:=h;exact⟨i,w,ds,(CA e1 (Dx e2)).2,e2,(Bz e3).2⟩
theorem Rel.ext(r:Rel K B G σ env H)(hk:keep.length=σ.length):Rel K B G (N6 keep more σ) (N7 keep more env) H:=by
 refine⟨r.sub,?_,fun i d e=>?_,fun i w ds e1 e2=>?_,fun i j w w' ds es a q1 q2 q3 q4 q5 q6=>?_,fun i w a q1 qo q2=>?_,r.old,r.tabs,r.gnt⟩
 ·unfold N7 N6
  rw[Ql,Ql,Yp,Yp,Zt,Zt,r.len]
 ·obtain⟨k1,k2⟩:=CA e (by simp)
  obtain⟨v,e1,e2⟩:=r.dat i d k2;exact⟨v,Dw k1 e1,e2⟩
 ·obtain⟨k1,k2⟩:=CA e1 (Dx e2)
  obtain⟨a,xs,e3,e4⟩:=r.own i w ds k2 e2;exact⟨a,xs,Dw k1 e3,e4⟩
 ·exact r.inj i j w w' ds es a (CA q1 (Dx q2)).2 q2 (CA q3 (Dx q4)).2 q4 (Bz q5).2 (Bz q6).2
 ·exact r.fresh i w a (CA q1 (by rintro rfl;cases qo)).2 qo (Bz q2).2
theorem Ev.out(r:Rel K B G σ env H)(hk:keep.length=σ.length)(ev:Ev K B G (N6 keep more σ) (N7 keep more env) H G' σ' f9 H')(hσ:∀j,j<σ.length->σ'[j]? =(N6 keep more σ)[j]?)(ho:M8 keep env f9=some env'):
  Ev K B G σ env H G' σ env' H':=by
 have mutO:∀(i:Nat) (w':W) (ds:Mu),env'[i]? =some w'->w'.mut=some ds->∃w0 d0,env[i]? =some w0/\w0.mut=some d0/\w0.isOwn=w'.isOwn/\w0.isPar=w'.isPar/\
   ∃a o,σ[i]? =some (some (V.ref a))/\H' a=some o/\m5 K G' o ds/\G' a=none:=fun i w' ds e1 e2=>by
  obtain⟨k,w,w2,h1,h2,h3,h4⟩:=Hv ho e1;have hi:i<σ.length:=by have:=(Qb.mp h2).1;rw[←r.len];exact this
  cases k with
  |false=>
   simp only[X4,Zl]at h4;subst h4;obtain⟨a,xs,q1,q2,q3,q4⟩:=r.own i w ds h2 e2;have no:¬ d8 (N6 keep more σ) (N7 keep more env) a:=by
    rintro⟨j,v,es,y1,y2,y3⟩;obtain⟨z1,z2⟩:=CA y1 (Dx y2);have:=r.inj j i v w es ds a z2 y2 h2 e2 (Bz y3).2 q1;subst this;rw[h1]at z1;cases z1
   exact⟨w,ds,h2,e2,rfl,rfl,a,xs,q1,ev.keep a _ no q3.nt q2,q3.mono ev.same,ev.stay a (by rw[q2];simp) no q4⟩
  |true=>
   obtain⟨z,d0,z1,z2,z3⟩:=VW h4 e2;subst z;refine⟨w,d0,h2,z1,z2,z3,?_⟩;obtain⟨a,xs,q1,q2,q3,q4⟩:=ev.rel.own i w2 ds h3 e2;obtain⟨a0,xs0,p1,_⟩:=r.own i w d0 h2 z1;rw[hσ i hi,Dw h1 p1]at q1;cases q1;exact⟨a,xs,p1,q2,q3,q4⟩
 refine⟨⟨ev.rel.sub,by rw[MO ho];exact r.len,fun i d e=>?_,fun i w ds e1 e2=>?_,fun i j w w' ds es a q1 q2 q3 q4 q5 q6=>?_,fun i w a q1 qo q2=>?_,ev.rel.old,ev.rel.tabs,ev.rel.gnt⟩,ev.same,fun b o n t e=>ev.keep b o (fun z=>n (Hw z)) t e,ev.live,fun b e n g=>ev.stay b e (fun z=>n (Hw z)) g,fun a z=>.inl ?_,fun i w e hp=>⟨rfl,?_⟩,rfl⟩
 ·obtain⟨k,w,w2,h1,h2,h3,h4⟩:=Hv ho e
  have hi:i<σ.length:=by have:=(Qb.mp h2).1;rw[←r.len];exact this
  have old:w=.dat d->∃v,σ[i]? =some (some v)/\b0 K G' v d:=fun z=>by
   subst z;obtain⟨v,e1,e2⟩:=r.dat i d h2;exact⟨v,e1,b0.mono ev.same d e2⟩
  cases k with
  |false=>simp only[X4,Zl]at h4;exact old h4
  |true=>
   rcases VX h4 with z|⟨z,d0,z0⟩
   ·exact old z
   ·subst z
    obtain⟨v,q1,q2⟩:=ev.rel.dat i d h3;obtain⟨a0,xs0,p1,_⟩:=r.own i _ d0 h2 z0;rw[hσ i hi,Dw h1 p1]at q1;cases q1;exact⟨_,p1,q2⟩
 ·obtain⟨w0,d0,_,_,_,_,q⟩:=mutO i w ds e1 e2
  exact q
 ·obtain⟨w0,d0,y1,y2,_⟩:=mutO i w ds q1 q2
  obtain⟨w1,d1,y3,y4,_⟩:=mutO j w' es q3 q4;exact r.inj i j w0 w1 d0 d1 a y1 y2 y3 y4 q5 q6
 ·obtain⟨m,hm⟩:=nA qo
  obtain⟨w0,d0,y1,_,y3,_⟩:=mutO i _ m q1 hm;exact r.fresh i w0 a y1 (y3.trans qo) q2
 ·obtain⟨i,w,ds,e1,e2,e3⟩:=z
  obtain⟨w0,d0,y1,y2,_⟩:=mutO i w ds e1 e2;exact⟨i,w0,d0,y1,y2,e3⟩
 ·obtain⟨m,hm⟩:=mK hp
  obtain⟨w0,d0,y1,_,_,y4,_⟩:=mutO i _ m e hm;exact⟨w0,y1,y4.trans hp⟩
theorem Ev.swapAt{p:Addr}{o:HO}(ev:Ev K B G σ env H G' σ' env' H')(no:¬ d8 σ env p)(hp:H p≠none)(gp:G p=none)(nt:NT o)(nx:∀φ,H' p≠some (.ext φ)):Ev K B G σ env (upd H p o) G' σ' env' (upd H' p o):=by
 have np:∀(i:Nat) (w:W) (ds:Mu) (a:Addr),env'[i]? =some w->w.mut=some ds->σ'[i]? =some (some (V.ref a))->a≠p:=fun i w ds a e1 e2 e3 z=>by
  rcases ev.sub a ⟨i,w,ds,e1,e2,e3⟩with q|q
  ·exact no (z ▸ q)
  ·exact hp (z ▸ q)
 have gp':G' p=none:=ev.stay p hp no gp
 have live':∀b,H' b≠none->(upd H' p o) b≠none:=fun b h=>by
  by_cases hb:b=p
  ·subst hb;rw[F9];simp
  ·rw[D6 hb];exact h
 refine⟨⟨fun b u e=>?_,ev.rel.len,ev.rel.dat,fun i w ds e1 e2=>?_,ev.rel.inj,ev.rel.fresh,fun b h=>live' b (ev.rel.old b h),ev.rel.tabs.upd nt nx,ev.rel.gnt⟩,ev.same,fun b u n t e=>?_,fun b e=>?_,fun b e n g=>?_,fun a z=>?_,ev.par,ev.slen⟩
 ·have hb:b≠p:=fun z=>by rw[z,gp']at e;cases e
  rw[D6 hb];exact ev.rel.sub b u e
 ·obtain⟨a,xs,e3,e4,e5,e6⟩:=ev.rel.own i w ds e1 e2
  exact⟨a,xs,e3,by rw[D6 (np i w ds a e1 e2 e3)];exact e4,e5,e6⟩
 ·by_cases hb:b=p
  ·subst hb;rw[F9]at e ⊢;exact e
  ·rw[D6 hb]at e ⊢;exact ev.keep b u n t e
 ·by_cases hb:b=p
  ·subst hb;rw[F9];simp
  ·rw[D6 hb]at e ⊢;exact ev.live b e
 ·by_cases hb:b=p
  ·subst hb;exact gp'
  ·rw[D6 hb]at e;exact ev.stay b e n g
 ·obtain⟨i,w,ds,e1,e2,e3⟩:=id z
  rw[D6 (np i w ds a e1 e2 e3)];exact ev.sub a z
end
def N8(g:OZ)(t:Mo Bool)(m:Mo D):List D->Mo (List D)
 |[],env=>some ([],env)
 |d::ds,env=>(g d env).bind fun e1=>(t e1).bind fun p=>if p.1 then(m p.2).bind fun q=>(N8 g t m ds q.2).map fun r=>(q.1::r.1,r.2)else N8 g t m ds p.2
def G9(mi:Mo (List D))(keep:List Bool)(more:Nat)(g:OZ)(t:Mo Bool)(m:Mo D):Mo (List D):=fun env=>(mi env).bind fun p=>if p.1.length≤100000 then
 (N8 g t m p.1 (N7 keep more p.2)).bind fun q=>(M8 keep p.2 q.2).map fun e=>(q.1,e)else none
def J0:Mo Bool:=fun env=>some (true,env)
theorem R6{X:Cx}{B:OA}:V1 X [] (nH X.K B J0):=fun pins s σ H Q I h=>by
 obtain⟨G,env,b,env',rl,e,k⟩:=h;cases e;exact VU pins s σ H Q I (k G H (.refl rl))
theorem Dy{X:Cx}{B:OA}{c:Expr}{t:Mo Bool}(h:ET X B c t):V1 X [c] (nH X.K B t):=VV h
section
variable{X:Cx}{B:OA}{N':List Str}{scope:Scope}{keep:List Bool}{more:Nat}{tg iter elt:Expr}{ifs:List Expr}{g:OZ}{t:Mo Bool}{m:Mo D}{mi:Mo (List D)}{pos:Pos}
end
section
variable{X:Cx}{B:OA}{pos:Pos}{a b c e:Expr}{ma mb mc:Mo D}{ms:Mo (List D)}{es:List Expr}
def oX:D->String
 |.non=>"NoneType"|.bl _=>"bool"|.int _=>"int"|.str _=>"str"|.tup _=>"tuple"|.lst _=>"list"|.emp=>"dict"|.obj _=>"object"|.dct _ _=>"dict"
def L6(K:Qq)(T:String):Prop:=T∈(["tuple","list","int","bool","str"]:List String)
def T9(t T:String):Bool:=t==T||(t=="bool"&&T=="int")
theorem Hx{K:Qq}{T:String}(h:L6 K T):∀d,(∀o,d≠.obj o)->PySem.W.kitOne K (.type (oX d)) (.type T)=some (T9 (oX d) T):=by
 intro d hd;unfold L6 at h;simp only[Qg,Qa,Ze]at h
 rcases h with rfl|rfl|rfl|rfl|rfl<;>cases d<;>first|rfl|exact absurd rfl (hd _)
theorem VY{pins:OX}{σ:St}{G H:Hp}{s:Shared}{A:Around}{E:OE}{Q:OE}{T:String}{x:V}{u:Value}{d:D}(I:Inv X pins σ H s)(l:Le G H)(rx:D8 x u)(rp:b0 X.K G x d)
  (kt:L6 X.K T)(h:∀tk,Q (.bool (T9 (oX d) T)) {s with toks:=tk}):wpAny (model X.prog X.w) A (call (.builtin "isinstance") [u,.type T]) Q E s:=by
 have e:=Hx kt d
 cases d with
 |non=>simp only[b0]at rp;subst rp;exact CY I rx (.non) (e nofun) h
 |bl b=>simp only[b0]at rp;subst rp;exact CY I rx (.bl b) (e nofun) h
 |int i=>simp only[b0]at rp;subst rp;exact CY I rx (.int i) (e nofun) h
 |str z=>simp only[b0]at rp;obtain⟨rp,_⟩:=rp;subst rp;exact CY I rx (.str z) (e nofun) h
 |tup ds=>
  simp only[b0]at rp;obtain⟨a,xs,rfl,q,_⟩:=rp;cases rx;obtain⟨its,_,⟨o,h1,h2,_⟩,_⟩:=I.tuple (l.sqT q);exact Zp Xg I.kIn ⟨o,h1,h2⟩ (e nofun) (fun z=>nomatch z) h
 |lst ds=>
  simp only[b0]at rp;obtain⟨a,xs,rfl,q,_⟩:=rp;cases rx;obtain⟨its,_,⟨o,n,h1,h2,_⟩,_⟩:=I.list (l.sqL q);exact Zp Vp I.kIn ⟨o,h1,h2⟩ (e nofun) (fun z=>nomatch z) h
 |emp=>
  simp only[b0]at rp;obtain⟨a,kvs,rfl,q⟩:=rp;exact CY I rx (.dK (l _ _ q)) (e nofun) h
 |dct ks vs=>
  simp only[b0]at rp;obtain⟨a,kvs,rfl,q,_⟩:=rp;exact CY I rx (.dT (l _ _ q)) (e nofun) h
 |obj o=>
  have h0:T9 "object" T=false:=by
   unfold L6 at kt;simp only[Qg,Qa,Ze]at kt
   rcases kt with rfl|rfl|rfl|rfl|rfl<;>rfl
  have h':∀tk,Q (.bool false) {s with toks:=tk}:=fun tk=>by have:=h tk;rwa [show T9 (oX (.obj o)) T=false from h0]at this
  simp only[b0]at rp;cases o with
  |exc n=>
   obtain⟨a,C,HP,rfl,_,h3,h4,h5⟩:=rp;cases rx;exact Zp h4 I.kIn (I.hok a _ (l _ _ h3)).1 (h5 T kt) (fun z=>nomatch z) h'
  |fn n=>
   obtain⟨f,rfl,_,h4⟩:=rp;cases rx;refine Zp h4 I.kIn True.intro ?_ (fun z=>nomatch z) h'
   unfold L6 at kt;simp only[Qg,Qa,Ze]at kt
   rcases kt with rfl|rfl|rfl|rfl|rfl<;>rfl
  |dk kvs=>
   obtain⟨a,rfl,q⟩:=rp;obtain⟨_,_,vs,_,dd⟩:=(show J9 X.prog X.w H s.heap a (.dK _)from I.hok a _ (l _ _ q))
   obtain⟨o,h1,h2⟩:∃o,s.heap.get? a=some o/\o.cls=.type "dict":=by
    obtain⟨o,es,ep,g1,g2,_⟩:=dd;exact⟨o,g1,g2.1⟩
   cases rx;refine Zp Yn I.kIn ⟨o,h1,h2⟩ ?_ (fun z=>nomatch z) h'
   unfold L6 at kt;simp only[Qg,Qa,Ze]at kt
   rcases kt with rfl|rfl|rfl|rfl|rfl<;>rfl
  |dt kvs=>
   obtain⟨a,ps,rfl,q,_⟩:=rp;obtain⟨_,_,vs,_,dd⟩:=(show J9 X.prog X.w H s.heap a (.dK _)from I.hok a _ (l _ _ q))
   obtain⟨o,h1,h2⟩:∃o,s.heap.get? a=some o/\o.cls=.type "dict":=by
    obtain⟨o,es,ep,g1,g2,_⟩:=dd;exact⟨o,g1,g2.1⟩
   cases rx;refine Zp Yn I.kIn ⟨o,h1,h2⟩ ?_ (fun z=>nomatch z) h'
   unfold L6 at kt;simp only[Qg,Qa,Ze]at kt
   rcases kt with rfl|rfl|rfl|rfl|rfl<;>rfl
theorem VZ{K:Qq}:L6 K "tuple":=by simp[L6]
theorem WA{K:Qq}:L6 K "list":=by simp[L6]
theorem WB{K:Qq}:L6 K "int":=by simp[L6]
theorem WC{K:Qq}:L6 K "bool":=by simp[L6]
def nB(T:String)(m:Mo D):Mo D:=fun env=>(m env).map fun p=>(.bl (T9 (oX p.1) T),p.2)
theorem R7{T:String}{y:Str}{p p2:Pos}(kt:L6 X.K T)(ha:ED X B a ma)(hg:Gl X "isinstance")(hm:X.mg "isinstance"=none)(hgT:Gl X y)(hmT:X.mg y=none)(hvT:bootBuiltins y=some (.type T))
  (hnT:y≠"__name__":=by decide)(hdT:(y==("__debug__":Str))=false:=by decide)
  (he:starEach [a,.Name y p2] X.env=[(false,eval a X.env),(false,eval (.Name y p2) X.env)]:=by rfl):ED X B (.Call (.Name "isinstance" p) [a,.Name y p2] [] pos) (nB T ma):=by
 have hT:PE X (.Name y p2) (tC (.ty T)):=FF hgT hmT hvT rfl hnT hdT
 have hc:O2 X (.builtin "isinstance") (fun xs H Q=>∃x G d,xs=[x,.ty T]/\Le G H/\b0 X.K G x d/\Q (.bl (T9 (oX d) T)) H):=by
  intro pins s σ H xs us Q I r h;obtain⟨x,G,d,rfl,l,rp,q⟩:=h;obtain⟨u,w',rfl,r1,r2⟩:=BB r;cases r2;exact VY I l r1 rp kt fun tk=>⟨.bl _,H,I.tok _,rfl,q⟩
 have h1:starEach [Expr.Name y p2] X.env=[(false,eval (.Name y p2) X.env)]:=rfl
 refine d6 (De (pos:=pos) (p:=p) hc hg hm (by rfl') (O5 ha (O5 hT Aj) he) (he:=he)) ?_
 rintro σ H Q ⟨G,env,d,env',rl,e,k⟩;obtain⟨⟨d1,a8⟩,e1,e2⟩:=E9 e;cases e2;exact .bind rl e1 fun v G1 H1 ev r=>⟨v,G1,d1,rfl,ev.rel.sub,r,k _ G1 H1 ev (by simp only[b0])⟩
def X5:List D->Option Bool
 |[]=>some true
 |.bl b::r=>(X5 r).map fun k=>b&&k
 |_::_=>none
def AQ:List D->Option D
 |[.lst ds]=>(X5 ds).map fun k=>.bl k
 |_=>none
theorem MP{K:Qq}{G:Hp}:∀{ds:List D}{xs:List V}{us:List Value}{k:Bool},C3 K G xs ds->D3 xs us->X5 ds=some k->∃bs,LSm.BoolsAre us bs/\bs.all id=k
 |[],_,us,k,r,v,e=>by
  simp only[C3]at r;subst r;cases v;cases e;exact⟨[],.nil,rfl⟩
 |d::ds,_,us,k,r,v,e=>by
  simp only[C3]at r;obtain⟨x,t,rfl,q,r⟩:=r;cases d<;>first|(exact absurd (show(none:Option Bool)=some k from e) (by simp))|skip
  obtain⟨k',e1,e2⟩:=E9 (show(X5 ds).map _=some k from e)
  simp only[b0]at q;subst q;cases v with
  |cons v1 v2=>
   cases v1;obtain⟨bs,h1,h2⟩:=MP r v2 e1;exact⟨_::bs,.cons _ h1,by rw[←e2,←h2];rfl⟩
theorem Dz(hc:X.calm=true):O2 X (.builtin "all") (fun xs H Q=>∃p G ys ds k,xs=[.ref p]/\Le G H/\lX X.K G p ys/\C3 X.K G ys ds/\X5 ds=some k/\Q (.bl k) H):=by
 intro pins s σ H xs us Q I r h;obtain⟨p,G,ys,ds,k,rfl,l,hq,rp,ek,q⟩:=h;obtain⟨u,rfl,rx⟩:=Ai r;cases rx;obtain⟨its,r',pl,hz⟩:=I.list (l.sqL hq);obtain⟨bs,hb,hk⟩:=MP rp r' ek;have hh:X.A.handled=none:=I.ok.hd hc;have hl:=pl.isList;have hlt:p<s.heap.objs.size:=by obtain⟨_,e,_⟩:=hl;exact Qu e
 refine call_all_walk (Ud hl ?_);refine⟨s.heap.objs.size,[s.heap.objs.size,p],[s.heap.objs.size],its.toArray.size,_,_,fun i=>(bs[i]?).getD true,rfl,Walks.list (A:=X.A.in1) hh _ p (Qs hlt) its.toArray,
  ⟨⟨_,Qh _ rfl,rfl,rfl⟩,hl.push _⟩,fun i v s' Q' E' hP hQ=>?_,fun h' tk hk'=>?_⟩
 ·obtain⟨b,e,rfl⟩:=hb.get i v (by simpa using hP)
  simp only[e,Option.getD_some]at hQ;exact Jw hQ
 ·have e:((List.range its.toArray.size).all fun i=>(bs[i]?).getD true)=bs.all id:=by
   rw[Qp,hb.length];exact LSm.range_all bs
  rw[e,hk];exact⟨.bl k,H,I.kept (t':=tk) (Vc hk'),rfl,q⟩
theorem WD:Z1 X B (fun xs H Q=>∃p G ys ds k,xs=[.ref p]/\Le G H/\lX X.K G p ys/\C3 X.K G ys ds/\X5 ds=some k/\Q (.bl k) H) AQ:=by
 intro G σ env H xs ds c Q rl r e k;unfold AQ at e;split at e
 ·rename_i ds
  obtain⟨x,rfl,q⟩:=U8 r;obtain⟨k',e1,e2⟩:=E9 e;subst e2;simp only[b0]at q;obtain⟨a,ys,rfl,h1,h2⟩:=q;exact⟨a,G,ys,ds,k',rfl,rl.sub,h1,h2,e1,k _ G H (.refl rl) (by simp only[b0])⟩
 ·cases e
def Cn:List D->Option D
 |[.int i,.int j]=>some (.int (if j>i then j else i))
 |_=>none
def Co:List D->Option D
 |[.int i,.int j]=>some (.int (if j<i then j else i))
 |_=>none
def AR:List D->Option D
 |[.int i]=>some (.int i)
 |[.bl k]=>some (.int (if k then 1 else 0))
 |_=>none
theorem WE:Z1 X B (fun xs H Q=>∃i j,xs=[.int i,.int j]/\Q (.int (if j>i then j else i)) H) Cn:=by
 intro G σ env H xs ds c Q rl r e k;unfold Cn at e;split at e
 ·rename_i i j
  cases e;obtain⟨x,y,rfl,q1,q2⟩:=Dn r;simp only[b0]at q1 q2;subst q1 q2;exact⟨i,j,rfl,k _ G H (.refl rl) (by simp only[b0])⟩
 ·cases e
theorem WG:Z1 X B (fun xs H Q=>∃i j,xs=[.int i,.int j]/\Q (.int (if j<i then j else i)) H) Co:=by
 intro G σ env H xs ds c Q rl r e k;unfold Co at e;split at e
 ·rename_i i j
  cases e;obtain⟨x,y,rfl,q1,q2⟩:=Dn r;simp only[b0]at q1 q2;subst q1 q2;exact⟨i,j,rfl,k _ G H (.refl rl) (by simp only[b0])⟩
 ·cases e
theorem MQ:Z1 X B (fun xs H Q=>(∃i,xs=[.int i]/\Q (.int i) H)\/ ∃k,xs=[.bl k]/\Q (.int (if k then 1 else 0)) H) AR:=by
 intro G σ env H xs ds c Q rl r e k;unfold AR at e;split at e
 ·rename_i i
  cases e;obtain⟨x,rfl,q1⟩:=U8 r;simp only[b0]at q1;subst q1;exact .inl ⟨i,rfl,k _ G H (.refl rl) (by simp only[b0])⟩
 ·rename_i b
  cases e;obtain⟨x,rfl,q1⟩:=U8 r;simp only[b0]at q1;subst q1;exact .inr ⟨b,rfl,k _ G H (.refl rl) (by simp only[b0])⟩
 ·cases e
def jY:List D->Option (List Int)
 |[]=>some []
 |.int i::r=>(jY r).map fun l=>i::l
 |_::_=>none
theorem BK{K:Qq}{G:Hp}:∀{ds:List D}{xs:List V}{ns:List Int},C3 K G xs ds->jY ds=some ns->xs=ns.map V.int
 |[],_,ns,r,e=>by simp only[C3]at r;subst r;cases e;rfl
 |d::ds,_,ns,r,e=>by
  simp only[C3]at r;obtain⟨x,t,rfl,q,r⟩:=r;cases d<;>first|(exact absurd (show(none:Option (List Int))=some ns from e) (by simp))|skip
  obtain⟨l,e1,e2⟩:=E9 (show(jY ds).map _=some ns from e)
  subst e2;simp only[b0]at q;subst q;rw[BK r e1];rfl
def rL(neg:Bool):D->D->Option D
 |.int i,d=>d.items.bind fun ds=>(jY ds).map fun ns=>.bl (if neg then !ns.contains i else ns.contains i)
 |_,_=>none
theorem WH(ns:List Int):(ns.map V.int).all X0=true:=by
 induction ns with
 |nil=>rfl
 |cons n ns ih=>simp[X0,ih]
theorem WI(i:Int)(ns:List Int):sO (.int i) (ns.map V.int)=ns.contains i:=by
 unfold sO
 induction ns with
 |nil=>rfl
 |cons n ns ih=>
  rw[Qr,Xm,ih,Uy]
  congr 1
  show(n==i)=(i==n);exact Bool.beq_comm ..
theorem WJ{neg:Bool}:lN X B (tV X.K neg) (rL neg):=by
 intro G σ env H x y a b d Q rl ra rb e k;cases a<;>first|(exact absurd (show(none:Option D)=some d from e) (by simp))|skip
 rename_i i;obtain⟨ds,e1,e2⟩:=C7 (show b.items.bind _=some d from e)
 obtain⟨ns,e3,e4⟩:=E9 e2;subst e4;simp only[b0]at ra;subst ra;obtain⟨p,xs,rfl,h1,h2⟩:=Hk rl.sub rb e1;have hx:=BK h2 e3;subst hx;exact⟨p,_,rfl,h1,rfl,WH ns,k _ G H (.refl rl) (by rw[WI];simp only[b0])⟩
end
section
variable{X:Cx}{pins:OX}{σ:St}{G H:Hp}{s:Shared}
end
mutual
def lS:D->PyData
 |.non=>.none
 |.bl b=>.bool b
 |.int i=>.int i
 |.str x=>.str x
 |.tup ds=>.tuple (K1 ds)
 |.lst ds=>.list (K1 ds)
 |.emp=>.dict []
 |.obj _=>.dict []
 |.dct _ _=>.dict []
def K1:List D->List PyData
 |[]=>[]
 |d::ds=>lS d::K1 ds
end
def qG(d:D):Bool:=SeqAt.shaped (lS d)
section
variable{X:Cx}{B:OA}{pins:OX}{σ:St}{G H:Hp}{s:Shared}
mutual
theorem kG(I:Inv X pins σ H s)(l:Le G H):∀(d:D) (x:V) (u:Value),(lS d).canLay0=true->D8 x u->b0 X.K G x d->∃as,Reads s.heap u (lS d) as
 |.non,x,u,c,r,p=>by simp only[b0]at p;subst p;cases r;exact⟨_,.none⟩
 |.bl b,x,u,c,r,p=>by simp only[b0]at p;subst p;cases r;exact⟨_,.bool b⟩
 |.int i,x,u,c,r,p=>by simp only[b0]at p;subst p;obtain⟨t,rfl⟩:=r;exact⟨_,.int i t⟩
 |.str z,x,u,c,r,p=>by simp only[b0]at p;obtain⟨p,_⟩:=p;subst p;obtain⟨t,rfl⟩:=r;exact⟨_,.str z t⟩
 |.tup ds,x,u,c,r,p=>by
  simp only[b0]at p;obtain⟨a,xs,rfl,q,rp⟩:=p;cases r;obtain⟨its,rv,⟨o,h1,h2,n,h3⟩,_⟩:=I.tuple (l.sqT q);have hc:PyData.canLayAll0 (K1 ds)=true:=by simpa [lS,PyData.canLay0]using c
  obtain⟨as,h⟩:=lQ I l ds xs its hc rv rp;exact⟨_,.tuple h1 h2 h3 (by simpa using h)⟩
 |.lst ds,x,u,c,r,p=>by
  simp only[b0]at p;obtain⟨a,xs,rfl,q,rp⟩:=p;cases r;obtain⟨its,rv,⟨o,n,h1,h2,_,h3⟩,_⟩:=I.list (l.sqL q);have hc:PyData.canLayAll0 (K1 ds)=true:=by simpa [lS,PyData.canLay0]using c
  obtain⟨as,h⟩:=lQ I l ds xs its hc rv rp;exact⟨_,.list h1 h2 h3 (by simpa using h)⟩
 |.emp,x,u,c,r,p=>by simp[lS,PyData.canLay0]at c
 |.obj _,x,u,c,r,p=>by simp[lS,PyData.canLay0]at c
 |.dct _ _,x,u,c,r,p=>by simp[lS,PyData.canLay0]at c
theorem lQ(I:Inv X pins σ H s)(l:Le G H):∀(ds:List D) (xs:List V) (us:List Value),PyData.canLayAll0 (K1 ds)=true->D3 xs us->C3 X.K G xs ds->∃as,ReadsAll s.heap us (K1 ds) as
 |[],xs,us,c,v,p=>by simp only[C3]at p;subst p;cases v;exact⟨_,.nil⟩
 |d::ds,xs,us,c,v,p=>by
  simp only[C3]at p;obtain⟨x,r,rfl,q,t⟩:=p;have hc:(lS d).canLay0=true/\PyData.canLayAll0 (K1 ds)=true:=by simpa [K1,PyData.canLayAll0]using c
  cases v with
  |cons v1 v2=>
   obtain⟨as,h1⟩:=kG I l d x _ hc.1 v1 q;obtain⟨bs,h2⟩:=lQ I l ds r _ hc.2 v2 t;exact⟨_,.cons h1 h2⟩
end
def qW(K:Qq)(neg:Bool):R2:=fun x y H Q=>∃G a b,Le G H/\b0 K G x a/\b0 K G y b/\qG a=true/\qG b=true/\Q (.bl (if neg then !PyData.eqv (lS a) (lS b)else PyData.eqv (lS a) (lS b))) H
theorem oS(hu:X.A.units+64<cLine):kQ X (compareOp .Eq) (qW X.K false):=by
 intro pins s σ H x y v u Q I rx ry h;obtain⟨G,a,b,l,ra,rb,ha,hb,q⟩:=h;obtain⟨as,h1⟩:=kG I l a x v (Jn ha) rx ra;obtain⟨bs,h2⟩:=kG I l b y u (Jn hb) ry rb;exact eq_dataH h1 h2 ha hb hu ⟨.bl _,H,I,rfl,q⟩
theorem mD(hu:X.A.units+64<cLine):kQ X (compareOp .NotEq) (qW X.K true):=by
 intro pins s σ H x y v u Q I rx ry h;obtain⟨G,a,b,l,ra,rb,ha,hb,q⟩:=h;obtain⟨as,h1⟩:=kG I l a x v (Jn ha) rx ra;obtain⟨bs,h2⟩:=kG I l b y u (Jn hb) ry rb;exact ne_dataH h1 h2 ha hb hu ⟨.bl _,H,I,rfl,q⟩
def j7(neg:Bool):D->D->Option D:=fun a b=>if qG a&&qG b then some (.bl (if neg then !PyData.eqv (lS a) (lS b)else PyData.eqv (lS a) (lS b)))else none
theorem mE{neg:Bool}:lN X B (qW X.K neg) (j7 neg):=by
 intro G σ env H x y a b d Q rl ra rb e k;unfold j7 at e;split at e
 ·rename_i h
  rw[Qw]at h;cases e;exact⟨G,a,b,rl.sub,ra,rb,h.1,h.2,k _ G H (.refl rl) (by simp only[b0])⟩
 ·cases e
end
section
variable{X:Cx}{B:OA}
def nN(K:Qq):R2:=fun x y H Q=>∃a b xs ys,x=.ref a/\y=.ref b/\lY K H a xs/\lY K H b ys/\xs.length+ys.length≤sizeLine/\
 (xs=[]->Q (.ref b) H)/\(ys=[]->Q (.ref a) H)/\(∀p,H p=none->Q (.ref p) (upd H p (.tup (xs++ys))))
theorem pM:kQ X (binaryOp .Add) (nN X.K):=by
 intro pins s σ H x y v u Q I rx ry h;obtain⟨a,b,xs,ys,rfl,rfl,ha,hb,hz,q0,q1,q2⟩:=h;cases rx;cases ry;obtain⟨vs,r1,p1,_⟩:=I.tuple ha;obtain⟨ws,r2,p2,_⟩:=I.tuple hb;have hsz:vs.length+ws.length≤sizeLine:=by rw[←r1.length,←r2.length];exact hz
 obtain⟨⟨cls,dd,data,sl⟩,ho,hc,n,hd⟩:=id p1;obtain⟨⟨cls2,dd2,data2,sl2⟩,ho2,hc2,n2,hd2⟩:=id p2;simp only at hc hd hc2 hd2;subst hc hd hc2 hd2;have e:vs.toArray++ws.toArray=(vs++ws).toArray:=by simp
 by_cases hv:vs=[]
 ·exact concat_meets ⟨_,ho,rfl⟩ ⟨_,ho2,rfl⟩ noFill_tuple_add seq_tuple_add Vf Vu (Vx _ _)
   (tuple_addW0 a b vs.toArray ws.toArray n n2 dd dd2 sl sl2 (by simp[hv])) ⟨ho,ho2,⟨.ref b,H,I,rfl,q0 (r1.nil_iff.mp hv)⟩⟩
 ·by_cases hw:ws=[]
  ·exact concat_meets ⟨_,ho,rfl⟩ ⟨_,ho2,rfl⟩ noFill_tuple_add seq_tuple_add Vf Vu (Vx _ _)
    (tuple_addW1 a b vs.toArray ws.toArray n n2 dd dd2 sl sl2 (by simpa using hv) (by simp[hw])) ⟨ho,ho2,⟨.ref a,H,I,rfl,q1 (r2.nil_iff.mp hw)⟩⟩
  ·refine concat_meets ⟨_,ho,rfl⟩ ⟨_,ho2,rfl⟩ noFill_tuple_add seq_tuple_add Vf Vu (Vx _ _)
    (tuple_addW2 a b vs.toArray ws.toArray n n2 dd dd2 sl sl2 (by simpa using hv) (by simpa using hw) (by rw[Qp,Qp];exact hsz)) ⟨ho,ho2,?_⟩
   rw[e];refine⟨.ref s.heap.objs.size,_,I.laid (t':=s.toks) (o:=.tup (xs++ys)) (fun b ob q=>Qx _ q) (Qm _) ?_,rfl,q2 _ (I.hok.fresh (Qm _))⟩
   exact⟨by rw[Ql];exact hz,_,r1.append r2,V8.new _ _⟩
def qX(K:Qq):R2:=fun x y H Q=>∃a b xs ys,x=.ref a/\y=.ref b/\lX K H a xs/\lX K H b ys/\xs.length+ys.length≤sizeLine/\
 (∀p,H p=none->Q (.ref p) (upd H p (.lst (xs++ys))))
theorem pN:kQ X (binaryOp .Add) (qX X.K):=by
 intro pins s σ H x y v u Q I rx ry h;obtain⟨a,b,xs,ys,rfl,rfl,ha,hb,hz,q2⟩:=h;cases rx;cases ry;obtain⟨vs,r1,p1,_⟩:=I.list ha;obtain⟨ws,r2,p2,_⟩:=I.list hb;have hsz:vs.length+ws.length≤sizeLine:=by rw[←r1.length,←r2.length];exact hz
 obtain⟨⟨cls,dd,data,sl⟩,ho,hc,n,hd⟩:=id p1.isList;obtain⟨⟨cls2,dd2,data2,sl2⟩,ho2,hc2,n2,hd2⟩:=id p2.isList;simp only at hc hd hc2 hd2;subst hc hd hc2 hd2;have e:vs.toArray++ws.toArray=(vs++ws).toArray:=by simp
 refine concat_meets ⟨_,ho,rfl⟩ ⟨_,ho2,rfl⟩ noFill_list_add seq_list_add PySem.F.slot_list_add PySem.F.entry_list_add (PySem.F.args_list_add_2 _ _)
    (list_addW a b vs.toArray ws.toArray n n2 dd dd2 sl sl2 (by rw[Qp,Qp];exact hsz)) ⟨ho,ho2,?_⟩
 rw[e];refine⟨.ref s.heap.objs.size,_,I.lnew (t':=s.toks) (r1.append r2) (by rw[Ql];exact hz),rfl,q2 _ I.fresh⟩
end
end L2.Mir
namespace L2.Mir
open PySem PySem.Spec PyProof.Rows PySem.Builtin
open AutoSeq1 (wpAny_loadPart')
theorem WK:fillsNumberSlot (.type "tuple") "mul"=pure false:=
 PySem.fillsNumberSlot_seq (id:="tuple.__mul__") (r:=some (.builtin "tuple.__rmul__")) Vd.lookup (by rfl') F.slot_tuple_rmul.lookup (by rfl')
theorem WL:seqRepeat? (.type "tuple")=pure (some (.builtin "tuple.__mul__")):=by
 unfold seqRepeat?;rw[PySem.seqSlot_of (T:="tuple") (name:="__mul__") (id:="tuple.__mul__") Vd.lookup (by rfl'),PySem.seqSlot_of (T:="tuple") (name:="__rmul__") (id:="tuple.__rmul__") F.slot_tuple_rmul.lookup (by rfl')]
 rfl
theorem WM(a:Int)(t:Tok)(l:Addr)(items:Array Value)(n:Nat)(dd:Option Addr)(sl:Array (Option Value)):
  Meets (Builtin.«int.__rmul__» ⟨[.int a t,.ref l],[]⟩) (fun _ R s=>s.heap.get? l=some {cls:=.type "tuple",dict:=dd,data:=.seq items n,slots:=sl}/\R (.ok (.ret Value.notImplemented)) s):=
 .of_wp fun prog w A R s h=>by obtain⟨hp,g,d,tk,os⟩:=s;obtain⟨hl,h⟩:=h;wp_walk;exact⟨_,rfl,h⟩
theorem WN(l:Addr)(items:Array Value)(n:Nat)(dd:Option Addr)(sl:Array (Option Value))(x:Int)(u:Tok)(hx:x=1):
  Meets (Builtin.«tuple.__mul__» ⟨[.ref l,.int x u],[]⟩) (fun _ R s=>s.heap.get? l=some {cls:=.type "tuple",dict:=dd,data:=.seq items n,slots:=sl}/\R (.ok (.ret (.ref l))) s):=
 .of_wp fun prog w A R s h=>by
  obtain⟨hp,g,d,tk,os⟩:=s;obtain⟨hl,h⟩:=h;subst hx;have f1:=AutoSeq1.idx_int
  wp_walk using Jv hl
  exact⟨_,rfl,h⟩
theorem WO(l:Addr)(its:List Value)(n:Nat)(dd:Option Addr)(sl:Array (Option Value))(x:Int)(u:Tok)(hi:its≠[])(h1:2≤x)(h2:x<2^63)(hz:its.length * x.toNat≤sizeLine):
  Meets (Builtin.«tuple.__mul__» ⟨[.ref l,.int x u],[]⟩) (fun _ R s=>s.heap.get? l=some {cls:=.type "tuple",dict:=dd,data:=.seq its.toArray n,slots:=sl}/\R (.ok (.ret (.ref s.heap.objs.size))) {s with heap:=s.heap.push {cls:=Value.type "tuple",data:=Data.seq (List.replicate x.toNat its).flatten.toArray}}):=
 .of_wp fun prog w A R s h=>by
  obtain⟨hp,g,d,tk,os⟩:=s;obtain⟨hl,h⟩:=h;have f1:=AutoSeq1.idx_int;have hi':its.toArray.isEmpty=false:=by simpa using hi
  have hb:¬ ((decide (x< -(2^63))||decide (x ≥ 2^63))=true):=by simp;omega
  have hc:¬ ((its.toArray.isEmpty||x==1)=true):=by rw[hi'];simp;omega
  have hd:¬ ((decide (x≤0)||its.toArray.isEmpty)=true):=by rw[hi'];simp;omega
  have e1:(its.toArray.size:Int) * x=((its.length * x.toNat:Nat):Int):=by rw[Qp,Int.natCast_mul,Int.toNat_of_nonneg (by omega)]
  have he:¬ ((its.toArray.size:Int) * x>(2^63-1)/8):=by
   have e2:(sizeLine:Nat)≤(2^63-1)/8:=by decide
   rw[e1];omega
  have hf:¬ (Tuple.tupleTooMany ((its.toArray.size:Int) * x)=true):=by
   rw[e1];intro z;have z':=Xr z
   omega
  have hnew:List.foldl (fun x1 x2=>x1++x2) #[] (List.replicate x.toNat its.toArray)=(List.replicate x.toNat its).flatten.toArray:=by
   have:=Lr its x.toNat [];rw[Xz]at this;exact this
  have hsz:sizeOk (.seq (List.replicate x.toNat its).flatten.toArray):=by
   show(List.replicate x.toNat its).flatten.toArray.size≤sizeLine;rw[Qp,Lu,Nat.mul_comm];exact hz
  wp_walk using Jv hl
  refine Uu (Zx hb) ?_
  wp_walk using Jv hl
  refine Uu (Zx hc) ?_
  wp_walk using Jv hl
  refine Uu (Zx hd) ?_
  wp_walk using Jv hl
  refine Uu (Zx he) ?_
  wp_walk using Jv hl
  refine Uu (Zx hf) ?_
  rw[hnew]
  wp_walk using Jv hl
  refine Uu (Zx (Nat.not_lt.mpr hsz)) ?_
  wp_walk using Jv hl
  exact⟨_,rfl,h⟩
section
variable{X:Cx}{B:OA}
def Fi(K:Qq):R2:=fun x y H Q=>∃a k xs,x=.ref a/\y=.int k/\lY K H a xs/\xs≠[]/\1≤k/\k<2^63/\xs.length * k.toNat≤sizeLine/\
 (k=1->Q (.ref a) H)/\∀p,H p=none->Q (.ref p) (upd H p (.tup (List.replicate k.toNat xs).flatten))
theorem WQ:kQ X (binaryOp .Mult) (Fi X.K):=by
 intro pins s σ H x y v u Q I rx ry h;obtain⟨a,k,xs,rfl,rfl,ha,hne,h1,h2,hz,q1,q2⟩:=h;cases rx;obtain⟨t,rfl⟩:=ry;obtain⟨its,r,⟨⟨cls,dd,data,sl⟩,ho,hc,n,hd⟩,hzz⟩:=I.tuple ha;simp only at hc hd;subst hc hd;refine wpAny_binaryOp_repeat_ref (T:="tuple") (U:="int") (by decide) ⟨_,ho,rfl⟩ (fun s'=>typeIs_int s' k t) WK F.fills_int_mul F.slot_int_rmul WL F.slot_int_index.lookup
  (Xa F.slot_int_rmul (typeIs_int s k t) F.entry_int_rmul (F.args_int_rmul_2 _ _) (WM k t a its.toArray n dd sl)
   ⟨ho,rfl,⟨_,ho,rfl⟩,?_⟩)
 by_cases hk:k=1
 ·exact Xa Vd ⟨_,ho,rfl⟩ F.entry_tuple_mul (F.args_tuple_mul_2 _ _) (WN a its.toArray n dd sl k t hk) ⟨ho,⟨.ref a,H,I,rfl,q1 hk⟩⟩
 ·refine Xa Vd ⟨_,ho,rfl⟩ F.entry_tuple_mul (F.args_tuple_mul_2 _ _) (WO a its n dd sl k t (fun z=>hne (r.nil_iff.mp z)) (by omega) h2 (by rw[←r.length];exact hz)) ⟨ho,?_⟩
  refine⟨.ref s.heap.objs.size,_,I.laid (t':=s.toks) (o:=.tup (List.replicate k.toNat xs).flatten) (fun b ob q=>Qx _ q) (Qm _) ?_,rfl,q2 _ (I.hok.fresh (Qm _))⟩
  exact⟨by rw[Lu,Nat.mul_comm];exact hz,_,r.rep k.toNat,V8.new _ _⟩
end
section
variable{X:Cx}{B:OA}{pos:Pos}{a b:Expr}{ma mb:Mo D}
def Hy:D->D->Option D
 |.tup xs,.tup ys=>if xs.length+ys.length≤10000 then some (.tup (xs++ys))else none
 |_,_=>none
theorem Hz{n:Nat}(h:n≤10000):n≤sizeLine:=Zs h (by decide)
theorem WR:lN X B (nN X.K) Hy:=by
 intro G σ env H x y a b d Q rl ra rb e k;cases a<;>cases b<;>first|(exact absurd (show(none:Option D)=some d from e) (by simp))|skip
 rename_i ds es;simp only[Hy]at e;split at e
 ·rename_i hl
  cases e;have ra0:=ra;have rb0:=rb;simp only[b0]at ra rb;obtain⟨p,xs,rfl,q1,r1⟩:=ra;obtain⟨p',ys,rfl,q2,r2⟩:=rb;refine⟨p,p',xs,ys,rfl,rfl,rl.sub.sqT q1,rl.sub.sqT q2,by rw[r1.length,r2.length];exact Hz hl,fun z=>?_,fun z=>?_,fun l hp=>?_⟩
  ·subst z
   have:ds=[]:=List.length_eq_zero_iff.mp r1.length.symm;subst this;exact k _ G H (.refl rl) rb0
  ·subst z
   have:es=[]:=List.length_eq_zero_iff.mp r2.length.symm;subst this;exact k _ G H (.refl rl) (by rw[Yg];exact ra0)
  ·exact k _ _ _ (rl.alloc hp) (Bo F9 (C3.mono (Le.upd (rl.gnone hp)) _ (r1.append r2)))
 ·cases e
def IA:D->D->Option D
 |.tup [d],.int k=>if 1≤k/\k≤1000 then some (.tup (List.replicate k.toNat d))else none
 |_,_=>none
theorem WS{α:Type}(x:α)(n:Nat):(List.replicate n [x]).flatten=List.replicate n x:=by
 induction n with
 |zero=>rfl
 |succ n ih=>rw[Zi,Ul,ih,Zi];rfl
theorem MR{K:Qq}{G:Hp}{x:V}{d:D}(h:b0 K G x d):∀n,C3 K G (List.replicate n x) (List.replicate n d)
 |0=>f7
 |n+1=>by rw[Zi,Zi];exact d9 h (MR h n)
theorem WT:lN X B (Fi X.K) IA:=by
 intro G σ env H x y a b d Q rl ra rb e k;unfold IA at e;split at e
 ·rename_i d0 n
  split at e
  ·rename_i hn
   cases e;have ra0:=ra;simp only[b0]at ra rb;obtain⟨p,xs,rfl,q1,r1⟩:=ra;subst rb;obtain⟨v,rfl,rv⟩:=U8 r1;refine⟨p,n,[v],rfl,rfl,rl.sub.sqT q1,by simp,by omega,by omega,?_,fun z=>?_,fun l hp=>?_⟩
   ·exact Hz (by simp;omega)
   ·subst z
    exact k _ G H (.refl rl) ra0
   ·rw[WS]
    exact k _ _ _ (rl.alloc hp) (Bo F9 (C3.mono (Le.upd (rl.gnone hp)) _ (MR rv _)))
  ·cases e
 ·cases e
def D7:=sA Ly Hy
def M5:=sA He IA
theorem N9:kQ X (binaryOp .Add) (fun x y H Q=>n9 (fun i j=>.int (i+j)) x y H Q\/nN X.K x y H Q):=kQ.or TH pM
theorem O0:lN X B (fun x y H Q=>n9 (fun i j=>.int (i+j)) x y H Q\/nN X.K x y H Q) D7:=UU.or WR
theorem IB:kQ X (binaryOp .Mult) (fun x y H Q=>rI Bl (fun i j=>.int (i * j)) x y H Q\/Fi X.K x y H Q):=kQ.or TK WQ
theorem IC:lN X B (fun x y H Q=>rI Bl (fun i j=>.int (i * j)) x y H Q\/Fi X.K x y H Q) M5:=UW.or WT
def Q5(ma mb:Mo D):Mo (List D):=fun env=>(ma env).bind fun p=>(mb p.2).bind fun q=>match p.1,q.1 with
 |.lst xs,.lst ys=>if xs.length+ys.length≤10000 then some (xs++ys,q.2)else none
 |_,_=>none
theorem AS(ha:ED X B a ma)(hb:ED X B b mb):EL X B (.BinOp a .Add b pos) (Q5 ma mb):=by
 refine d6 (LP pN ha hb) ?_
 rintro σ H Q ⟨G,env,ds,env',rl,e,k⟩;obtain⟨⟨d1,a8⟩,e1,e2⟩:=C7 e;obtain⟨⟨d2,f9⟩,e3,e4⟩:=C7 e2;dsimp only at e4 e3;refine .bind rl e1 fun v1 G1 H1 j5 r1=>.bind j5.rel e3 fun v2 G2 H2 d7 r2=>?_
 split at e4
 ·rename_i xs ys
  split at e4
  ·rename_i hl
   cases e4;have r1':=b0.mono d7.same _ r1;simp only[b0]at r1' r2;obtain⟨p,us,rfl,q1,t1⟩:=r1';obtain⟨p',ws,rfl,q2,t2⟩:=r2;exact⟨p,p',us,ws,rfl,rfl,d7.rel.sub.sqL q1,d7.rel.sub.sqL q2,by rw[t1.length,t2.length];exact Hz hl,fun l hp=>FW (j5.trans d7) hp (t1.append t2) k⟩
  ·cases e4
 ·cases e4
end
end L2.Mir
namespace HT
open PySem PySem.Spec PyProof.Rows
section
variable{prog:Program}{w:World}{A:Around}{E:OE}{s:Shared}
theorem lW{t sl:Addr}{items:Array Value}{vl vu:Value}{lo hi:Option Int}{Q:OE}(ht:IsTup s.heap t items)(hs:s.heap.IsSliceOf sl vl vu .none)(pl:IsPart vl lo)(pu:IsPart vu hi)
  (hw:j8 items.size 0 lo=0/\j8 items.size items.size hi=items.size)
  (h:Q (.ref t) s):wpAny (model prog w) A (getItem (.ref t) (.ref sl)) Q E s:=by
 obtain⟨os,hos,hcs,hds⟩:=id hs;have hTs:s.TypeIs (.ref sl) "slice":=⟨os,hos,hcs⟩;unfold getItem
 try with_reducible refine Jy ?_
 first|refine Qz (Qv ?_)|skip
 refine Qz (wpAny_sequenceKey ht.typeIs (by decide) ?_)
 refine Qz (Yw (name:=Str.ofString "__getitem__") ht.typeIs Zw
  (Jh Zw ht.typeIs entry_tuple_getitem ?_ (args_tuple_getitem _ _)))
 show wpAny _ _ (Builtin.Tuple.tupleItemsOf (.ref t)>>=_) _ _ s;refine Qz (tupleItemsOf_ ht ?_);refine Qz (wpAny_typeOf hTs ?_);rw[Qc (by decide)]
 refine Qz (k8 hs pl pu ?_);have hno:((((j8 items.size 0 lo:Nat):Int)==0&&(1:Int)==1&&(j8 items.size items.size hi-j8 items.size 0 lo)==items.size)=true):=by
  rw[hw.1,hw.2];simp
 show wpAny _ _ (if(((j8 items.size 0 lo:Nat):Int)==0&&(1:Int)==1&&(j8 items.size items.size hi-j8 items.size 0 lo)==items.size)=true then _ else _) _ _ s
 rw[Qc hno];refine Qz (Qz (m:=typeOf (.ref t)) (wpAny_typeOf ht.typeIs (Qv ?_)));rw[Qc (by decide)]
 refine Qz (Ja ?_)
 first
  |exact Qv ⟨_,rfl,Qv h⟩
  |exact Qz (Qv ⟨_,rfl,Qv h⟩)
  |exact Qz (Qz (Qv ⟨_,rfl,Qv h⟩))
theorem mW{sl:Addr}{t:Tok}{n:Nat}{Q:Int×Int×Nat->Shared->Prop}(hs:s.heap.IsSliceOf sl .none .none (.int (-1) t))
  (h:Q ((n:Int)-1,-1,n) s):wpAny (model prog w) A (Builtin.Slice.sliceApplied (.ref sl) (pure (n:Int))) Q E s:=by
 obtain⟨os,hos,hcs,hds⟩:=id hs;unfold Builtin.Slice.sliceApplied Builtin.Slice.sliceFields;refine Qz (Qz (Zr hos hds (x:=.none) rfl (Qz (Zr hos hds (x:=.none) rfl (Qz (Zr hos hds (x:=.int (-1) t) rfl (Qv ?_)))))));refine Qz (slicePart_int ?_);show wpAny _ _ (if((-1:Int)==0)=true then _ else _) _ _ s
 rw[Qt (by decide)]
 refine Qz (slicePart_none (Qz (slicePart_none (Qz (Qv ?_)))));have e:Builtin.Slice.slicePlaces ((n:Int)-1) (-1) (-1)=n:=by
  unfold Builtin.Slice.slicePlaces;have h1:¬ ((-1:Int)>0):=by omega
  simp only[h1,Yu];split
  ·rw[show(- -1:Int)=1 by decide,Int.ediv_one];omega
  ·omega
 show wpAny _ _ (pure ((n:Int)-1,(-1:Int),Builtin.Slice.slicePlaces ((n:Int)-1) (-1) (-1))) _ _ s;rw[e];exact Qv h
theorem k9{α β:Type}{f g:α->Option β}:∀{l:List α},(∀x∈l,f x=g x)->l.filterMap f=l.filterMap g
 |[],_=>rfl
 |a::l,h=>by
  rw[Jb,Jb,h a (by simp),k9 (l:=l) fun x hx=>h x (by simp[hx])]
theorem pO(xs:Array Value):((List.range xs.size).filterMap fun(m:Nat)=>xs[(((xs.size:Int)-1)+(m:Int) * (-1)).toNat]?).toArray=xs.toList.reverse.toArray:=by
 have h:=PySem.W.krv_all xs
 have h2:=Za List.reverse h
 rw[←List.filterMap_reverse,←PySem.W.krv_range,List.filterMap_map]at h2;rw[←h2]
 congr 1
 apply k9
 intro m hm;have:=Jf.mp hm;show xs[_]? =xs[xs.size-1-m]?
 congr 1
 omega
theorem mO{t sl:Addr}{items:Array Value}{tk:Tok}{Q:OE}(ht:IsTup s.heap t items)(hs:s.heap.IsSliceOf sl .none .none (.int (-1) tk))
  (h:Q (.ref s.heap.objs.size) {s with heap:=s.heap.push {cls:=.type "tuple",data:=.seq items.toList.reverse.toArray}})
  (hsz:items.size≤sizeLine):wpAny (model prog w) A (getItem (.ref t) (.ref sl)) Q E s:=by
 have htake:sizeOk (.seq items.toList.reverse.toArray):=by
  show items.toList.reverse.toArray.size≤sizeLine
  simpa using hsz
 obtain⟨os,hos,hcs,hds⟩:=id hs;have hTs:s.TypeIs (.ref sl) "slice":=⟨os,hos,hcs⟩;unfold getItem
 try with_reducible refine Jy ?_
 first|refine Qz (Qv ?_)|skip
 refine Qz (wpAny_sequenceKey ht.typeIs (by decide) ?_)
 refine Qz (Yw (name:=Str.ofString "__getitem__") ht.typeIs Zw
  (Jh Zw ht.typeIs entry_tuple_getitem ?_ (args_tuple_getitem _ _)))
 show wpAny _ _ (Builtin.Tuple.tupleItemsOf (.ref t)>>=_) _ _ s;refine Qz (tupleItemsOf_ ht ?_);refine Qz (wpAny_typeOf hTs ?_);rw[Qc (by decide)]
 refine Qz (mW hs ?_);have hno:¬ ((((items.size:Int)-1)==0&&(-1:Int)==1&&items.size==items.size)=true):=by
  rw[show((-1:Int)==1)=false by decide];simp
 show wpAny _ _ (if(((items.size:Int)-1)==0&&(-1:Int)==1&&items.size==items.size)=true then _ else _) _ _ s
 rw[Qt hno,pO]
 first
  |exact Qz (m:=Builtin.Tuple.tupleExact _) (Zc (Qv ⟨_,rfl,Qv h⟩) htake)
  |exact Qz (m:=Builtin.Tuple.tupleExact _) (Zc (Qz (Qv (Qv ⟨_,rfl,Qv h⟩))) htake)
  |exact Qz (Qz (m:=Builtin.Tuple.tupleExact _) (Zc (Qv (Qv ⟨_,rfl,Qv h⟩)) htake))
  |exact Qz (Qz (m:=Builtin.Tuple.tupleExact _) (Zc (Qv ⟨_,rfl,Qv h⟩) htake))
end
end HT
namespace L2.Mir
open PySem PySem.Spec PyProof.Rows
section
variable{X:Cx}{B:OA}{e lo hi st:Expr}{ma ml mh:Mo D}{pos p2:Pos}
def WU(K:Qq):V->Option Int->Option Int->Hp->VK->Prop:=fun x lo hi H Q=>∃a xs,x=.ref a/\lY K H a xs/\
 ((HT.j8 xs.length 0 lo=0/\HT.j8 xs.length xs.length hi=xs.length)->Q (.ref a) H)/\∀p,H p=none->Q (.ref p) (upd H p (.tup (Bm xs lo hi)))
theorem WV:tU X (WU X.K):=by
 intro pins s σ H x v vl vu lo hi sl Q I rx hs pl pu h;obtain⟨a,xs,rfl,hx,qw,q⟩:=h
 by_cases hw:HT.j8 xs.length 0 lo=0/\HT.j8 xs.length xs.length hi=xs.length
 ·cases rx
  obtain⟨its,r,ht,hz⟩:=I.tuple hx;have hlen:its.toArray.size=xs.length:=by rw[Qp];exact r.length.symm
  refine⟨"tuple",_,Zw.lookup,ht.typeIs,?_⟩;exact HT.lW ht hs pl pu (by rw[hlen];exact hw) ⟨.ref a,H,I,rfl,qw hw⟩
 ·exact Li pins s σ H (.ref a) v vl vu lo hi sl Q I rx hs pl pu ⟨a,xs,rfl,hx,hw,q⟩
def J8(xs:List D)(lo hi:Option Int):List D:=(xs.drop (HT.j8 xs.length 0 lo)).take (HT.j8 xs.length xs.length hi-HT.j8 xs.length 0 lo)
def J3:Mo (Option Int):=fun env=>some (none,env)
def J2(m:Mo D):Mo (Option Int):=fun env=>(m env).bind fun p=>match p.1 with
 |.int i=>some (some i,p.2)
 |_=>none
def wB(K:Qq)(B:OA)(m:Mo (Option Int)):TO:=fun σ H Q=>∃G env o env',Rel K B G σ env H/\m env=some (o,env')/\∀G' H',Ev K B G σ env H G' σ env' H'->Q o H'
abbrev EO(X:Cx)(B:OA)(e:Option Expr)(m:Mo (Option Int)):Prop:=PO X e (wB X.K B m)
theorem MS{X:Cx}{e:Option Expr}{t t':TO}(h:PO X e t)(i:∀σ H Q,t' σ H Q->t σ H Q):PO X e t':=fun pins s σ H Q I q=>h pins s σ H Q I (i σ H Q q)
theorem O8:EO X B none J3:=by
 refine MS Tp ?_
 rintro σ H Q ⟨G,env,o,env',rl,e,k⟩;cases e;exact k G H (.refl rl)
theorem O9(h:ED X B e ma):EO X B (some e) (J2 ma):=by
 refine MS (Tr h) ?_
 rintro σ H Q ⟨G,env,o,env',rl,e,k⟩;obtain⟨⟨d,a8⟩,e1,e2⟩:=C7 e;dsimp only at e2;split at e2
 ·rename_i i
  cases e2;refine .bind rl e1 fun v G1 H1 ev r=>?_
  simp only[b0]at r;exact⟨i,r,k G1 H1 ev⟩
 ·cases e2
def kZ(m:Mo D)(ml mh:Mo (Option Int)):Mo D:=fun env=>(m env).bind fun p=>(ml p.2).bind fun q=>(mh q.2).bind fun r=>match p.1 with
 |.tup ds=>some (.tup (J8 ds q.1 r.1),r.2)
 |_=>none
theorem C3.cut{K:Qq}{G:Hp}{xs:List V}{ds:List D}(r:C3 K G xs ds)(lo hi:Option Int):C3 K G (Bm xs lo hi) (J8 ds lo hi):=by
 unfold Bm J8;rw[r.length];exact(r.drop _).take _
theorem WW{ds:List D}{lo hi:Option Int}(h:HT.j8 ds.length 0 lo=0/\HT.j8 ds.length ds.length hi=ds.length):J8 ds lo hi=ds:=by
 unfold J8;rw[h.1,h.2];simp
theorem P0{lo hi:Option Expr}{ml mh:Mo (Option Int)}(he:ED X B e ma)(hl:EO X B lo ml)(hh:EO X B hi mh):ED X B (.Subscript e (.Slice lo hi none p2) pos) (kZ ma ml mh):=by
 refine d6 (Ts WV he hl hh) ?_
 rintro σ H Q ⟨G,env,d,env',rl,e,k⟩;obtain⟨⟨d1,a8⟩,e1,e2⟩:=C7 e;obtain⟨⟨l,f9⟩,e3,e4⟩:=C7 e2;obtain⟨⟨u,mL⟩,e5,e6⟩:=C7 e4;dsimp only at e3 e5 e6;split at e6
 ·rename_i ds
  cases e6;refine .bind rl e1 fun v G1 H1 j5 r1=>⟨G1,a8,l,f9,j5.rel,e3,fun G2 H2 d7=>⟨G2,f9,u,_,d7.rel,e5,fun G3 H3 mR=>?_⟩⟩
  have r3:=b0.mono (d7.same.trans mR.same) _ r1
  have r30:=r3
  simp only[b0]at r3;obtain⟨p,xs,rfl,q,t⟩:=r3;refine⟨p,xs,rfl,mR.rel.sub.sqT q,fun hw=>?_,fun l' hp=>?_⟩
  ·rw[t.length]at hw
   exact k _ G3 H3 ((j5.trans d7).trans mR) (by rw[WW hw];exact r30)
  ·exact k _ _ _ (((j5.trans d7).trans mR).trans (mR.rel.alloc hp)) (Bo F9 (C3.mono (Le.upd (mR.rel.gnone hp)) _ (t.cut l u)))
 ·cases e6
theorem WX{te:TE}(he:PE X e te)(hst:PE X st (tC (.int (-1)))):PE X (.Subscript e (.Slice none none (some st) p2) pos) (fun σ H Q=>te σ H fun x H1=>∃a xs,x=.ref a/\lY X.K H1 a xs/\∀p,H1 p=none->Q (.ref p) (upd H1 p (.tup xs.reverse))):=by
 intro pins s σ H Q I h;refine Subscript_ (i4 (he pins s σ H _ I h) fun v s1 ⟨x,H1,I1,r1,q1⟩=>?_)
 refine wpAny_Slice ?_
 rw[evalPart_none];refine Qv (Qv ?_);rw[evalPart_some];refine i4 (hst pins s1 σ H1 (fun x H2=>x=.int (-1)/\H2=H1) I1 ⟨rfl,rfl⟩) fun vst s3 ⟨y,H3,I3,r3,q3⟩=>?_
 obtain⟨rfl,rfl⟩:=q3;obtain⟨tk,rfl⟩:=r3;obtain⟨a,xs,rfl,hx,q⟩:=q1;cases r1;have I4:Inv X pins σ H3 {s3 with heap:=s3.heap.push {cls:=.type "slice",data:=.fields #[.none,.none,.int (-1) tk]}}:=I3.kept (t':=s3.toks) fun b ob q=>Qx _ q
 obtain⟨its,r,ht,hz⟩:=I4.tuple hx;have hlen:its.toArray.size=xs.length:=by rw[Qp];exact r.length.symm
 show wpAny (model X.prog X.w) X.A (subscriptTail e (.Slice none none (some st) p2) (.ref a) (.ref s3.heap.objs.size)) (EP X pins σ Q) X.xe {s3 with heap:=s3.heap.push {cls:=.type "slice",data:=.fields #[.none,.none,.int (-1) tk]}}
 refine tail_any (ops:=[.ref a,.ref s3.heap.objs.size]) ht.typeIs Zw.lookup ?_ (by with_unfolding_all rfl)
 refine HT.mO (tk:=tk) ht (Heap.IsSliceOf.new ..) ?_ (by rw[hlen];exact hz)
 refine⟨.ref _,_,I4.laid (t':=s3.toks) (o:=.tup xs.reverse) (fun b ob q=>Qx _ q) (Qm _) ?_,rfl,q _ (I4.hok.fresh (Qm _))⟩
 exact⟨by rw[Xw];exact hz,_,r.reverse,V8.new _ _⟩
def Cp(m:Mo D):Mo D:=fun env=>(m env).bind fun p=>match p.1 with
 |.tup ds=>some (.tup ds.reverse,p.2)
 |_=>none
theorem MT(he:ED X B e ma)(hst:PE X st (tC (.int (-1)))):ED X B (.Subscript e (.Slice none none (some st) p2) pos) (Cp ma):=by
 refine d6 (WX he hst) ?_
 rintro σ H Q ⟨G,env,d,env',rl,e,k⟩;obtain⟨⟨d1,a8⟩,e1,e2⟩:=C7 e;dsimp only at e2;split at e2
 ·rename_i ds
  cases e2;refine .bind rl e1 fun v G1 H1 j5 r1=>?_
  simp only[b0]at r1;obtain⟨p,xs,rfl,q,t⟩:=r1;exact⟨p,xs,rfl,j5.rel.sub.sqT q,fun l' hp=>k _ _ _ (j5.trans (j5.rel.alloc hp)) (Bo F9 (C3.mono (Le.upd (j5.rel.gnone hp)) _ t.reverse))⟩
 ·cases e2
theorem MU{j:Nat}{p:Pos}:PE X (.UnaryOp .USub (.Constant (.int 1) j p) pos) (tC (.int (-1))):=d6 (LQ LS LD) fun σ H Q q=>⟨1,rfl,q⟩
end
section
variable{X:Cx}{pins:OX}{σ:St}{H:Hp}{s:Shared}{h':Heap}
theorem MV{t':Nat}{ch:List Addr}(I:Inv X pins σ H s)(k:∀b o,b∉ch->s.heap.get? b=some o->h'.get? b=some o)(hf:∀b∈ch,T1 X pins H b):Inv X pins σ H {s with heap:=h',toks:=t'}:=by
 have nit:∀b u,H b=some u->b∉ch:=fun b u e z=>by rw[(hf b z).1]at e;cases e
 refine I.step (g':=s.gens) (d':=s.drawn) (ch:=ch) (fun b hb=>⟨(hf b hb).2.2.2.1,(hf b hb).2.1,(hf b hb).2.2.2.2.1,(hf b hb).2.2.2.2.2⟩) (fun b o _ _ hc e _=>k b o hc e) (fun b o _ _ hc e _=>⟨o.slots,k b o hc e⟩) (fun _ _ _ _ n=>n)
  (fun b o hc e=>⟨o,k b o hc e⟩) (fun _ _ e=>e) (fun _ _ _ e=>e) (fun b ps e=>⟨#[],by rw[e];simp⟩) (fun m hm=>?_) (fun b u e=>?_) I.bare
 ·obtain⟨o,es,ep,ho,r⟩:=hm
  exact⟨o,es,ep,k _ o (fun z=>(hf _ z).2.1 rfl) ho,r⟩
 ·refine(I.hok b u e).stay (fun c v hc q=>k c v ?_ q) (fun _ q=>q) fun _ _ q=>q
  rcases hc with z|z
  ·rw[z];exact nit b u e
  ·exact nit c _ z
theorem WY{t':Nat}{ch:List Addr}{p:Addr}{o:HO}(I:Inv X pins σ H s)(k:∀b o,b∉ch->s.heap.get? b=some o->h'.get? b=some o)(hf:∀b∈ch,T1 X pins H b)
  (hp:s.heap.objs.size≤p)(new:J9 X.prog X.w (upd H p o) h' p o):Inv X pins σ (upd H p o) {s with heap:=h',toks:=t'}:=by
 have nit:∀b u,H b=some u->b∉ch:=fun b u e z=>by rw[(hf b z).1]at e;cases e
 have hn:H p=none:=I.hok.fresh hp
 have np:∀b u,s.heap.get? b=some u->b≠p:=fun b u q=>Qs (Qd (Qu q) hp)
 refine I.step (g':=s.gens) (d':=s.drawn) (ch:=ch) (fun b hb=>⟨(hf b hb).2.2.2.1,(hf b hb).2.1,(hf b hb).2.2.2.2.1,(hf b hb).2.2.2.2.2⟩) (fun b o _ _ hc e _=>k b o hc e) (fun b o _ _ hc e _=>⟨o.slots,k b o hc e⟩) (fun b o _ e n=>by rw[D6 (np b o e)];exact n)
  (fun b o hc e=>⟨o,k b o hc e⟩) (fun b xs q=>by rw[D6 (Q2 q hn)];exact q) (fun b u xs q=>by rw[D6 (Q2 q hn)];exact q) (fun b ps e=>⟨#[],by rw[D6 (Q2 e hn),e];simp⟩) (fun m hm=>?_) (fun b u e=>?_) I.bare
 ·obtain⟨o,es,ep,ho,r⟩:=hm
  exact⟨o,es,ep,k _ o (fun z=>(hf _ z).2.1 rfl) ho,r⟩
 ·by_cases hb:b=p
  ·subst hb;rw[F9]at e;cases e;exact new
  ·rw[D6 hb]at e
   refine(I.hok b u e).stay (fun c v hc q=>k c v ?_ q) (fun c q=>by rw[D6 (Q2 q hn)];exact q) fun c xs q=>by rw[D6 (Q2 q hn)];exact q
   rcases hc with z|z
   ·rw[z];exact nit b u e
   ·exact nit c _ z
end
def m7(k:Bool)(h:Heap)(l:Addr)(xs:Array Value):Prop:=if k then h.IsTuple l xs else h.IsList l xs
def mP(k:Bool)(h:Heap)(i l:Addr)(n:Nat):Prop:=if k then h.IsTupleIter i l n else h.IsListIter i l n
section
variable{k:Bool}{h h':Heap}{i l b:Addr}{n:Nat}{xs:Array Value}
theorem m7.at'(x:m7 k h l xs)(e:∀o,h.get? l=some o->h'.get? l=some o):m7 k h' l xs:=by
 cases k
 ·exact Heap.IsList.at (show h.IsList l xs from x) e
 ·obtain⟨o,ho,r⟩:=(show h.IsTuple l xs from x)
  exact(⟨o,e _ ho,r⟩:h'.IsTuple l xs)
theorem mP.at'(x:mP k h i l n)(e:∀o,h.get? i=some o->h'.get? i=some o):mP k h' i l n:=by
 cases k
 ·exact Heap.IsListIter.at (show h.IsListIter i l n from x) e
 ·exact Heap.IsTupleIter.at (show h.IsTupleIter i l n from x) e
theorem mP.get(x:mP k h i l n):∃o,h.get? i=some o/\∀v,o.data≠.cell v:=by
 cases k
 ·obtain⟨o,ho,_,d⟩:=(show h.IsListIter i l n from x);exact⟨o,ho,fun v z=>by rw[d]at z;cases z⟩
 ·obtain⟨o,ho,_,d⟩:=(show h.IsTupleIter i l n from x);exact⟨o,ho,fun v z=>by rw[d]at z;cases z⟩
theorem mP.but(x:mP k h i l n)(hs:Heap.ExtBut b h h')(hb:i≠b):mP k h' i l n:=x.at' fun o e=>hs i o hb e
theorem m7.but(x:m7 k h l xs)(hs:Heap.ExtBut b h h')(hb:l≠b):m7 k h' l xs:=x.at' fun o e=>hs l o hb e
end
section
variable{prog:Program}{w:World}{A:Around}{E:OE}{s:Shared}
theorem WZ{it l:Addr}{i:Nat}{items:Array Value}{x:Value}{Q:OE}(hit:s.heap.IsTupleIter it l i)(hl:s.heap.IsTuple l items)(hx:items[i]? =some x)
  (hQ:∀h',h'.IsTupleIter it l (i+1)->Heap.SameBut it s.heap h'->Q x {s with heap:=h'}):wpAny (model prog w) A (Builtin.SmallTypes.nextOf (.ref it)) Q E s:=by
 obtain⟨o,ho,hc,hd⟩:=id hit;obtain⟨ol,hol,_,nl,hdl⟩:=hl;unfold Builtin.SmallTypes.nextOf;refine Qz (Yw (name:=Str.ofString "__next__") hit.typeIs Yt (Jh Yt hit.typeIs Vh ?_ (Vg _)));show wpAny _ _ (field (.ref it) 0>>=_) _ _ s;refine Qz (Zr ho hd (x:=.ref l) rfl ?_);rw[Qt (show ¬ ((Value.ref l==Value.none)=true)from Zo)]
 refine Qz (Zr ho hd (x:=.int i 0) rfl ?_);refine Qz (Jm hol hdl ?_);simp only[Ji,hx];refine Qz (wpAny_setField ho hd (by simp) (Qv ⟨x,rfl,Qv (hQ _ ⟨_,Heap.get?_update_self _ ho (Obj.isFreed_of_fields (Obj.data_mapFields hd _)),(Obj.cls_mapFields ..).trans hc,?_⟩ (Jg ..))⟩))
 rw[Obj.data_mapFields hd];simp[rawInt]
theorem Wa{it l:Addr}{i:Nat}{items:Array Value}{Q:OE}(hh:A.handled=none)(hit:s.heap.IsTupleIter it l i)(hl:s.heap.IsTuple l items)(hx:items[i]? =none)
  (hE:∀h' e,Heap.ExtBut it s.heap h'->(∃o,h'.get? e=some o/\o.cls=.type "StopIteration")->E (.ref e) {s with heap:=h'}):wpAny (model prog w) A (Builtin.SmallTypes.nextOf (.ref it)) Q E s:=by
 obtain⟨o,ho,hc,hd⟩:=id hit;obtain⟨ol,hol,_,nl,hdl⟩:=hl;unfold Builtin.SmallTypes.nextOf;refine Qz (Yw (name:=Str.ofString "__next__") hit.typeIs Yt (Jh Yt hit.typeIs Vh ?_ (Vg _)));show wpAny _ _ (field (.ref it) 0>>=_) _ _ s;refine Qz (Zr ho hd (x:=.ref l) rfl ?_);rw[Qt (show ¬ ((Value.ref l==Value.none)=true)from Zo)]
 refine Qz (Zr ho hd (x:=.int i 0) rfl ?_);refine Qz (Jm hol hdl ?_);simp only[Ji,hx];refine Qz (Ja (Qz (wpAny_setField ho hd (by simp) ?_)))
 refine Qz ?_
 simp only[newExc,newTuple];refine Qz (Zc ?_ (by size_fits))
 refine Qz (m:=firstArgMember _ _) (wpAny_of_eq (a:=Value.none) (by first|rfl|(simp only[firstArgMember];rfl)) ?_)
 refine Zc ?_ (by size_fits)
 simp only[raiseNew];refine Qz (wpAny_handled ?_)
 first|rw[show A.in1.handled=none from hh]|rw[hh]
 refine Qz (Qv (wpAny_throw ?_));exact hE _ _ (((Jg ..).extBut.push _).push _) ⟨_,Qh _ rfl,rfl⟩
theorem ID{k:Bool}{it l:Addr}{i:Nat}{items:Array Value}{x:Value}{Q:OE}(hit:mP k s.heap it l i)(hl:m7 k s.heap l items)(hx:items[i]? =some x)
  (hQ:∀h',mP k h' it l (i+1)->Heap.SameBut it s.heap h'->Q x {s with heap:=h'}):wpAny (model prog w) A (Builtin.SmallTypes.nextOf (.ref it)) Q E s:=by
 cases k
 ·exact wpAny_nextOf_list_item hit hl hx hQ
 ·exact WZ hit hl hx hQ
theorem MW{k:Bool}{it l:Addr}{i:Nat}{items:Array Value}{Q:OE}(hh:A.handled=none)(hit:mP k s.heap it l i)(hl:m7 k s.heap l items)(hx:items[i]? =none)
  (hE:∀h' e,Heap.ExtBut it s.heap h'->(∃o,h'.get? e=some o/\o.cls=.type "StopIteration")->E (.ref e) {s with heap:=h'}):wpAny (model prog w) A (Builtin.SmallTypes.nextOf (.ref it)) Q E s:=by
 cases k
 ·exact wpAny_nextOf_list_end hh hit hl hx hE
 ·exact Wa hh hit hl hx hE
end
section
variable{prog:Program}{w:World}{A:Around}{E:OE}{s:Shared}{c1 c2:Bool}
theorem Wb{z TI TO i1 i2 l1 l2:Addr}{k1 k2:Nat}{xs ys:Array Value}{x y a b:Value}{Q:OE}(D:ZipApart z TI TO i1 i2 l1 l2)
  (hz:IsZip s.heap z TI TO .none)(hTI:IsPair s.heap TI (.ref i1) (.ref i2))(hTO:IsPair s.heap TO a b)
  (h1:mP c1 s.heap i1 l1 k1)(h2:mP c2 s.heap i2 l2 k2)(hl1:m7 c1 s.heap l1 xs)(hl2:m7 c2 s.heap l2 ys)(hx:xs[k1]? =some x)(hy:ys[k2]? =some y)
  (hQ:∀h',IsZip h' z TI TO (rawInt s.heap.objs.size)->IsPair h' TO x y->mP c1 h' i1 l1 (k1+1)->mP c2 h' i2 l2 (k2+1)->IsPair h' s.heap.objs.size x y->h'.objs.size=s.heap.objs.size+1->
   (∀c o,c≠z->c≠TO->c≠i1->c≠i2->s.heap.get? c=some o->h'.get? c=some o)->Q (.ref s.heap.objs.size) {s with heap:=h'}):
  wpAny (model prog w) A (Builtin.«zip.__next__» ⟨[.ref z],[]⟩) (fun fin s'=>∃v,fin=.done (.ret v)/\Q v s') E s:=by
 show wpAny _ _ (field (.ref z) 2>>=_) _ _ _;refine Qz (Zr hz rfl (x:=.bool false) rfl (Qz (Zr hz rfl (x:=.ref TI) rfl ?_)));refine Qz (Jm hTI rfl (Qz ?_));unfold Builtin.SmallTypes.ownedTupleIsFree;refine Qz (Zr hz rfl (x:=.none) rfl (Qv ?_));simp only[Zm];refine Qz (Ja (Qz (Zr hz rfl (x:=.ref TO) rfl ?_)));refine Qz (Jd hz (by simp) fun g1 (z1:IsZip g1 z TI TO .ellipsis) s1=>Qz ?_)
 simp only[List.zipIdx_cons,List.zipIdx_nil,Tv,Xy];refine Qz (Qz (Vl (Qz (m:=Builtin.SmallTypes.nextOf (.ref i1)) ?_)));refine ID (h1.but s1.extBut D.i1z) (hl1.but s1.extBut D.l1z) hx fun g2 a2 s2=>Qv ?_
 have p2:IsPair g2 TO a b:=s2.extBut _ _ D.TOi1 (s1.extBut _ _ D.TOz hTO)
 refine Qz (Jm p2 rfl (Qz (Xj p2 fun g3 (p3:IsPair g3 TO x b) s3=>?_)))
 refine Qz (wpAny_letGo (Qv (Qz (Qz (Vl (Qz (m:=Builtin.SmallTypes.nextOf (.ref i2)) ?_))))));refine ID (((h2.but s1.extBut D.i2z).but s2.extBut D.i12.symm).but s3.extBut D.TOi2.symm) (((hl2.but s1.extBut D.l2z).but s2.extBut D.l2i1).but s3.extBut D.l2TO) hy fun g4 a4 s4=>Qv ?_
 have p4:IsPair g4 TO x b:=s4.extBut _ _ D.TOi2 p3
 refine Qz (Jm p4 rfl (Qz (Xj p4 fun g5 (p5:IsPair g5 TO x y) s5=>?_)))
 refine Qz (wpAny_letGo (Qv (Qv (Qz (Jm p5 rfl (Qz (wpAny_newTuple ?_)))))));have hsz:g5.objs.size=s.heap.objs.size:=by rw[s5.1,s4.1,s3.1,s2.1,s1.1]
 have z5:IsZip g5 z TI TO .ellipsis:=s5.extBut _ _ D.TOz.symm (s4.extBut _ _ D.i2z.symm (s3.extBut _ _ D.TOz.symm (s2.extBut _ _ D.i1z.symm z1)))
 have k5:∀c o,c≠z->c≠TO->c≠i1->c≠i2->s.heap.get? c=some o->g5.get? c=some o:=fun c o n1 n2 n3 n4 e=>
  s5.extBut _ _ n2 (s4.extBut _ _ n4 (s3.extBut _ _ n2 (s2.extBut _ _ n3 (s1.extBut _ _ n1 e))))
 have b1:mP c1 g5 i1 l1 (k1+1):=((a2.but s3.extBut D.TOi1.symm).but s4.extBut D.i12).but s5.extBut D.TOi1.symm
 have b2:mP c2 g5 i2 l2 (k2+1):=a4.but s5.extBut D.TOi2.symm
 refine Qz (m:=Builtin.SmallTypes.ownedTupleHandOut (.ref z) (.ref g5.objs.size)) ?_
 unfold Builtin.SmallTypes.ownedTupleHandOut;have z6:IsZip (g5.push {cls:=.type "tuple",data:=.seq #[x,y]}) z TI TO .ellipsis:=Qx _ z5;refine Qz (Jd z6 (by simp) fun g7 (z7:IsZip g7 z TI TO (rawInt g5.objs.size)) s7=>?_)
 refine Jd z7 (by simp) fun g8 (z8:IsZip g8 z TI TO (rawInt g5.objs.size)) s8=>?_
 have up:∀c o,c≠z->g5.get? c=some o->g8.get? c=some o:=fun c o n1 e=>s8.extBut _ _ n1 (s7.extBut _ _ n1 (Qx _ e))
 have t8:IsPair g8 g5.objs.size x y:=s8.extBut _ _ (Xe (Qu z5)) (s7.extBut _ _ (Xe (Qu z5)) (Qh _ rfl))
 have e8:g8.objs.size=g5.objs.size+1:=by rw[s8.1,s7.1,Yk]
 rw[hsz]at z8 t8 e8;refine Qv ⟨_,rfl,?_⟩;show Q (.ref g5.objs.size) _;rw[hsz];exact hQ g8 z8 (up _ _ D.TOz p5) (b1.at' fun o e=>up _ o D.i1z e) (b2.at' fun o e=>up _ o D.i2z e) t8 e8 fun c o n1 n2 n3 n4 e=>up c o n1 (k5 c o n1 n2 n3 n4 e)
theorem Wc{z TI TO i1 i2 l1 l2:Addr}{k1 k2:Nat}{xs ys:Array Value}{a b:Value}{Q:PySem.Fin->Shared->Prop}(hh:A.handled=none)(D:ZipApart z TI TO i1 i2 l1 l2)
  (hz:IsZip s.heap z TI TO .none)(hTI:IsPair s.heap TI (.ref i1) (.ref i2))(hTO:IsPair s.heap TO a b)
  (h1:mP c1 s.heap i1 l1 k1)(h2:mP c2 s.heap i2 l2 k2)(hl1:m7 c1 s.heap l1 xs)(hl2:m7 c2 s.heap l2 ys)(hend:xs[k1]? =none\/ys[k2]? =none)
  (hE:∀h' e,(∀c o,c≠z->c≠TO->c≠i1->c≠i2->s.heap.get? c=some o->h'.get? c=some o)->(∃o,h'.get? e=some o/\o.cls=.type "StopIteration")->E (.ref e) {s with heap:=h'}):
  wpAny (model prog w) A (Builtin.«zip.__next__» ⟨[.ref z],[]⟩) Q E s:=by
 show wpAny _ _ (field (.ref z) 2>>=_) _ _ _;refine Qz (Zr hz rfl (x:=.bool false) rfl (Qz (Zr hz rfl (x:=.ref TI) rfl ?_)));refine Qz (Jm hTI rfl (Qz ?_));unfold Builtin.SmallTypes.ownedTupleIsFree;refine Qz (Zr hz rfl (x:=.none) rfl (Qv ?_));simp only[Zm];refine Qz (Ja (Qz (Zr hz rfl (x:=.ref TO) rfl ?_)));refine Qz (Jd hz (by simp) fun g1 (z1:IsZip g1 z TI TO .ellipsis) s1=>Qz ?_)
 simp only[List.zipIdx_cons,List.zipIdx_nil,Tv,Xy];refine Qz (Qz (Vl (Qz (m:=Builtin.SmallTypes.nextOf (.ref i1)) ?_)));cases hx:xs[k1]? with
 |none=>
  refine MW hh (h1.but s1.extBut D.i1z) (hl1.but s1.extBut D.l1z) hx fun g2 e s2 he=>?_
  obtain⟨oe,q1,q2⟩:=he;have z2:IsZip g2 z TI TO .ellipsis:=s2 _ _ D.i1z.symm z1;have ne:e≠z:=fun x=>by subst x;rw[z2]at q1;cases q1;simp at q2
  exact Jd z2 (by simp) fun g3 _ s3=>hE g3 e (fun c o n1 _ n3 _ x=>s3.extBut _ _ n1 (s2 _ _ n3 (s1.extBut _ _ n1 x))) ⟨oe,s3.extBut _ _ ne q1,q2⟩
 |some x=>
  have hy:ys[k2]? =none:=by
   rcases hend with h|h
   ·rw[hx]at h;cases h
   ·exact h
  refine ID (h1.but s1.extBut D.i1z) (hl1.but s1.extBut D.l1z) hx fun g2 a2 s2=>Qv ?_
  have p2:IsPair g2 TO a b:=s2.extBut _ _ D.TOi1 (s1.extBut _ _ D.TOz hTO)
  refine Qz (Jm p2 rfl (Qz (Xj p2 fun g3 p3 s3=>?_)))
  refine Qz (wpAny_letGo (Qv (Qz (Qz (Vl (Qz (m:=Builtin.SmallTypes.nextOf (.ref i2)) ?_))))));refine MW hh (((h2.but s1.extBut D.i2z).but s2.extBut D.i12.symm).but s3.extBut D.TOi2.symm) (((hl2.but s1.extBut D.l2z).but s2.extBut D.l2i1).but s3.extBut D.l2TO) hy fun g4 e s4 he=>?_
  obtain⟨oe,q1,q2⟩:=he;have z4:IsZip g4 z TI TO .ellipsis:=s4 _ _ D.i2z.symm (s3.extBut _ _ D.TOz.symm (s2.extBut _ _ D.i1z.symm z1));have ne:e≠z:=fun x=>by subst x;rw[z4]at q1;cases q1;simp at q2
  exact Jd z4 (by simp) fun g5 _ s5=>hE g5 e (fun c o n1 n2 n3 n4 x=>s5.extBut _ _ n1 (s4 _ _ n4 (s3.extBut _ _ n2 (s2.extBut _ _ n3 (s1.extBut _ _ n1 x))))) ⟨oe,s5.extBut _ _ ne q1,q2⟩
theorem Wd{z TI TO i1 i2 l1 l2:Addr}{k1 k2:Nat}{xs ys:Array Value}{x y a b:Value}{Q:Option Value->Shared->Prop}(D:ZipApart z TI TO i1 i2 l1 l2)
  (hz:IsZip s.heap z TI TO .none)(hTI:IsPair s.heap TI (.ref i1) (.ref i2))(hTO:IsPair s.heap TO a b)
  (h1:mP c1 s.heap i1 l1 k1)(h2:mP c2 s.heap i2 l2 k2)(hl1:m7 c1 s.heap l1 xs)(hl2:m7 c2 s.heap l2 ys)(hx:xs[k1]? =some x)(hy:ys[k2]? =some y)
  (hQ:∀h',IsZip h' z TI TO (rawInt s.heap.objs.size)->IsPair h' TO x y->mP c1 h' i1 l1 (k1+1)->mP c2 h' i2 l2 (k2+1)->IsPair h' s.heap.objs.size x y->h'.objs.size=s.heap.objs.size+1->
   (∀c o,c≠z->c≠TO->c≠i1->c≠i2->s.heap.get? c=some o->h'.get? c=some o)->Q (some (.ref s.heap.objs.size)) {s with heap:=h'}):
  wpAny (model prog w) A (pyNext (.ref z)) Q E s:=by
 have hT:s.TypeIs (.ref z) "zip":=⟨_,hz,rfl⟩
 unfold pyNext;exact Qz (Xn (Yw (name:=Str.ofString "__next__") hT Us (Jh Us hT PySem.F.entry_zip_next
  (Wb D hz hTI hTO h1 h2 hl1 hl2 hx hy fun h' a1 a2 a3 a4 a5 a6 a7=>Qv (hQ h' a1 a2 a3 a4 a5 a6 a7)) (PySem.F.args_zip_next_1 _))))
theorem We{z TI TO i1 i2 l1 l2:Addr}{k1 k2:Nat}{xs ys:Array Value}{a b:Value}{Q:Option Value->Shared->Prop}(hh:A.handled=none)(D:ZipApart z TI TO i1 i2 l1 l2)
  (hz:IsZip s.heap z TI TO .none)(hTI:IsPair s.heap TI (.ref i1) (.ref i2))(hTO:IsPair s.heap TO a b)
  (h1:mP c1 s.heap i1 l1 k1)(h2:mP c2 s.heap i2 l2 k2)(hl1:m7 c1 s.heap l1 xs)(hl2:m7 c2 s.heap l2 ys)(hend:xs[k1]? =none\/ys[k2]? =none)
  (hQ:∀h',(∀c o,c≠z->c≠TO->c≠i1->c≠i2->s.heap.get? c=some o->h'.get? c=some o)->Q none {s with heap:=h'}):wpAny (model prog w) A (pyNext (.ref z)) Q E s:=by
 have hT:s.TypeIs (.ref z) "zip":=⟨_,hz,rfl⟩
 unfold pyNext;refine Qz (Xn (Yw (name:=Str.ofString "__next__") hT Us (Jh Us hT PySem.F.entry_zip_next
  (Wc hh D hz hTI hTO h1 h2 hl1 hl2 hend fun h' e hk he=>?_) (PySem.F.args_zip_next_1 _))))
 obtain⟨o,ho,hc⟩:=he;exact Qz (wpAny_isInstance (T:="StopIteration") (b:=true) ⟨o,ho,hc⟩ isSubtype_stop (Qv (hQ _ hk)))
end
def MX(c:Bool):String:=if c then "tuple_iterator" else "list_iterator"
abbrev rM(c1:Bool)(h:Heap)(l1:Addr):Heap:=h.push {cls:=.type (MX c1),data:=.fields #[.ref l1,.int 0 0]}
abbrev sS(c1 c2:Bool)(h:Heap)(l1 l2:Addr):Heap:=(rM c1 h l1).push {cls:=.type (MX c2),data:=.fields #[.ref l2,.int 0 0]}
abbrev sT(c1 c2:Bool)(h:Heap)(l1 l2:Addr):Heap:=(sS c1 c2 h l1 l2).push {cls:=.type "tuple",data:=.seq #[.ref h.objs.size,.ref (rM c1 h l1).objs.size]}
abbrev sU(c1 c2:Bool)(h:Heap)(l1 l2:Addr):Heap:=(sT c1 c2 h l1 l2).push {cls:=.type "tuple",data:=.seq #[.none,.none]}
abbrev qY(c1 c2:Bool)(h:Heap)(l1 l2:Addr):Heap:=(sU c1 c2 h l1 l2).push {cls:=.type "zip",data:=.fields #[.none,.bool false,.bool false,.ref (sS c1 c2 h l1 l2).objs.size,.ref (sT c1 c2 h l1 l2).objs.size]}
section
variable{prog:Program}{w:World}{A:Around}{E:OE}{s:Shared}
theorem MY{c:Bool}{l:Addr}{items:Array Value}{Q:OE}(hl:m7 c s.heap l items)(hQ:Q (.ref s.heap.objs.size) {s with heap:=rM c s.heap l}):wpAny (model prog w) A (pyIter (.ref l)) Q E s:=by
 cases c
 ·exact Ud hl hQ
 ·exact Uw hl hQ
end
theorem Wf(c1 c2:Bool)(l1 l2:Addr)(xs ys:Array Value):
  Meets (Builtin.«zip.__new__» ⟨[.type "zip",.ref l1,.ref l2],[]⟩) (fun _ R s=>m7 c1 s.heap l1 xs/\m7 c2 s.heap l2 ys/\R (.ok (.ret (.ref (sU c1 c2 s.heap l1 l2).objs.size))) {s with heap:=qY c1 c2 s.heap l1 l2}):=
 .of_wp fun prog w A R s h=>by
  obtain⟨hp,g,d,tk,os⟩:=s;obtain⟨hl1,hl2,h⟩:=h;have hsub:=sub_zip;have hL1:m7 c1 (Shared.heap ⟨hp,g,d,tk,os⟩) l1 xs:=hl1;have hL2:m7 c2 (Shared.heap ⟨rM c1 hp l1,g,d,tk,os⟩) l2 ys:=m7.at' hl2 fun o e=>Qx _ e
  wp_walk using MY hL1,MY hL2
  exact⟨_,rfl,h⟩
section
variable{prog:Program}{w:World}{A:Around}{E:OE}{s:Shared}
theorem Wg{c1 c2:Bool}{l1 l2:Addr}{xs ys:Array Value}{Q:OE}(hl1:m7 c1 s.heap l1 xs)(hl2:m7 c2 s.heap l2 ys)
  (h:∀h',IsZip h' (s.heap.objs.size+4) (s.heap.objs.size+2) (s.heap.objs.size+3) .none->IsPair h' (s.heap.objs.size+2) (.ref s.heap.objs.size) (.ref (s.heap.objs.size+1))->
   IsPair h' (s.heap.objs.size+3) .none .none->mP c1 h' s.heap.objs.size l1 0->mP c2 h' (s.heap.objs.size+1) l2 0->h'.objs.size=s.heap.objs.size+5->
   (∀c o,s.heap.get? c=some o->h'.get? c=some o)->Q (.ref (s.heap.objs.size+4)) {s with heap:=h'}):
  wpAny (model prog w) A (call (.type "zip") [.ref l1,.ref l2]) Q E s:=by
 refine callType_new PySem.F.called_zip (by decide) (PySem.F.typeCall_zip_2 _ _) (PySem.F.newCall_zip_2 _ _) (fun obj=>PySem.F.args_object_init_3 obj _ _) PySem.F.entry_zip_new (Wf c1 c2 l1 l2 xs ys) ⟨hl1,hl2,?_⟩
 have z1:(rM c1 s.heap l1).objs.size=s.heap.objs.size+1:=Yk ..
 have z2:(sS c1 c2 s.heap l1 l2).objs.size=s.heap.objs.size+2:=by rw[Yk,z1]
 have z3:(sT c1 c2 s.heap l1 l2).objs.size=s.heap.objs.size+3:=by rw[Yk,z2]
 have z4:(sU c1 c2 s.heap l1 l2).objs.size=s.heap.objs.size+4:=by rw[Yk,z3]
 have z5:(qY c1 c2 s.heap l1 l2).objs.size=s.heap.objs.size+5:=by rw[Yk,z4]
 have g5:(qY c1 c2 s.heap l1 l2).get? (sU c1 c2 s.heap l1 l2).objs.size=some _:=Qh _ rfl
 have g4:(qY c1 c2 s.heap l1 l2).get? (sT c1 c2 s.heap l1 l2).objs.size=some _:=Qx _ (Qh _ rfl)
 have g3:(qY c1 c2 s.heap l1 l2).get? (sS c1 c2 s.heap l1 l2).objs.size=some _:=Qx _ (Qx _ (Qh _ rfl))
 have g2:(qY c1 c2 s.heap l1 l2).get? (rM c1 s.heap l1).objs.size=some _:=Qx _ (Qx _ (Qx _ (Qh _ rfl)))
 have g1:(qY c1 c2 s.heap l1 l2).get? s.heap.objs.size=some _:=Qx _ (Qx _ (Qx _ (Qx _ (Qh _ rfl))))
 show _/\_;rw[z2,z3,z4]at g5;rw[z1,z2]at g3;rw[z3]at g4;rw[z1]at g2;rw[z4];refine⟨⟨_,g5,rfl⟩,h _ g5 g3 g4 ?_ ?_ z5 fun c o x=>Qx _ (Qx _ (Qx _ (Qx _ (Qx _ x))))⟩
 ·cases c1
  ·exact(⟨_,g1,rfl,rfl⟩:Heap.IsListIter _ _ _ _)
  ·exact(⟨_,g1,rfl,rfl⟩:Heap.IsTupleIter _ _ _ _)
 ·cases c2
  ·exact(⟨_,g2,rfl,rfl⟩:Heap.IsListIter _ _ _ _)
  ·exact(⟨_,g2,rfl,rfl⟩:Heap.IsTupleIter _ _ _ _)
end
def o8(c:Bool)(K:Qq)(H:Hp)(a:Addr)(xs:List V):Prop:=if c then lY K H a xs else lX K H a xs
theorem Le.sqA{K:Qq}{G G':Hp}(l:Le G G'){c:Bool}{a:Addr}{xs:List V}(h:o8 c K G a xs):o8 c K G' a xs:=by
 cases c
 ·exact l.sqL h
 ·exact l.sqT' h
section
variable{X:Cx}{pins:OX}{σ:St}{H:Hp}{s:Shared}{c:Bool}{a b:Addr}{xs:List V}
theorem Cq(I:Inv X pins σ H s)(h:o8 c X.K H a xs):∃its:List Value,D3 xs its/\m7 c s.heap a its.toArray/\xs.length≤sizeLine:=by
 cases c
 ·obtain⟨its,r,p,z⟩:=I.list h
  exact⟨its,r,p.isList,z⟩
 ·obtain⟨its,r,p,z⟩:=I.tuple h
  exact⟨its,r,p,z⟩
theorem Fj(I:Inv X pins σ H s)(f:T1 X pins H b)(h:o8 c X.K H a xs):a≠b:=by
 have k:∀{u:HO},Rd H a u->a≠b:=fun r z=>by
  subst z
  rcases r with r|⟨_,r⟩
  ·rw[f.1]at r;cases r
  ·rw[f.1]at r;cases r
 have m:∀{o:Obj},X.K.lookup a=some o->a≠b:=fun{o} q z=>by
  subst z;have e:X.base.get? a=some o:=I.mod.kin a o q
  rcases f.2.2.2.1 with z|z
  ·exact I.ok.noex a o e z
  ·exact absurd (Qd (Qu e) (Zs I.ok.bsz z)) (Yr _)
 cases c
 ·rcases h with h|⟨o,_,_,q,_⟩
  ·exact k h
  ·exact m q
 ·rcases h with h|⟨o,_,_,q,_⟩
  ·exact k h
  ·exact m q
end
def uA(K:Qq)(c1 c2:Bool)(l1 l2:Addr)(xs ys:List V):It:=
 ⟨fun i H=>i<min xs.length ys.length/\o8 c1 K H l1 xs/\o8 c2 K H l2 ys,
  fun i H x H'=>∃p a b,H p=none/\x=.ref p/\H'=upd H p (.tup [a,b])/\xs[i]? =some a/\ys[i]? =some b,
  fun i H=>min xs.length ys.length≤i/\o8 c1 K H l1 xs/\o8 c2 K H l2 ys⟩
def Wh(c1 c2:Bool)(n:Nat)(l1 l2:Addr)(i:Nat)(h:Heap):Prop:=
 IsZip h (n+4) (n+2) (n+3) .none/\IsPair h (n+2) (.ref n) (.ref (n+1))/\(∃a b,IsPair h (n+3) a b)/\mP c1 h n l1 i/\mP c2 h (n+1) l2 i
theorem apart{n l1 l2:Addr}(h1:∀j,j<5->l1≠n+j)(h2:∀j,j<5->l2≠n+j):ZipApart (n+4) (n+2) (n+3) n (n+1) l1 l2:=by
 constructor<;>first
  |(show(_:Nat)≠_;omega)
  |exact h1 4 (by decide)
  |exact h1 3 (by decide)
  |exact h1 1 (by decide)
  |exact h1 0 (by decide)
  |exact h2 4 (by decide)
  |exact h2 3 (by decide)
  |exact h2 1 (by decide)
  |exact h2 0 (by decide)
abbrev pP(n:Nat):List Addr:=[n+4,n+2,n+3,n,n+1]
abbrev uW(n:Nat):List Addr:=[n+4,n+3,n,n+1]
theorem Fk(n:Nat):∀{j:Nat},j<5->(n+j:Nat)∈pP n
 |0,_=>by simp[pP]
 |1,_=>by simp[pP]
 |2,_=>by simp[pP]
 |3,_=>by simp[pP]
 |4,_=>by simp[pP]
 |j+5,h=>by omega
theorem MZ{n:Nat}{c:Addr}(h:c∈uW n):c∈pP n:=by
 simp only[uW,pP,Qg,Qa,Ze]at h ⊢
 rcases h with h|h|h|h<;>simp[h]
theorem Wi{n:Nat}{c:Addr}(h:c∈[n+4]):c∈pP n:=by
 simp only[Qg,Qa,Ze]at h;rw[h];simp
theorem wC{n:Nat}{c:Addr}(h:c∈pP n):n≤c:=by
 simp only[pP,Qg,Qa,Ze]at h
 rcases h with rfl|rfl|rfl|rfl|rfl
 ·exact Vr _ _
 ·exact Vr _ _
 ·exact Vr _ _
 ·exact Qm _
 ·exact Vr _ _
theorem Wj{P:Program}{w:World}{K:Qq}{elts:List Expr}{kk:Nat}{tp:Pos}(c1 c2:Bool)(n l1 l2:Addr)(xs ys:List V):
  Turn P w K (.Tuple elts kk tp) (uA K c1 c2 l1 l2 xs ys) [n+4,n+2,n+3,n,n+1] (n+4) (Wh c1 c2 n l1 l2)where
 mem:=by simp
 obj:=fun i h st b hb=>by
  obtain⟨hz,hI,⟨a,b',hO⟩,h1,h2⟩:=st;simp only[Qg,Qa,Ze]at hb
  rcases hb with rfl|rfl|rfl|rfl|rfl
  ·exact⟨_,hz,fun v z=>by cases z⟩
  ·exact⟨_,hI,fun v z=>by cases z⟩
  ·exact⟨_,hO,fun v z=>by cases z⟩
  ·exact h1.get
  ·exact h2.get
 keep:=fun i h h' st k=>by
  obtain⟨hz,hI,⟨a,b',hO⟩,h1,h2⟩:=st;exact⟨k _ (by simp) _ hz,k _ (by simp) _ hI,⟨a,b',k _ (by simp) _ hO⟩,h1.at' fun o e=>k _ (by simp) o e,h2.at' fun o e=>k _ (by simp) o e⟩
 item:=by
  intro X hP hw hK hc i pins s σ H E I hf st hg;subst hP hw hK;obtain⟨hi,q1,q2⟩:=hg;obtain⟨hz,hI,⟨a,b,hO⟩,h1,h2⟩:=st;obtain⟨its,r1,p1,_⟩:=Cq I q1;obtain⟨jts,r2,p2,_⟩:=Cq I q2;have ex:xs[i]? =some (xs[i]'(by omega)):=by simp
  have ey:ys[i]? =some (ys[i]'(by omega)):=by simp
  obtain⟨u,hu,ru⟩:=r1.get ex;obtain⟨v,hv,rv⟩:=r2.get ey;have D:ZipApart (n+4) (n+2) (n+3) n (n+1) l1 l2:=apart
   (fun j hj=>Fj I (hf _ (Fk n hj)) q1)
   (fun j hj=>Fj I (hf _ (Fk n hj)) q2)
  refine Wd D hz hI hO h1 h2 p1 p2 (x:=u) (y:=v) (by simpa using hu) (by simpa using hv) fun h' a1 a2 a3 a4 a5 a6 a7=>?_
  have hn:H s.heap.objs.size=none:=I.fresh
  have I1:Inv X pins σ (upd H s.heap.objs.size (.tup [xs[i]'(by omega),ys[i]'(by omega)])) {s with heap:=h'}:=WY (ch:=[n+4,n+3,n,n+1]) (t':=s.toks) I
   (fun c o hc e=>a7 c o (fun z=>hc (by simp[z])) (fun z=>hc (by simp[z])) (fun z=>hc (by simp[z])) (fun z=>hc (by simp[z])) e)
   (fun c hc=>hf c (MZ hc)) (Qm _)
   ⟨by show 2≤sizeLine;decide,[u,v],.cons ru (.cons rv .nil),_,a5,rfl,rfl,0,rfl⟩
  have lt5:∀c∈[n+4,n+2,n+3,n,n+1],c≠s.heap.objs.size:=fun c hc=>by
   have:∃o,s.heap.get? c=some o:=by
    simp only[Qg,Qa,Ze]at hc
    rcases hc with rfl|rfl|rfl|rfl|rfl
    ·exact⟨_,hz⟩
    ·exact⟨_,hI⟩
    ·exact⟨_,hO⟩
    ·obtain⟨o,e,_⟩:=h1.get;exact⟨o,e⟩
    ·obtain⟨o,e,_⟩:=h2.get;exact⟨o,e⟩
   obtain⟨o,e⟩:=this;exact Qs (Qu e)
  have hf2:∀c∈[n+4,n+2,n+3,n,n+1],T1 X pins (upd H s.heap.objs.size (.tup [xs[i]'(by omega),ys[i]'(by omega)])) c:=fun c hc=>⟨by rw[D6 (lt5 c hc)];exact(hf c hc).1,(hf c hc).2⟩
  have hI':IsPair h' (n+2) (.ref n) (.ref (n+1)):=a7 _ _ D.TIz D.TITO D.TIi1 D.TIi2 hI
  refine⟨.ref s.heap.objs.size,rfl,wpAny_letOwnedTupleGo_zip (s:={s with heap:=h'}) a1 fun h2' b1 b2=>?_⟩
  have I2:Inv X pins σ (upd H s.heap.objs.size (.tup [xs[i]'(by omega),ys[i]'(by omega)])) {s with heap:=h2'}:=MV (s:={s with heap:=h'}) (ch:=[n+4]) (t':=s.toks) I1
   (fun c o hc e=>b2.extBut _ _ (fun z=>hc (by simp[z])) e) (fun c hc=>hf2 c (Wi hc))
  exact⟨.ref s.heap.objs.size,_,I2,rfl,⟨_,_,_,hn,rfl,rfl,ex,ey⟩,
   ⟨b1,b2.extBut _ _ D.TIz hI',⟨_,_,b2.extBut _ _ D.TOz a2⟩,a3.but b2.extBut D.i1z,a4.but b2.extBut D.i2z⟩,fun c hc=>(hf2 c hc).1⟩
 done:=by
  intro X hP hw hK hc i pins s σ H E I hf st hg;subst hP hw hK;obtain⟨hi,q1,q2⟩:=hg;obtain⟨hz,hI,⟨a,b,hO⟩,h1,h2⟩:=st;obtain⟨its,r1,p1,_⟩:=Cq I q1;obtain⟨jts,r2,p2,_⟩:=Cq I q2;have D:ZipApart (n+4) (n+2) (n+3) n (n+1) l1 l2:=apart
   (fun j hj=>Fj I (hf _ (Fk n hj)) q1)
   (fun j hj=>Fj I (hf _ (Fk n hj)) q2)
  have e1:=r1.length
  have e2:=r2.length
  have hend:its.toArray[i]? =none\/jts.toArray[i]? =none:=by
   by_cases h:its.length≤i
   ·exact .inl (by simp;omega)
   ·exact .inr (by simp;omega)
  exact We (I.ok.hd hc) D hz hI hO h1 h2 p1 p2 hend fun h' hk=>⟨rfl,MV (ch:=[n+4,n+3,n,n+1]) (t':=s.toks) I
   (fun c o hc e=>hk c o (fun z=>hc (by simp[z])) (fun z=>hc (by simp[z])) (fun z=>hc (by simp[z])) (fun z=>hc (by simp[z])) e)
   (fun c hc=>hf c (MZ hc))⟩
 self:=fun _ _ _ _ _ st h=>wpAny_pyIter_zip st.1 h
theorem Wk:bootBuiltins "zip"=some (.type "zip"):=by rfl'
section
variable{X:Cx}{B:OA}{pos p:Pos}{a b:Expr}{ms:Mo (List D)}{elts:List Expr}{kk:Nat}{tp:Pos}
def Wl(K:Qq)(ta:TA):TI:=fun σ H R=>ta σ H fun vs H1=>∃c1 c2 l1 l2 xs ys,vs=[.ref l1,.ref l2]/\o8 c1 K H1 l1 xs/\o8 c2 K H1 l2 ys/\R (uA K c1 c2 l1 l2 xs ys) H1
theorem Wm{ta:TA}(hg:Gl X "zip")(hm:X.mg "zip"=none)(ha:PA X [a,b] ta)(hs:starEach [a,b] X.env=[(false,eval a X.env),(false,eval b X.env)]:=by rfl)(hs2:starEach [b] X.env=[(false,eval b X.env)]:=by rfl):
  PI X (.Tuple elts kk tp) (.Call (.Name "zip" p) [a,b] [] pos) (Wl X.K ta):=by
 intro pins s σ H R I h;refine Call_ (BA I hg hm Wk (Jl (i4 (ha pos pins s σ H _ I h) fun us s1 ⟨vs,H1,I1,r1,q1⟩=>?_) (by rw[hs,hs2]) (by rw[hs2];rfl)))
 obtain⟨c1,c2,l1,l2,xs,ys,rfl,h1,h2,q⟩:=q1;obtain⟨u,v,rfl,ru,rv⟩:=BB r1;cases ru;cases rv;obtain⟨its,r1,p1,_⟩:=Cq I1 h1;obtain⟨jts,r2,p2,_⟩:=Cq I1 h2;refine Wg p1 p2 fun h' a1 a2 a3 a4 a5 a6 a7=>?_
 refine wpAny_pyIter_zip a1 ?_
 refine⟨s1.heap.objs.size+4,_,_,_,H1,rfl,I1.kept (t':=s1.toks) a7,Wj c1 c2 s1.heap.objs.size l1 l2 xs ys,⟨a1,a2,⟨_,_,a3⟩,a4,a5⟩,fun c hc=>?_,q⟩
 have hle:s1.heap.objs.size≤c:=wC hc
 exact I1.fpOk hle (I1.hok.fresh hle)
def Z2(xs ys:List D):List D:=(xs.zip ys).map fun p=>.tup [p.1,p.2]
def Al(ms:Mo (List D)):Mo (List D):=fun env=>(ms env).bind fun p=>match p.1 with
 |[d,e]=>d.items.bind fun xs=>e.items.map fun ys=>(Z2 xs ys,p.2)
 |_=>none
theorem Ma{K:Qq}{G:Hp}{v:V}{d:D}{ds:List D}(r:b0 K G v d)(h:d.items=some ds):∃c a xs,v=.ref a/\o8 c K G a xs/\C3 K G xs ds:=by
 cases d<;>first|(exact absurd (show(none:Option (List D))=some ds from h) (by simp))|skip
 ·cases h;simp only[b0]at r;obtain⟨a,xs,e,q,t⟩:=r;exact⟨true,a,xs,e,q.t,t⟩
 ·cases h;simp only[b0]at r;obtain⟨a,xs,e,q,t⟩:=r;exact⟨false,a,xs,e,q,t⟩
theorem Wo{K:Qq}{G:Hp}{c1 c2:Bool}{l1 l2:Addr}{xs ys:List V}{ds es:List D}(h1:o8 c1 K G l1 xs)(h2:o8 c2 K G l2 ys)(r1:C3 K G xs ds)(r2:C3 K G ys es):rK K (uA K c1 c2 l1 l2 xs ys) G (Z2 ds es)where
 go:=fun i H l hi=>⟨by rw[r1.length,r2.length];simpa [Z2]using hi,l.sqA h1,l.sqA h2⟩
 stop:=fun i H l hi=>⟨by rw[r1.length,r2.length];simpa [Z2]using hi,l.sqA h1,l.sqA h2⟩
 yld:=fun i H x H' d l y e=>by
  obtain⟨p,a,b,hp,rfl,rfl,ea,eb⟩:=y;obtain⟨da,e1,ra⟩:=r1.get' ea;obtain⟨db,e2,rb⟩:=r2.get' eb;have ed:d=.tup [da,db]:=by
   unfold Z2 at e;rw[Zy,List.getElem?_zip_eq_some.mpr (⟨e1,e2⟩:ds[i]? =some (da,db).1/\es[i]? =some (da,db).2)]at e;cases e;rfl
  subst ed;have gp:G p=none:=by
   cases q:G p with
   |none=>rfl
   |some o=>rw[l p o q]at hp;cases hp
  exact .inr ⟨p,_,qU,hp,rfl,Bo F9 (d9 (b0.mono (Le.upd gp) _ ra) (d9 (b0.mono (Le.upd gp) _ rb) f7))⟩
theorem Fm(hg:Gl X "zip")(hm:X.mg "zip"=none)(ha:oP X B [a,b] ms)(hs:starEach [a,b] X.env=[(false,eval a X.env),(false,eval b X.env)]:=by rfl)(hs2:starEach [b] X.env=[(false,eval b X.env)]:=by rfl):
  EI X B (.Tuple elts kk tp) (.Call (.Name "zip" p) [a,b] [] pos) (Al ms):=by
 refine FZ (Wm hg hm ha hs hs2) ?_
 rintro σ H R ⟨G,env,ds,env',rl,e,k⟩;obtain⟨⟨ds',a8⟩,e1,e2⟩:=C7 e;dsimp only at e2;split at e2
 ·rename_i d1 d2
  obtain⟨xs,e3,e4⟩:=C7 e2;obtain⟨ys,e5,e6⟩:=E9 e4;cases e6;refine⟨G,env,_,_,rl,e1,fun vs G1 H1 ev r=>?_⟩
  obtain⟨v,w,rfl,r1,r2⟩:=Dn r;obtain⟨c1,l1,us,rfl,q1,t1⟩:=Ma r1 e3;obtain⟨c2,l2,ws,rfl,q2,t2⟩:=Ma r2 e5;exact⟨c1,c2,l1,l2,us,ws,rfl,ev.rel.sub.sqA q1,ev.rel.sub.sqA q2,k _ G1 H1 ev (Wo q1 q2 t1 t2)⟩
 ·cases e2
end
section
variable{prog:Program}{w:World}{A:Around}{s:Shared}{fin:Bool}{Q:Bool->Shared->Prop}
end
section
variable{X:Cx}{pins:OX}{σ:St}{H:Hp}{s:Shared}
def keys(ds:List D):Option (OI):=ds.mapM fun d=>match d with
 |.tup es=>(jY es).bind fun ns=>if ns.isEmpty then none else some ns
 |_=>none
end
section
variable{X:Cx}{B:OA}
theorem Mb{K:Qq}{G:Hp}{ds:List D}{xs:List V}{us:List Value}(r:C3 K G xs ds)(v:D3 xs us):∀{p:List Nat}{es:List D},(p.mapM fun i=>ds[i]?)=some es->∃ys,D3 ys (p.map fun i=>us.getD i Value.none)/\C3 K G ys es
 |[],es,e=>by cases e;exact⟨[],.nil,f7⟩
 |i::p,es,e=>by
  rw[List.mapM_cons]at e;obtain⟨d,e1,e2⟩:=C7 e;obtain⟨es',e3,e4⟩:=C7 e2;cases e4;obtain⟨ys,h1,h2⟩:=Mb r v e3;obtain⟨x,g1,g2⟩:=r.get e1;obtain⟨u,g3,g4⟩:=v.get g1;refine⟨x::ys,?_,d9 g2 h2⟩;rw[Qr];have:us.getD i Value.none=u:=by simp[g3]
  rw[this];exact .cons g4 h1
end
section
variable{X:Cx}{B:OA}{pos:Pos}
theorem Mc{pins:OX}{σ:St}{H:Hp}{s:Shared}(I:Inv X pins σ H s):sysModules<s.heap.objs.size:=by
 have h:mainGlobals<s.heap.objs.size:=(I.mod.glob.keeps I.bk).lt
 exact Uq (by decide) h
theorem Wq:PE X (.Dict [] [] pos) (fun _ H Q=>∀p,H p=none->Q (.ref p) (upd H p (.dK []))):=fun pins s σ H Q I h=>
 wpAny_Dict_empty ⟨.ref s.heap.objs.size,_,I.laid (a:=s.heap.objs.size) (o:=.dK []) (t':=s.toks) (fun _ _ q=>Qx _ q) (Qm _)
  ⟨Jj _,Ua.mpr (Zg (Qs (Mc I))),[],.nil,Heap.DictOf.new s.heap⟩,rfl,h _ (I.hok.fresh (Qm _))⟩
theorem Me:ED X B (.Dict [] [] pos) (mC .emp):=by
 refine d6 Wq ?_
 rintro σ H Q ⟨G,env,d,env',rl,e,k⟩;cases e;exact fun p hp=>k _ _ _ (rl.alloc hp) (by simp only[b0];exact⟨p,[],rfl,F9⟩)
end
section
variable{X:Cx}{B:OA}{pos p:Pos}{e:Expr}{es:List Expr}{as:Mo (List Ar)}{fn:Fn}{k n:Nat}{f:Addr}{fd:FuncData}{ps:List Str}{x:Str}
structure Def(P:Program)(w:World)(K:Qq)(mg:OU)(base:Heap)(x:Str)(k n:Nat)(fn:Fn):Prop where
 ex:∃(f:Addr) (fd:FuncData) (ps:List Str),f6 P w K mg base kF k f fd ps (k7 K n fn)/\ps.length=n/\mg x=some (.ref f)/\PySem.W.keepIn K (.ref f)=true/\O6 K fd ps []
theorem E1(D:Def X.prog X.w X.K X.mg X.base x k n fn)(hr:g9 k X.A)(hg:Gl X x)(ha:pC X B (e::es) as)(hdb:(x==("__debug__":Str))=false:=by decide)
  (he:starEach (e::es) X.env=(false,eval e X.env)::starEach es X.env:=by rfl)(hpl:(backTo pos (starEach es X.env)).any (·.1)=false:=by rfl):
  ED X B (.Call (.Name x p) (e::es) [] pos) (c9 n fn as):=by
 obtain⟨f,fd,ps,F,rfl,hm,hk,hb⟩:=D.ex;exact VQ F hr hg hm hk hb ha hdb he hpl
theorem W0(D:Def X.prog X.w X.K X.mg X.base x k n fn)(hr:g9 k X.A)(hg:Gl X x)(ha:pC X B (e::es) as)(hdb:(x==("__debug__":Str))=false:=by decide)
  (he:starEach (e::es) X.env=(false,eval e X.env)::starEach es X.env:=by rfl)(hpl:(backTo pos (starEach es X.env)).any (·.1)=false:=by rfl):
  EL X B (.Call (.Name x p) (e::es) [] pos) (M3 n fn as):=by
 obtain⟨f,fd,ps,F,rfl,hm,hk,hb⟩:=D.ex;exact VR F hr hg hm hk hb ha hdb he hpl
def BL:Option NameKind->Option NameKind->Bool:=fun a b=>decide (a=b)
def Mf(outN N':List Str)(outNames:List (Str×NameKind))(cells:List (Str×Addr))(scope:Scope)(keep:List Bool)(more:Nat):Bool:=
 (decide (scope.kind=.function)&&(scope.names.all (fun y=>BL (scope.names.lookup y.1) (some y.2))&&(scope.names.all (fun y=>!BL (some y.2) (some .free)||(cells.lookup y.1).isSome)&&(decide (keep.length=outN.length)&&(decide (N'.length=outN.length+more)&&
  (List.range keep.length).all fun i=>!(keep.getD i false)||match N'[i]?,outN[i]? with
   |some x,some y=>decide (x=y)&&(!BL (scope.names.lookup x) (some .local)&&(!BL (scope.names.lookup x) (some .cell)&&(!BL (scope.names.lookup x) (some .free)||(BL (outNames.lookup x) (some .cell)||BL (outNames.lookup x) (some .free)))))
   |_,_=>false)))))
theorem IE{N':List Str}{scope:Scope}{keep:List Bool}{more:Nat}(c:closureFor scope X.env=pure (N5 X.env.cells scope.names []))(h:Mf X.N N' X.env.scope.names X.env.cells scope keep more=true):kY X N' scope keep more:=by
 unfold Mf at h;simp only[Qw,Zh,Qy,BL]at h;obtain⟨h1,h2,h3,h4,h5,h6⟩:=h;have gt:∀(i:Nat) (x:Str),keep[i]? =some true->N'[i]? =some x->∃y,X.N[i]? =some y/\x=y/\ ¬ (scope.names.lookup x=some .local)/\ ¬ (scope.names.lookup x=some .cell)/\(scope.names.lookup x=some .free->X.env.scope.names.lookup x=some .cell\/X.env.scope.names.lookup x=some .free):=fun i x e1 e2=>by
  have hi:i<keep.length:=(Qb.mp e1).1
  have q:=h6 i (Jf.mpr hi)
  have e3:keep.getD i false=true:=by simp[e1]
  rw[e3,e2]at q;cases e4:X.N[i]? with
  |none=>rw[e4]at q;simp at q
  |some y=>
   rw[e4]at q;simp only[Bool.not_true,Vn,Qw,Zh,Xs,decide_eq_false_iff_not,Xx]at q;obtain⟨q1,q2,q3,q4⟩:=q;exact⟨y,rfl,q1,q2,q3,fun z=>q4.elim (fun n=>absurd z n) id⟩
 refine⟨h1,h2,c,fun y hy hf=>?_,h4,h5,fun i x e1 e2=>?_,fun i x e1 e2 e3=>?_⟩
 ·have q:=h3 y hy
  rw[hf]at q
  simpa using q
 ·obtain⟨y,g1,g2,g3,g4,_⟩:=gt i x e1 e2
  exact⟨by rw[g1,g2],g3,g4⟩
 ·have hi:i<keep.length:=(Qb.mp e1).1
  have hN:i<N'.length:=by omega
  obtain⟨y,g1,g2,g3,g4,g5⟩:=gt i _ e1 (Zv hN);rw[e2]at g1;cases g1;rw[g2]at g5;exact g5 e3
end
section
variable{X:Cx}{B:OA}{pos:Pos}
theorem Fo{x:Str}{i:Int}(hg:Gl X x)(hm:∃t,X.mg x=some (.int i t))(hd:(x==("__debug__":Str))=false:=by decide):ED X B (.Name x pos) (mC (.int i)):=by
 obtain⟨t,hm⟩:=hm;exact US hg hm hd
def Kp(i:Nat)(m:Mo D):Prop:=∀env d env' w ds,m env=some (d,env')->env'[i]? =some w->w.mut=some ds->∃w0 ds0,env[i]? =some w0/\w0.mut=some ds0
theorem Mg{i:Nat}{d:D}:Kp i (mC d):=fun env d' env' w ds e h1 h2=>by cases e;exact⟨w,ds,h1,h2⟩
theorem IF{i j:Nat}(hj:j≠i):Kp i (A0 j):=fun env d' env' w ds e h1 h2=>by
 unfold A0 at e;split at e
 ·cases e;exact⟨w,ds,h1,h2⟩
 ·cases e
  rw[Qn hj]at h1;exact⟨w,ds,h1,h2⟩
 ·cases e
  rw[Qn hj]at h1;exact⟨w,ds,h1,h2⟩
 ·cases e
theorem Mh:bootBuiltins "int"=some (.type "int"):=by rfl'
theorem Wr:bootBuiltins "bool"=some (.type "bool"):=by rfl'
theorem Ws:bootBuiltins "tuple"=some (.type "tuple"):=by rfl'
theorem Fp:bootBuiltins "list"=some (.type "list"):=by rfl'
theorem Wt:bootBuiltins "all"=some (.builtin "all"):=by rfl'
theorem Wu:bootBuiltins "max"=some (.builtin "max"):=by rfl'
theorem Mi:bootBuiltins "min"=some (.builtin "min"):=by rfl'
theorem Wv:bootBuiltins "sorted"=some (.builtin "sorted"):=by rfl'
end
theorem Mj{K:Qq}{G:Hp}:∀ns:List Int,C3 K G (ns.map V.int) (ns.map D.int)
 |[]=>f7
 |n::ns=>d9 (by simp only[b0]) (Mj ns)
def EA:Expr->Bool
 |.Starred _ _=>true
 |_=>false
theorem B7{e:Expr}{es:List Expr}{env:Env}(h:EA e=false):starEach (e::es) env=(false,eval e env)::starEach es env:=by
 cases e<;>first|rfl|cases h
theorem uB{a:Expr}{env:Env}(h:EA a=false):starEach [a] env=[(false,eval a env)]:=by rw[B7 h];rfl
theorem wD{a b:Expr}{env:Env}(h:EA a=false)(h2:EA b=false):starEach [a,b] env=[(false,eval a env),(false,eval b env)]:=by rw[B7 h,uB h2]
theorem E7{pos:Pos}{env:Env}:∀{es:List Expr},es.all (fun e=>!EA e)=true->(backTo pos (starEach es env)).any (·.1)=false
 |[],_=>rfl
 |e::es,h=>by
  rw[Xh,Qw,Xs]at h;rw[B7 h.1];show(false||(backTo pos (starEach es env)).any (·.1))=false
  rw[E7 h.2];rfl
theorem Q6{m n:Mo Fl}{e e1:a9}(h:m e=some (.nx,e1)):C6 m n e=n e1:=by unfold C6;rw[h];rfl
theorem AU{m n:Mo Fl}{e e1:a9}{d:D}(h:m e=some (.ret d,e1)):C6 m n e=some (.ret d,e1):=by unfold C6;rw[h];rfl
theorem EB{t:Mo Bool}{m n:Mo Fl}{e e1:a9}(h:t e=some (true,e1)):F3 t m n e=m e1:=by unfold F3;rw[h];rfl
theorem EC{t:Mo Bool}{m n:Mo Fl}{e e1:a9}(h:t e=some (false,e1)):F3 t m n e=n e1:=by unfold F3;rw[h];rfl
theorem Ml(neg:Bool)(i j:Int):j7 neg (.int i) (.int j)=some (.bl (if neg then !(i==j)else(i==j))):=rfl
theorem IG{g:OZ}{m:Mo D}{P:a9->Prop}{f:D->D}:∀{ds:List D}{env:a9},(∀d∈ds,∀e,P e->∃e1 e2,g d e=some e1/\m e1=some (f d,e2)/\P e2)->P env->
  ∃env',N8 g J0 m ds env=some (ds.map f,env')/\P env'
 |[],env,_,p=>⟨env,rfl,p⟩
 |d::ds,env,h,p=>by
  obtain⟨e1,e2,h1,h2,h3⟩:=h d (by simp) env p
  obtain⟨e3,h4,h5⟩:=IG (ds:=ds) (fun x hx=>h x (by simp[hx])) h3
  refine⟨e3,?_,h5⟩;unfold N8;rw[h1];simp only[Qj,J0,Zm];rw[h2];simp only[Qj];rw[h4];rfl
theorem IH{g:OZ}{b:Mo Fl}{P:a9->Prop}:∀{ds:List D}{env:a9},(∀d∈ds,∀e,P e->∃e1 e2,g d e=some e1/\b e1=some (.nx,e2)/\P e2)->P env->∃env',loop g b ds env=some (.nx,env')/\P env'
 |[],env,_,p=>⟨env,rfl,p⟩
 |d::ds,env,h,p=>by
  obtain⟨e1,e2,h1,h2,h3⟩:=h d (by simp) env p
  obtain⟨e3,h4,h5⟩:=IH (ds:=ds) (fun x hx=>h x (by simp[hx])) h3
  refine⟨e3,?_,h5⟩;unfold loop;rw[h1];simp only[Qj];rw[h2];exact h4
theorem EE{α:Type}(f:α->Bool):∀l:List α,X5 (l.map fun x=>D.bl (f x))=some (l.all f)
 |[]=>rfl
 |x::l=>by simp[X5,EE f l]
theorem P1{N:Nat}{mb:Mo Fl}{ws env:List W}{d:D}(h:mb (ws++List.replicate (N-ws.length) .nil)=some (.ret d,env)):kJ N mb ws=some (.d d,U9 ws env):=by unfold kJ;rw[h]
theorem Fq{N:Nat}{mb:Mo Fl}{ws env:List W}{d:List D}(h:mb (ws++List.replicate (N-ws.length) .nil)=some (.retL d,env)):kJ N mb ws=some (.l d,U9 ws env):=by unfold kJ;rw[h]
def stop(b:Bool)(d:D):Fl:=if b then .nx else .ret d
theorem EF{mi:Mo (List D)}{keep:List Bool}{more:Nat}{g:OZ}{t:Mo Bool}{m:Mo D}{env e1 e2 e3:a9}{ds r:List D}(h:mi env=some (ds,e1))(hl:ds.length≤100000)(hc:N8 g t m ds (N7 keep more e1)=some (r,e2))(ho:M8 keep e1 e2=some e3):
  G9 mi keep more g t m env=some (r,e3):=by
 unfold G9;rw[h];show(if ds.length≤100000 then(N8 g t m ds (N7 keep more e1)).bind _ else none)=_
 rw[Qc hl,hc];show(M8 keep e1 e2).map _=_;rw[ho];rfl
theorem Mm{ms:Mo (List D)}{env e1:a9}{j:Int}(h:ms env=some ([.int j],e1))(h1: -1000000<j)(h2:j<1000000):AM ms env=some (V9 0 j.toNat,e1):=by
 unfold AM;rw[h];exact Qc ⟨h1,h2⟩
theorem P4{f:List D->Option D}{ms:Mo (List D)}{env e1:a9}{ds:List D}{d:D}(h:ms env=some (ds,e1))(hf:f ds=some d):i5 f ms env=some (d,e1):=by unfold i5;rw[h];show(f ds).map _=_;rw[hf];rfl
theorem Ww{f:List D->Option (List D)}{ms:Mo (List D)}{env e1:a9}{ds d:List D}(h:ms env=some (ds,e1))(hf:f ds=some d):pU f ms env=some (d,e1):=by unfold pU;rw[h];show(f ds).map _=_;rw[hf];rfl
theorem C8{m:Mo D}{ms:Mo (List D)}{env e1 e2:a9}{d:D}{ds:List D}(h:m env=some (d,e1))(h2:ms e1=some (ds,e2)):B0 m ms env=some (d::ds,e2):=by unfold B0;rw[h];show(ms e1).map _=_;rw[h2];rfl
theorem W2{m:Mo D}{ms:Mo (List Ar)}{env e1 e2:a9}{d:D}{ds:List Ar}(h:m env=some (d,e1))(h2:ms e1=some (ds,e2)):B4 m ms env=some (.d d::ds,e2):=by unfold B4;rw[h];show(ms e1).map _=_;rw[h2];rfl
theorem J4{m:Mo (List D)}{env e1:a9}{ds:List D}(h:m env=some (ds,e1)):mF m env=some (.lst ds,e1):=by unfold mF;rw[h];rfl
theorem U0{m:Mo D}{env e1:a9}{d:D}{ds:List D}(h:m env=some (d,e1))(hd:d.items=some ds):F4 m env=some (ds,e1):=by unfold F4;rw[h];show d.items.map _=_;rw[hd];rfl
theorem D4{f:D->D->Option D}{ma mb:Mo D}{env e1 e2:a9}{a b c:D}(h1:ma env=some (a,e1))(h2:mb e1=some (b,e2))(hf:f a b=some c):B8 f ma mb env=some (c,e2):=by
 unfold B8;rw[h1];show(mb e1).bind _=_;rw[h2];show(f a b).map _=_;rw[hf];rfl
theorem P5{m:Mo D}{env e1:a9}{d:D}(h:m env=some (d,e1)):E2 m env=some (.ret d,e1):=by unfold E2;rw[h];rfl
theorem II{m:Mo (List D)}{env e1:a9}{d:List D}(h:m env=some (d,e1)):AK m env=some (.retL d,e1):=by unfold AK;rw[h];rfl
theorem X6{i:Nat}{m:Mo D}{env e1:a9}{d:D}(h:m env=some (d,e1)):D0 i m env=some (.nx,e1.set i (.dat d)):=by unfold D0;rw[h];rfl
theorem Wx{i:Nat}{m:Mo (List D)}{env e1:a9}{d:List D}(h:m env=some (d,e1)):O7 i m env=some (.nx,e1.set i (.own d)):=by unfold O7;rw[h];rfl
theorem N2{m:Mo D}{env e1:a9}{b:Bool}(h:m env=some (.bl b,e1)):mT m env=some (b,e1):=by unfold mT;rw[h];rfl
theorem Cr{m:Mo Bool}{env e1:a9}{b:Bool}(h:m env=some (b,e1)):K0 m env=some (!b,e1):=by unfold K0;rw[h];rfl
theorem Z3{mi:Mo (List D)}{g:OZ}{b:Mo Fl}{env e1:a9}{ds:List D}(h:mi env=some (ds,e1)):M6 mi g b env=loop g b ds e1:=by unfold M6;rw[h];rfl
theorem X7{n:Nat}{f:Fn}{as:Mo (List Ar)}{env e1:a9}{av:List Ar}{r:Rr}{ws':List W}(h:as env=some (av,e1))(hn:av.length=n)(hs:slots av=[])(hf:f (av.map (N1 (.l [])))=some (r,ws')):V0 n f as env=some (r,e1):=by
 unfold V0;rw[h];show(if av.length=n then _ else none)=_
 rw[Qc hn];simp only[hs];rw[hf];rfl
theorem Cs{n i:Nat}{f:Fn}{as:Mo (List Ar)}{env e1:a9}{av:List Ar}{r:Rr}{ws':List W}{w:W}{c c':List D}(h:as env=some (av,e1))(hn:av.length=n)(hs:slots av=[i])(hw:e1[i]? =some w)(hm:w.mutL=some c)(hf:f (av.map (N1 (.l c)))=some (r,ws'))(hp:Ak ws'=some (.l c')):
  V0 n f as env=some (r,e1.set i (w.put c')):=by
 unfold V0;rw[h];show(if av.length=n then _ else none)=_
 rw[Qc hn];simp only[hs];rw[hw];simp only[Qj];rw[W.mutL_of hm];simp only[Qj];rw[hf];simp only[Qj];rw[hp,W.put_eq hm];rfl
theorem EH{n i:Nat}{f:Fn}{as:Mo (List Ar)}{env e1:a9}{av:List Ar}{r:Rr}{ws':List W}{w:W}{c c':Mu}(h:as env=some (av,e1))(hn:av.length=n)(hs:slots av=[i])(hw:e1[i]? =some w)(hm:w.mut=some c)(hf:f (av.map (N1 c))=some (r,ws'))(hp:Ak ws'=some c'):
  V0 n f as env=some (r,e1.set i (w.putM c')):=by
 unfold V0;rw[h];show(if av.length=n then _ else none)=_
 rw[Qc hn];simp only[hs];rw[hw];simp only[Qj];rw[hm];simp only[Qj];rw[hf];simp only[Qj];rw[hp];rfl
theorem V2{n:Nat}{f:Fn}{as:Mo (List Ar)}{env e1:a9}{d:D}(h:V0 n f as env=some (.d d,e1)):c9 n f as env=some (d,e1):=by unfold c9;rw[h];rfl
theorem BM{n:Nat}{f:Fn}{as:Mo (List Ar)}{env e1:a9}{d:List D}(h:V0 n f as env=some (.l d,e1)):M3 n f as env=some (d,e1):=by unfold M3;rw[h];rfl
section
variable{X:Cx}{B:OA}{pos:Pos}{e:Expr}{ma:Mo D}
def Ct(m:Mo D):Mo Fl:=fun env=>(m env).map fun p=>(.nx,p.2)
theorem IJ(h:ED X B e ma)(hsw:swapsWith e none pos.line X.env=pure false:=by rfl):ES X B (.Expr e pos) (Ct ma):=by
 refine jZ (HJ (te:=TD X.K B ma) h hsw) ?_
 rintro D σ H ⟨G,env,fl,env',rl,e,k⟩;obtain⟨⟨d,a8⟩,e1,e2⟩:=E9 e;cases e2;exact .bind rl e1 fun v G' H' ev r=>k σ G' H' ev
theorem Mn{m:Mo D}{env e1:a9}{d:D}(h:m env=some (d,e1)):Ct m env=some (.nx,e1):=by unfold Ct;rw[h];rfl
end
section
variable{X:Cx}{B:OA}
end
section
variable{X:Cx}{B:OA}{pos:Pos}{a b c e:Expr}{ma mb mc:Mo D}{ms:Mo (List D)}{es:List Expr}
theorem EJ{K:Qq}{t:Value}{T U:String}{b c:Bool}(h1:PySem.W.kitOne K t (.type T)=some b)(h2:PySem.W.kitOne K t (.type U)=some c):PySem.W.kitAny K t [.type T,.type U]=some (b||c):=by
 unfold PySem.W.kitAny;rw[h1];cases b with
 |true=>rfl
 |false=>
  dsimp only;unfold PySem.W.kitAny;rw[h2];cases c<;>rfl
theorem Wz{pins:OX}{σ:St}{G H:Hp}{s:Shared}{A:Around}{E:OE}{Q:OE}{tp:Addr}{T U:String}{x:V}{u:Value}{d:D}(I:Inv X pins σ H s)(l:Le G H)(rx:D8 x u)(rp:b0 X.K G x d)
  (ht:IsTup s.heap tp [Value.type T,.type U].toArray)(kt:L6 X.K T)(ku:L6 X.K U)(h:∀tk,Q (.bool (T9 (oX d) T||T9 (oX d) U)) {s with toks:=tk}):wpAny (model X.prog X.w) A (call (.builtin "isinstance") [u,.ref tp]) Q E s:=by
 obtain⟨⟨oc,od,odt,os⟩,t1,t2,n,t3⟩:=ht;dsimp only at t2 t3;subst t2 t3;have e:(∀o,d≠.obj o)->_:=fun hd=>EJ (Hx kt d hd) (Hx ku d hd)
 cases d with
 |non=>simp only[b0]at rp;subst rp;cases (show u=Value.none from rx);exact Yq PySem.W.kitx_none I.kIn True.intro t1 (e nofun) (fun z=>nomatch z) h
 |bl b=>simp only[b0]at rp;subst rp;cases (show u=Value.bool b from rx);exact Yq PySem.W.kitx_bool I.kIn True.intro t1 (e nofun) (fun z=>nomatch z) h
 |int i=>simp only[b0]at rp;subst rp;obtain⟨t,q⟩:=(show∃t,u=Value.int i t from rx);cases q;exact Yq PySem.W.kitx_int I.kIn True.intro t1 (e nofun) (fun z=>nomatch z) h
 |str z=>simp only[b0]at rp;obtain⟨rp,_⟩:=rp;subst rp;obtain⟨t,q⟩:=(show∃t,u=Value.str z t from rx);cases q;exact Yq PySem.W.kitx_str I.kIn True.intro t1 (e nofun) (fun z=>nomatch z) h
 |tup ds=>
  simp only[b0]at rp;obtain⟨a,xs,rfl,q,_⟩:=rp;cases rx;obtain⟨its,_,⟨o,h1,h2,_⟩,_⟩:=I.tuple (l.sqT q);exact Yq Xg I.kIn ⟨o,h1,h2⟩ t1 (e nofun) (fun z=>nomatch z) h
 |lst ds=>
  simp only[b0]at rp;obtain⟨a,xs,rfl,q,_⟩:=rp;cases rx;obtain⟨its,_,⟨o,n,h1,h2,_⟩,_⟩:=I.list (l.sqL q);exact Yq Vp I.kIn ⟨o,h1,h2⟩ t1 (e nofun) (fun z=>nomatch z) h
 |emp=>
  simp only[b0]at rp;obtain⟨a,kvs,rfl,q⟩:=rp;cases rx;obtain⟨_,_,vs,_,dd⟩:=(show J9 X.prog X.w H s.heap a (.dK _)from I.hok a _ (l _ _ q))
  obtain⟨o,h1,h2⟩:∃o,s.heap.get? a=some o/\o.cls=.type "dict":=by
   obtain⟨o,es,ep,g1,g2,_⟩:=dd;exact⟨o,g1,g2.1⟩
  exact Yq Yn I.kIn ⟨o,h1,h2⟩ t1 (e nofun) (fun z=>nomatch z) h
 |dct ks vs=>
  simp only[b0]at rp;obtain⟨a,kvs,rfl,q,_⟩:=rp;cases rx;obtain⟨_,_,_,_,o,_,_,h1,h2,_⟩:=(show J9 X.prog X.w H s.heap a (.dT _ _)from I.hok a _ (l _ _ q))
  exact Yq Yn I.kIn ⟨o,h1,h2.1⟩ t1 (e nofun) (fun z=>nomatch z) h
 |obj o=>
  have h0:∀{T:String},L6 X.K T->T9 "object" T=false:=fun{T} kt=>by
   unfold L6 at kt;simp only[Qg,Qa,Ze]at kt
   rcases kt with rfl|rfl|rfl|rfl|rfl<;>rfl
  have hf:∀{T:String},L6 X.K T->PySem.W.kitOne X.K (.type "function") (.type T)=some false:=fun{T} kt=>by
   unfold L6 at kt;simp only[Qg,Qa,Ze]at kt
   rcases kt with rfl|rfl|rfl|rfl|rfl<;>rfl
  have h':∀tk,Q (.bool false) {s with toks:=tk}:=fun tk=>by have:=h tk;rwa [show T9 (oX (.obj o)) T=false from h0 kt,show T9 (oX (.obj o)) U=false from h0 ku]at this
  simp only[b0]at rp;cases o with
  |exc n=>
   obtain⟨a,C,HP,rfl,_,h3,h4,h5⟩:=rp;cases rx;exact Yq h4 I.kIn (I.hok a _ (l _ _ h3)).1 t1 (EJ (h5 T kt) (h5 U ku)) (fun z=>nomatch z) h'
  |fn n=>
   obtain⟨f,rfl,_,h4⟩:=rp;cases rx;exact Yq h4 I.kIn True.intro t1 (EJ (hf kt) (hf ku)) (fun z=>nomatch z) h'
  |dk kvs=>
   obtain⟨a,rfl,q⟩:=rp;cases rx;obtain⟨_,_,vs,_,dd⟩:=(show J9 X.prog X.w H s.heap a (.dK _)from I.hok a _ (l _ _ q))
   obtain⟨o,h1,h2⟩:∃o,s.heap.get? a=some o/\o.cls=.type "dict":=by
    obtain⟨o,es,ep,g1,g2,_⟩:=dd;exact⟨o,g1,g2.1⟩
   have hd:∀{T:String},L6 X.K T->PySem.W.kitOne X.K (.type "dict") (.type T)=some false:=fun{T} kt=>by
    unfold L6 at kt;simp only[Qg,Qa,Ze]at kt
    rcases kt with rfl|rfl|rfl|rfl|rfl<;>rfl
   exact Yq Yn I.kIn ⟨o,h1,h2⟩ t1 (EJ (hd kt) (hd ku)) (fun z=>nomatch z) h'
  |dt kvs=>
   obtain⟨a,ps,rfl,q,_⟩:=rp;cases rx;obtain⟨_,_,vs,_,dd⟩:=(show J9 X.prog X.w H s.heap a (.dK _)from I.hok a _ (l _ _ q))
   obtain⟨o,h1,h2⟩:∃o,s.heap.get? a=some o/\o.cls=.type "dict":=by
    obtain⟨o,es,ep,g1,g2,_⟩:=dd;exact⟨o,g1,g2.1⟩
   have hd:∀{T:String},L6 X.K T->PySem.W.kitOne X.K (.type "dict") (.type T)=some false:=fun{T} kt=>by
    unfold L6 at kt;simp only[Qg,Qa,Ze]at kt
    rcases kt with rfl|rfl|rfl|rfl|rfl<;>rfl
   exact Yq Yn I.kIn ⟨o,h1,h2⟩ t1 (EJ (hd kt) (hd ku)) (fun z=>nomatch z) h'
def Mp(T U:String)(m:Mo D):Mo D:=fun env=>(m env).map fun p=>(.bl (T9 (oX p.1) T||T9 (oX p.1) U),p.2)
theorem XA{T U:String}{y z:Str}{p p2 p3 p4:Pos}{x1:Nat}(kt:L6 X.K T)(ku:L6 X.K U)(ha:ED X B a ma)(hg:Gl X "isinstance")(hm:X.mg "isinstance"=none)(hgT:Gl X y)(hmT:X.mg y=none)(hvT:bootBuiltins y=some (.type T))(hgU:Gl X z)(hmU:X.mg z=none)(hvU:bootBuiltins z=some (.type U))
  (hnT:y≠"__name__":=by decide)(hdT:(y==("__debug__":Str))=false:=by decide)(hnU:z≠"__name__":=by decide)(hdU:(z==("__debug__":Str))=false:=by decide)
  (he:starEach [a,.Tuple [.Name y p2,.Name z p3] x1 p4] X.env=[(false,eval a X.env),(false,eval (.Tuple [.Name y p2,.Name z p3] x1 p4) X.env)]:=by rfl):ED X B (.Call (.Name "isinstance" p) [a,.Tuple [.Name y p2,.Name z p3] x1 p4] [] pos) (Mp T U ma):=by
 have hT:PE X (.Name y p2) (tC (.ty T)):=FF hgT hmT hvT rfl hnT hdT
 have hU:PE X (.Name z p3) (tC (.ty U)):=FF hgU hmU hvU rfl hnU hdU
 have htup:PE X (.Tuple [.Name y p2,.Name z p3] x1 p4) (LX (HW (tC (.ty T)) (HW (tC (.ty U)) LV))):=LY (O5 hT (O5 hU Aj))
 have hc:O2 X (.builtin "isinstance") (fun xs H Q=>∃x q G d,xs=[x,.ref q]/\H q=some (.tup [.ty T,.ty U])/\Le G H/\b0 X.K G x d/\Q (.bl (T9 (oX d) T||T9 (oX d) U)) H):=by
  intro pins s σ H xs us Q I r h;obtain⟨x,q,G,d,rfl,hq,l,rp,qq⟩:=h;obtain⟨u,w',rfl,r1,r2⟩:=BB r;cases r2;obtain⟨_,its,v,ht⟩:=(show J9 X.prog X.w H s.heap q (.tup [.ty T,.ty U])from I.hok q _ hq)
  obtain⟨v1,v2,rfl,e1,e2⟩:=BB v;cases e1;cases e2;exact Wz I l r1 rp ht.tup kt ku fun tk=>⟨.bl _,H,I.tok _,rfl,qq⟩
 refine d6 (De (pos:=pos) (p:=p) hc hg hm (by rfl') (O5 ha (O5 htup Aj) he) (he:=he)) ?_
 rintro σ H Q ⟨G,env,d,env',rl,e,k⟩;obtain⟨⟨d1,a8⟩,e1,e2⟩:=E9 e;cases e2;refine .bind rl e1 fun v G1 H1 ev r=>⟨(by decide:2≤sizeLine),fun q hq=>?_⟩
 have al:=ev.rel.allocM (o:=.tup [.ty T,.ty U]) hq
 exact⟨v,q,G1,d1,rfl,F9,al.rel.sub,r,k _ G1 _ (ev.trans al) (by simp only[b0])⟩
end
section
variable{X:Cx}{B:OA}
def Mq:List D->Option Bool
 |[]=>some false
 |.bl b::r=>(Mq r).map fun k=>b||k
 |_::_=>none
def wF:List D->Option D
 |[.lst ds]=>(Mq ds).map fun k=>.bl k
 |_=>none
def P7:List D->Option D
 |[.lst ds]=>(jY ds).map fun ns=>.int ns.sum
 |[.tup ds]=>(jY ds).map fun ns=>.int ns.sum
 |_=>none
theorem Cu:∀{us:List Value}{ns:List Int},IntsAre us ns->∀(i:Nat) (v:Value),us[i]? =some v->∃t,v=.int (ns.getD i 0) t
 |_,_,.nil,i,v,h=>by simp at h
 |_,_,.cons n t r,i,v,h=>by
  cases i with
  |zero=>simp at h;exact⟨t,by simp[←h]⟩
  |succ i=>exact Cu r i v (by simpa using h)
def Mr(X:Cx):List V->Hp->VK->Prop:=fun xs H Q=>∃(p:Addr) (ns:List Int),xs=[.ref p]/\(lX X.K H p (ns.map V.int)\/lY X.K H p (ns.map V.int))/\Q (.int ns.sum) H
theorem BN(hc:X.calm=true):O2 X (.builtin "sum") (Mr X):=by
 intro pins s σ H xs us Q I r h;obtain⟨p,ns,rfl,hq,q⟩:=h;obtain⟨u,rfl,rx⟩:=Ai r;cases rx;have hh:X.A.handled=none:=I.ok.hd hc
 rcases hq with hq|hq
 ·obtain⟨its,r',pl,hz⟩:=I.list hq
  have hi:IntsAre its ns:=Dg r'
  have hl:=pl.isList
  have hlt:p<s.heap.objs.size:=by obtain⟨_,e,_⟩:=hl;exact Qu e
  refine call_sum_walkG (Ud hl ?_);refine⟨s.heap.objs.size,[s.heap.objs.size,p],[s.heap.objs.size],its.toArray.size,_,_,fun i=>ns.getD i 0,rfl,Walks.list (A:=X.A.in1) hh _ p (Qs hlt) its.toArray,
   ⟨⟨_,Qh _ rfl,rfl,rfl⟩,hl.push _⟩,fun b hb=>?_,fun i v hP=>Cu hi i v (by simpa using hP),fun h' tk t' hk'=>?_⟩
  ·have hs:=Qu (Qh s.heap (o:={cls:=.type "list_iterator",data:=.fields #[.ref p,.int 0 0]}) rfl)
   rcases Qg.mp hb with rfl|hb
   ·exact hs
   ·rcases Qg.mp hb with rfl|hb
    ·exact Uq hlt hs
    ·cases hb
  ·rw[Qp,hi.length,Vk,Vm (Qm _)]
   exact⟨.int ns.sum,H,I.kept (t':=tk) (Vc hk'),⟨t',rfl⟩,q⟩
 ·obtain⟨its,r',pl,hz⟩:=I.tuple hq
  have hi:IntsAre its ns:=Dg r'
  have hl:s.heap.IsTuple p its.toArray:=pl
  have hlt:p<s.heap.objs.size:=by obtain⟨_,e,_⟩:=hl;exact Qu e
  refine call_sum_walkG (Uw hl ?_);refine⟨s.heap.objs.size,[s.heap.objs.size,p],[s.heap.objs.size],its.toArray.size,_,_,fun i=>ns.getD i 0,rfl,Walks.tuple (A:=X.A.in1) hh _ p (Qs hlt) its.toArray,
   ⟨⟨_,Qh _ rfl,rfl,rfl⟩,hl.push _⟩,fun b hb=>?_,fun i v hP=>Cu hi i v (by simpa using hP),fun h' tk t' hk'=>?_⟩
  ·have hs:=Qu (Qh s.heap (o:={cls:=.type "tuple_iterator",data:=.fields #[.ref p,.int 0 0]}) rfl)
   rcases Qg.mp hb with rfl|hb
   ·exact hs
   ·rcases Qg.mp hb with rfl|hb
    ·exact Uq hlt hs
    ·cases hb
  ·rw[Qp,hi.length,Vk,Vm (Qm _)]
   exact⟨.int ns.sum,H,I.kept (t':=tk) (Vc hk'),⟨t',rfl⟩,q⟩
theorem XB:Z1 X B (Mr X) P7:=by
 intro G σ env H xs ds c Q rl r e k;unfold P7 at e;split at e
 ·rename_i ds
  obtain⟨x,rfl,q⟩:=U8 r;obtain⟨ns,e1,e2⟩:=E9 e;subst e2;simp only[b0]at q;obtain⟨a,ys,rfl,h1,h2⟩:=q;have:=BK h2 e1;subst this;exact⟨a,ns,rfl,.inl (rl.sub.sqL h1),k _ G H (.refl rl) (by simp only[b0])⟩
 ·rename_i ds
  obtain⟨x,rfl,q⟩:=U8 r;obtain⟨ns,e1,e2⟩:=E9 e;subst e2;simp only[b0]at q;obtain⟨a,ys,rfl,h1,h2⟩:=q;have:=BK h2 e1;subst this;exact⟨a,ns,rfl,.inr (rl.sub.sqT h1),k _ G H (.refl rl) (by simp only[b0])⟩
 ·cases e
end
theorem Ms:bootBuiltins "sum"=some (.builtin "sum"):=by rfl'
theorem Mt{P:Program}{w:World}{K:Qq}{mg:OU}{base:Heap}{k n:Nat}{f:Addr}{fd:FuncData}{ps:List Str}:f6 P w K mg base kF k f fd ps (k7 K n fun _=>none):=
 ⟨fun _ _ _ _ h=>(by obtain⟨_,_,_,_,_,_,_,e,_⟩:=h;cases e),fun _ _ _ _ _ _ _ _ _ _ _ _ _ h=>(by obtain⟨_,_,_,_,_,_,_,e,_⟩:=h;cases e)⟩
section
variable{X:Cx}{B:OA}
theorem XC{pins:OX}{σ:St}{H:Hp}{s:Shared}{p:Addr}{ns:List Int}{A:Around}{Q:OE}{E:OE}(I:Inv X pins σ H s)(hh:X.A.in1.handled=none)(hq:lX X.K H p (ns.map V.int)\/lY X.K H p (ns.map V.int))
  (h:∀(o:Obj) (P:Nat->Value->Prop) (T:Nat->Heap->Prop),Walks X.prog X.w X.A.in1 s.heap.objs.size [s.heap.objs.size,p] [s.heap.objs.size] ns.length P T->T 0 (s.heap.push o)->(∀b∈[s.heap.objs.size,p],b<(s.heap.push o).objs.size)->
   (∀i v,P i v->i<ns.length/\∃t,v=.int (ns.getD i 0) t)->Q (.ref s.heap.objs.size) {s with heap:=s.heap.push o}):wpAny (model X.prog X.w) A (pyIter (.ref p)) Q E s:=by
 have key:∀(its:List Value),IntsAre its ns->∀i v,its.toArray[i]? =some v->i<ns.length/\∃t,v=.int (ns.getD i 0) t:=fun its hi i v hv=>by
  have hv':its[i]? =some v:=by simpa using hv
  refine⟨?_,Cu hi i v hv'⟩;have:=(Qb.mp hv').1;rw[hi.length]at this;exact this
 have low:∀(o:Obj),p<s.heap.objs.size->∀b∈[s.heap.objs.size,p],b<(s.heap.push o).objs.size:=fun o hlt b hb=>by
  have hs:s.heap.objs.size<(s.heap.push o).objs.size:=by rw[Yk];exact Tj _
  rcases Qg.mp hb with rfl|hb
  ·exact hs
  ·rcases Qg.mp hb with rfl|hb
   ·exact Uq hlt hs
   ·cases hb
 rcases hq with hq|hq
 ·obtain⟨its,r',pl,hz⟩:=I.list hq
  have hi:IntsAre its ns:=Dg r'
  have hl:=pl.isList
  have hlt:p<s.heap.objs.size:=by obtain⟨_,e,_⟩:=hl;exact Qu e
  have W:=Walks.list (prog:=X.prog) (w:=X.w) (A:=X.A.in1) hh s.heap.objs.size p (Qs hlt) its.toArray
  have es:its.toArray.size=ns.length:=by rw[Qp,hi.length]
  rw[es]at W;exact Ud hl (h _ _ _ W ⟨⟨_,Qh _ rfl,rfl,rfl⟩,hl.push _⟩ (low _ hlt) (key its hi))
 ·obtain⟨its,r',pl,hz⟩:=I.tuple hq
  have hi:IntsAre its ns:=Dg r'
  have hl:s.heap.IsTuple p its.toArray:=pl
  have hlt:p<s.heap.objs.size:=by obtain⟨_,e,_⟩:=hl;exact Qu e
  have W:=Walks.tuple (prog:=X.prog) (w:=X.w) (A:=X.A.in1) hh s.heap.objs.size p (Qs hlt) its.toArray
  have es:its.toArray.size=ns.length:=by rw[Qp,hi.length]
  rw[es]at W;exact Uw hl (h _ _ _ W ⟨⟨_,Qh _ rfl,rfl,rfl⟩,hl.push _⟩ (low _ hlt) (key its hi))
def Q7(gt:Bool)(ns:List Int):Int:=ns.getD (argBest (fun i j=>if gt then decide (ns.getD i 0>ns.getD j 0)else decide (ns.getD i 0<ns.getD j 0)) (ns.length-1)) 0
def Mv(X:Cx)(gt:Bool):List V->Hp->VK->Prop:=fun xs H Q=>∃(p:Addr) (ns:List Int),xs=[.ref p]/\(lX X.K H p (ns.map V.int)\/lY X.K H p (ns.map V.int))/\0<ns.length/\Q (.int (Q7 gt ns)) H
theorem Fs(hc:X.calm=true):O2 X (.builtin "min") (Mv X false):=by
 intro pins s σ H xs us Q I r h;obtain⟨p,ns,rfl,hq,h0,q⟩:=h;obtain⟨u,rfl,rx⟩:=Ai r;cases rx;have hh:X.A.handled=none:=I.ok.hd hc;refine call_min_walk (XC I hh hq fun o P T W st low key=>?_)
 refine⟨_,_,_,_,_,_,_,rfl,W,st,low,h0,CmpOf.ints_lt (fun i=>ns.getD i 0) (fun i v hv=>(key i v hv).2),fun v h' tk hP hk=>?_⟩
 obtain⟨_,t,rfl⟩:=key _ v hP;exact⟨.int _,H,I.kept (t':=tk) (Vc hk),⟨t,rfl⟩,q⟩
def Q8(gt:Bool):List D->Option D
 |[.lst ds]=>(jY ds).bind fun ns=>if ns.isEmpty then none else some (.int (Q7 gt ns))
 |[.tup ds]=>(jY ds).bind fun ns=>if ns.isEmpty then none else some (.int (Q7 gt ns))
 |_=>none
theorem XD{gt:Bool}:Z1 X B (Mv X gt) (Q8 gt):=by
 intro G σ env H xs ds c Q rl r e k;unfold Q8 at e;split at e
 ·rename_i ds
  obtain⟨x,rfl,q⟩:=U8 r;obtain⟨ns,e1,e2⟩:=C7 e;split at e2
  ·cases e2
  ·rename_i h0
   cases e2;simp only[b0]at q;obtain⟨a,ys,rfl,h1,h2⟩:=q;have:=BK h2 e1;subst this;exact⟨a,ns,rfl,.inl (rl.sub.sqL h1),by cases ns with|nil=>simp at h0|cons _ _=>simp,k _ G H (.refl rl) (by simp only[b0])⟩
 ·rename_i ds
  obtain⟨x,rfl,q⟩:=U8 r;obtain⟨ns,e1,e2⟩:=C7 e;split at e2
  ·cases e2
  ·rename_i h0
   cases e2;simp only[b0]at q;obtain⟨a,ys,rfl,h1,h2⟩:=q;have:=BK h2 e1;subst this;exact⟨a,ns,rfl,.inr (rl.sub.sqT h1),by cases ns with|nil=>simp at h0|cons _ _=>simp,k _ G H (.refl rl) (by simp only[b0])⟩
 ·cases e
end
section
variable{X:Cx}{B:OA}{pos:Pos}{a b c e:Expr}{ms:Mo (List D)}
end
def qB(t:Mo Bool)(b:Mo Fl):Nat->Mo Fl
 |0,_=>none
 |n+1,env=>(t env).bind fun p=>if p.1=true then(b p.2).bind fun q=>match q.1 with
  |.nx=>qB t b n q.2
  |.ct=>qB t b n q.2
  |.bk=>some (.nx,q.2)
  |f=>some (f,q.2)else some (.nx,p.2)
def IK(n:Nat)(t:Mo Bool)(b:Mo Fl):Mo Fl:=qB t b n
section
variable{X:Cx}{B:OA}{pos:Pos}{c:Expr}{t:Mo Bool}
theorem IL{body:List Stmt}{mbd:Mo Fl}{n:Nat}(hp:PassesOwn (model X.prog X.w) X.A X.env X.xe)(hc:ET X B c t)(hb:pD X B body mbd):ES X B (.While c body [] pos) (IK n t mbd):=by
 refine jZ (Sq hp hc hb) ?_
 rintro D σ H ⟨G,env,fl,env',rl,e,k⟩;refine⟨fun m σ2 H2=>∃G2 f9,Ev X.K B G σ env H G2 σ2 f9 H2/\qB t mbd m f9=some (fl,env'),⟨n,G,env,.refl rl,e⟩,?_⟩
 rintro m σ2 H2 ⟨G2,f9,d7,e2⟩;cases m with
 |zero=>cases e2
 |succ m=>
  obtain⟨⟨b1,mL⟩,e3,e4⟩:=C7 e2;refine⟨G2,f9,b1,mL,d7.rel,e3,fun G3 H3 mR=>?_⟩
  have o9:=d7.trans mR
  cases b1 with
  |false=>
   simp only[Zz,Yu]at e4 ⊢;cases e4;exact k σ2 G3 H3 o9
  |true=>
   simp only[Zm]at e4 ⊢;refine⟨fun σ' H'=>∃G4 mM,Ev X.K B G σ env H G4 σ' mM H'/\qB t mbd m mM=some (fl,env'),fun σ' H' q=>⟨m,Tj m,q⟩,?_⟩
   obtain⟨⟨pV,lU⟩,e6,e7⟩:=C7 e4;refine⟨G3,mL,pV,lU,mR.rel,e6,?_⟩;cases pV with
   |nx=>exact fun σ6 G6 H6 lV=>⟨G6,lU,o9.trans lV,e7⟩
   |ct=>exact fun σ6 G6 H6 lV=>⟨G6,lU,o9.trans lV,e7⟩
   |bk=>cases e7;exact fun σ6 G6 H6 lV=>k σ6 G6 H6 (o9.trans lV)
   |ret d=>cases e7;exact fun v σ6 G6 H6 lV=>k v σ6 G6 H6 (o9.trans lV)
   |retL d=>cases e7;exact fun a xs σ6 G6 H6 lV=>k a xs σ6 G6 H6 (o9.trans lV)
end
section
variable{X:Cx}{B:OA}{pos:Pos}{e:Expr}{ma:Mo D}{ml:Mo (List D)}
end
section
variable{prog:Program}{w:World}{A:Around}{E:OE}{s:Shared}{c:Bool}
end
section
variable{prog:Program}{w:World}{A:Around}{E:OE}{s:Shared}
end
section
variable{X:Cx}{B:OA}{pos p:Pos}{a:Expr}{ms:Mo (List D)}{elts:List Expr}{kk:Nat}{tp:Pos}
end
theorem Mw{P:Program}{w:World}{H:Hp}{h h':Heap}(x:mI P w H h)(k:∀b u o,H b=some u->h.get? b=some o->h'.get? b=some o):mI P w H h':=fun a o e=>
 (x a o e).stay (fun b u hb q=>by
  rcases hb with rfl|hb
  ·exact k _ _ _ e q
  ·exact k _ _ _ hb q) (fun _ q=>q) fun _ _ q=>q
def nD(P:Program)(w:World):pJ:=fun outer H s E ev s'=>
 ∃(e t C:Addr) (H':Hp) (Bh:Heap),ev=.ref e/\s'.os=s.os/\AllBare s'.gens/\Heap.FlyingW Bh outer e (.ref C) (.ref t) s'.heap/\
  Un (lL outer) [] H H' s.heap s'.heap/\mI P w H' Bh/\(∀b o,s.heap.get? b=some o->H b=none->b∉lL outer->Bh.get? b=some o)/\
  (∀b o,s.heap.get? b=some o->b∉lL outer->∃o',Bh.get? b=some o')/\E (.ref C) none H'
section
variable{X:Cx}{pins:OX}{σ:St}{H H':Hp}{s s':Shared}{E:XK}{e t C:Addr}{Bh:Heap}
theorem Ft(hst:X.stack=X.env::X.outer)(hfr:X.env.frame=some X.env.locals)(hex:X.ex=[])(I:Inv X pins σ H s)(os:s'.os=s.os)(bare:AllBare s'.gens)(fly:Heap.FlyingW Bh X.outer e (.ref C) (.ref t) s'.heap)
  (kept:∀b o,s.heap.get? b=some o->H b=none->b∉lL X.stack->Bh.get? b=some o)
  (thr:∀b o,s.heap.get? b=some o->b∉lL X.stack->∃o',Bh.get? b=some o')
  (slots:∀b o,s.heap.get? b=some o->H b=none->b∈X.fs->∃sl,s'.heap.get? b=some {o with slots:=sl})
  (free:∀b o,s.heap.get? b=some o->H b=none->H' b=none)(tups:∀b xs,H b=some (.tup xs)->H' b=some (.tup xs))(frzs:∀b o u,H b=some (.frz o u)->H' b=some (.frz o u))
  (tbls:∀b ps,H b=some (.tbl ps)->∃more,H' b=some (.tbl (ps++more)))(hok:mI X.prog X.w H' Bh)(hE:E (.ref C) none H'):
  nD X.prog X.w X.outer X.H₀ X.s₀ E (.ref e) s':=by
 have nb:∀b o,X.s₀.heap.get? b=some o->b∉X.fs->b∉lL X.stack:=fun b o q n z=>by
  rw[hst]at z;unfold lL at z;rw[Jb,hfr]at z
  rcases Qg.mp z with z|z
  ·exact absurd (Qu q) (Nat.not_lt.mpr (by rw[z];exact I.ok.above))
  ·exact n z
 have nx:∀b,b∉X.ex:=fun b z=>by rw[hex]at z;cases z
 refine⟨e,t,C,H',Bh,rfl,os.trans I.os,bare,fly,⟨fun b o q n hb _=>?_,fun b o q n hb _=>?_,fun b o q n _=>?_,fun b o q _=>?_,fun b xs q=>tups b xs (I.base.tups b xs q),fun b o u q=>frzs b o u (I.base.frzs b o u q),fun b ps q=>?_⟩,hok,fun b o q n hb=>?_,fun b o q hb=>?_,hE⟩
 ·exact fly.1 b o (kept b o (I.base.keep b o q n hb (nx b)) (I.base.free b o q n (nx b)) (nb b o q hb))
 ·obtain⟨sl,q1⟩:=I.base.slot b o q n hb (nx b)
  obtain⟨sl',q2⟩:=slots b _ q1 (I.base.free b o q n (nx b)) hb;exact⟨sl',q2⟩
 ·obtain⟨o',q1⟩:=I.base.there b o q (nx b)
  exact free b o' q1 (I.base.free b o q n (nx b))
 ·obtain⟨o',q1⟩:=I.base.there b o q (nx b)
  by_cases hb:b∈X.fs
  ·obtain⟨sl,q2⟩:=slots b _ q1 (I.base.free b o q (I.ok.frf b hb) (nx b)) hb
   exact⟨_,q2⟩
  ·obtain⟨o2,q2⟩:=thr b o' q1 (nb b o q hb)
   exact⟨o2,fly.1 b o2 q2⟩
 ·obtain⟨m1,e1⟩:=I.base.tbls b ps q
  obtain⟨m2,e2⟩:=tbls b _ e1;exact⟨m1++m2,by rw[e2,Array.append_assoc]⟩
 ·exact kept b o (I.base.keep b o q n hb (nx b)) (I.base.free b o q n (nx b)) (nb b o q hb)
 ·obtain⟨o',q1⟩:=I.base.there b o q (nx b)
  exact thr b o' q1 (nb b o q hb)
structure rO(X:Cx)(E:XK):Prop where
 pass:Da (nD X.prog X.w) X E
 made:∀(pins:OX) (σ:St) (H:Hp) (s:Shared) (h':Heap) (e C:Addr) (vs:List Value),Inv X pins σ H s->Heap.MadeExcOf s.heap h' e (.ref C) vs->E (.ref C) none H->X.xe (.ref e) {s with heap:=h'}
end
theorem EK{P:Program}{w:World}{K:Qq}{mg:OU}{base:Heap}{N:List Str}{qual:Str}{scope:Scope}{f:Addr}{cd:Value}{A:Around}{outer:List Env}{s₀:Shared}{H₀:Hp}{E:XK}:
  rO (M9 (nD P w) P w K mg base N qual scope f cd A outer s₀ H₀ E) E:=by
 refine⟨fun pins σ H s ev s' I h=>?_,fun pins σ H s h' e C vs I hm hE=>?_⟩
 ·obtain⟨e,t,C,H',Bh,rfl,os,bare,fly,un,hok,kept,thr,hE⟩:=h
  refine wpAny_leaves_onW (L:=s₀.heap.objs.size) I.ok.frames rfl fly fun h2 fly2 ups=>?_
  refine Ft (X:=M9 (nD P w) P w K mg base N qual scope f cd A outer s₀ H₀ E) rfl rfl rfl I os bare fly2 kept thr (fun b o q n hb=>?_) (fun b o q n=>un.free b o q n (by simp)) un.tups un.frzs un.tbls hok hE
  obtain⟨sl,q1⟩:=un.any q n (by simp)
  obtain⟨_,o1,g1,g2⟩:=I.funs.mem hb;rw[q]at g1;cases g1;obtain⟨sl2,q2⟩:=ups b _ q1 g2;exact⟨sl2,q2⟩
 ·have hst:=I.stack
  have hmem:∀{b:Addr},b∈lL (M9 (nD P w) P w K mg base N qual scope f cd A outer s₀ H₀ E).stack->H b=none:=fun{b} hb=>I.stkFree b hb
  refine wpAny_leaves_madeW (L:=s₀.heap.objs.size) (base:=PySem.W.hideAll s.heap (lL (M9 (nD P w) P w K mg base N qual scope f cd A outer s₀ H₀ E).stack)) (h:=s.heap) I.ok.frames rfl (fun b o q=>PySem.W.of_hideAll _ q)
   (PySem.W.funFrames_hide hst fun env he b hb=>Xb.mpr ⟨env,he,hb⟩) hm fun h2 t fly _ hn ups=>?_
  refine Ft (X:=M9 (nD P w) P w K mg base N qual scope f cd A outer s₀ H₀ E) (s:=s) (s':={s with heap:=h2}) rfl rfl rfl I rfl I.bare fly (fun b o q _ hb=>Jc _ q hb) (fun b o q hb=>⟨o,Jc _ q hb⟩) (fun b o q n hb=>?_) (fun b o q n=>n) (fun _ _ q=>q) (fun _ _ _ q=>q) (fun b ps q=>⟨#[],by rw[q];simp⟩) ?_ hE
  ·obtain⟨_,o1,g1,g2⟩:=I.funs.mem hb
   rw[q]at g1;cases g1;obtain⟨sl2,q2⟩:=ups b _ (hm.keeps b o q) g2;exact⟨sl2,q2⟩
  ·exact Mw (P:=P) (w:=w) I.hok fun b u o q1 q2=>Jc _ q2 fun z=>by rw[hmem z]at q1;cases q1
theorem PS.nox{X:Cx}{st:Stmt}{t:TS}(h:PS X.nox st t):PS X st t:=fun pins s σ H D I hw=>
 Qi (h pins s σ H D (I.wish _) hw) (fun _ _ q=>q.unwish) fun _ _ z=>False.elim z
theorem PA.nox{X:Cx}{es:List Expr}{t:TA}(h:PA X.nox es t):PA X es t:=fun pos pins s σ H Q I hw=>
 Qi (h pos pins s σ H Q (I.wish _) hw) (fun _ _ ⟨v,H',I',r,q⟩=>⟨v,H',I'.unwish,r,q⟩) fun _ _ z=>False.elim z
def sD:List Value:=[.type "ValueError",.type "Exception",.type "BaseException",.type "object"]
def BO(K:Qq)(n:Str):Bool:=match PySem.W.nsIn K mainGlobals n with
 |some (some (.ref C))=>PySem.W.excIn K C sD "ValueError.__new__"
 |_=>false
theorem My{K:Qq}{n:Str}(h:BO K n=true):∃C,PySem.W.nsIn K mainGlobals n=some (some (.ref C))/\PySem.W.excIn K C sD "ValueError.__new__"=true:=by
 unfold BO at h;split at h
 ·rename_i C hC;exact⟨C,hC,h⟩
 ·cases h
theorem XE{K:Qq}{h₀:Heap}{mg:OU}{x:Str}{C:Addr}{bmB:List Value}{newId:String}(X:K.In h₀)(G:h₀.Ns mainGlobals mg)(e:PySem.W.nsIn K mainGlobals x=some (some (.ref C)))(q:PySem.W.excIn K C bmB newId=true):OwnCls x C bmB newId mg h₀:=by
 refine⟨Xc X G e,?_⟩;unfold PySem.W.excIn at q;split at q
 ·rename_i dd cd sl ho
  split at q
  ·rename_i C' bm k0 k1 k2 k3 n k5 hm hs
   simp only[Qw,Ym,Xs]at q;obtain⟨⟨⟨⟨⟨rfl,rfl⟩,hdel⟩,ht⟩,hok⟩,hni⟩:=q;obtain⟨nm,bs,mro,ns,qn,hd,sn,sub,ab,col,del⟩:=cd;dsimp only at hm hdel hok hni;subst hm hdel;have nK:sl= #[k0,k1,k2,k3,some (.builtin n),k5]:=by
    obtain⟨l⟩:=sl;simp only at hs;rw[hs]
   subst nK;exact⟨bm,ns,nm,qn,bs,hd,sn,sub,ab,col,dd,k0,k1,k2,k3,k5,_,X _ _ ho,.of_isNs (PySem.W.isNs_of_in X hok),PySem.W.nsMap_none_of_in X hok hni,PySem.W.tail_of_in X ht⟩
  ·cases q
 ·cases q
abbrev Mx:=a9->Option Str
section
variable(K:Qq)(B:OA)(E:XK)
def XW(G:Hp)(σ:St)(env:a9)(H:Hp)(n:Str):Prop:=∃C,PySem.W.nsIn K mainGlobals n=some (some (.ref C))/\∀σ' G' env' H',Ev K B G σ env H G' σ' env' H'->E (.ref C) none H'
def TX(m:Mx)(σ:St)(H:Hp):Prop:=∃G env n,Rel K B G σ env H/\m env=some n/\XW K B E G σ env H n
end
theorem XW.after{K:Qq}{B:OA}{E:XK}{G G1:Hp}{σ σ1:St}{env a8:a9}{H H1:Hp}{n:Str}(w:XW K B E G σ env H n)(ev:Ev K B G σ env H G1 σ1 a8 H1):XW K B E G1 σ1 a8 H1 n:=by
 obtain⟨C,h,k⟩:=w;exact⟨C,h,fun σ' G' env' H' d7=>k σ' G' env' H' (ev.trans d7)⟩
def pQ(X:Cx)(B:OA)(E:XK)(e:Expr)(m:Mx):Prop:=PE X e fun σ H _=>TX X.K B E m σ H
def wG(X:Cx)(B:OA)(E:XK)(e:Expr)(m:Mx):Prop:=PT X e fun σ H _=>TX X.K B E m σ H
def sE(X:Cx)(B:OA)(E:XK)(es:List Expr)(m:Mx):Prop:=PA X es fun σ H _=>TX X.K B E m σ H
def pW(X:Cx)(B:OA)(E:XK)(st:Stmt)(m:Mx):Prop:=PS X st fun _ σ H=>TX X.K B E m σ H
def Am(X:Cx)(B:OA)(E:XK)(st:List Stmt)(m:Mx):Prop:=m9 X st fun _ σ H=>TX X.K B E m σ H
def nO:Mx:=fun _=>none
def xOr(x y:Mx):Mx:=fun env=>match x env with
 |some n=>some n
 |none=>y env
def Q9(x:Mx)(s:Mo Fl)(y:Mx):Mx:=fun env=>match x env with
 |some n=>some n
 |none=>match s env with
  |some (.nx,a8)=>y a8
  |_=>none
def pR(t:Mo Bool)(x y:Mx):Mx:=fun env=>(t env).bind fun p=>if p.1 then x p.2 else y p.2
def AV(x:Mx)(m:Mo D)(y:Mx):Mx:=fun env=>match x env with
 |some n=>some n
 |none=>(m env).bind fun p=>y p.2
section
variable{X:Cx}{B:OA}{E:XK}{pos p:Pos}{e:Expr}{es:List Expr}{st:Stmt}{rest:List Stmt}{x1 x2:Mx}{s1:Mo Fl}{ma:Mo D}
theorem Cv:pW X B E st nO:=fun _ _ _ _ _ _ ⟨_,_,_,_,e,_⟩=>nomatch e
theorem Fu:Am X B E [] nO:=fun _ _ _ _ _ _ ⟨_,_,_,_,e,_⟩=>nomatch e
theorem IM:pQ X B E e nO:=fun _ _ _ _ _ _ ⟨_,_,_,_,e,_⟩=>nomatch e
theorem IP:sE X B E es nO:=fun _ _ _ _ _ _ _ ⟨_,_,_,_,e,_⟩=>nomatch e
theorem BP(h1:pW X B E st x1)(n1:ES X B st s1)(h2:Am X B E rest x2):Am X B E (st::rest) (Q9 x1 s1 x2):=by
 intro pins s σ H D I ⟨G,env,n,rl,e,w⟩;unfold Q9 at e;cases q:x1 env with
 |some m=>
  rw[q]at e;cases e;exact CT h1 LL pins s σ H D I ⟨G,env,_,rl,q,w⟩
 |none=>
  rw[q]at e;dsimp only at e;split at e
  ·rename_i a8 q1
   exact CT n1 h2 pins s σ H D I ⟨G,env,.nx,a8,rl,q1,fun σ1 G1 H1 ev=>⟨G1,a8,n,ev.rel,e,w.after ev⟩⟩
  ·cases e
theorem AW(h1:pW X B E st x1):Am X B E [st] x1:=by
 intro pins s σ H D I h;exact CT h1 LL pins s σ H D I h
theorem Fv{c:Expr}{s t:List Stmt}{tc:Mo Bool}(hc:ET X B c tc)(h1:Am X B E s x1)(h2:Am X B E t x2):pW X B E (.If c s t pos) (pR tc x1 x2):=by
 intro pins sh σ H D I ⟨G,env,n,rl,e,w⟩;obtain⟨⟨b1,a8⟩,e1,e2⟩:=C7 e;dsimp only at e2;refine LJ hc h1 h2 pins sh σ H D I ⟨G,env,b1,a8,rl,e1,fun G1 H1 ev=>?_⟩
 cases b1 with
 |true=>simp only[Zm]at e2 ⊢;exact⟨G1,a8,n,ev.rel,e2,w.after ev⟩
 |false=>simp only[Zz,Yu]at e2 ⊢;exact⟨G1,a8,n,ev.rel,e2,w.after ev⟩
theorem EM(h1:pQ X B E e x1)(n1:ED X B e ma)(h2:sE X B E es x2)(hs:starEach (e::es) X.env=(false,eval e X.env)::starEach es X.env:=by rfl):sE X B E (e::es) (AV x1 ma x2):=by
 intro pos pins s σ H Q I ⟨G,env,n,rl,e,w⟩;unfold AV at e;cases q:x1 env with
 |some m=>
  rw[q]at e;cases e;exact O5 h1 (t:=fun _ _ _=>False) (fun _ _ _ _ _ _ _ z=>z.elim) hs pos pins s σ H Q I ⟨G,env,_,rl,q,w⟩
 |none=>
  rw[q]at e;obtain⟨⟨d,a8⟩,e1,e2⟩:=C7 e;exact O5 n1 h2 hs pos pins s σ H Q I ⟨G,env,d,a8,rl,e1,fun v G1 H1 ev r=>⟨G1,a8,n,ev.rel,e2,w.after ev⟩⟩
theorem XF(h:pQ X B E e x1)(hsw:swapsWith e none pos.line X.env=pure false:=by rfl):pW X B E (.Expr e pos) x1:=fun pins s σ H D I q=>HJ h hsw pins s σ H D I q
theorem IQ(h:pQ X B E e x1):pW X B E (.Return (some e) pos) x1:=fun pins s σ H D I q=>HK h pins s σ H D I q
theorem XG{i:Nat}{x:Str}{pos':Pos}(hN:X.N.Nodup)(hi:X.N[i]? =some x)(hx:Loc X.env.scope x)(h:pQ X B E e x1)(hs:swapsWith e (some (.Name x pos')) pos.line X.env=pure false:=by rfl)
  (hf:X.fn x=true\/X.env.scope.names.lookup x=some .local:=by first|exact .inl rfl|exact .inr rfl|assumption):pW X B E (.Assign [.Name x pos'] e pos) x1:=fun pins s σ H D I q=>CU hN hi hx h hs hf pins s σ H D I q
def EN(n:Str)(ms:Mo (List D)):Mx:=fun env=>(ms env).bind fun p=>if p.1.length≤1000 then some n else none
theorem Fw{n:Str}{ms:Mo (List D)}{np cpos:Pos}(hx:rO X E)(hc:X.calm=true)(ho:BO X.K n=true)(hg:Gl X n)(ha:oP X B (e::es) ms)
  (he:starEach (e::es) X.env=(false,eval e X.env)::starEach es X.env:=by rfl)(hpl:(backTo cpos (starEach es X.env)).any (·.1)=false:=by rfl)(hd:(n==("__debug__":Str))=false:=by decide):
  pW X B E (.Raise (some (.Call (.Name n np) (e::es) [] cpos)) none pos) (EN n ms):=by
 intro pins s σ H D I ⟨G,env,c,rl,em,w⟩;obtain⟨⟨ds,a8⟩,e1,e2⟩:=C7 em;dsimp only at e2;split at e2
 ·rename_i hl
  cases e2;obtain⟨C,hC,hw⟩:=w;obtain⟨C',hC',hex⟩:=My ho;rw[hC]at hC';cases hC';have O:=XE I.mod.kin I.mod.glob hC hex;obtain⟨tl,N,nm,q,bs,hdct,sn,sub,ab,col,dd,k0,k1,k2,k3,k5,mN,hCo,hN,hni,T⟩:=O.obj;refine wpAny_Raise_call_subU (C:=C) (nm:=nm) (q:=q) (N:=N) (bs:=bs) (bm:=tl) (hdct:=hdct) (sn:=sn) (sub:=sub) (ab:=ab) (col:=col) (dd:=dd) (k0:=k0) (k1:=k1) (k2:=k2) (k3:=k3) (k5:=k5)
   PySem.F.excBase_ValueError (by rfl') PySem.F.excBase_ValueError (mN:=mN) (T.hasType PySem.F.excBase_ValueError.hasBase) (I.ok.hd hc) (by rw[he];show(false||(backTo cpos (starEach es X.env)).any (·.1))=false;rw[hpl];rfl) hni (DX I hg O.bound ⟨rfl,?_⟩ hd)
  have h1:=ha cpos pins s σ H (fun vs H1=>vs.length≤sizeLine/\E (.ref C) none H1) I ⟨G,env,ds,a8,rl,e1,fun vs G1 H1 ev r=>⟨by rw[r.length];exact Jx (Dk hl),hw σ G1 a8 H1 ev⟩⟩
  rw[he]at h1 ⊢;refine Calls.evalArgs_plain (Qi h1 (fun us s2 ⟨vs,H2,I2,r2,q1,q2⟩=>⟨rfl,by rw[←r2.length];exact q1,I2.bk _ _ hCo,hN.keeps I2.bk,T.keeps I2.bk,fun h' e hm=>?_⟩) fun _ _ y=>y)
  exact hx.made pins σ H2 s2 h' e C us I2 hm q2
 ·cases e2
def pX(K:Qq)(n:Nat)(g:List W->Option Str):Sp:=fun vs H _ E=>∃G ws c C,ws.length=n/\Cj ws/\Rel K N4 G (vs.map some) ws H/\g ws=some c/\PySem.W.nsIn K mainGlobals c=some (some (.ref C))/\
 ∀G' ws' H',Ev K N4 G (vs.map some) ws H G' (vs.map some) ws' H'->E (.ref C) none H'
structure m8(P:Program)(w:World)(K:Qq)(mg:OU)(base:Heap)(x:Str)(k n:Nat)(g:List W->Option Str):Prop where
 ex:∃(f:Addr) (fd:FuncData) (ps:List Str),f6 P w K mg base (nD P w) k f fd ps (pX K n g)/\ps.length=n/\mg x=some (.ref f)/\PySem.W.keepIn K (.ref f)=true/\O6 K fd ps []
def Ao(n:Nat)(g:List W->Option Str)(as:Mo (List Ar)):Mx:=fun env=>(as env).bind fun p=>if p.1.length=n then(match slots p.1 with
 |[]=>g (p.1.map (N1 (.l [])))
 |_=>none)else none
theorem ER{x:Str}{k n:Nat}{g:List W->Option Str}{as:Mo (List Ar)}(hx:rO X E)(Df:m8 X.prog X.w X.K X.mg X.base x k n g)(hr:g9 k X.A)(hg:Gl X x)(ha:pC X B (e::es) as)(hdb:(x==("__debug__":Str))=false:=by decide)
  (he:starEach (e::es) X.env=(false,eval e X.env)::starEach es X.env:=by rfl)(hpl:(backTo pos (starEach es X.env)).any (·.1)=false:=by rfl):
  pQ X B E (.Call (.Name x p) (e::es) [] pos) (Ao n g as):=by
 obtain⟨f,fd,ps,F,rfl,hm,hk,hb⟩:=Df.ex;intro pins s σ H Q I ⟨G,env,c,rl,em,C,hC,w⟩;refine Dc F hr hg hm hk hb .nil hx.pass ha hdb he hpl pins s σ H Q I ?_
 obtain⟨⟨av,a8⟩,e1,e2⟩:=C7 em;dsimp only at e2;split at e2
 ·rename_i hn
  split at e2
  ·rename_i hs
   refine⟨G,env,av,a8,rl,e1,fun vs G1 H1 ev ra=>?_⟩
   show pX X.K ps.length g (vs++[]) H1 Q E;rw[Yg];exact⟨G1,av.map (N1 (.l [])),c,C,by rw[Qk];exact hn,Fb,Fc (i:=0) (w:=.nil) ev.rel ra (fun k j e=>absurd e (AO hs k j)) (fun k k' j j' e=>absurd e (AO hs k j)),e2,hC,
    fun G2 ws' H2 d7=>w σ G2 a8 H2 (ev.trans (Fd ev.rel ra hs d7))⟩
  ·cases e2
 ·cases e2
theorem IS{x:Str}{k n:Nat}{fn:Fn}{xa:Mx}(Df:Def X.prog X.w X.K X.mg X.base x k n fn)(hr:g9 k X.A)(hg:Gl X x)(ha:sE X B E (e::es) xa)(hdb:(x==("__debug__":Str))=false:=by decide)
  (he:starEach (e::es) X.env=(false,eval e X.env)::starEach es X.env:=by rfl)(hpl:(backTo pos (starEach es X.env)).any (·.1)=false:=by rfl):
  pQ X B E (.Call (.Name x p) (e::es) [] pos) xa:=by
 obtain⟨f,fd,ps,F,rfl,hm,hk,hb⟩:=Df.ex;intro pins s σ H Q I q;exact Dc F hr hg hm hk hb .nil (Dj (X:=X)) ha hdb he hpl pins s σ H Q I q
end
def rP(N:Nat)(mx:Mx):List W->Option Str:=fun ws=>mx (ws++List.replicate (N-ws.length) .nil)
theorem EU{P:Program}{w:World}{K:Qq}{mg:OU}{base:Heap}{x qual:Str}{st:Stmt}{f:Addr}{fd:FuncData}{N ps:List Str}{k:Nat}{mx:Mx}(F:kM K x qual st f fd)(S:c4 N ps (E8 st))
  (hb:∀(cdv:Value) (A:Around) (outer:List Env) (s:Shared) (H:Hp) (E:XK),g9 k (A.deeper (envOfC qual (E8 st) s.heap.objs.size f cdv))->
   Am (M9 (nD P w) P w K mg base N qual (E8 st) f cdv A outer s H E) (fun b=>H b≠none) E (X1 st) mx):f6 P w K mg base (nD P w) (k+1) f fd ps (pX K ps.length (rP N.length mx)):=by
 have hpl:ps.length≤N.length:=by have:=Za List.length S.pre;rw[Yi]at this;omega
 obtain⟨oc,od,kV,doc,pm,an,cdv,ct,osl,rfl,lk,hcd⟩:=F.ex;refine HX lk hcd S (fun vs H Q E h=>?_) fun A outer s H vs Q E hr h=>?_
 ·obtain⟨G,ws,c,C,hl,ok,rl,_⟩:=h
  have:=rl.len;rw[Qk]at this;omega
 ·obtain⟨G,ws,c,C,hl,ok,rl,e,hC,k⟩:=h
  have hv:ws.length=vs.length:=by have:=rl.len;rwa [Qk]at this
  exact⟨_,hb cdv A outer s H E hr,G,_,c,Ho (N:=N) rl ok (by omega),e,C,hC,fun σ' G' env' H' ev=>k G' (U9 ws env') H' (Bw rl ok (by omega) ev)⟩
open PySem.W Builtin Builtin.ObjectAttr Builtin.Getset_descriptor PySem.Calls
def U1(e C:Addr)(h:Heap):Prop:=∃o,h.get? e=some o/\o.cls=.ref C
theorem U1.type{e C:Addr}{h:Heap}{M:Model}(p:U1 e C h):Looks M h (typeOf (.ref e)) (.ref C):=by
 obtain⟨o,h1,h2⟩:=p;exact h2 ▸ (Looks.ld h1).andThen .now
section
variable{prog:Program}{w:World}{A:Around}{E:OE}{K:Frag}{x C:Addr}{h:Heap}{g:Array GenState}{d:Drawn}{t:Nat}{os:OsState}
theorem XH{R:Result->Shared->Prop}{tp:Value}(X:K.In h)(I:U1 x C h)(hm:mroIn K C (.type "object")=some true)
  (hq:R (.ok (.ret (.ref C))) ⟨h,g,d,t,os⟩):codeAny (model prog w) A (.call (.builtin "getset_descriptor.__get__") ⟨[.builtin "object.__class__",.ref x,tp],[]⟩) R ⟨h,g,d,t,os⟩:=by
 have L0:=I.type (M:=model prog w)
 have L1:=looks_mroIn (M:=model prog w) X hm
 refine Ui KF.slot_gs.plain KF.entry_gs (KF.slot_gs.check _ _ _ _ _ _ _ _ KF.type_class (KF.args_gs _ _ _) ?_);unfold Builtin.«getset_descriptor.__get__» descrGet;rw[dga_obj];refine Qz (Qv ?_);unfold descrGetter descrCheckInstance descrNameAndClass isInstance;simp only[KF.owner_class]
 repeat (first|with_reducible refine L0.at ?_|with_reducible refine L1.at ?_|wp_step)
 refine⟨Code.quiet_builtin _ (by rfl'),codeAny_builtin KF.entry_class ?_⟩
 unfold Builtin.«object.__class__» shownTypeOf
 repeat (first|with_reducible refine L0.at ?_|with_reducible refine L1.at ?_|wp_step)
 exact hq
theorem XI(X:K.In h)(I:U1 x C h)(ha:findIn K (.ref C) "__class__"=some (some (.builtin "object.__class__")))
  (hn:specialIn K (.builtin "object.__class__") "__get__"=some (some (.builtin "getset_descriptor.__get__")))(htk:takesIn K (.builtin "object.__class__")=some true)(M:Model):
  Looks M h (find (.ref x) (.ref C) "__class__") (.bind (.builtin "getset_descriptor.__get__") (.builtin "object.__class__")):=by
 have L1:=looks_findIn (M:=M) X ha
 have L2:Looks M h (getOf (some (.builtin "object.__class__"))) (some (.builtin "getset_descriptor.__get__")):=looks_specialIn X hn
 have L3:=looks_takesIn (M:=M) X htk
 exact L1.andThen (L2.andThen ((show Looks M h (dataDescriptor? (some (.builtin "object.__class__")) (some (.builtin "getset_descriptor.__get__"))) (some (.builtin "getset_descriptor.__get__",.builtin "object.__class__"))from L3.andThen .now).andThen (Looks.tag .now)))
theorem XJ{tk:Tok}{Q:Fin->Shared->Prop}(X:K.In h)(I:U1 x C h)(hm:mroIn K C (.type "object")=some true)(ha:findIn K (.ref C) "__class__"=some (some (.builtin "object.__class__")))
  (hn:specialIn K (.builtin "object.__class__") "__get__"=some (some (.builtin "getset_descriptor.__get__")))(htk:takesIn K (.builtin "object.__class__")=some true)(hq:Q (.done (.ret (.ref C))) ⟨h,g,d,t,os⟩):
  wpAny (model prog w) A (Builtin.«object.__getattribute__» ⟨[.ref x,.str "__class__" tk],[]⟩) Q E ⟨h,g,d,t,os⟩:=by
 have L0:=I.type (M:=model prog w)
 have L1:=XI X I ha hn htk (model prog w)
 unfold Builtin.«object.__getattribute__»
 repeat (any_goals (first|assumption|with_reducible refine L0.at ?_|with_reducible refine L1.at ?_|wp_step))
 refine XH X I hm ?_
 repeat (any_goals (first|assumption|wp_step))
theorem XM{M:Model}{nameV:Value}{Q:Unit->Shared->Prop}(X:K.In h)(I:U1 x C h)(hm:mroIn K C (.type "BaseException")=some true)(hq:Q () ⟨h,g,d,t,os⟩):
  wpAny M A (checkBuiltinCall "BaseException.__getattribute__" ⟨[.ref x,nameV],[]⟩) Q E ⟨h,g,d,t,os⟩:=by
 have hk:builtinKind "BaseException.__getattribute__"=some .slot:=by rfl'
 have hsplit:splitId "BaseException.__getattribute__"=some ("BaseException","__getattribute__"):=by rfl'
 have L0:=I.type (M:=M)
 have L1:=looks_mroIn (M:=M) X hm
 have ha:=F.args_bexc_ga (.ref x) nameV
 simp only[checkBuiltinCall,hk,hsplit];refine Qz ?_
 unfold isInstance
 repeat (first|with_reducible refine L0.at ?_|with_reducible refine L1.at ?_|wp_step)
 exact hq
theorem XN{tk:Tok}{fill expr:Bool}{Q:OE}(X:K.In h)(I:U1 x C h)(hmB:mroIn K C (.type "BaseException")=some true)(hm:mroIn K C (.type "object")=some true)(ha:findIn K (.ref C) "__class__"=some (some (.builtin "object.__class__")))
  (hn:specialIn K (.builtin "object.__class__") "__get__"=some (some (.builtin "getset_descriptor.__get__")))(htk:takesIn K (.builtin "object.__class__")=some true)
  (hga:findIn K (.ref C) "__getattribute__"=some (some (.builtin "BaseException.__getattribute__")))(hno:findIn K (.ref C) "__getattr__"=some none)(hq:Q (.ref C) ⟨h,g,d,t,os⟩):
  wpAny (model prog w) A (getAttrBy (.ref x) (.str "__class__" tk) fill expr) Q E ⟨h,g,d,t,os⟩:=by
 have L0:=I.type (M:=model prog w)
 have L1:=looks_findIn (M:=model prog w) X hga
 have L2:=looks_findIn (M:=model prog w) X hno
 have f3:=F.attrBase_ValueError.ga.bind (.ref x)
 have hx0:(expr&&onTheHeap (Value.builtin "BaseException.__getattribute__"))=false:=by cases expr<;>rfl
 have hx2:(Value.builtin "BaseException.__getattribute__"==Value.builtin "object.__getattribute__")=false:=by rfl'
 have hx1:(onTheHeap (Value.ref C)&&Value.builtin "BaseException.__getattribute__"==Value.builtin "object.__getattribute__")=false:=by rw[hx2];rfl
 repeat (any_goals (first|assumption|with_reducible refine L0.at ?_|with_reducible refine L1.at ?_|with_reducible refine L2.at ?_|wp_step))
 refine Ui F.attrBase_ValueError.ga.plain F.entry_bexc_ga (XM X I hmB (XJ X I hm ha hn htk ?_))
 repeat (any_goals (first|assumption|wp_step))
theorem XO{Q:Option Value->Shared->Prop}(X:K.In h)(I:U1 x C h)(hmB:mroIn K C (.type "BaseException")=some true)(hm:mroIn K C (.type "object")=some true)(ha:findIn K (.ref C) "__class__"=some (some (.builtin "object.__class__")))
  (hn:specialIn K (.builtin "object.__class__") "__get__"=some (some (.builtin "getset_descriptor.__get__")))(htk:takesIn K (.builtin "object.__class__")=some true)
  (hga:findIn K (.ref C) "__getattribute__"=some (some (.builtin "BaseException.__getattribute__")))(hno:findIn K (.ref C) "__getattr__"=some none)(hq:Q (some (.ref C)) ⟨h,g,d,t+1,os⟩):
  wpAny (model prog w) A (getAttr? (.ref x) "__class__") Q E ⟨h,g,d,t,os⟩:=by
 unfold getAttr? getAttrBy?
 repeat (any_goals (first|assumption|with_reducible apply XN X I hmB hm ha hn htk hga hno|wp_step))
end
def XQ:List String:=["tuple","list","int","bool","str"]
def X8(K:Frag)(C:Addr):Bool:=
 (mroIn K C (.type "BaseException")==some true)&&((mroIn K C (.type "object")==some true)&&((findIn K (.ref C) "__class__"==some (some (.builtin "object.__class__")))&&((specialIn K (.builtin "object.__class__") "__get__"==some (some (.builtin "getset_descriptor.__get__")))&&
 ((takesIn K (.builtin "object.__class__")==some true)&&((findIn K (.ref C) "__getattribute__"==some (some (.builtin "BaseException.__getattribute__")))&&((findIn K (.ref C) "__getattr__"==some none)&&((clsIn K C).isSome&&((kitOne K (.ref C) (.type "ValueError")==some true)&&XQ.all fun T=>kitOne K (.ref C) (.type T)==some false))))))))
theorem XR{K:Frag}{e C:Addr}(h:X8 K C=true):KitX K (.ref e) (.ref C) (U1 e C):=by
 unfold X8 at h;simp only[Qw,Ym]at h;obtain⟨h1,h2,h3,h4,h5,h6,h7,h8,_,_⟩:=h;obtain⟨cdD,hcD⟩:=Yj.mp h8;refine⟨fun _ _ _ p=>p.type,fun _ _ X _=>?_,fun h tp dd its n sl X htp=>?_,fun{prog w A E Q s} X I k=>?_⟩
 ·unfold clsIn at hcD
  split at hcD
  ·rename_i c' d' cd' sl' ho
   intro A' Q' E' s' k q;unfold isType loadHead;exact Qz (wpAny_loadPart (k _ _ (X _ _ ho)) (Qv q))
  ·cases hcD
 ·refine Bool.eq_false_iff.mpr fun q=>?_
  have e:C=tp:=Value.ref.inj (Ym.mp q)
  subst e;unfold clsIn at hcD;split at hcD
  ·rename_i c' d' cd' sl' ho
   have z:=(X _ _ ho).symm.trans htp
   cases z
  ·cases hcD
 ·obtain⟨hh,g,d,t,os⟩:=s
  exact XO X I h1 h2 h3 h4 h5 h6 h7 k
theorem XS{K:Frag}{C:Addr}(h:X8 K C=true):Lx K (.ref C):=by
 unfold X8 at h;simp only[Qw]at h;obtain⟨_,_,_,_,_,_,_,_,_,h9⟩:=h;intro T hT;have:=Qy.mp h9 T hT
 simpa using this
theorem XT{K:Frag}{C:Addr}(h:X8 K C=true):kitOne K (.ref C) (.type "ValueError")=some true:=by
 unfold X8 at h;simp only[Qw]at h;obtain⟨_,_,_,_,_,_,_,_,h9,_⟩:=h
 simpa using h9
def AX(K:Frag)(S:Str)(names:List Str):Bool:=names.all fun n=>BO K n&&match nsIn K mainGlobals n with
 |some (some (.ref C))=>X8 K C&&((match nsIn K mainGlobals S with
   |some (some (.ref D))=>mroIn K C (.ref D)==some true&&(BO K S&&X8 K D)
   |_=>false)&&names.all fun m=>match nsIn K mainGlobals m with
   |some (some (.ref D))=>kitOne K (.ref C) (.ref D)==some (n==m)
   |_=>false)
 |_=>false
structure uC(K:Frag)(S:Str)(names:List Str)(n:Str)(C:Addr):Prop where
 nm:nsIn K mainGlobals n=some (some (.ref C))
 one:BO K n=true
 kit:X8 K C=true
 sub:∃D,nsIn K mainGlobals S=some (some (.ref D))/\mroIn K C (.ref D)=some true/\BO K S=true/\X8 K D=true
 pair:∀m∈names,∃D,nsIn K mainGlobals m=some (some (.ref D))/\kitOne K (.ref C) (.ref D)=some (n==m)
theorem Cw{K:Frag}{S:Str}{names:List Str}(h:AX K S names=true){n:Str}(hn:n∈names):∃C,uC K S names n C:=by
 have q:=Qy.mp h n hn
 simp only[Qw]at q;obtain⟨h1,h2⟩:=q;split at h2
 ·rename_i C hC
  simp only[Qw]at h2;obtain⟨h3,h4,h5⟩:=h2;split at h4
  ·rename_i D hD
   simp only[Qw,Ym]at h4;refine⟨C,hC,h1,h3,⟨D,hD,h4.1,h4.2.1,h4.2.2⟩,fun m hm=>?_⟩
   have:=Qy.mp h5 m hm;split at this
   ·rename_i D' hD'
    exact⟨D',hD',by simpa using this⟩
   ·cases this
  ·cases h4
 ·cases h2
def V3(names:List Str)(m:Str)(ma:Mo D):Mo D:=fun env=>(ma env).bind fun p=>match p.1 with
 |.obj (.exc n)=>if names.contains n then some (.bl (n==m),p.2)else none
 |_=>none
def NA(names:List Str)(ma:Mo D):Mo D:=fun env=>(ma env).bind fun p=>match p.1 with
 |.obj (.exc n)=>if names.contains n then some (.bl true,p.2)else none
 |_=>none
section
variable{X:Cx}{B:OA}{pos p p2:Pos}{a:Expr}{ma:Mo D}{S m:Str}{names:List Str}
theorem V4(hx:AX X.K S names=true)(hm:m∈names)(ha:ED X B a ma)(hg:Gl X "isinstance")(hi:X.mg "isinstance"=none)(hgm:Gl X m)(hdm:(m==("__debug__":Str))=false:=by decide)
  (he:starEach [a,.Name m p2] X.env=[(false,eval a X.env),(false,eval (.Name m p2) X.env)]:=by rfl):ED X B (.Call (.Name "isinstance" p) [a,.Name m p2] [] pos) (V3 names m ma):=by
 obtain⟨C0,F0⟩:=Cw hx hm;intro pins0 s0 σ0 H0 Q0 I0;have hT:PE X (.Name m p2) (tC (.ref C0)):=HI hgm (Xc I0.mod.kin I0.mod.glob F0.nm) rfl hdm;have hc:O2 X (.builtin "isinstance") (fun xs H Q=>∃x G n,xs=[x,.ref C0]/\Le G H/\b0 X.K G x (.obj (.exc n))/\n∈names/\Q (.bl (n==m)) H):=by
  intro pins s σ H xs us Q I r h;obtain⟨x,G,n,rfl,l,rp,hn,q⟩:=h;obtain⟨u,w',rfl,r1,r2⟩:=BB r;cases r2;simp only[b0]at rp;obtain⟨e,C,HP,rfl,h2,h3,h4,h5⟩:=rp;cases r1;obtain⟨C',F⟩:=Cw hx hn;have:=F.nm;rw[h2]at this;cases this;obtain⟨D,hD,hk⟩:=F.pair m hm;have:=F0.nm;rw[hD]at this;cases this;exact Zp h4 I.kIn (I.hok e _ (l _ _ h3)).1 hk (fun z=>nomatch z) fun tk=>⟨.bl _,H,I.tok _,rfl,q⟩
 refine d6 (De (pos:=pos) (p:=p) hc hg hi (by rfl') (O5 ha (O5 hT Aj) he) (he:=he)) ?_ pins0 s0 σ0 H0 Q0 I0
 rintro σ H Q ⟨G,env,d,env',rl,e,k⟩;obtain⟨⟨d1,a8⟩,e1,e2⟩:=C7 e;dsimp only at e2;split at e2
 ·rename_i n
  split at e2
  ·rename_i hn
   cases e2;exact .bind rl e1 fun v G1 H1 ev r=>⟨v,G1,n,rfl,ev.rel.sub,r,by simpa using hn,k _ G1 H1 ev (by simp only[b0])⟩
  ·cases e2
 ·cases e2
theorem NB(hx:AX X.K S names=true)(ha:ED X B a ma)(hg:Gl X "isinstance")(hi:X.mg "isinstance"=none)(hgm:Gl X "ValueError")(hmv:X.mg "ValueError"=none)
  (he:starEach [a,.Name "ValueError" p2] X.env=[(false,eval a X.env),(false,eval (.Name "ValueError" p2) X.env)]:=by rfl):ED X B (.Call (.Name "isinstance" p) [a,.Name "ValueError" p2] [] pos) (NA names ma):=by
 have hT:PE X (.Name "ValueError" p2) (tC (.ty "ValueError")):=FF hgm hmv PyProof.Rows.Boot.«ValueError» rfl
 have hc:O2 X (.builtin "isinstance") (fun xs H Q=>∃x G n,xs=[x,.ty "ValueError"]/\Le G H/\b0 X.K G x (.obj (.exc n))/\n∈names/\Q (.bl true) H):=by
  intro pins s σ H xs us Q I r h;obtain⟨x,G,n,rfl,l,rp,hn,q⟩:=h;obtain⟨u,w',rfl,r1,r2⟩:=BB r;cases r2;simp only[b0]at rp;obtain⟨e,C,HP,rfl,h2,h3,h4,h5⟩:=rp;cases r1;obtain⟨C',F⟩:=Cw hx hn;have:=F.nm;rw[h2]at this;cases this;exact Zp h4 I.kIn (I.hok e _ (l _ _ h3)).1 (XT F.kit) (fun z=>nomatch z) fun tk=>⟨.bl _,H,I.tok _,rfl,q⟩
 refine d6 (De (pos:=pos) (p:=p) hc hg hi (by rfl') (O5 ha (O5 hT Aj) he) (he:=he)) ?_
 rintro σ H Q ⟨G,env,d,env',rl,e,k⟩;obtain⟨⟨d1,a8⟩,e1,e2⟩:=C7 e;dsimp only at e2;split at e2
 ·rename_i n
  split at e2
  ·rename_i hn
   cases e2;exact .bind rl e1 fun v G1 H1 ev r=>⟨v,G1,n,rfl,ev.rel.sub,r,by simpa using hn,k _ G1 H1 ev (by simp only[b0])⟩
  ·cases e2
 ·cases e2
def NC:D->Bool
 |.non=>true
 |_=>false
def IT:D->D->Option D
 |a,.non=>some (.bl (NC a))
 |_,_=>none
theorem XU{K:Frag}{G:Hp}{x:V}{a:D}(r:b0 K G x a):decide (x=.non)=NC a:=by
 cases a with
 |non=>simp only[b0]at r;subst r;rfl
 |bl _=>simp only[b0]at r;subst r;rfl
 |int _=>simp only[b0]at r;subst r;rfl
 |str _=>simp only[b0]at r;obtain⟨r,_⟩:=r;subst r;rfl
 |tup _=>simp only[b0]at r;obtain⟨_,_,r,_⟩:=r;subst r;rfl
 |lst _=>simp only[b0]at r;obtain⟨_,_,r,_⟩:=r;subst r;rfl
 |emp=>simp only[b0]at r;obtain⟨_,_,r,_⟩:=r;subst r;rfl
 |dct _ _=>simp only[b0]at r;obtain⟨_,_,r,_⟩:=r;subst r;rfl
 |obj o=>
  simp only[b0]at r;cases o with
  |exc n=>obtain⟨_,_,_,r,_⟩:=r;subst r;rfl
  |fn n=>obtain⟨_,r,_⟩:=r;subst r;rfl
  |dk n=>obtain⟨_,r,_⟩:=r;subst r;rfl
  |dt n=>obtain⟨_,_,r,_⟩:=r;subst r;rfl
theorem XV:lN X B (fun x y H Q=>y=.non/\Q (.bl (decide (x=.non))) H) IT:=by
 intro G σ env H x y a b d Q rl ra rb e k;unfold IT at e;split at e
 ·cases e
  simp only[b0]at rb;subst rb;rw[XU ra];exact⟨rfl,k _ G H (.refl rl) (by simp only[b0])⟩
 ·cases e
end
end L2.Mir
namespace L2.Mir
open PySem PySem.Spec PyProof.Rows PySem.W
section
variable{X:Cx}{pins:OX}{σ σ':St}{H:Hp}{s:Shared}{e:Addr}{φ:Heap->Prop}
theorem XX(I:Inv X pins σ H s)(hn:H e=none)(h0:X.s₀.heap.get? e=none)(hL:e≠X.env.locals)(hc:∀x c,X.env.cells.lookup x=some c->c≠e)(hp:∀p∈X.pn++pins,p.1≠e)
  (ph:φ s.heap)(po:∃o,s.heap.get? e=some o)(ps:∀h1 h2:Heap,φ h1->(∀o,h1.get? e=some o->h2.get? e=some o)->φ h2):Inv X pins σ (upd H e (.ext φ)) s:=by
 have ne:∀{b u},H b=some u->b≠e:=fun q z=>by rw[z,hn]at q;cases q
 refine⟨I.ok,I.os,I.bare,⟨I.base.keep,I.base.slot,fun b o q n hx=>?_,I.base.there,fun b xs q=>?_,fun b o u q=>?_,fun b ps q=>?_⟩,I.loc,I.cell,?_,fun x c q=>?_,fun p q=>?_,fun b u q=>?_,I.len⟩
 ·have hb:b≠e:=fun z=>by rw[z,h0]at q;cases q
  rw[D6 hb];exact I.base.free b o q n hx
 ·have:=I.base.tups b xs q;rw[D6 (ne this)];exact this
 ·have:=I.base.frzs b o u q;rw[D6 (ne this)];exact this
 ·obtain⟨m,q'⟩:=I.base.tbls b ps q;exact⟨m,by rw[D6 (ne q')];exact q'⟩
 ·rw[D6 (Zg hL)];exact I.free
 ·rw[D6 (hc x c q)];exact I.freeC x c q
 ·obtain⟨h1,h2,h3,h4,h5⟩:=I.pin p q
  exact⟨h1,by rw[D6 (hp p q)];exact h2,h3,h4,h5⟩
 ·by_cases hb:b=e
  ·subst hb;rw[F9]at q;cases q;exact⟨ph,po,ps⟩
  ·rw[D6 hb]at q
   exact(I.hok b u q).stay (fun _ _ _ z=>z) (fun c z=>by rw[D6 (ne z)];exact z) fun c xs z=>by rw[D6 (ne z)];exact z
theorem XY{h':Heap}{m':OU}{tk:Nat}(I:Inv X pins σ H s)(hn':h'.Ns X.env.locals m')(hs:Heap.SameBut X.env.locals s.heap h')(hl:σ'.length=σ.length)
  (hσ:∀(i:Nat) (x:Str) (v:V),X.N[i]? =some x->σ'[i]? =some (some v)->p7 X.env.scope x->∃u,D8 v u/\LB X.env h' m' x u):Inv X pins σ' H {s with heap:=h',toks:=tk}:=by
 have cne:=I.cne
 refine⟨I.ok,I.os,I.bare,⟨fun b o e n hb hx=>?_,fun b o e n hb hx=>?_,I.base.free,fun b o e hx=>?_,I.base.tups,I.base.frzs,I.base.tbls⟩,⟨_,hn',hσ⟩,fun y c e=>?_,I.free,I.freeC,fun p hp=>?_,fun b ob e=>?_,hl.trans I.len⟩
 ·exact(hs.2 b (Qs (Qd (Qu e) I.ok.above))).trans (I.base.keep b o e n hb hx)
 ·obtain⟨sl,e1⟩:=I.base.slot b o e n hb hx
  exact⟨sl,(hs.2 b (Qs (Qd (Qu e) I.ok.above))).trans e1⟩
 ·obtain⟨o',e1⟩:=I.base.there b o e hx
  exact⟨o',(hs.2 b (Qs (Qd (Qu e) I.ok.above))).trans e1⟩
 ·obtain⟨w',z⟩:=I.cell y c e
  exact⟨w',z.sameBut hs (cne y c e)⟩
 ·obtain⟨e,n,ne,nf,d⟩:=I.pin p hp
  exact⟨(hs.2 p.1 ne).trans e,n,ne,nf,d⟩
 ·refine(I.hok b ob e).stay (fun c w' hc q=>(hs.2 c ?_).trans q) (fun _ q=>q) fun _ _ q=>q
  rintro rfl
  rcases hc with rfl|hc
  ·rw[I.free]at e;cases e
  ·rw[I.free]at hc;cases hc
theorem XZ{M:Model}{A:Around}{E:OE}{i:Nat}{n:Str}{pos:Pos}{Q:Unit->Shared->Prop}(I:Inv X pins σ H s)(hN:X.N.Nodup)(hi:X.N[i]? =some n)(hk:X.env.scope.names.lookup n=some .local)
  (h:∀s',Inv X pins (σ.set i none) H s'->Q () s'):wpAny M A (do bindName X.env n .none;unbindBehindTheSuite X.env n pos) Q E s:=by
 have hcls:(X.env.scope.kind==.class||(X.env.scope.kind==.module&&X.env.locals !=X.env.globals))=false:=by rw[I.ok.kind];rfl
 have hiσ:i<σ.length:=by rw[I.len];exact(Qb.mp hi).1
 refine Qz (wpAny_bindName (Bk (v:=.non) (u:=.none) I hN hi (.inl hk) rfl (fun s1 I1=>?_) (.inr hk)))
 unfold unbindBehindTheSuite;refine Vl ?_
 obtain⟨m,hn,hl⟩:=I1.loc;obtain⟨u,ru,lk⟩:=hl i n .non hi (Zd hiσ) (.inl hk);have hm:m n=some u:=by
  rcases lk with⟨_,z⟩|⟨z,_⟩
  ·exact z
  ·have:X.env.kindOf n=some .local:=hk
   rcases z with z|z<;>(rw[this]at z;cases z)
 refine wpAny_unbindName_local hk hn hm hcls fun h' u' hn' hs=>?_
 obtain⟨hh,g,d,t,o⟩:=s1;refine h _ (XY (tk:=t) I1 hn' hs (by simp) fun j y v e1 e2 e3=>?_)
 by_cases hj:j=i
 ·subst hj;rw[Zd hiσ]at e2;cases e2
 ·rw[Qn (Zg hj)]at e2
  obtain⟨w,rw',q⟩:=hl j y v e1 (by rw[Qn (Zg hj)];exact e2) e3
  refine⟨w,rw',?_⟩
  rcases q with⟨k,e⟩|⟨k,c,e,z⟩
  ·refine .inl ⟨k,?_⟩
   have:y≠n:=fun e=>hj (HF hN e1 (e ▸ hi))
   simp[this,e]
  ·exact .inr ⟨k,c,e,z.sameBut hs (I1.cne y c e)⟩
end
theorem Ev.setNone{K:Frag}{B:OA}{G G1:Hp}{σ σ1:St}{env a8:a9}{H H1:Hp}{i:Nat}(ev:Ev K B G σ env H G1 σ1 a8 H1):Ev K B G σ env H G1 (σ1.set i none) (a8.set i .nil) H1:=by
 have e0:=ev.setNil (i:=i)
 have rl:=e0.rel
 have ne:∀(j:Nat) (w:W),(a8.set i .nil)[j]? =some w->w≠.nil->(σ1.set i none)[j]? =σ1[j]?:=fun j w q1 q2=>by
  rcases M1 q1 with⟨_,z⟩|z
  ·exact absurd z q2
  ·exact Qn (Zg z.1)
 have nm:∀(w:W) (es:Mu),w.mut=some es->w≠.nil:=fun w es h z=>by rw[z]at h;cases h
 refine⟨⟨rl.sub,by rw[rl.len];simp,fun j d q=>?_,fun j w es q1 q2=>?_,fun j k w w' es fs b q1 q2 q3 q4 q5 q6=>?_,fun j w b q1 qo q2=>?_,rl.old,rl.tabs,rl.gnt⟩,e0.same,e0.keep,e0.live,e0.stay,fun b z=>?_,fun j w q qp=>?_,by rw[Zn];exact e0.slen⟩
 ·rw[ne j _ q (by simp)];exact rl.dat j d q
 ·rw[ne j _ q1 (nm w es q2)];exact rl.own j w es q1 q2
 ·rw[ne j _ q1 (nm w es q2)]at q5;rw[ne k _ q3 (nm w' fs q4)]at q6;exact rl.inj j k w w' es fs b q1 q2 q3 q4 q5 q6
 ·rw[ne j _ q1 (by rintro rfl;cases qo)]at q2;exact rl.fresh j w b q1 qo q2
 ·obtain⟨j,w,es,q1,q2,q3⟩:=z
  rw[ne j _ q1 (nm w es q2)]at q3;exact e0.sub b ⟨j,w,es,q1,q2,q3⟩
 ·rw[ne j _ q (by rintro rfl;cases qp)];exact e0.par j w q qp
theorem YA{l:List Env}{H H':Hp}{h h1 h2 Bh:Heap}(un:Un (lL l) [] H H' h h1)(kept:∀b o,h.get? b=some o->H b=none->b∉lL l->Bh.get? b=some o)(thr:∀b o,h.get? b=some o->b∉lL l->∃o',Bh.get? b=some o')
  (stay:Bh.StaysIn h2)(ups:h1.UpToSlots h2)(fr:∀b∈lL l,H b=none/\∃o,h.get? b=some o/\∀vs,o.data≠.fields vs):Un (lL l) [] H H' h h2:=by
 have sl:∀b o,h.get? b=some o->b∈lL l->∃sl,h2.get? b=some {o with slots:=sl}:=fun b o q hb=>by
  obtain⟨n,o1,g1,g2⟩:=fr b hb;rw[q]at g1;cases g1;obtain⟨s1,q1⟩:=un.slot b o q n hb (by simp)
  obtain⟨s2,q2⟩:=ups b _ q1 g2;exact⟨s2,q2⟩
 exact⟨fun b o q n hb _=>stay b o (kept b o q n hb),fun b o q n hb _=>sl b o q hb,un.free,fun b o q _=>by
  by_cases hb:b∈lL l
  ·obtain⟨s1,q1⟩:=sl b o q hb;exact⟨_,q1⟩
  ·obtain⟨o',q1⟩:=thr b o q hb;exact⟨o',stay b o' q1⟩,un.tups,un.frzs,un.tbls⟩
section
variable{M:Model}{A:Around}{E:OE}{K:Frag}{e C Dd:Addr}{h:Heap}{g:Array GenState}{d:Drawn}{t:Nat}{os:OsState}
theorem YB{Q:Bool->Shared->Prop}{od:Option Addr}{cd:ClassData}{sl:Array (Option Value)}(X:K.In h)(I:U1 e C h)(hsub:mroIn K C (.ref Dd)=some true)(hD:mroIn K Dd (.type "BaseException")=some true)(hk:K.lookup Dd=some ⟨.type "type",od,.cls cd,sl⟩)
  (hq:Q true ⟨h,g,d,t,os⟩):wpAny M A (excMatches (.ref e) (.ref Dd)) Q E ⟨h,g,d,t,os⟩:=by
 have L0:=I.type (M:=M)
 have L1:=looks_mroIn (M:=M) X hsub
 have L2:=looks_mroIn (M:=M) X hD
 have f:=tc_notTuple
 have hC:=X _ _ hk
 unfold excMatches
 repeat (first|with_reducible refine L0.at ?_|with_reducible refine L1.at ?_|with_reducible refine L2.at ?_|with_reducible refine wpAny_loadPart_at hC ?_|wp_step)
 exact hq
end
theorem YC{K:Frag}{C:Addr}{bm:List Value}{nid:String}(h:excIn K C bm nid=true):∃od cd sl,K.lookup C=some ⟨.type "type",od,.cls cd,sl⟩:=by
 unfold excIn at h;split at h
 ·rename_i dd cd sl ho;exact⟨dd,cd,sl,ho⟩
 ·cases h
theorem YD{K:Frag}{C:Addr}(h:X8 K C=true):mroIn K C (.type "BaseException")=some true:=by
 unfold X8 at h;simp only[Qw,Ym]at h;exact h.1
def Cy(a:Addr)(h:Heap):Prop:=∃o fd,h.get? a=some o/\o.data=.func fd
theorem YE{M:Model}{a:Addr}(h:Heap)(p:Cy a h):∃k,(k=Keeper.frame\/k=Keeper.machine\/k=Keeper.boundFrame)/\Looks M h (keeperOf (.ref a)) k:=by
 obtain⟨o,fd,h1,h2⟩:=p;refine⟨.frame,.inl rfl,(Looks.ld (part:=none) h1).andThen ?_⟩;rw[h2];exact .now
def IU(X:Cx)(B:OA)(fl:Addr)(o:Option Str)(G:Hp):Prop:=
 ∀(pins:OX) (s:Shared) (σ:St) (env:a9) (Q:VK) (E:XK),Inv X pins σ X.H₀ s->Rel X.K B G σ env X.H₀->
  (o=none->∀v G' H',Ev X.K B G σ env X.H₀ G' σ env H'->Q v H')->
  (∀n C,o=some n->nsIn X.K mainGlobals n=some (some (.ref C))->∀G' H',Ev X.K B G σ env X.H₀ G' σ env H'->E (.ref C) none H')->
  codeAny (model X.prog X.w) X.A (.call (.ref fl) ⟨[],[]⟩) (CR (nD X.prog X.w) X.stack X.prog X.w X.H₀ s Q E) s
section
variable{X:Cx}{B:OA}{S n x y:Str}{names:List Str}{i0 i j:Nat}{fl:Addr}{o:Option Str}{G₀:Hp}{cp cpos epos sp yp np apos hpos tpos:Pos}
abbrev qZ(n:Str):D:=.obj (.exc n)
def YF(X:Cx)(B:OA)(names:List Str)(fl:Addr)(i0 i j:Nat)(o:Option Str)(G:Hp):TS:=fun D σ H=>σ[i0]? =some (some (.ref fl))/\H=X.H₀/\∃env,Rel X.K B G σ env H/\
 (o=none->∀G' H',Ev X.K B G σ env H G' σ env H'->D.nx σ H')/\∀c,o=some c->c∈names/\∀σ' G' H',Ev X.K B G σ env H G' σ' (((env.set i (.dat (qZ c))).set j (.dat (qZ c))).set i .nil) H'->D.nx σ' H'
theorem rA{pins:OX}{s s':Shared}{σ:St}{H G:Hp}{env:a9}{D:Ends}{ev:Value}(hst:X.stack=X.env::X.outer)(hfr:X.env.frame=some X.env.locals)(hex:X.ex=[])(hx:AX X.K S names=true)(hN:X.N.Nodup)
  (hi:X.N[i]? =some n)(hil:X.env.scope.names.lookup n=some .local)(hj:X.N[j]? =some y)(hjl:X.env.scope.names.lookup y=some .local)(hgS:Gl X S)
  (I:Inv X pins σ H s)(rl:Rel X.K B G σ env H)(hX:∀c,o=some c->c∈names/\∀σ' G' H',Ev X.K B G σ env H G' σ' (((env.set i (.dat (qZ c))).set j (.dat (qZ c))).set i .nil) H'->D.nx σ' H')
  (cx:nD X.prog X.w X.stack H s (fun cls _ H'=>∃c C G',o=some c/\nsIn X.K mainGlobals c=some (some (.ref C))/\cls=.ref C/\Ev X.K B G σ env H G' σ env H') ev s')
  (hdS:(S==("__debug__":Str))=false)(hdn:(n==("__debug__":Str))=false)(hcdn:(n==("__classdict__":Str))=false)(hsw:swapsWith (.Name n np) (some (.Name y yp)) apos.line X.env=pure false):
  wpAny (model X.prog X.w) X.A (noteFrame ev X.env) (fun _ s₂=>wpAny (model X.prog X.w) X.A (setFlight ev none) (fun _ s₃=>
   wpAny (model X.prog X.w) X.A (handleBy ev X.env [.ExceptHandler (some (.Name S sp)) (some n) [.Assign [.Name y yp] (.Name n np) apos] hpos]) (SP X pins D) X.xe s₃) X.xe s₂) X.xe s':=by
 obtain⟨e,t,C,H',Bh,rfl,os,bare,fly,un,hok,kept,thr,c,C',G',ho,hC,hcc,evx⟩:=cx;cases hcc;obtain⟨hcn,hD⟩:=hX c ho;obtain⟨C2,F⟩:=Cw hx hcn;have:=F.nm;rw[hC]at this;cases this;obtain⟨Sd,hS,hsub,hoS,hkS⟩:=F.sub;have frF:∀b∈lL X.stack,H b=none/\∃o,s.heap.get? b=some o/\∀vs,o.data≠.fields vs:=fun b hb=>⟨I.stkFree b hb,(I.stack.mem hb).2⟩
 have eB:Bh.get? e=none:=fly.2.1
 obtain⟨oe0,vs0,he0,_,hd0,_⟩:=fly.first
 have eS:s.heap.get? e=none:=by
  cases q:s.heap.get? e with
  |none=>rfl
  |some o0=>
   by_cases hb:e∈lL X.stack
   ·obtain⟨_,o1,g1,g2⟩:=fly.2.2.1.mem hb
    rw[he0]at g1;cases g1;exact absurd hd0 (g2 vs0)
   ·obtain⟨o',q'⟩:=thr e o0 q hb
    rw[eB]at q';cases q'
 have e0:X.s₀.heap.get? e=none\/e∈X.ex:=by
  by_cases hx:e∈X.ex
  ·exact .inr hx
  ·refine .inl ?_
   cases q:X.s₀.heap.get? e with
   |none=>rfl
   |some o0=>obtain⟨o',q'⟩:=I.base.there e o0 q hx;rw[eS]at q';cases q'
 have eH:H' e=none:=by
  cases q:H' e with
  |none=>rfl
  |some u=>
   have ok:=hok e u q
   have:∃o,Bh.get? e=some o:=by
    cases u with
    |lst xs=>obtain⟨_,_,_,_,z⟩:=ok;exact⟨_,z⟩
    |tup xs=>obtain⟨_,_,_,ob,z,_⟩:=ok;exact⟨_,z⟩
    |dK kvs=>obtain⟨_,_,_,_,o,_,_,z,_⟩:=ok;exact⟨_,z⟩
    |dT C kvs=>obtain⟨_,_,_,_,o,_,_,z,_⟩:=ok;exact⟨_,z⟩
    |set S n=>obtain⟨o,_,_,_,z,_⟩:=ok;exact⟨_,z⟩
    |ins C dx fs=>obtain⟨_,_,_,z,_⟩:=ok;exact⟨_,z⟩
    |own y=>obtain⟨_,z⟩:=ok;exact⟨_,z⟩
    |xd fs=>obtain⟨_,⟨_,_,_,z,_⟩,_⟩:=ok;exact⟨_,z⟩
    |rng lo hi=>obtain⟨_,_,_,z⟩:=ok;exact⟨_,z⟩
    |frz ob u=>obtain⟨z,_⟩:=ok;exact⟨_,z⟩
    |tbl ps=>exact⟨_,(show Bh.get? e=some _ from ok)⟩
    |met f y=>exact⟨_,(show Bh.get? e=some _ from ok)⟩
    |ext φ=>obtain⟨_,z,_⟩:=ok;exact z
   rw[eB]at this;obtain⟨_,z⟩:=this;cases z
 have invAt:∀h2:Heap,Bh.StaysIn h2->s'.heap.UpToSlots h2->Inv X pins σ H' {s' with heap:=h2}:=fun h2 st ups=>
  I.call' (s':={s' with heap:=h2}) (ch:=[]) os (YA un kept thr st ups frF) (hok.kept fun b u q=>st b u q) bare (fun b z=>absurd z (by simp))
 rw[hst]at fly;have frames:X.A.frames=some (X.env::X.outer):=by rw[I.ok.frames,hst]
 refine wpAny_looks_onW (L:=X.env.locals) frames hfr fly fun h4 held4 ups4=>?_
 refine wpAny_landsW held4 fun h5 fly5 ups5=>?_
 have I5:=invAt h5 fly5.1 (ups4.trans ups5)
 refine wpAny_handleBy_cons (codeAny_handlers_test ?_) (by intro q;cases q)
 have markI:∀{σ:St}{H:Hp}{s:Shared},Inv X pins σ H s->Inv ({X with A:=X.A.mark (some (.ref e)),calm:=false,xe:=fun _ _=>False}:Cx) pins σ H s:=fun J=>
  ⟨⟨J.ok.mod,J.ok.kind,J.ok.glob,J.ok.blt,J.ok.above,J.ok.inj,J.ok.has,J.ok.cab,(fun z=>nomatch z),J.ok.frames,J.ok.stk,J.ok.exf,J.ok.bs,J.ok.bsz,J.ok.noex,J.ok.exfs,J.ok.funs,J.ok.frf⟩,J.os,J.bare,J.base,J.loc,J.cell,J.free,J.freeC,J.pin,J.hok,J.len⟩
 have unmark:∀{σ:St}{H:Hp}{s:Shared},Inv ({X with A:=X.A.mark (some (.ref e)),calm:=false,xe:=fun _ _=>False}:Cx) pins σ H s->Inv X pins σ H s:=fun J=>⟨I.ok,J.os,J.bare,J.base,J.loc,J.cell,J.free,J.freeC,J.pin,J.hok,J.len⟩
 refine DX (X:=({X with A:=X.A.mark (some (.ref e)),calm:=false,xe:=fun _ _=>False}:Cx)) (markI I5) hgS (mg_of I.mod.kin I.mod.glob hS) ?_ hdS
 obtain⟨od,cd,sl,hlk⟩:=YC (let ⟨Z,z1,z2⟩:=My hoS;by rw[hS]at z1;cases z1;exact z2)
 obtain⟨oe5,vs5,he5,hc5,_,_⟩:=fly5.first
 refine YB I5.kIn ⟨oe5,he5,hc5⟩ hsub (YD hkS) hlk ?_
 dsimp only[if_true];refine codeAny_handlers_suite_as ?_
 refine lands_againW fly5 fun h6 fly6 ups6=>?_
 have I6:=invAt h6 fly6.1 ((ups4.trans ups5).trans ups6)
 obtain⟨oe6,vs6,he6,hc6,_,_⟩:=fly6.first
 have hexN:e∉X.ex:=fun z=>by rw[hex]at z;cases z
 have I7:Inv X pins σ (upd H' e (.ext (U1 e C))) {s' with heap:=h6}:=by
  refine XX I6 eH (e0.elim id fun z=>absurd z hexN) (fun z=>?_) (fun x c q z=>?_) (fun p q z=>?_) ⟨oe6,he6,hc6⟩ ⟨_,he6⟩ fun h1 h2 p k=>?_
  ·obtain⟨m,⟨o1,_,_,g,_⟩,_⟩:=I.loc
   rw[←z,eS]at g;cases g
  ·obtain⟨v,o1,g,_⟩:=I.cell x c q
   rw[z,eS]at g;cases g
  ·obtain⟨g,_⟩:=I.pin p q
   rw[z,eS]at g;cases g
  ·obtain⟨o1,g1,g2⟩:=p
   exact⟨o1,k o1 g1,g2⟩
 refine Bk I7 hN hi (.inl hil) (show D8 (.ref e) (.ref e)from rfl) (fun s8 I8=>?_) (.inr hil)
 have hiσ:i<σ.length:=by rw[I.len];exact(Qb.mp hi).1
 refine Qi (LI (CU (X:=({X with A:=X.A.mark (some (.ref e)),calm:=false,xe:=fun _ _=>False}:Cx)) (pos:=apos) (pos':=yp) hN hj (.inl hjl) (HH (pos:=np) hi (.inl hil) hdn hcdn) hsw (.inr hjl)) pins s8 (σ.set i (some (.ref e))) (upd H' e (.ext (U1 e C)))
  {nx:=fun σ' H2=>σ'=(σ.set i (some (.ref e))).set j (some (.ref e))/\H2=upd H' e (.ext (U1 e C)),rt:=fun _ _=>False} (markI I8) ⟨_,Zd hiσ,rfl,rfl⟩) (fun f s9 q=>?_) fun _ _ z=>z.elim
 cases f with
 |ret u=>obtain⟨_,_,_,_,_,z⟩:=q;exact z.elim
 |brk=>obtain⟨_,_,_,z⟩:=q;exact z.elim
 |cont=>obtain⟨_,_,_,z⟩:=q;exact z.elim
 |next=>
  obtain⟨σ9,H9,I9,rfl,rfl⟩:=q;refine XZ (unmark I9) hN hi hil fun s10 I10=>?_
  refine⟨_,_,I10,?_⟩;have d7:=evx.trans (evx.rel.alloc (o:=.ext (U1 e C)) eH);have rp:b0 X.K (upd G' e (.ext (U1 e C))) (.ref e) (qZ c):=by
   simp only[b0];exact⟨e,C,_,rfl,hC,F9,XR F.kit,XS F.kit⟩
  exact hD _ _ _ (((d7.setDat (i:=i) rp).setDat (i:=j) rp).setNone (i:=i))
theorem YG(hst:X.stack=X.env::X.outer)(hfr:X.env.frame=some X.env.locals)(hex:X.ex=[])(hx:AX X.K S names=true)(hN:X.N.Nodup)(h0:X.N[i0]? =some x)(hv:p7 X.env.scope x)
  (hi:X.N[i]? =some n)(hil:X.env.scope.names.lookup n=some .local)(hj:X.N[j]? =some y)(hjl:X.env.scope.names.lookup y=some .local)(hgS:Gl X S)
  (fn:∀pins σ H s,Inv X pins σ H s->Cy fl s.heap)(clo:IU X B fl o G₀)
  (hdx:(x==("__debug__":Str))=false:=by decide)(hcdx:(x==("__classdict__":Str))=false:=by decide)(hdS:(S==("__debug__":Str))=false:=by decide)(hdn:(n==("__debug__":Str))=false:=by decide)(hcdn:(n==("__classdict__":Str))=false:=by decide)
  (hsw:swapsWith (.Name n np) (some (.Name y yp)) apos.line X.env=pure false:=by rfl)(hsw2:swapsWith (.Call (.Name x cp) [] [] cpos) none epos.line X.env=pure false:=by rfl):
  PS X (.Try [.Expr (.Call (.Name x cp) [] [] cpos) epos] [.ExceptHandler (some (.Name S sp)) (some n) [.Assign [.Name y yp] (.Name n np) apos] hpos] [] [] tpos) (YF X B names fl i0 i j o G₀):=by
 intro pins s σ H D I ⟨hσ,hH,env,rl,hN0,hX0⟩;subst hH;refine wpAny_Try_except ?_
 refine wpAny_execs_cons (wpAny_Expr_any ?_ I.quiet hsw2);refine Yo ?_
 have name:=fun(W:OE)=>HH (X:=X.wish W) (pos:=cp) h0 hv hdx hcdx pins s σ X.H₀ (fun v H'=>v=.ref fl/\H'=X.H₀) (I.wish W) ⟨_,hσ,rfl,rfl⟩
 refine Qi (name fun _ _=>False) (fun u s1 ⟨v,H1,I1,r1,q1,q2⟩=>?_) fun _ _ z=>False.elim z
 subst q1;subst q2;cases (show u=Value.ref fl from r1)
 have I1:=I1.unwish
 refine callWith_of (P:=Cy fl) rfl (fun h p=>YE h p) (evalArgs_nil3 ⟨fn pins σ _ s1 I1,?_⟩)
 refine wpAny_call (Vi (clo pins s1 σ env (fun _ H'=>D.nx σ H') (fun cls _ H'=>∃c C G',o=some c/\nsIn X.K mainGlobals c=some (some (.ref C))/\cls=.ref C/\Ev X.K B G₀ σ env _ G' σ env H') I1 rl (fun z v G' H' ev=>hN0 z G' H' ev) (fun c C z hC G' H' ev=>⟨c,C,G',z,hC,rfl,ev⟩)) fun r s' hq=>?_)
 cases r with
 |error ev=>exact rA hst hfr hex hx hN hi hil hj hjl hgS I1 rl hX0 hq hdS hdn hcdn hsw
 |ok f=>
  cases f with
  |next=>exact False.elim hq
  |brk=>exact False.elim hq
  |cont=>exact False.elim hq
  |ret u=>
   obtain⟨v,H',I',_,q⟩:=I1.after hq;exact Ux (Ux ⟨σ,H',I',q⟩)
end
def IV(names:List Str)(i j:Nat)(o:Option Str):Mo Fl:=fun env=>match o with
 |none=>some (.nx,env)
 |some c=>if names.contains c then some (.nx,((env.set i (.dat (qZ c))).set j (.dat (qZ c))).set i .nil)else none
section
variable{X:Cx}{B:OA}{S n x y:Str}{names:List Str}{i0 i j:Nat}{fl:Addr}{o:Option Str}{G₀:Hp}{cp cpos epos sp yp np apos hpos tpos yp0 spos0 npos0:Pos}{rest:List Stmt}{m:Mo Fl}{kk:Nat}
theorem YH(hst:X.stack=X.env::X.outer)(hfr:X.env.frame=some X.env.locals)(hex:X.ex=[])(hx:AX X.K S names=true)(hN:X.N.Nodup)(h0:X.N[i0]? =some x)(hv:p7 X.env.scope x)
  (hi:X.N[i]? =some n)(hil:X.env.scope.names.lookup n=some .local)(hj:X.N[j]? =some y)(hjl:X.env.scope.names.lookup y=some .local)(hij:i0≠j)(hgS:Gl X S)
  (fn:∀pins σ H s,Inv X pins σ H s->Cy fl s.heap)(clo:IU X B fl o G₀)(hr:pD X B rest m)
  (hdx:(x==("__debug__":Str))=false:=by decide)(hcdx:(x==("__classdict__":Str))=false:=by decide)(hdS:(S==("__debug__":Str))=false:=by decide)(hdn:(n==("__debug__":Str))=false:=by decide)(hcdn:(n==("__classdict__":Str))=false:=by decide)
  (hsw:swapsWith (.Name n np) (some (.Name y yp)) apos.line X.env=pure false:=by rfl)(hsw2:swapsWith (.Call (.Name x cp) [] [] cpos) none epos.line X.env=pure false:=by rfl)
  (hsw3:swapsWith (.Constant .none kk npos0) (some (.Name y yp0)) spos0.line X.env=pure false:=by rfl):
  m9 X (.Assign [.Name y yp0] (.Constant .none kk npos0) spos0::.Try [.Expr (.Call (.Name x cp) [] [] cpos) epos] [.ExceptHandler (some (.Name S sp)) (some n) [.Assign [.Name y yp] (.Name n np) apos] hpos] [] [] tpos::rest)
   (fun D σ H=>σ[i0]? =some (some (.ref fl))/\H=X.H₀/\∃env f env',Rel X.K B G₀ σ env H/\(C6 (D0 j (mC .non)) (C6 (IV names i j o) m)) env=some (f,env')/\Post X.K B G₀ σ env H env' D f):=by
 refine nM (CT (CU hN hj (.inl hjl) LG hsw3 (.inr hjl)) (CT (YG hst hfr hex hx hN h0 hv hi hil hj hjl hgS fn clo hdx hcdx hdS hdn hcdn hsw hsw2) hr)) ?_
 rintro D σ H ⟨hσ,hH,env,f,env',rl,e,k⟩;obtain⟨⟨f1,a8⟩,e1,e2⟩:=C7 e;cases e1;dsimp only at e2;obtain⟨⟨f2,f9⟩,e3,e4⟩:=C7 e2;have j5:Ev X.K B G₀ σ env H G₀ (σ.set j (some .non)) (env.set j (.dat .non)) H:=(Ev.refl rl).setDat (i:=j) (v:=.non) (d:=.non) (by simp only[b0])
 refine⟨by rw[Qn (Zg hij)];exact hσ,hH,_,j5.rel,fun z G' H' ev=>?_,fun c z=>?_⟩
 ·subst z
  cases e3;exact⟨G',_,f,env',ev.rel,e4,Post.after _ _ k (j5.trans ev)⟩
 ·subst z
  unfold IV at e3;dsimp only at e3;split at e3
  ·rename_i hc
   cases e3;exact⟨by simpa using hc,fun σ' G' H' ev=>⟨G',_,f,env',ev.rel,e4,Post.after _ _ k (j5.trans ev)⟩⟩
  ·cases e3
end
theorem YI{X:Cx}{E:XK}(hst:X.stack=X.env::X.outer)(hfr:X.env.frame=some X.env.locals)(hex:X.ex=[])
  (hxe:∀e s',wpAny (model X.prog X.w) X.A (leaving X.env e) (fun _ s''=>nD X.prog X.w X.outer X.H₀ X.s₀ E e s'') (fun e' s''=>nD X.prog X.w X.outer X.H₀ X.s₀ E e' s'') s'->X.xe e s'):rO X E:=by
 refine⟨fun pins σ H s ev s' I h=>hxe _ _ ?_,fun pins σ H s h' e C vs I hm hE=>hxe _ _ ?_⟩
 ·obtain⟨e,t,C,H',Bh,rfl,os,bare,fly,un,hok,kept,thr,hE⟩:=h
  rw[hst]at fly;refine wpAny_leaves_onW (L:=X.env.locals) (by rw[I.ok.frames,hst]) hfr fly fun h2 fly2 ups=>?_
  refine Ft hst hfr hex I os bare fly2 kept thr (fun b o q n hb=>?_) (fun b o q n=>un.free b o q n (by simp)) un.tups un.frzs un.tbls hok hE
  obtain⟨sl,q1⟩:=un.any q n (by simp)
  obtain⟨_,o1,g1,g2⟩:=I.funs.mem hb;rw[q]at g1;cases g1;obtain⟨sl2,q2⟩:=ups b _ q1 g2;exact⟨sl2,q2⟩
 ·have hs:=I.stack
  rw[hst]at hs;refine wpAny_leaves_madeW (L:=X.env.locals) (base:=hideAll s.heap (lL X.stack)) (h:=s.heap) (by rw[I.ok.frames,hst]) hfr (fun b o q=>of_hideAll _ q)
   (funFrames_hide hs fun env he b hb=>by rw[hst];exact Xb.mpr ⟨env,he,hb⟩) hm fun h2 t fly _ hn ups=>?_
  refine Ft (s:=s) (s':={s with heap:=h2}) hst hfr hex I rfl I.bare fly (fun b o q _ hb=>Jc _ q hb) (fun b o q hb=>⟨o,Jc _ q hb⟩) (fun b o q n hb=>?_) (fun b o q n=>n) (fun _ _ q=>q) (fun _ _ _ q=>q) (fun b ps q=>⟨#[],by rw[q];simp⟩) ?_ hE
  ·obtain⟨_,o1,g1,g2⟩:=I.funs.mem hb
   rw[q]at g1;cases g1;obtain⟨sl2,q2⟩:=ups b _ (hm.keeps b o q) g2;exact⟨sl2,q2⟩
  ·exact Mw (P:=X.prog) (w:=X.w) I.hok fun b u o q1 q2=>Jc _ q2 fun z=>by rw[I.stkFree b z]at q1;cases q1
theorem EV{K:Frag}{B1 B2:OA}{G G' H H':Hp}{σ1 σ1' σ2:St}{a8 sF f9:a9}(ev:Ev K B1 G σ1 a8 H G' σ1' sF H')(no:∀a,¬ d8 σ1 a8 a)(rl:Rel K B2 G σ2 f9 H):Ev K B2 G σ2 f9 H G' σ2 f9 H':=by
 refine⟨⟨ev.rel.sub,rl.len,fun i d e=>?_,fun i w ds e1 e2=>?_,rl.inj,rl.fresh,fun b h=>ev.live b (rl.old b h),ev.rel.tabs,ev.rel.gnt⟩,ev.same,fun b o _ t e=>ev.keep b o (no b) t e,ev.live,fun b e _ g=>ev.stay b e (no b) g,fun a z=>.inl z,fun i w e hp=>⟨rfl,w,e,hp⟩,rfl⟩
 ·obtain⟨v,q1,q2⟩:=rl.dat i d e
  exact⟨v,q1,b0.mono ev.same d q2⟩
 ·obtain⟨a,xs,q1,q2,q3,q4⟩:=rl.own i w ds e1 e2
  exact⟨a,xs,q1,ev.keep a _ (no a) q3.nt q2,q3.mono ev.same,ev.stay a (by rw[q2];simp) (no a) q4⟩
theorem ND{K:Frag}{B:OA}{G H:Hp}{σ:St}{env:a9}(rl:Rel K B G σ env H):Rel K N4 G [] [] H:=
 ⟨rl.sub,rfl,fun i d e=>by simp at e,fun i w ds e=>by simp at e,fun i j w w' ds es a e=>by simp at e,fun i ds a e=>by simp at e,fun b h=>h.elim,rl.tabs,rl.gnt⟩
theorem IW{a:Addr}:¬ d8 [] [] a:=fun⟨i,w,ds,e,_⟩=>by simp at e
def BQ(P:Program)(w:World)(K:Frag)(mg:OU)(base:Heap)(N':List Str)(q:Str)(scope:Scope)(fl:Addr)(cd:Value)(cl:List (Str×Addr))(A:Around)(outer:List Env)(s:Shared)(H:Hp)(E:XK):Cx where
 prog:=P
 w:=w
 K:=K
 mg:=mg
 base:=base
 A:=A.deeper (envX q scope s.heap.objs.size fl cd cl)
 N:=N'
 s₀:=s
 H₀:=H
 env:=envX q scope s.heap.objs.size fl cd cl
 outer:=outer
 stack:=envX q scope s.heap.objs.size fl cd cl::outer
 ex:=[]
 fn:=fun _=>false
 calm:=true
 pn:=[]
 xe:=fun e s'=>wpAny (model P w) (A.deeper (envX q scope s.heap.objs.size fl cd cl)) (leaving (envX q scope s.heap.objs.size fl cd cl) e) (fun _ s''=>nD P w outer H s E e s'') (fun e' s''=>nD P w outer H s E e' s'') s'
section
variable{P:Program}{w:World}{K:Frag}{mg:OU}{base:Heap}{N':List Str}{q:Str}{scope:Scope}{fl:Addr}{cd:Value}{cl:List (Str×Addr)}{A:Around}{outer:List Env}{s:Shared}{H:Hp}{E:XK}{σ:St}
theorem NF:rO (BQ P w K mg base N' q scope fl cd cl A outer s H E) E:=YI rfl rfl rfl fun _ _ h=>h
theorem YJ{h₁:Heap}{m:OU}{tk:Nat}(e0:oA P w K mg base A outer s H)(hd:A.handled=none)(hk:scope.kind=.function)(hnc:∀x,scope.names.lookup x≠some .cell)
  (inj:∀x y c,cl.lookup x=some c->cl.lookup y=some c->x=y)(has:∀x,scope.names.lookup x=some .free->∃c,cl.lookup x=some c)
  (cell:∀x c,cl.lookup x=some c->(∃v,s.heap.IsCell c v)/\H c=none)
  (val:∀(i:Nat) (x:Str) (v:V),N'[i]? =some x->σ[i]? =some (some v)->p7 scope x->scope.names.lookup x=some .free/\∃c u,cl.lookup x=some c/\D8 v u/\s.heap.IsCell c (some u))
  (hl:σ.length=N'.length)(hns:h₁.Ns s.heap.objs.size m)(kp:∀b o,s.heap.get? b=some o->h₁.get? b=some o):
  Inv (BQ P w K mg base N' q scope fl cd cl A outer s H E) [] σ H {s with heap:=h₁,toks:=tk}:=by
 have noA:∀b:Addr,b∉(BQ P w K mg base N' q scope fl cd cl A outer s H E).ex:=fun b z=>absurd (show b∈([]:List Addr)from z) (by simp)
 refine⟨⟨e0.mod,hk,rfl,rfl,Qm _,inj,fun y hy=>?_,fun y c z=>absurd (show(false:Bool)=true from z) (by decide),fun _=>hd,Around.frames_deeper e0.frames,.inr ⟨rfl,rfl⟩,fun b z=>absurd z (noA b),e0.bs,e0.bsz,fun b _ _=>noA b,fun b z=>absurd z (noA b),e0.funs,e0.frf⟩,
  rfl,e0.bare,Un.kept kp,⟨_,hns,fun i x v h1 h2 h3=>?_⟩,fun x c e=>?_,e0.hok.fresh (Qm _),fun x c e=>(cell x c e).2,fun p hp=>absurd (show p∈([]:OX)from hp) (by simp),e0.hok.kept kp,hl⟩
 ·rcases hy with hy|hy
  ·exact absurd hy (hnc y)
  ·exact has y hy
 ·obtain⟨k,c,u,g1,g2,g3⟩:=val i x v h1 h2 h3
  exact⟨u,g2,.inr ⟨.inr k,c,g1,g3.keeps kp⟩⟩
 ·obtain⟨⟨v,z⟩,_⟩:=cell x c e
  exact⟨v,z.keeps kp⟩
end
structure qH(K:Frag)(params:Arguments)(body:Expr)(scope:Scope)(N':List Str)(lq:Str)(fl c':Addr)(cl:List (Str×Addr))(σ:St)(s₁:Shared)(H₁:Hp)(outer₁:List Env):Prop where
 obj:∃pm ctv,s₁.heap.get? fl=some (kla_obj "<lambda>" lq params body scope cl pm c' ctv)
 free:H₁ fl=none
 nfr:fl∉lL outer₁
 code:∃φ,H₁ c'=some (.ext φ)/\∀h:Heap,φ h->h.CodeRec (.ref c') lq
 inj:∀x y c,cl.lookup x=some c->cl.lookup y=some c->x=y
 has:∀x,scope.names.lookup x=some .free->∃c,cl.lookup x=some c
 cell:∀x c,cl.lookup x=some c->(∃v,s₁.heap.IsCell c v)/\H₁ c=none/\c∉lL outer₁
 val:∀(i:Nat) (x:Str) (v:V),N'[i]? =some x->σ[i]? =some (some v)->p7 scope x->scope.names.lookup x=some .free/\∃c u,cl.lookup x=some c/\D8 v u/\s₁.heap.IsCell c (some u)
 len:σ.length=N'.length
def IY(P:Program)(w:World)(K:Frag)(mg:OU)(base:Heap)(kc:Nat)(fl:Addr)(s₁:Shared)(H₁:Hp)(outer₁:List Env)(o:Option Str)(G:Hp):Prop:=
 (∀(H':Hp) (s:Shared),Un (lL outer₁) [] H₁ H' s₁.heap s.heap->Cy fl s.heap)/\
 ∀(A:Around) (outer:List Env) (s:Shared) (Q:VK) (E:XK),g9 kc A->oA P w K mg base A outer s H₁->Un (lL outer₁) [] H₁ H₁ s₁.heap s.heap->
  (o=none->∀v G' H',Ev K N4 G [] [] H₁ G' [] [] H'->Q v H')->
  (∀n C,o=some n->nsIn K mainGlobals n=some (some (.ref C))->∀G' H',Ev K N4 G [] [] H₁ G' [] [] H'->E (.ref C) none H')->
  codeAny (model P w) A (.call (.ref fl) ⟨[],[]⟩) (CR (nD P w) outer P w H₁ s Q E) s
def outcome(names:List Str)(mb:Mo D)(xb:Mx)(env:a9):Option (Option Str):=match xb env with
 |some n=>if names.contains n then some (some n)else none
 |none=>(mb env).map fun _=>none
theorem YK{P:Program}{w:World}{K:Frag}{mg:OU}{base:Heap}{kc:Nat}{params:Arguments}{body:Expr}{scope:Scope}{N':List Str}{lq:Str}{fl c':Addr}{cl:List (Str×Addr)}{σ:St}{s₁:Shared}{H₁ G:Hp}{outer₁:List Env}{o:Option Str}{lw:a9}{mb:Mo D}{xb:Mx}
  (L:qH K params body scope N' lq fl c' cl σ s₁ H₁ outer₁)(hk:scope.kind=.function)(hco:scope.isCoroutine=false)(hgen:scope.isGenerator=false)(hnc:∀x∈scope.names,x.2≠.cell)
  (hbind:∀pm ctv,bindArgs (kla_fn "<lambda>" lq params body scope cl pm (.ref c') ctv) ⟨[],[]⟩=pure [])
  (rl:Rel K (fun b=>H₁ b≠none) G σ lw H₁)(no:∀a,¬ d8 σ lw a){S:Str}{names:List Str}(hex:AX K S names=true)(ho:outcome names mb xb lw=some o)
  (hb:∀(A:Around) (outer:List Env) (s:Shared) (E:XK),g9 kc (A.deeper (envX lq scope s.heap.objs.size fl (.ref c') cl))->ED (BQ P w K mg base N' lq scope fl (.ref c') cl A outer s H₁ E) (fun b=>H₁ b≠none) body mb)
  (hx:∀(A:Around) (outer:List Env) (s:Shared) (E:XK),g9 kc (A.deeper (envX lq scope s.heap.objs.size fl (.ref c') cl))->pQ (BQ P w K mg base N' lq scope fl (.ref c') cl A outer s H₁ E) (fun b=>H₁ b≠none) E body xb):
  IY P w K mg base (kc+1) fl s₁ H₁ outer₁ o G:=by
 obtain⟨pm,ctv,hobj⟩:=L.obj;have hnc':∀x,scope.names.lookup x≠some .cell:=fun x z=>hnc _ (Zj z) rfl
 refine⟨fun H' s un=>⟨_,_,un.keep fl _ hobj L.free L.nfr (by simp),rfl⟩,fun A outer s Q E hr e0 un hN hX=>?_⟩
 have cellK:∀x c v,cl.lookup x=some c->s₁.heap.IsCell c v->s.heap.IsCell c v:=fun x c v e ⟨oc,h1,h2⟩=>⟨oc,un.keep c oc h1 (L.cell x c e).2.1 (L.cell x c e).2.2 (by simp),h2⟩
 have hcd:s.heap.CodeRec (.ref c') lq:=by
  obtain⟨φ,h1,h2⟩:=L.code;exact h2 _ (e0.hok c' _ h1).1
 have lim:s.heap.NoLimit:=e0.mod.nolimit.keeps fun b o e=>(e0.bs b o e).1
 refine kla_callFunE hr.depth (un.keep fl _ hobj L.free L.nfr (by simp)) rfl hco hgen rfl hcd ?_
 rw[hbind];refine Qv (wpAny_newFunctionEnv hnc (fun x z=>by simp at z) (fun h₁ hns hsb=>⟨lim.fresh _ hsb,?_⟩) hk)
 show codeAny _ _ (.expr body (envX lq scope s.heap.objs.size fl (.ref c') cl)) _ _;have kp:∀b o,s.heap.get? b=some o->h₁.get? b=some o:=fun b o e=>hsb.extBut b o (Qs (Qu e)) (Qx _ e)
 have I:Inv (BQ P w K mg base N' lq scope fl (.ref c') cl A outer s H₁ E) [] σ H₁ {s with heap:=h₁,toks:=s.toks+([]:List (Str×Value)).length}:=by
  refine YJ e0 hr.hd hk hnc' L.inj L.has (fun x c e=>?_) (fun i x v h1 h2 h3=>?_) L.len hns kp
  ·obtain⟨⟨v,z⟩,z2,_⟩:=L.cell x c e
   exact⟨⟨v,cellK x c v e z⟩,z2⟩
  ·obtain⟨k,c,u,g1,g2,g3⟩:=L.val i x v h1 h2 h3
   exact⟨k,c,u,g1,g2,cellK x c _ g1 g3⟩
 have side:∀{G' H':Hp}{σ':St}{lw':a9},Ev K (fun b=>H₁ b≠none) G σ lw H₁ G' σ' lw' H'->Ev K N4 G [] [] H₁ G' [] [] H':=fun ev=>EV ev no (ND rl)
 refine kla_codeExpr ?_
 unfold outcome at ho;cases hxb:xb lw with
 |some n=>
  rw[hxb]at ho;dsimp only at ho;split at ho
  ·rename_i hn
   cases ho;obtain⟨C,F⟩:=Cw hex (by simpa using hn)
   exact Qi (hx A outer s E (hr.deeper _) [] _ σ H₁ (fun _ _=>False) I ⟨G,lw,n,rl,hxb,C,F.nm,fun σ' G' env' H' ev=>hX n C rfl F.nm G' H' (side ev)⟩) (fun v s' ⟨_,_,_,_,z⟩=>z.elim) fun _ _ z=>z
  ·cases ho
 |none=>
  rw[hxb]at ho;obtain⟨⟨d,lw'⟩,e1,e2⟩:=E9 ho;cases e2;refine Qi (hb A outer s E (hr.deeper _) [] _ σ H₁ Q I ⟨G,lw,d,lw',rl,e1,fun v G' H' ev rp=>hN rfl v G' H' (side ev)⟩) (fun v s' ⟨x,H',J,rv,z⟩=>?_) fun _ _ z=>z
  exact⟨x,H',J.os,J.bare,J.base,J.hok,rv,z⟩
theorem YL{K:Frag}{c P:Addr}{q qual:Str}(h1:codeHdIn K c P=true)(h2:codeIn K (.ref c) qual=true)(h3:pL K P q=true):q=qual:=by
 unfold codeHdIn at h1;unfold codeIn at h2;split at h1
 ·rename_i vs _ hk
  have m:=Qy.mp h3 _ (mem_of_lookupK hk)
  simp only[hk]at h2;simp only[Qw]at h1;obtain⟨⟨⟨⟨⟨e1,_⟩,_⟩,_⟩,_⟩,_⟩:=h1
  replace m:((match (vs[11]? :Option Value)with|some (.ref P')=>P' !=P|_=>true)||(match vs.toList with|_::.str n _::_=>n==q|_=>false))=true:=by
   split at m
   ·rename_i heq;cases heq;exact m
   ·rename_i hne;exact absurd rfl (hne _ _ _)
  split at e1
  ·rename_i P' h11
   have hP:P'=P:=Ym.mp e1
   subst hP;rw[h11]at m;simp only[bne_self_eq_false,Vn]at m;split at h2
   ·rename_i n t r hl
    simp only[hl]at m;rw[←Ym.mp m,←Ym.mp h2]
   ·cases h2
  ·cases e1
 ·cases h1
def Ap(mg:OU)(base:Heap):Prop:=∃bm o,mg "__builtins__"=some (.ref bm)/\bm≠builtinsNs/\bm≠mainGlobals/\base.get? bm=some o/\o.cls=.type "module"/\o.dict=some builtinsNs/\o.data=.plain
theorem YM{l:List Value}(h:TriplesOk l):l=[]\/ ∃a t b u d rest,l=.int a t::.int b u::d::rest/\TriplesOk rest:=by
 cases l with
 |nil=>exact .inl rfl
 |cons x l=>
  cases x<;>first|exact False.elim h|skip
  cases l with
  |nil=>exact False.elim h
  |cons y l=>
   cases y<;>first|exact False.elim h|skip
   cases l with
   |nil=>exact False.elim h
   |cons d rest=>exact .inr ⟨_,_,_,_,_,_,rfl,h⟩
theorem NG{M:List Value->Prop}(h0:M [])(h1:∀a t b u d rest,TriplesOk rest->M rest->M (.int a t::.int b u::d::rest))(l:List Value)(h:TriplesOk l):M l:=by
 have:∀(n:Nat) (l:List Value),l.length≤n->TriplesOk l->M l:=by
  intro n
  induction n with
  |zero=>
   intro l hl h;cases l with
   |nil=>exact h0
   |cons x l=>exact absurd hl (Nat.not_succ_le_zero _)
  |succ n ih=>
   intro l hl h
   rcases YM h with rfl|⟨a,t,b,u,d,rest,rfl,hr⟩
   ·exact h0
   ·exact h1 _ _ _ _ _ _ hr (ih rest (by simp only[Qo]at hl;omega) hr)
 exact this l.length l (Qm _) h
theorem YN(l:List Value){a b:Int}{t u:Tok}{c:Value}(h:TriplesOk l):TriplesOk (l++[.int a t,.int b u,c]):=
 NG (M:=fun l=>TriplesOk (l++[.int a t,.int b u,c])) trivial (fun _ _ _ _ _ _ _ ih=>ih) l h
theorem YO(l:List Value){pos pos':Pos}{c v:Value}(hk:TriplesOk l):codeAmong pos' (l++[rawInt pos.line,rawInt pos.col,c])=some v->codeAmong pos' l=some v\/v=c:=by
 refine NG (M:=fun l=>codeAmong pos' (l++[rawInt pos.line,rawInt pos.col,c])=some v->codeAmong pos' l=some v\/v=c) (fun h=>?_) (fun a t b u d rest _ ih h=>?_) l hk
 ·change (if(pos.line:Int)==pos'.line&&(pos.col:Int)==pos'.col then some c else none)=some v at h
  split at h
  ·cases h;exact .inr rfl
  ·cases h
 ·change (if a==pos'.line&&b==pos'.col then some d else codeAmong pos' (rest++[rawInt pos.line,rawInt pos.col,c]))=some v at h
  show(if a==pos'.line&&b==pos'.col then some d else codeAmong pos' rest)=some v\/v=c
  split at h
  ·rename_i z;rw[Qc z];exact .inl h
  ·rename_i z;rw[Qt z];exact ih h
section
variable{X:Cx}{pins:OX}{σ:St}{H:Hp}{s:Shared}{P c:Addr}{ps:Array Value}{qual:Str}{scope:Scope}{cl:List (Str×Addr)}{params:Arguments}{body:Expr}{pos:Pos}
structure Made(X:Cx)(pins:OX)(σ:St)(H:Hp)(s:Shared)(P:Addr)(qual:Str)(params:Arguments)(body:Expr)(scope:Scope)(cl:List (Str×Addr))(fl c':Addr)(H1:Hp)(s1:Shared):Prop where
 inv:Inv X pins σ H1 s1
 ev:∀(B:OA) (G:Hp) (env:a9),Rel X.K B G σ env H->Ev X.K B G σ env H G σ env H1
 obj:∃pm ctv,s1.heap.get? fl=some (kla_obj "<lambda>" (mV qual) params body scope cl pm c' ctv)
 new:s.heap.objs.size≤fl
 free:H1 fl=none
 code:H1 c'=some (oD X.K P c')
 keep:∀b o,H b=none->s.heap.get? b=some o->s1.heap.get? b=some o/\H1 b=none
theorem YQ{M:Model}{A:Around}{E:OE}{Q:OE}(I:Inv X pins σ H s)(hcode:X.env.code=.ref c)(hc:codeHdIn X.K c P=true)(hq:codeIn X.K (.ref c) qual=true)(htq:pL X.K P qual=true)(henv:X.env.qual=qual++".<locals>.")
  (bm:Ap X.mg X.base)(hP:H P=some (.tbl ps))(tabs:lD X.K H)(hcl:closureFor scope X.env=pure cl)(hdef:defaultsOf params X.env=([],[]))
  (h:∀fl c' H1 s1,Made X pins σ H s P qual params body scope cl fl c' H1 s1->Q (.ref fl) s1):wpAny M A (eval (.Lambda params body scope pos) X.env) Q E s:=by
 obtain⟨ht,hent⟩:=tabs P ps hP;have hPo:s.heap.get? P=some (tabObj ps):=I.hok P _ hP;have C:=codeHd_of_K I.kIn hc;have nbase:∀{b o},X.base.get? b=some o->b≠P:=fun{b o} e z=>by rw[z]at e;have:=(I.bs P o e).2;rw[hP]at this;cases this
 have hgs:s.heap.Ns mainGlobals X.mg:=I.mod.glob.keeps I.bk
 have hgP:mainGlobals≠P:=by
  obtain⟨o,_,_,e,_⟩:=I.mod.glob;exact nbase e
 obtain⟨b,ob,b1,b2,b3,b4,b5,b6,b7⟩:=bm;have hB:s.heap.BuiltinsAt X.mg P:=⟨b,ob,b1,b2,b3,nbase b4,I.bk _ _ b4,b5,b6,b7⟩;have hlq:X.env.qual++"<lambda>"=mV qual:=by rw[henv];rfl
 refine kla_eval hdef ?_
 rw[hlq];cases hca:codeAmong pos ps.toList with
 |some cv=>
  obtain⟨c',rfl,hc'⟩:=hent pos cv hca;refine kla_makeFunctionHit hcl I.ok.glob hgs hcode C hPo ht hca hB fun ctv h' tk hk hsz=>?_
  have kp:∀b o,s.heap.get? b=some o->(h'.push ({cls:=.type "function",data:=.func (kla_fn "<lambda>" (mV qual) params body scope cl ((X.mg "__name__").getD .none) (.ref c') ctv)}:Obj)).get? b=some o:=fun b o e=>Qx _ (hk b o e)
  refine h h'.objs.size c' H _ ⟨?_,fun B G env rl=>.refl rl,⟨_,_,Qh _ rfl⟩,hsz,I.hok.fresh hsz,hc',fun b o n e=>⟨kp b o e,n⟩⟩
  exact I.kept kp
 |none=>
  refine kla_makeFunction hcl I.ok.glob hgs hcode C hPo ht hca hgP hB fun c' ctv h' tk hx hge hlt hrec htb=>?_
  have hfsz:s.heap.objs.size≤h'.objs.size:=Jx (Vj hge hlt)
  have nF:P≠c':=Qs (Qd (Qu hPo) hge)
  have hnc:H c'=none:=I.hok.fresh hge
  have hcf:c'≠h'.objs.size:=Qs hlt
  have hPf:P≠h'.objs.size:=Qs (Qd (Qu hPo) hfsz)
  have get1:∀{b},(upd (upd H P (.tbl (ps++ #[rawInt pos.line,rawInt pos.col,.ref c']))) c' (oD X.K P c')) b=if b=c' then some (oD X.K P c')else if b=P then some (.tbl (ps++ #[rawInt pos.line,rawInt pos.col,.ref c']))else H b:=fun{b}=>rfl
  have kp:∀b o,b≠P->s.heap.get? b=some o->(h'.push (kla_obj "<lambda>" (mV qual) params body scope cl ((X.mg "__name__").getD .none) c' ctv)).get? b=some o:=fun b o n e=>Qx _ (hx b o n e)
  have other:∀{b u},H b=some u->b≠P->(upd (upd H P (.tbl (ps++ #[rawInt pos.line,rawInt pos.col,.ref c']))) c' (oD X.K P c')) b=some u:=fun{b u} e n=>by
   rw[D6 (Q2 e hnc),D6 n];exact e
  have free1:∀{b o},H b=none->s.heap.get? b=some o->(upd (upd H P (.tbl (ps++ #[rawInt pos.line,rawInt pos.col,.ref c']))) c' (oD X.K P c')) b=none:=fun{b o} n e=>by
   rw[D6 (Qs (Qd (Qu e) hge)),D6 (fun z=>by rw[z,hP]at n;cases n)];exact n
  have tab1:lD X.K (upd (upd H P (.tbl (ps++ #[rawInt pos.line,rawInt pos.col,.ref c']))) c' (oD X.K P c')):=by
   intro P2 ps2 e2;rw[get1]at e2;split at e2
   ·cases e2
   ·split at e2
    ·rename_i z
     subst z;cases e2;refine⟨by rw[Array.toList_append];exact YN _ ht,fun p v e=>?_⟩
     rw[Array.toList_append]at e
     rcases YO _ ht e with q|q
     ·obtain⟨a,q1,q2⟩:=hent p v q
      exact⟨a,q1,other q2 (fun z=>by rw[z,hP]at q2;cases q2)⟩
     ·exact⟨c',q,F9⟩
    ·obtain⟨q1,q2⟩:=tabs P2 ps2 e2
     refine⟨q1,fun p v e=>?_⟩
     obtain⟨a,q3,q4⟩:=q2 p v e;exact⟨a,q3,other q4 (fun z=>by rw[z,hP]at q4;cases q4)⟩
  have live1:∀b,H b≠none->(upd (upd H P (.tbl (ps++ #[rawInt pos.line,rawInt pos.col,.ref c']))) c' (oD X.K P c')) b≠none:=fun b e=>by
   rw[get1];split
   ·simp
   ·split
    ·simp
    ·exact e
  refine h h'.objs.size c' _ _ ⟨?_,fun B G env rl=>?_,⟨_,_,Qh _ rfl⟩,hfsz,?_,F9,fun b o n e=>⟨kp b o (fun z=>by rw[z,hP]at n;cases n) e,free1 n e⟩⟩
  ·refine I.un (h':=h'.push (kla_obj "<lambda>" (mV qual) params body scope cl ((X.mg "__name__").getD .none) c' ctv)) (t':=tk) ⟨fun b o e n _ _=>?_,fun b o e n _ _=>⟨o.slots,?_⟩,fun b o e n _=>free1 n e,fun b o e _=>?_,fun b xs e=>?_,fun b o u e=>?_,fun b ps2 e=>?_⟩ fun b u e=>?_
   ·exact kp b o (fun z=>by rw[z,hP]at n;cases n) e
   ·exact kp b o (fun z=>by rw[z,hP]at n;cases n) e
   ·by_cases z:b=P
    ·subst z;exact⟨_,Qx _ htb⟩
    ·exact⟨o,kp b o z e⟩
   ·exact other e (fun z=>by rw[z,hP]at e;cases e)
   ·exact other e (fun z=>by rw[z,hP]at e;cases e)
   ·by_cases z:b=P
    ·subst z
     rw[hP]at e;cases e;exact⟨#[rawInt pos.line,rawInt pos.col,.ref c'],by rw[D6 nF,F9]⟩
    ·exact⟨#[],by rw[other e z];simp⟩
   ·rw[get1]at e
    split at e
    ·rename_i z
     subst z;cases e;have hrec2:=hrec.push (kla_obj "<lambda>" (mV qual) params body scope cl ((X.mg "__name__").getD .none) b ctv);obtain⟨c2,oc,vs,t,e2,hoc,hd,hv⟩:=id hrec2;cases e2;refine⟨fun q hq2=>?_,⟨oc,hoc⟩,fun h1 h2 p k q hq2=>?_⟩
     ·rw[YL hc hq hq2];exact hrec2
     ·obtain⟨c3,oc3,vs3,t3,e3,g1,g2⟩:=p q hq2
      cases e3;exact⟨_,oc3,vs3,t3,rfl,k oc3 g1,g2⟩
    ·split at e
     ·rename_i z
      subst z;cases e;exact Qx _ htb
     ·rename_i z1 z2
      refine(I.hok b u e).stay (fun b2 o2 hb q=>kp b2 o2 (fun z=>?_) q) (fun b2 q=>other q (fun z=>by rw[z,hP]at q;cases q)) fun b2 xs q=>other q (fun z=>by rw[z,hP]at q;cases q)
      rcases hb with hb|hb
      ·exact z2 (hb.symm.trans z)
      ·rw[z,hP]at hb;cases hb
  ·refine⟨⟨fun b o e=>?_,rl.len,rl.dat,fun i wv ds e1 e2=>?_,rl.inj,rl.fresh,fun b hb=>live1 b (rl.old b hb),tab1,rl.gnt⟩,Le.refl,fun b o _ nt e=>?_,live1,fun b e _ g=>g,fun a z=>.inl z,fun i w e hp=>⟨rfl,w,e,hp⟩,rfl⟩
   ·exact other (rl.sub b o e) (fun z=>by have q:=rl.sub b o e;rw[z,hP]at q;cases q;exact rl.gnt b _ e _ rfl)
   ·obtain⟨a,xs,q1,q2,q3,q4⟩:=rl.own i wv ds e1 e2
    exact⟨a,xs,q1,other q2 (fun z=>by rw[z,hP]at q2;cases q2;exact q3.nt _ rfl),q3,q4⟩
   ·exact other e (fun z=>by rw[z,hP]at e;cases e;exact nt _ rfl)
  ·rw[D6 (Zg hcf),D6 (Zg hPf)];exact I.hok.fresh hfsz
end
theorem YR{CX:pJ}{P:Program}{w:World}{K:Frag}{mg:OU}{base:Heap}{k:Nat}{f:Addr}{name qual:Str}{params:Arguments}{body:List Stmt}{scope:Scope}{dV kV doc pm cdv ct oc:Value}{an od:Option Addr}
  {osl:Array (Option Value)}{N ps:List Str}(lk:K.lookup f=some ⟨oc,od,.func (fnOf name qual params body scope dV kV doc pm an cdv ct),osl⟩)(hcd:codeIn K cdv qual=true)(S:c4 N ps scope)
  {A:Around}{outer:List Env}{s:Shared}{H:Hp}{args:Args}{us:List Value}{vs:List V}{Q:VK}{E:XK}(hr:g9 (k+1) A)(e0:oA P w K mg base A outer s H)(hb:BindsTo s (fnOf name qual params body scope dV kV doc pm an cdv ct) args (ps.zip us))(r:D3 vs us)(hl:vs.length=ps.length)
  (hbody:g9 k (A.deeper (envOfC qual scope s.heap.objs.size f cdv))->∃t,m9 (M9 CX P w K mg base N qual scope f cdv A outer s H E) body t/\t {nx:=fun _ H'=>Q .non H',rt:=Q} (start N vs) H):
  codeAny (model P w) A (.call (.ref f) args) (CR CX outer P w H s Q E) s:=by
 have KX:K.In s.heap:=e0.mod.kin.keeps fun b o e=>(e0.bs b o e).1
 have lim:s.heap.NoLimit:=e0.mod.nolimit.keeps fun b o e=>(e0.bs b o e).1
 have hkind:∀y∈ps.zip us,scope.names.lookup y.1=some .local\/(scope.names.lookup y.1=some .cell/\((cellsFrom (s.heap.objs.size+1) scope.names []).lookup y.1).isSome=true):=fun⟨n,v⟩ hy=>by
  rcases S.par n (Vt hy).1 with q|q
  ·exact .inl q
  ·exact .inr ⟨q,cellsFrom_some _ _ _ (.inl q)⟩
 refine codeAny_call_function hr.depth (KX _ _ lk) rfl S.co S.gen rfl (codeRec_of KX hcd) (hb _ _ _ _ ?_);refine wpAny_newFunctionEnv_cells S.kind hkind fun env he s1 x=>?_
 subst he;refine⟨lim.keeps x.toInCall.keep,codeAny_func ?_⟩;obtain⟨t,ht,hq⟩:=hbody (hr.deeper _);have I:Inv (M9 CX P w K mg base N qual scope f cdv A outer s H E) [] (start N vs) H s1:=Lg S hr.hd e0 hl r x;refine Qi (ht [] s1 (start N vs) H _ I hq) (fun fl s' hs=>?_) fun e s' hs=>hs
 have fin:∀{σ':St}{H':Hp}{v:V}{u:Value},Inv (M9 CX P w K mg base N qual scope f cdv A outer s H E) [] σ' H' s'->D8 v u->Q v H'->CE outer P w H s Q u s':=
  fun{σ' H' v u} J rv q=>⟨v,H',J.os,J.bare,J.base,J.hok,rv,q⟩
 cases fl with
 |ret u=>
  obtain⟨v,σ',H',J,rv,q⟩:=hs;exact fin J rv q
 |next=>
  obtain⟨σ',H',J,q⟩:=hs;exact fin (v:=V.non) (u:=Value.none) J rfl q
 |brk=>
  obtain⟨_,_,_,q⟩:=hs;exact False.elim q
 |cont=>
  obtain⟨_,_,_,q⟩:=hs;exact False.elim q
structure nP(P:Program)(w:World)(K:Frag)(mg:OU)(base:Heap)(x:Str)(k kc:Nat)(fr:Option Str->Option D):Prop where
 ex:∃f:Addr,mg x=some (.ref f)/\keepIn K (.ref f)=true/\∀(A:Around) (outer:List Env) (s:Shared) (H:Hp) (fl:Addr) (o:Option Str) (G:Hp) (Q:VK),g9 k A->oA P w K mg base A outer s H->IY P w K mg base kc fl s H outer o G->Rel K N4 G [] [] H->
  (∃d,fr o=some d/\∀v G' H',Ev K N4 G [] [] H G' [] [] H'->b0 K G' v d->Q v H')->codeAny (model P w) A (.call (.ref f) ⟨[.ref fl],[]⟩) (CR kF outer P w H s Q E0) s
def IZ(N:Nat)(mb:Option Str->Mo Fl)(o:Option Str):Option D:=match mb o (List.replicate N .nil)with
 |some (.ret d,_)=>some d
 |some (.nx,_)=>some .non
 |_=>none
theorem YS{K:Frag}{B B':OA}{G H:Hp}{σ σ':St}{env:a9}(rl:Rel K B G σ env H)(old:∀b,B' b->H b≠none):Rel K B' G σ' (List.replicate σ'.length .nil) H:=by
 have nn:∀{i:Nat}{w:W},(List.replicate σ'.length W.nil)[i]? =some w->w=.nil:=fun{i w} e=>by
  rw[Jp]at e;split at e
  ·cases e;rfl
  ·cases e
 exact⟨rl.sub,by simp,(fun i d e=>by cases nn e),(fun i w ds e1 e2=>by rw[nn e1]at e2;cases e2),(fun i j w w' ds es a e1 e2=>by rw[nn e1]at e2;cases e2),(fun i w a e eo=>by rw[nn e]at eo;cases eo),old,rl.tabs,rl.gnt⟩
theorem YT{σ:St}{n:Nat}{a:Addr}:¬ d8 σ (List.replicate n .nil) a:=fun⟨i,w,ds,e1,e2,_⟩=>by
 rw[Jp]at e1;split at e1
 ·cases e1;cases e2
 ·cases e1
theorem YU{N:List Str}{v:V}(h:1≤N.length):(start N [v]).length=N.length:=by
 unfold start;simp only[Ql,Qk,Zt,Qo,Yc]
 omega
theorem YV{P:Program}{w:World}{K:Frag}{mg:OU}{base:Heap}{x qual p1:Str}{st:Stmt}{f:Addr}{fd:FuncData}{N:List Str}{k kc:Nat}{mb:Option Str->Mo Fl}(F:kM K x qual st f fd)(S:c4 N [p1] (E8 st))(hm:mg x=some (.ref f))(hbi:O6 K fd [p1] [])(hkc:kc≤k)
  (hb:∀(cdv:Value) (A:Around) (outer:List Env) (s:Shared) (H:Hp) (E:XK) (fl:Addr) (o:Option Str) (G:Hp),g9 k (A.deeper (envOfC qual (E8 st) s.heap.objs.size f cdv))->
   (∀pins σ H' s',Inv (M9 kF P w K mg base N qual (E8 st) f cdv A outer s H E).nox pins σ H' s'->Cy fl s'.heap)->IU (M9 kF P w K mg base N qual (E8 st) f cdv A outer s H E).nox (fun b=>H b≠none) fl o G->
   m9 (M9 kF P w K mg base N qual (E8 st) f cdv A outer s H E).nox (X1 st) (fun D σ H'=>σ[0]? =some (some (.ref fl))/\H'=H/\∃env fw env',Rel K (fun b=>H b≠none) G σ env H'/\mb o env=some (fw,env')/\Post K (fun b=>H b≠none) G σ env H' env' D fw)):
  nP P w K mg base x (k+1) kc (IZ N.length mb):=by
 have hN:1≤N.length:=by have:=Za List.length S.pre;rw[Yi]at this;simp only[Qo,Yc]at this;omega
 refine⟨f,hm,F.kp,fun A outer s H fl o G Q hr e0 clo rl hfr=>?_⟩
 obtain⟨oc,od,kV,doc,pm,an,cdv,ct,osl,rfl,lk,hcd⟩:=F.ex;obtain⟨d,hd,hQ⟩:=hfr;have KX:K.In s.heap:=e0.mod.kin.keeps fun b o e=>(e0.bs b o e).1
 refine YR (us:=[.ref fl]) (vs:=[.ref fl]) lk hcd S hr e0 ?_ (.cons rfl .nil) rfl fun hr'=>?_
 ·have:=hbi s [.ref fl] KX rfl
  simpa using this
 ·have un0:∀{pins:OX}{σ:St}{H':Hp}{s':Shared},Inv (M9 kF P w K mg base N qual (E8 st) f cdv A outer s H E0).nox pins σ H' s'->Un (lL outer) [] H H' s.heap s'.heap:=fun I=>I.base
  have q:=hb cdv A outer s H E0 fl o G hr' (fun pins σ H' s' I=>clo.1 H' s' (un0 I)) (fun pins s' σ env Q' E' I rl' hN' hX'=>?_)
  ·refine⟨_,q.nox,?_⟩
   have rl0:Rel K (fun b=>H b≠none) G (start N [.ref fl]) (List.replicate N.length .nil) H:=by
    have:=YS (B':=fun b=>H b≠none) (σ':=start N [.ref fl]) rl (fun b h=>h)
    rwa [YU hN]at this
   have side:∀{G' H':Hp}{σ':St}{env':a9},Ev K (fun b=>H b≠none) G (start N [.ref fl]) (List.replicate N.length .nil) H G' σ' env' H'->Ev K N4 G [] [] H G' [] [] H':=fun ev=>EV ev (fun a=>YT) rl
   unfold IZ at hd;split at hd
   ·rename_i d' env' em
    cases hd;exact⟨by rw[AN (by simp)];rfl,rfl,_,_,env',rl0,em,fun v σ' G' H' ev rp=>hQ v G' H' (side ev) rp⟩
   ·rename_i env' em
    cases hd;exact⟨by rw[AN (by simp)];rfl,rfl,_,_,env',rl0,em,fun σ' G' H' ev=>hQ .non G' H' (side ev) (by simp only[b0])⟩
   ·cases hd
  ·exact clo.2 _ _ s' Q' E' (hr'.mono hkc) I.oB (un0 I) (fun z v G' H' ev=>hN' z v G' H' (EV ev (fun a=>IW) rl')) fun n C z hC G' H' ev=>hX' n C z hC G' H' (EV ev (fun a=>IW) rl')
def YW(k:Bool)(w:W):W:=if k then(match w with|.dat d=>.dat d|_=>.nil)else .nil
def Aq(keep:List Bool)(env:a9):a9:=List.zipWith YW keep env
theorem Ia{keep:List Bool}{env:a9}{i:Nat}{w:W}(h:(Aq keep env)[i]? =some w)(hw:w≠.nil):∃d,w=.dat d/\keep[i]? =some true/\env[i]? =some (.dat d):=by
 unfold Aq at h;rw[Jq]at h;cases e1:keep[i]? with
 |none=>rw[e1]at h;cases h
 |some k=>
  cases e2:env[i]? with
  |none=>rw[e1,e2]at h;cases h
  |some w0=>
   rw[e1,e2]at h;cases k with
   |false=>cases h;exact absurd rfl hw
   |true=>
    cases w0 with
    |dat d=>cases h;exact⟨d,rfl,rfl,rfl⟩
    |nil=>cases h;exact absurd rfl hw
    |own _=>cases h;exact absurd rfl hw
    |par _=>cases h;exact absurd rfl hw
    |ownD _ _=>cases h;exact absurd rfl hw
    |parD _ _=>cases h;exact absurd rfl hw
theorem YX{K:Frag}{B:OA}{G H:Hp}{σ:St}{env:a9}{keep:List Bool}(rl:Rel K B G σ env H)(hk:keep.length=σ.length):Rel K (fun b=>H b≠none) G (N6 keep 0 σ) (Aq keep env) H:=by
 have nm:∀(w:W) (es:Mu),w.mut=some es->w≠.nil:=fun w es h z=>by rw[z]at h;cases h
 have no:∀(i:Nat) (w:W) (ds:Mu),(Aq keep env)[i]? =some w->w.mut=some ds->False:=fun i w ds e1 e2=>by
  obtain⟨d,z,_⟩:=Ia e1 (nm w ds e2);rw[z]at e2;cases e2
 refine⟨rl.sub,?_,fun i d e=>?_,fun i w ds e1 e2=>(no i w ds e1 e2).elim,fun i j w w' ds es a e1 e2=>(no i w ds e1 e2).elim,fun i w a e eo=>(let ⟨m,q⟩:=nA eo;no i _ m e q).elim,fun b h=>h,rl.tabs,rl.gnt⟩
 ·unfold Aq N6
  rw[Ql,Yp,Yp,Zt,rl.len];rfl
 ·obtain⟨d',z,k1,k2⟩:=Ia e (by simp)
  cases z;obtain⟨v,e1,e2⟩:=rl.dat i d k2;exact⟨v,Dw k1 e1,e2⟩
theorem YY{σ:St}{keep:List Bool}{env:a9}{a:Addr}:¬ d8 σ (Aq keep env) a:=fun⟨i,w,ds,e1,e2,_⟩=>by
 have:w≠.nil:=fun z=>by rw[z]at e2;cases e2
 obtain⟨d,z,_⟩:=Ia e1 this;rw[z]at e2;cases e2
def W3(names:List Str)(keep:List Bool)(mb:Mo D)(xb:Mx)(fr:Option Str->Option D):Mo D:=fun env=>(outcome names mb xb (Aq keep env)).bind fun o=>(fr o).map fun d=>(d,env)
structure nE(K:Frag)(mg:OU)(base:Heap)(cd:Value)(qual:Str)(P:Addr):Prop where
 ex:∃c,cd=.ref c/\codeHdIn K c P=true/\codeIn K (.ref c) qual=true
 tq:pL K P qual=true
 bm:Ap mg base
section
variable{X:Cx}{B:OA}{x S qual:Str}{names:List Str}{k kc:Nat}{fr:Option Str->Option D}{P:Addr}{N':List Str}{scope:Scope}{keep:List Bool}{params:Arguments}{body:Expr}{mb:Mo D}{xb:Mx}{p lpos pos:Pos}{ps0:Array Value}
theorem NH(Rd:nP X.prog X.w X.K X.mg X.base x k (kc+1) fr)(hr:g9 k X.A)(hg:Gl X x)(T:nE X.K X.mg X.base X.env.code qual P)(hq:X.env.qual=qual++".<locals>.")(hP:X.H₀ P=some (.tbl ps0))(hfn:∀y,X.fn y=true)(hx:AX X.K S names=true)
  (ok:kY X N' scope keep 0)(hco:scope.isCoroutine=false)(hgen:scope.isGenerator=false)(hnc:∀x∈scope.names,x.2≠.cell)(hdef:defaultsOf params X.env=([],[]))
  (hbind:∀cl pm c' ctv,bindArgs (kla_fn "<lambda>" (mV qual) params body scope cl pm (.ref c') ctv) ⟨[],[]⟩=pure [])
  (hb:∀(fl c':Addr) (cl:List (Str×Addr)) (H₁:Hp) (A:Around) (outer:List Env) (s:Shared) (E:XK),g9 kc (A.deeper (envX (mV qual) scope s.heap.objs.size fl (.ref c') cl))->ED (BQ X.prog X.w X.K X.mg X.base N' (mV qual) scope fl (.ref c') cl A outer s H₁ E).nox (fun b=>H₁ b≠none) body mb)
  (hxb:∀(fl c':Addr) (cl:List (Str×Addr)) (H₁:Hp) (A:Around) (outer:List Env) (s:Shared) (E:XK),g9 kc (A.deeper (envX (mV qual) scope s.heap.objs.size fl (.ref c') cl))->pQ (BQ X.prog X.w X.K X.mg X.base N' (mV qual) scope fl (.ref c') cl A outer s H₁ E) (fun b=>H₁ b≠none) E body xb)
  (hdb:(x==("__debug__":Str))=false:=by decide)(he:starEach [.Lambda params body scope lpos] X.env=(false,eval (.Lambda params body scope lpos) X.env)::starEach [] X.env:=by rfl)(hpl:(backTo pos (starEach [] X.env)).any (·.1)=false:=by rfl):
  ED X B (.Call (.Name x p) [.Lambda params body scope lpos] [] pos) (W3 names keep mb xb fr):=by
 intro pins s σ H Q I ⟨G,env,d,env',rl,em,k⟩;obtain⟨o,eo,e2⟩:=C7 em;obtain⟨d',ed,e3⟩:=E9 e2;cases e3;obtain⟨f,hm,hkp,qP⟩:=Rd.ex;obtain⟨more,hPs⟩:=I.base.tbls P ps0 hP;obtain⟨c,hcd,hc1,hc2⟩:=T.ex;refine Yo (DX I hg hm ?_ hdb);refine callWith_K (h₀:=X.base) I.ok.mod.kin hkp ?_ he hpl;rw[he];show wpAny _ _ (spliced ((false,eval (.Lambda params body scope lpos) X.env)::backTo pos (starEach [] X.env))) _ _ s;refine Calls.spliced_cons (YQ I hcd hc1 hc2 T.tq hq T.bm hPs rl.tabs ok.clos hdef fun fl c' H1 s1 Md=>?_)
 refine Calls.spliced_nil ⟨Md.inv.kIn,?_⟩;have j5:=Md.ev B G env rl;have kl:keep.length=σ.length:=by rw[ok.klen,I.len]
 have stk:∀{b},b∈lL X.stack->b<s.heap.objs.size:=fun{b} hb=>by obtain⟨_,o,g,_⟩:=I.stack.mem hb;exact Qu g
 have L:qH X.K params body scope N' (mV qual) fl c' (N5 X.env.cells scope.names []) (N6 keep 0 σ) s1 H1 X.stack:=by
  have sub:∀{y c},(N5 X.env.cells scope.names []).lookup y=some c->X.env.cells.lookup y=some c:=fun{y c} z=>(BJ z).elim (fun q=>by cases q) id
  refine⟨Md.obj,Md.free,fun z=>absurd (stk z) (Nat.not_lt.mpr Md.new),⟨_,Md.code,fun h p=>p qual T.tq⟩,fun y z c q1 q2=>I.ok.inj y z c (sub q1) (sub q2),fun y z=>Yj.mp (By (Zj z) (ok.free _ (Zj z) rfl)),fun y c q=>?_,fun i y v q1 q2 q3=>?_,?_⟩
  ·obtain⟨v,oc,g1,g2⟩:=I.cell y c (sub q)
   have g:=Md.keep c oc (I.freeC y c (sub q)) g1
   refine⟨⟨v,oc,g.1,g2⟩,g.2,fun z=>?_⟩
   rcases Qg.mp (I.stkSub c z)with z|z
   ·exact I.cne y c (sub q) z
   ·obtain⟨_,o2,g3,_⟩:=I.ok.funs.mem z
    exact absurd (Qu g3) (Nat.not_lt.mpr (I.ok.cab y c (hfn y) (sub q)))
  ·obtain⟨k1,k2⟩:=Bz q2
   obtain⟨h1,h2,h3⟩:=ok.kept i y k1 q1;have hfree:scope.names.lookup y=some .free:=by
    rcases q3 with z|z|z
    ·exact absurd z h2
    ·exact absurd z h3
    ·exact z
   obtain⟨m,hn,hl⟩:=I.loc;have ov:=ok.outVis i y k1 h1 hfree;obtain⟨u,r,l⟩:=hl i y v h1 k2 (.inr ov);obtain⟨c0,hc0⟩:=Yj.mp (By (acc:=[]) (Zj hfree) (ok.free _ (Zj hfree) rfl));refine⟨hfree,c0,u,hc0,r,?_⟩
   rcases l with⟨kl,_⟩|⟨_,c1,hc1,oc,g1,g2⟩
   ·have kl':X.env.scope.names.lookup y=some .local:=kl
    rcases ov with z|z<;>(rw[z]at kl';cases kl')
   ·have hc0':=sub hc0
    rw[hc1]at hc0';cases hc0';exact⟨oc,(Md.keep c0 oc (I.freeC y c0 (sub hc0)) g1).1,g2⟩
  ·unfold N6
   rw[Ql,Yp,Zt,ok.len,ok.klen,I.len];omega
 have clo:IY X.prog X.w X.K X.mg X.base (kc+1) fl s1 H1 X.stack o G:=
  YK L ok.kind hco hgen hnc (fun pm ctv=>hbind _ pm c' ctv) (YX j5.rel kl) (fun a=>YY) hx eo (fun A outer s E hr=>(hb fl c' _ H1 A outer s E hr).nox) (fun A outer s E hr=>hxb fl c' _ H1 A outer s E hr)
 refine wpAny_call (Vi (qP X.A X.stack s1 H1 fl o G Q hr Md.inv.oB clo (ND j5.rel) ⟨_,ed,fun v G' H' ev rp=>k v G' H' (j5.trans (EV ev (fun a=>IW) j5.rel)) rp⟩) fun r s' hq=>?_)
 cases r with
 |error e=>exact False.elim hq
 |ok fw=>
  cases fw with
  |ret u=>exact Md.inv.after hq
  |next=>exact False.elim hq
  |brk=>exact False.elim hq
  |cont=>exact False.elim hq
end
def NI(ts:List Addr)(H:Hp):Prop:=∀P∈ts,∃ps,H P=some (.tbl ps)
def rB(K:Frag)(ts:List Addr)(n:Nat)(f:Fn):Sp:=fun vs H Q E=>NI ts H/\k7 K n f vs H Q E
theorem YZ{P:Program}{w:World}{K:Frag}{mg:OU}{base:Heap}{x qual:Str}{st:Stmt}{f:Addr}{fd:FuncData}{N ps:List Str}{k:Nat}{mb:Mo Fl}{ts:List Addr}{cdv0:Value}(F:kM K x qual st f fd)(hcd0:fd.code=cdv0)(S:c4 N ps (E8 st))
  (hb:∀(A:Around) (outer:List Env) (s:Shared) (H:Hp) (E:XK),NI ts H->g9 k (A.deeper (envOfC qual (E8 st) s.heap.objs.size f cdv0))->
   pD (M9 kF P w K mg base N qual (E8 st) f cdv0 A outer s H E).nox (fun b=>H b≠none) (X1 st) mb):f6 P w K mg base kF (k+1) f fd ps (rB K ts ps.length (kJ N.length mb)):=by
 have hpl:ps.length≤N.length:=by have:=Za List.length S.pre;rw[Yi]at this;omega
 obtain⟨oc,od,kV,doc,pm,an,cdv,ct,osl,rfl,lk,hcd⟩:=F.ex;obtain rfl:cdv=cdv0:=hcd0;refine HX lk hcd S (fun vs H Q E h=>?_) (fun A outer s H vs Q E hr h=>?_)
 ·obtain⟨_,G,ws,r,ws',hl,ok,rl,_⟩:=h
  have:=rl.len;rw[Qk]at this;omega
 ·obtain⟨tb,G,ws,r,ws',hl,ok,rl,e,k⟩:=h
  have hv:ws.length=vs.length:=by have:=rl.len;rwa [Qk]at this
  refine⟨_,(hb A outer s H E tb hr).nox,?_⟩;have rl':=Ho (N:=N) rl ok (by omega)
  unfold kJ at e;split at e
  ·rename_i d env em
   cases e;refine⟨G,_,_,env,rl',em,?_⟩;exact fun v σ' G' H' ev rp=>k v G' H' (Bw rl ok (by omega) ev) rp
  ·rename_i ds env em
   cases e;refine⟨G,_,_,env,rl',em,?_⟩;intro a xs σ' G' H' ev nb no h' g' rp;refine k a xs G' H' (Bw rl ok (by omega) ev) (Je nb) ?_ h' g' rp
   rintro⟨i,w',es,e1,e2,e3⟩;obtain⟨w1,w2,q1,q2,q3⟩:=Fa e1;subst q3;obtain⟨q4,q5,q6,q7⟩:=Hq (ok _ (Jk q1)) e2;have hi:i<vs.length:=by have:=(Qb.mp q1).1;omega
   exact no ⟨i,_,es,q2,q4,by rw[(ev.par i w2 q2 q5).1,AN hi];exact e3⟩
  ·rename_i env em
   cases e;refine⟨G,_,_,env,rl',em,?_⟩;exact fun σ' G' H' ev=>k .non G' H' (Bw rl ok (by omega) ev) (by simp only[b0])
  ·cases e
theorem ZA{P:Program}{w:World}{K:Frag}{mg mb:OU}{k:Nat}{fa a:Addr}{fd:FuncData}{x:Str}{fn:Fn}{ts:List Addr}{s₁:Shared}{vs:List Value}{ns:List Int}
  (KX:K.In s₁.heap)(hnt:noTabs K=true)(hts:∀p∈ts,s₁.heap.get? p=some (tabObj #[]))(hcs:∀p∈ts,∃c,codeHdIn K c p=true)(hns:s₁.heap.Ns mainGlobals mg)(hb:s₁.heap.Ns builtinsNs mb)(hbb:∀x:Str,x≠"__name__"->mb x=bootBuiltins x)(hlim:s₁.heap.NoLimit)(hbm:Ap mg s₁.heap)(hg:s₁.gens= #[])
  (ha:s₁.heap.get? a=some {cls:=.type "list",data:=.seq vs.toArray})(hi:IntsAre vs ns)(hl:ns.length≤sizeLine)(hr:g9 k callerA)
  (F:∀base:Heap,K.In base->base.Ns mainGlobals mg->Ap mg base->f6 P w K mg base kF k fa fd [x] (rB K ts 1 fn))(hbind:∀(s:Shared) (u:Value),BindsTo s fd ⟨[u],[]⟩ [(x,u)])
  (ht:∃ws',fn [.dat (.lst (ns.map D.int))]=some (.d (.bl true),ws')):
  codeAny (model P w) callerA (.call (.ref fa) ⟨[.ref a],[]⟩) (fun r s'=>r=.ok (.ret (.bool true))/\OldK s₁.heap s'.heap/\s'.os=s₁.os/\AllBare s'.gens) s₁:=by
 have rv:=Lv hi
 have lenV:=hi.length
 have nat:a∉ts:=fun z=>by have:=hts a z;rw[ha]at this;cases this
 have kno:∀{b:Addr}{o:Obj},K.lookup b=some o->b∉ts:=fun{b o} e z=>by
  have h2:=Qy.mp hnt (b,o) (mem_of_lookupK e)
  have h3:=KX b o e
  rw[hts b z]at h3;cases h3;cases h2
 have core:∀(H:Hp),(∀b,H b=none\/(b=a/\∃o xs,H b=some (.frz o (.lst xs)))\/(b∈ts/\H b=some (.tbl #[])))->(∀b∈ts,H b=some (.tbl #[]))->lX K H a (ns.map V.int)->mI P w H s₁.heap->(H a≠none->K.lookup a=none)->
   codeAny (model P w) callerA (.call (.ref fa) ⟨[.ref a],[]⟩) (fun r s'=>r=.ok (.ret (.bool true))/\OldK s₁.heap s'.heap/\s'.os=s₁.os/\AllBare s'.gens) s₁:=by
  intro H hO hT hS hok hK;have base_of:∀{b:Addr}{o:Obj},s₁.heap.get? b=some o->H b=none->(AF s₁.heap H).get? b=some o:=fun e n=>Rw e n
  have noA:∀{b:Addr}{o:Obj},s₁.heap.get? b=some o->o.cls≠.type "list"->o.cls≠.none->H b=none:=fun{b o} e d1 d2=>by
   rcases hO b with q|⟨q,_⟩|⟨q,_⟩
   ·exact q
   ·subst q;rw[ha]at e;cases e;exact absurd rfl d1
   ·rw[hts b q]at e;cases e;exact absurd rfl d2
  have noD:∀{b:Addr}{o:Obj}{es:Array DictEntry}{ep:Nat},s₁.heap.get? b=some o->o.data=.dict es ep->H b=none:=fun{b o es ep} e d=>by
   rcases hO b with q|⟨q,_⟩|⟨q,_⟩
   ·exact q
   ·subst q;rw[ha]at e;cases e;cases d
   ·rw[hts b q]at e;cases e;cases d
  have nsK:∀{b:Addr}{m:OU},s₁.heap.Ns b m->(AF s₁.heap H).Ns b m:=fun{b m} ⟨o,es,ep,e,d,r⟩=>⟨o,es,ep,base_of e (noD e d),d,r⟩
  have hKb:K.In (AF s₁.heap H):=fun b o e=>base_of (KX b o e) (by
   rcases hO b with q|⟨q,o',xs,z⟩|⟨q,_⟩
   ·exact q
   ·subst q;rw[hK (by rw[z];simp)]at e;cases e
   ·exact absurd q (kno e))
  have hM:Mod K mg (AF s₁.heap H):=⟨hKb,nsK hns,⟨mb,nsK hb,hbb⟩,let ⟨mc,h1,h2⟩:=hlim;⟨mc,nsK h1,h2⟩⟩
  have hBm:Ap mg (AF s₁.heap H):=by
   obtain⟨bm,o,b1,b2,b3,b4,b5,b6,b7⟩:=hbm;exact⟨bm,o,b1,b2,b3,base_of b4 (noA b4 (by rw[b5];simp) (by rw[b5];simp)),b5,b6,b7⟩
  have e0:oA P w K mg (AF s₁.heap H) callerA [] s₁ H:=⟨rfl,hM,fun b o e=>Rx e,Nat.le_of_eq (Rv _ _),trivial,fun b hb=>absurd (show b∈([]:List Addr)from hb) (by simp),hok,.of_eq hg⟩
  have sp:rB K ts 1 fn [.ref a] H (fun v _=>v=.bl true) (fun _ _ _=>False):=by
   obtain⟨ws',e⟩:=ht;refine⟨fun p hp=>⟨#[],hT p hp⟩,fun b=>if b∈ts then none else H b,[.dat (.lst (ns.map D.int))],.d (.bl true),ws',rfl,fun v hv=>.inl ?_,⟨fun b o z=>?_,rfl,fun i d z=>?_,fun i v ds e1 e2=>?_,fun i j v v' ds es a e1 e2=>?_,fun i w a e1 e2=>?_,fun b h=>h.elim,fun p ps z=>?_,fun b o z ps y=>?_⟩,e,?_⟩
   ·simp at hv;exact⟨_,hv⟩
   ·split at z
    ·cases z
    ·exact z
   ·cases i with
    |zero=>
     simp at z
     subst z;refine⟨.ref a,rfl,?_⟩;simp only[b0];refine⟨a,_,rfl,?_,Mj ns⟩
     rcases hS with(q|⟨o,q⟩)|q
     ·exact .inl (.inl ((Qt nat).trans q))
     ·exact .inl (.inr ⟨o,(Qt nat).trans q⟩)
     ·exact .inr q
    |succ i=>simp at z
   ·cases i with
    |zero=>simp at e1;subst e1;cases e2
    |succ i=>simp at e1
   ·cases i with
    |zero=>simp at e1;subst e1;cases e2
    |succ i=>simp at e1
   ·cases i with
    |zero=>simp at e1;subst e1;cases e2
    |succ i=>simp at e1
   ·rcases hO p with q|⟨_,o,xs,q⟩|⟨_,q⟩
    ·rw[q]at z;cases z
    ·rw[q]at z;cases z
    ·rw[q]at z;cases z
     exact⟨trivial,fun pos v y=>by cases y⟩
   ·split at z
    ·cases z
    ·rename_i hb
     rcases hO b with q|⟨_,o',xs,q⟩|⟨q,_⟩
     ·rw[q]at z;cases z
     ·rw[q]at z;cases z;cases y
     ·exact hb q
   ·intro v G' H' _ rp
    simpa only[b0]using rp
  refine Vi ((F _ hKb (nsK hns) hBm).run callerA [] s₁ H ⟨[.ref a],[]⟩ [.ref a] [.ref a] _ _ hr e0 (hbind s₁ (.ref a)) (.cons rfl .nil) sp) fun r s' h=>?_
  cases r with
  |error e=>exact False.elim h
  |ok fl=>
   cases fl with
   |next=>exact False.elim h
   |brk=>exact False.elim h
   |cont=>exact False.elim h
   |ret u=>
    obtain⟨v,H',os,bare,un,hok',r',q⟩:=h;have q':v=.bl true:=q;subst q';obtain rfl:u=Value.bool true:=r';refine⟨rfl,⟨fun b o e=>?_,fun b o e=>un.there b o e (by simp)⟩,os,bare⟩
    rcases hO b with q|⟨_,ob,xs,z⟩|⟨hb,z⟩
    ·exact .inl (un.keep b o e q (by intro z;exact absurd (show b∈([]:List Addr)from z) (by simp)) (by simp))
    ·have z2:=un.frzs b ob _ z
     obtain⟨e1,_⟩:=hok b _ z;obtain⟨e2,_⟩:=hok' b _ z2;rw[e]at e1;cases e1;exact .inl e2
    ·obtain⟨more,z2⟩:=un.tbls b #[] z
     have e2:s'.heap.get? b=some {cls:=.none,data:=.fields (#[]++more)}:=hok' b _ z2
     have e3:=hts b hb
     rw[e]at e3;cases e3;obtain⟨c,hc⟩:=hcs b hb;exact .inr (.inl ⟨((codeHd_of_K KX hc).tab (hts b hb)).isCodeTable,rfl,#[],more,rfl,e2⟩)
 cases hk:K.lookup a with
 |some o=>
  have e:=KX a o hk
  rw[ha]at e;cases e;refine core (fun b=>if b∈ts then some (.tbl #[])else none) (fun b=>?_) (fun b hb=>Qc hb) (.inr ⟨_,vs.toArray,_,hk,rfl,rfl,rfl,by rw[Qp,lenV];exact hl,by simpa using rv⟩) (fun b u z=>?_) fun z=>absurd (Qt nat) z
  ·by_cases hb:b∈ts
   ·exact .inr (.inr ⟨hb,Qc hb⟩)
   ·exact .inl (Qt hb)
  ·dsimp only at z
   split at z
   ·rename_i hb;cases z;exact hts b hb
   ·cases z
 |none=>
  refine core (fun b=>if b=a then some (.frz {cls:=.type "list",data:=.seq vs.toArray} (.lst (ns.map V.int)))else if b∈ts then some (.tbl #[])else none) (fun b=>?_) (fun b hb=>by
   have hne:b≠a:=fun z=>nat (by rw[←z];exact hb)
   show(if b=a then _ else if b∈ts then _ else _)=_
   rw[Qt hne,Qc hb]) (.inl (.inr ⟨{cls:=.type "list",data:=.seq vs.toArray},Qc rfl⟩)) (fun b u z=>?_) fun _=>hk
  ·by_cases hb:b=a
   ·exact .inr (.inl ⟨hb,_,_,Qc hb⟩)
   ·by_cases hb2:b∈ts
    ·exact .inr (.inr ⟨hb2,by rw[Qt hb,Qc hb2]⟩)
    ·exact .inl (by rw[Qt hb,Qt hb2])
  ·dsimp only at z
   split at z
   ·rename_i hb
    cases z;subst hb;exact⟨ha,by rw[Qk];exact hl,vs,_,rv,ha⟩
   ·split at z
    ·rename_i hb;cases z;exact hts b hb
    ·cases z
theorem ZB{l:OpenLaw}{k:Nat}{q:Program}{loose:List Str}{XP:(OU)->Heap->Prop}{YP:World->Heap->Prop}{d:DefRec}{K:Params->Frag}{x:Str}{fn:Fn}{ts:List Addr}
  (hn:l.most=some 63)(hdf:d.params.defaults=[])(hr:g9 k callerA)(hY:∀(w:World) (h:Heap),YP w h->(K w.params).In h/\∀p∈ts,h.get? p=some (tabObj #[]))
  (F:∀(w:World) (mg:OU) (fa:Addr) (h:Heap),(K w.params).In h->h.Ns mainGlobals mg->mg d.name=some (.ref fa)->
   ∃fd:FuncData,(∀(s:Shared) (u:Value),BindsTo s fd ⟨[u],[]⟩ [(x,u)])/\noTabs (K w.params)=true/\(∀p∈ts,∃c,codeHdIn (K w.params) c p=true)/\∀base:Heap,(K w.params).In base->base.Ns mainGlobals mg->Ap mg base->f6 l.prog w (K w.params) mg base kF k fa fd [x] (rB (K w.params) ts 1 fn))
  (ht:∀ns:List Int,ns.length≤63->∃ws',fn [.dat (.lst (ns.map D.int))]=some (.d (.bl true),ws')):
  WalkO q loose XP YP l.row.toRowW d [] (fun f vs=>PySem.call f vs):=by
 refine Att.oC hn hdf fun w s₀ s₁ mg mb fa o pm cd doc a vs ns G Y ho hd hcd hmg hobj hints hlen hg=>?_
 obtain⟨KX,hT⟩:=hY w _ Y;obtain⟨fd,hb,hnt,hcs,hF⟩:=F w mg fa _ KX G.T.g hmg;have hbm:Ap mg s₁.heap:=by
  obtain⟨bm,ob,b1,b2,b3,b4,b5,b6⟩:=G.T.bmain;refine⟨bm,ob,b1,b2,fun z=>?_,b3,b4,b5,b6⟩
  obtain⟨o,es,ep,e,hd,_⟩:=G.T.g;rw[z,e]at b3;cases b3;rw[hd]at b6;cases b6
 exact ZA KX hnt hT hcs G.T.g G.T.b G.T.builtins G.T.nolimit hbm hg hobj hints (Zs hlen (by decide)) hr hF hb (ht ns hlen)
theorem Ib{K:Frag}{S n:Str}{names:List Str}(h:AX K S names=true)(hn:n∈names):BO K n=true:=let ⟨_,F⟩:=Cw h hn;F.one
def Fx(K:Frag)(cd:Value)(P:Addr):Bool:=match cd with
 |.ref c=>codeHdIn K c P
 |_=>false
theorem NJ{K:Frag}{cd:Value}{P:Addr}(h:Fx K cd P=true):∃c,cd=.ref c/\codeHdIn K c P=true:=by
 unfold Fx at h;split at h
 ·exact⟨_,rfl,h⟩
 ·cases h
theorem ZC{K:Frag}{mg:OU}{base:Heap}{cd:Value}{qual:Str}{P:Addr}(h1:Fx K cd P=true)(h2:codeIn K cd qual=true)(h3:pL K P qual=true)(hb:Ap mg base):nE K mg base cd qual P:=by
 obtain⟨c,rfl,hc⟩:=NJ h1;exact⟨⟨c,rfl,hc,h2⟩,h3,hb⟩
end L2.Mir
namespace L2.Mir
open PySem PySem.Spec PyProof.Rows PySem.W
def nQ:List D->Option (List Bool)
 |[]=>some []
 |.bl i::r=>(nQ r).map fun l=>i::l
 |_::_=>none
theorem NK{K:Qq}{G:Hp}:∀{ds:List D}{xs:List V}{ns:List Bool},C3 K G xs ds->nQ ds=some ns->xs=ns.map V.bl
 |[],_,ns,r,e=>by simp only[C3]at r;subst r;cases e;rfl
 |d::ds,_,ns,r,e=>by
  simp only[C3]at r;obtain⟨x,t,rfl,q,r⟩:=r;cases d<;>first|(exact absurd (show(none:Option (List Bool))=some ns from e) (by simp))|skip
  obtain⟨l,e1,e2⟩:=E9 (show(nQ ds).map _=some ns from e)
  subst e2;simp only[b0]at q;subst q;rw[NK r e1];rfl
def Ic:D->D->Option D
 |.lst ds,.bl b=>(nQ ds).bind fun bs=>(bs.findIdx? fun y=>y==b).map fun(j:Nat)=>D.int (j:Int)
 |_,_=>none
section
variable{X:Cx}{B:OA}{pos:Pos}{o e:Expr}{ma mb:Mo D}
theorem ZD(ns:List Bool):(ns.map V.bl).all X0=true:=by
 induction ns with
 |nil=>rfl
 |cons n ns ih=>simp[X0,ih]
def ZE(K:Frag):V->List V->Hp->VK->Prop:=fun x vs H Q=>∃(p:Addr) (bs:List Bool) (b:Bool) (j:Nat),x=.ref p/\vs=[.bl b]/\lX K H p (bs.map V.bl)/\(bs.findIdx? fun y=>y==b)=some j/\Q (.int j) H
theorem ZF:uU X "list.index" (ZE X.K):=by
 intro pins s σ H x vs v us Q I rx rv h;obtain⟨p,bs,b,j,rfl,rfl,hq,hj,q⟩:=h;cases rx;obtain⟨u,rfl,ru⟩:=rv.one;have ru':=ru;cases ru;obtain⟨its,r,pl,hz⟩:=I.list hq;obtain⟨⟨oc,od,odt,osl⟩,n,e,hc,hd,hdt⟩:=pl;dsimp only at hc hd hdt;subst hc hd hdt;obtain⟨hjl,hj1,hj2⟩:=List.findIdx?_eq_some_iff_getElem.mp hj;have hlen:its.length=bs.length:=by have:=r.length;simpa using this.symm
 have item:∀(m:Nat) (hm:m<its.length),its[m]=.bool (bs[m]'(by omega)):=fun m hm=>by
  obtain⟨u,h1,h2⟩:=r.get (i:=m) (x:=.bl (bs[m]'(by omega))) (by simp[show m<bs.length by omega])
  rw[Zv hm]at h1;cases h1;exact h2
 refine Xa PySem.F.slot_list_index ⟨_,e,rfl⟩ PySem.F.entry_list_index (PySem.F.args_list_index_2 _ _)
  (SeqAt.list_indexAt p its.toArray n none osl (.bool b) (oH (.bl b)) j (by simpa using (by omega:j<its.length)) ?_ ?_ ?_) ⟨?_,fun w hw=>CZ (x:=.bl b) ru' rfl r (ZD bs) w (by simpa using hw),⟨.int j,H,I.tok _,⟨_,rfl⟩,q⟩⟩
 ·have:its.length≤sizeLine:=by rw[hlen];simpa using hz
  rw[sizeLine_eq]at this
  omega
 ·rw[List.getElem_toArray,item j (by omega)]
  show(bs[j]==b)=true;exact hj1
 ·intro m hm hlt
  rw[List.getElem_toArray,item m (by simpa using hm)]
  show(bs[m]==b)=false;exact Bool.eq_false_iff.mpr (hj2 m hlt)
 ·exact e
theorem NL{apos cpos:Pos}(ho:ED X B o ma)(he:ED X B e mb)
  (hbase:attributeBase o "index" X.env (eval o X.env)=eval o X.env:=by rfl)
  (hfew:((backTo cpos (starEach [e] X.env)).all (fun x=>!x.1)&&(backToKw cpos (keywordEach [] X.env)).all (fun x=>x.1.isSome)
   &&decide ([e].length+([]:List Keyword).length+(if([]:List Keyword).isEmpty then 0 else 1)<30))=true:=by rfl)
  (hline:(apos.endLine==cpos.line)=true:=by rfl)(hs:starEach [e] X.env=(false,eval e X.env)::starEach [] X.env:=by rfl)(hplain:(backTo cpos (starEach [] X.env)).any (·.1)=false:=by rfl):
  ED X B (.Call (.Attribute o "index" apos) [e] [] cpos) (B8 Ic ma mb):=by
 refine d6 (Lq PySem.F.plainAttrs_list PySem.F.slot_list_index PySem.F.type_list_index ZF ho (O5 he Aj hs) hbase hfew hline hs hplain) ?_
 rintro σ H Q ⟨G,env,d,env',rl,e,k⟩;obtain⟨⟨d1,a8⟩,e1,e2⟩:=C7 e;obtain⟨⟨d2,f9⟩,e3,e4⟩:=C7 e2;obtain⟨d3,e5,e6⟩:=E9 e4;cases e6;dsimp only at e3 e5;unfold Ic at e5;split at e5
 ·rename_i ds b
  obtain⟨bs,e7,e8⟩:=C7 e5;obtain⟨j,e9,e10⟩:=E9 e8;cases e10;refine .bind rl e1 fun v G1 H1 j5 r1=>?_
  simp only[b0]at r1;obtain⟨a,xs,rfl,hq,rp⟩:=r1;refine⟨.inl ⟨rfl,xs,j5.rel.sub.sqL hq⟩,.bind j5.rel e3 fun v2 G2 H2 d7 r2=>?_⟩
  simp only[b0]at r2;subst r2;have hb:=NK rp e7;subst hb;exact⟨a,bs,b,j,rfl,rfl,(d7.same.trans d7.rel.sub).sqL hq,e9,k _ G2 H2 (j5.trans d7) (by simp only[b0])⟩
 ·cases e5
end
open AutoSeq1 (wpAny_loadPart')
section
variable{prog:Program}{w:World}{A:Around}{E:OE}{s:Shared}
end
section
variable{X:Cx}{B:OA}{pos:Pos}{a b c e:Expr}{ms:Mo (List D)}
end
section
variable{X:Cx}{B:OA}{pos:Pos}
end
def X9(elt:Expr)(gens:List Comprehension)(scope:Scope)(pos:Pos)(d:Nat)(acc:Value)(env:Env):Sem Unit:=match gens[d+1]? with
 |some g'=>do
  let x←eval g'.iter env
  standAt g'.iter.pos
  let x←if g'.is_async !=0 then foldedIterable g'.iter x else foldedSetIterable g'.iter env x
  let _←runOwn (.compStart (.ListComp elt gens scope pos) (d+1) (←holding [x] (if g'.is_async !=0 then asyncIter x else pyIter x)) acc env) env
 |none=>do let _←call (.builtin "list.append") [acc,←eval elt env]
theorem ZG{elt target iter:Expr}{ifs:List Expr}{gens:List Comprehension}{scope:Scope}{pos:Pos}{d:Nat}{it acc:Value}{env:Env}(hd:gens[d]? =some ⟨target,iter,ifs,0⟩):
  compTurn (.ListComp elt gens scope pos) d it acc env=(do
   standAt iter.pos
   match←pyNext it with
   |none=>pure (.done .next)
   |some v=>
    letOwnedTupleGo target it v
    assign target env v
    let mut ok:=true
    for c in ifs do
     if ok then ok←isTrue c env (eval c env)
    if ok then
     X9 elt gens scope pos d acc env
    again (.compLoop (.ListComp elt gens scope pos) d it acc env)):=by
 unfold compTurn X9;dsimp only;rw[hd];cases gens[d+1]? with
 |none=>rfl
 |some g'=>
  show(standAt iter.pos>>=fun _=>pyNext it>>=fun r=>_)=_
  refine Za (standAt iter.pos>>= ·) (funext fun _=>Za (pyNext it>>= ·) (funext fun r=>?_))
  cases r with
  |none=>rfl
  |some v=>
   refine Za (letOwnedTupleGo target it v>>= ·) (funext fun _=>Za (assign target env v>>= ·) (funext fun _=>Za (_>>= ·) (funext fun ok=>?_)))
   cases ok with
   |false=>rfl
   |true=>
    by_cases ha:(g'.is_async !=0)=true
    ·simp only[ha,Zm,bind_assoc,pure_bind]
    ·simp only[ha,Zm,Yu,bind_assoc,pure_bind,Zz]
section
variable{prog:Program}{w:World}{A:Around}{R:Result->Shared->Prop}{s:Shared}
theorem NM{elt target iter:Expr}{ifs:List Expr}{gens:List Comprehension}{scope:Scope}{pos:Pos}{d:Nat}{it acc:Value}{env:Env}(hd:gens[d]? =some ⟨target,iter,ifs,0⟩)(I:Nat->Shared->Prop)
  (turn:∀n s,I n s->wpAny (model prog w) A (pyNext it) (fun r s₁=>match r with
   |none=>R (.ok .next) s₁
   |some v=>wpAny (model prog w) A (letOwnedTupleGo target it v) (fun _ s₁'=>wpAny (model prog w) A (assign target env v) (fun _ s₂=>
     wpAny (model prog w) A (forIn ifs true fun c r=>if r=true then do let ok←isTrue c env (eval c env);pure (ForInStep.yield ok)else pure (ForInStep.yield r)) (fun ok s₃=>
      if ok=true then wpAny (model prog w) A (X9 elt gens scope pos d acc env) (fun _ s₅=>∃m,m<n/\I m s₅) (fun _ _=>False) s₃
      else∃m,m<n/\I m s₃) (fun _ _=>False) s₂) (fun _ _=>False) s₁') (fun _ _=>False) s₁) (fun _ _=>False) s)
  (n:Nat)(h:I n s):
  codeAny (model prog w) A (.compLoop (.ListComp elt gens scope pos) d it acc env) R s:=by
 refine codeAny_loop rfl I (fun n s hI=>?_) n h
 show wpAny _ A ((compTurn (.ListComp elt gens scope pos) d it acc env).onRaise (fun x=>do noteFrame x env;theTreesLotGoes x)) _ _ s
 refine wpAny_noted ?_
 rw[ZG hd];refine Qz (Uz (Qz (Qi (turn n s hI) (fun r s₁ h₁=>?_) fun _ _ h'=>h'.elim)))
 cases r with
 |none=>exact Qv h₁
 |some v=>
  refine Qz (Qi h₁ (fun _ s₁' h₁'=>?_) fun _ _ h'=>h'.elim)
  refine Qz (Qi h₁' (fun _ s₂ h₂=>Qz (Qi h₂ (fun ok s₃ h₃=>?_) fun _ _ h'=>h'.elim)) fun _ _ h'=>h'.elim)
  cases ok with
  |false=>exact Qv ⟨rfl,h₃⟩
  |true=>exact Qz (Qi h₃ (fun _ s₅ h₅=>Qv ⟨rfl,h₅⟩) fun _ _ h'=>h'.elim)
theorem ZH{elt target iter:Expr}{ifs:List Expr}{gens:List Comprehension}{scope:Scope}{pos:Pos}{d:Nat}{it acc:Value}{env:Env}(hd:gens[d]? =some ⟨target,iter,ifs,0⟩)
  (h0:codeAny (model prog w) A (.compLoop (.ListComp elt gens scope pos) d it acc env) R s)
  (h:wpAny (model prog w) A (pyIter it) (fun it' s'=>codeAny (model prog w) A (.compLoop (.ListComp elt gens scope pos) d it' acc env) R s')
   (notedBy (model prog w) A env fun x s'=>R (.error x) s') s):
  codeAny (model prog w) A (.compStart (.ListComp elt gens scope pos) d it acc env) R s:=by
 refine codeAny_of_tree ?_
 show wpAny _ _ ((compStart (.ListComp elt gens scope pos) d it acc env).onRaise (fun x=>do noteFrame x env;standAt theWindowsPlace)) _ _ s
 refine wpAny_notedAt ?_
 unfold compStart;rw[show clausesOf (.ListComp elt gens scope pos)=gens from rfl,hd]
 show wpAny _ _ (ask>>=_) _ _ s;refine Qz (wpAny_askSetting (wpAny_ite ?_));split
 ·first
   |exact Qz (Qv (Qv (And.intro rfl h0)))
   |exact Qv (And.intro rfl h0)
 ·first
   |exact Qz (Ja (Qz (Uz (Qz (Qi h (fun it' s' h'=>Qv (And.intro rfl h')) fun _ _ x=>x)))))
   |(refine Qz (Ja ?_);show wpAny _ _ (standAt iter.pos>>=_) _ _ s;exact Qz (Uz (Qz (Qi h (fun it' s' h'=>Qv (And.intro rfl h')) fun _ _ x=>x))))
end
abbrev Z4:=St->Hp->(St->Hp->Prop)->Prop
def Fy(J:It)(g:TG)(tt:TT)(act:Z4)(σ₀:St)(H₀:Hp)(Q:St->Hp->Prop):Prop:=
 ∃W:Nat->Nat->St->Hp->Prop,(∃m,W 0 m σ₀ H₀)/\∀i m σ H,W i m σ H->
  (J.stop i H/\Q σ H)\/(J.go i H/\∀x H',J.yld i H x H'->g x σ H' fun σ2 H2=>tt σ2 H2 fun b H3=>
   if b=true then act σ2 H3 fun σ4 H4=>∃m',m'<m/\W (i+1) m' σ4 H4 else∃m',m'<m/\W (i+1) m' σ2 H3)
def As(X:Cx)(sem:Sem Unit)(act:Z4):Prop:=∀(pins:OX) (s:Shared) (σ:St) (H:Hp) (Q:St->Hp->Prop),Inv X pins σ H s->act σ H Q->
 wpAny (model X.prog X.w) X.A sem (fun _ s'=>∃σ' H',Inv X pins σ' H' s'/\Q σ' H') (fun _ _=>False) s
def NN(te:TE)(p:Addr):Z4:=fun σ H Q=>te σ H fun y H4=>∃ys,H4 p=some (.lst ys)/\ys.length<sizeLine/\Q σ (upd H4 p (.lst (ys++[y])))
def NO(wi:TI)(g:TG)(tt:TT)(act:Z4):Z4:=fun σ H Q=>wi σ H fun J H1=>Fy J g tt act σ H1 Q
section
variable{X:Cx}{elt:Expr}{gens:List Comprehension}{scope:Scope}{pos:Pos}{d:Nat}
theorem ZI{te:TE}{p:Addr}(hx:∀e s,¬ X.xe e s)(hn:gens[d+1]? =none)(he:PE X elt te):As X (X9 elt gens scope pos d (.ref p) X.env) (NN te p):=by
 intro pins s σ H Q I h;unfold X9;rw[hn];refine Qz (Qi (he pins s σ H _ I h) (fun v s1 ⟨y,H1,I1,r1,ys,hys,hl,q⟩=>?_) fun e s' z=>(hx e s' z).elim)
 refine Qz (Qi (Ls (X:=X) _ s1 σ H1 (.ref p) [y] (.ref p) [v] (fun _ H2=>Q σ H2) I1 rfl (.cons r1 .nil) ⟨p,ys,y,rfl,rfl,hys,hl,q⟩) (fun _ s2 ⟨_,H2,I2,_,w2⟩=>Qv ⟨σ,H2,I2,w2⟩) fun e s' z=>(hx e s' z).elim)
theorem ZJ{tg iter:Expr}{ifs:List Expr}{wi:TI}{g:TG}{tt:TT}{act:Z4}{acc:Value}(hx:∀e s,¬ X.xe e s)(hc:X.calm=true)(hd:gens[d+1]? =some ⟨tg,iter,ifs,0⟩)(hi:PI X tg iter wi)(hg:PG X tg g)(ht:V1 X ifs tt)
  (ha:As X (X9 elt gens scope pos (d+1) acc X.env) act)(hs:∀x,foldedSetIterable iter X.env x=pure x):As X (X9 elt gens scope pos d acc X.env) (NO wi g tt act):=by
 intro pins s σ H Q I h;unfold X9;rw[hd];have nof:∀(e:Value) (s:Shared),X.xe e s->False:=fun e s z=>hx e s z
 refine Qz (Qi (hi pins s σ H _ I h) (fun v s1 h1=>?_) fun e s' z=>(hx e s' z).elim)
 refine Qz (Uz ?_);show wpAny _ _ (foldedSetIterable iter X.env v>>=_) _ _ s1;refine Qz (wpAny_of_eq (hs v) ?_);show wpAny _ _ (holding [v] (pyIter v)>>=_) _ _ s1;refine Qz (Jy (Qi h1 (fun itv s2 h2=>?_) fun e s' z=>(hx e s' z).elim))
 obtain⟨it,fp,tn,J,H2,e,I2,T,st2,f2,W,⟨m0,w0⟩,turn⟩:=h2;subst e;have stat:∀{H':Hp},(∀b∈fp,H' b=none)->∀b∈fp,T1 X pins H' b:=fun hn b hb=>⟨hn b hb,(f2 b hb).2⟩
 have loop:codeAny (model X.prog X.w) X.A (.compLoop (.ListComp elt gens scope pos) (d+1) (.ref it) acc X.env) (fun r s'=>match r with|.ok f=>wpAny (model X.prog X.w) X.A (pure ()) (fun _ s'=>∃σ' H',Inv X pins σ' H' s'/\Q σ' H') (fun _ _=>False) s'|.error e=>cameBackBy (model X.prog X.w) X.A X.env (fun _ _=>False) e s') s2:=by
  refine NM hd (fun n s'=>∃i σ' H',Inv X pins σ' H' s'/\tn i s'.heap/\(∀b∈fp,H' b=none)/\W i n σ' H') ?_ m0 ⟨0,σ,H2,I2,st2,fun b hb=>(f2 b hb).1,w0⟩
  rintro n s3 ⟨i,σ3,H3,I3,st3,fr3,w3⟩
  rcases turn i n σ3 H3 w3 with⟨stop,qn⟩|⟨go,step⟩
  ·refine Qi (T.done X rfl rfl rfl hc i pins s3 σ3 H3 (fun _ _=>False) I3 (stat fr3) st3 stop) (fun r s4 ⟨hr,I4⟩=>?_) fun _ _ z=>z
   subst hr;exact Qv ⟨σ3,H3,I4,qn⟩
  ·refine Qi (T.item X rfl rfl rfl hc i pins s3 σ3 H3 (fun _ _=>False) I3 (stat fr3) st3 go) (fun r s4 ⟨u,hr,h4⟩=>?_) fun _ _ z=>z
   subst hr;refine Qi h4 (fun _ s5 ⟨x,H5,I5,r5,y5,st5,fr5⟩=>?_) fun _ _ z=>z
   have I5':=I5.pinned (stat fr5) (T.obj _ _ st5)
   have back:∀{σ8:St}{H8:Hp}{s8:Shared}{m':Nat},Inv X (pins++CV fp s5.heap) σ8 H8 s8->m'<n->W (i+1) m' σ8 H8->∃m,m<n/\∃i σ' H',Inv X pins σ' H' s8/\tn i s8.heap/\(∀b∈fp,H' b=none)/\W i m σ' H':=fun{σ8 H8 s8 m'} I8 hm w8=>by
    refine⟨m',hm,i+1,σ8,H8,I8.unpinned,T.keep _ _ _ st5 fun b hb o e=>(I8.pin (b,o) (Zk _ (Zk _ (CW hb e)))).1,fun b hb=>?_,w8⟩
    obtain⟨o,e,d⟩:=T.obj _ _ st5 b hb;exact(I8.pin (b,o) (Zk _ (Zk _ (CW hb e)))).2.1
   refine Qi (hg _ s5 σ3 H5 x u _ I5' r5 (step x H5 y5)) (fun _ s6 ⟨σ6,H6,I6,q6⟩=>?_) nof
   refine Qi (ht _ s6 σ6 H6 _ I6 q6) (fun b s7 ⟨H7,I7,q7⟩=>?_) nof
   cases b with
   |false=>
    simp only[Zz,Yu]at q7 ⊢;obtain⟨m',hm,w7⟩:=q7;exact back I7 hm w7
   |true=>
    simp only[Zm]at q7 ⊢;exact Qi (ha _ s7 σ6 H7 _ I7 q7) (fun _ s8 ⟨σ8,H8,I8,m',hm,w8⟩=>back I8 hm w8) fun _ _ z=>z
 refine Qz (wpAny_runOwn (h:=none) (ZH hd loop (Qi (T.self X.A 0 s2 _ (fun _ _=>False) st2 loop) (fun _ _ q=>q) fun _ _ q=>q.elim)))
end
section
variable{X:Cx}{N':List Str}{scope:Scope}{keep:List Bool}{more:Nat}{tg iter elt:Expr}{ifs:List Expr}{gs:List Comprehension}{g:TG}{tt:TT}{act:Addr->Z4}{pos:Pos}
theorem NP{E:OE}{pins:OX}{σ:St}{H:Hp}{s:Shared}{it:Addr}{fp:List Addr}{tn:Nat->Heap->Prop}{J:It}{Qf:Addr->Hp->Prop}{RR:Value->Addr->Result->Shared->Prop}
  (ok:kY X N' scope keep more)(hc:X.calm=true)(hg:∀s H fp,PG (J1 X N' scope s H fp) tg g)(ht:∀s H fp,V1 (J1 X N' scope s H fp) ifs tt)(he:∀s H fp p,As (J1 X N' scope s H fp) (X9 elt (⟨tg,iter,ifs,0⟩::gs) scope pos 0 (.ref p) (J1 X N' scope s H fp).env) (act p))
  (I:Inv X pins σ H s)(T:Turn X.prog X.w X.K tg J fp it tn)(st:tn 0 s.heap)(hf:∀b∈fp,T1 X pins H b)
  (run:∀p,H p=none->Fy J g tt (act p) (N6 keep more σ) (upd H p (.lst [])) (fun _ H'=>Qf p H'))
  (hRR:∀p C s' H' m,Inv X pins σ H' s'->Qf p H'->s'.heap.Ns C m->C≠X.env.locals->(∀x c,X.env.cells.lookup x=some c->c≠C)->H' C=none->(∀σ'' H'' s'' h',Inv X pins σ'' H'' s''->H'' C=none->Heap.SameBut C s''.heap h'->Inv X pins σ'' H'' {s'' with heap:=h'})->RR (.ref p) C (.ok .next) s'):
  wpAny (model X.prog X.w) X.A (newList []) (fun acc s₃=>wpAny (model X.prog X.w) X.A (newFunctionEnv scope X.env.globals (N5 X.env.cells scope.names []) [] X.env.qual none .none (some X.env)) (fun cenv s₄=>
   codeAny (model X.prog X.w) X.A (.compStart (.ListComp elt (⟨tg,iter,ifs,0⟩::gs) scope pos) 0 (.ref it) acc {cenv with scope:=relabel scope X.env}) (RR acc cenv.locals) s₄) E s₃) E s:=by
 have hp0:H s.heap.objs.size=none:=I.hok.fresh (Qm _)
 refine Zc ?_
 have I3:Inv X pins σ (upd H s.heap.objs.size (.lst [])) {s with heap:=s.heap.push {cls:=.type "list",dict:=none,data:=.seq ([]:List Value).toArray}}:=
  I.laid (t':=s.toks) (fun b u e=>Qx _ e) (Qm _) ⟨Jj _,[],0,.nil,Qh _ rfl⟩
 have fpOld:∀b∈fp,b<s.heap.objs.size:=fun b hb=>by
  obtain⟨o,e,_⟩:=T.obj 0 _ st b hb;exact Qu e
 have hf3:∀b∈fp,T1 X pins (upd H s.heap.objs.size (.lst [])) b/\b<(s.heap.push {cls:=.type "list",dict:=none,data:=.seq ([]:List Value).toArray}).objs.size:=fun b hb=>by
  refine⟨⟨by rw[D6 (Qs (fpOld b hb))];exact(hf b hb).1,(hf b hb).2⟩,?_⟩
  rw[Yk];exact Ur (fpOld b hb)
 have st3:tn 0 (s.heap.push {cls:=.type "list",dict:=none,data:=.seq ([]:List Value).toArray}):=T.keep 0 _ _ st fun b hb o e=>Qx _ e
 generalize hs3:({s with heap:=s.heap.push {cls:=.type "list",dict:=none,data:=.seq ([]:List Value).toArray}}:Shared)=s3 at I3 ⊢
 have hs3h:s3.heap=s.heap.push {cls:=.type "list",dict:=none,data:=.seq ([]:List Value).toArray}:=by rw[←hs3]
 rw[←hs3h]at hf3 st3;generalize hp:s.heap.objs.size=p at hp0 I3 hf3 ⊢;generalize hH3:upd H p (.lst [])=H3 at I3 hf3;refine VT _ ?_
 have I4:=VS ok I3 hf3
 generalize hs4:({s3 with heap:=pushCells (s3.heap.push {cls:=.type "dict",data:=.dict #[]}) scope.names}:Shared)=s4 at I4 ⊢
 have st4:tn 0 s4.heap:=T.keep 0 _ _ st3 fun b hb o e=>by rw[←hs4];exact Xq _ _ _ _ (Qx _ e)
 obtain⟨W,⟨m0,w0⟩,turn⟩:=run p hp0;have stat:∀{H':Hp},(∀b∈fp,H' b=none)->∀b∈fp,T1 (J1 X N' scope s3 H3 fp) [] H' b:=fun hn b hb=>by
  have z:=I4.ok.exf b hb
  exact⟨hn b hb,z.1,I4.ok.exfs b hb,.inl hb,z.2,fun p hp=>absurd (show p∈([]:OX)from hp) (by simp)⟩
 have loop:codeAny (model X.prog X.w) X.A (.compLoop (.ListComp elt (⟨tg,iter,ifs,0⟩::gs) scope pos) 0 (.ref it) (.ref p) (Cm scope X.env s3.heap.objs.size)) (RR (.ref p) s3.heap.objs.size) s4:=by
  refine NM (d:=0) rfl (fun n s'=>∃i σ' H',Inv (J1 X N' scope s3 H3 fp) [] σ' H' s'/\tn i s'.heap/\(∀b∈fp,H' b=none)/\W i n σ' H') ?_ m0 ⟨0,_,H3,I4,st4,fun b hb=>(hf3 b hb).1.1,by rw[←hH3];exact w0⟩
  rintro n s5 ⟨i,σ5,H5,I5,st5,fr5,w5⟩
  rcases turn i n σ5 H5 w5 with⟨stop,qf⟩|⟨go,step⟩
  ·refine i4 (T.done (J1 X N' scope s3 H3 fp) rfl rfl rfl hc i [] s5 σ5 H5 (fun _ _=>False) I5 (stat fr5) st5 stop) fun r s6 ⟨hr,I6⟩=>?_
   subst hr;obtain⟨m6,hn6,_⟩:=I6.loc;have hch:∀b∈fp,(b∈X.ex\/X.s₀.heap.objs.size≤b)/\b≠X.env.locals/\(∀x c,X.env.cells.lookup x=some c->c≠b)/\∀p∈X.pn++pins,p.1≠b:=fun b hb=>by
    obtain⟨_,f1,_,f3,f4,f5⟩:=hf b hb;exact⟨f3,f1,f4,f5⟩
   have IX:Inv X pins σ H5 s6:=I3.call' (s':=s6) (I6.os) (I6.base) I6.hok I6.bare hch
   have szC:X.s₀.heap.objs.size≤s3.heap.objs.size:=I3.sz
   have hCL:s3.heap.objs.size≠X.env.locals:=Xe I3.lt
   have hCc:∀x c,X.env.cells.lookup x=some c->c≠s3.heap.objs.size:=fun x c e=>by
    obtain⟨v,q⟩:=I3.cell x c e;exact Qs q.lt
   have hCp:∀q∈X.pn++pins,q.1≠s3.heap.objs.size:=fun q hq=>Qs (Qu (I3.pin q hq).1)
   refine hRR p s3.heap.objs.size s6 H5 m6 IX qf hn6 hCL hCc I6.free fun σ'' H'' s'' h' I'' hn hs=>?_
   exact I''.turned (t':=s''.toks) (it:=s3.heap.objs.size) (fun b o hb e=>(hs.2 b hb).trans e) hn hCL (.inr szC) hCc hCp
  ·refine i4 (T.item (J1 X N' scope s3 H3 fp) rfl rfl rfl hc i [] s5 σ5 H5 (fun _ _=>False) I5 (stat fr5) st5 go) fun r s6 ⟨u,hr,h6⟩=>?_
   subst hr;refine i4 h6 fun _ s7 ⟨x,H7,I7,r7,y7,st7,fr7⟩=>?_
   have I7':=I7.pinned (stat fr7) (T.obj _ _ st7)
   have back:∀{σ8:St}{H8:Hp}{s8:Shared}{m':Nat},Inv (J1 X N' scope s3 H3 fp) ([]++CV fp s7.heap) σ8 H8 s8->m'<n->W (i+1) m' σ8 H8->∃m,m<n/\∃i σ' H',Inv (J1 X N' scope s3 H3 fp) [] σ' H' s8/\tn i s8.heap/\(∀b∈fp,H' b=none)/\W i m σ' H':=fun{σ8 H8 s8 m'} I8 hm w8=>by
    refine⟨m',hm,i+1,σ8,H8,I8.unpinned,T.keep _ _ _ st7 fun b hb o e=>(I8.pin (b,o) (Zk _ (Zk _ (CW hb e)))).1,fun b hb=>?_,w8⟩
    obtain⟨o,e,d⟩:=T.obj _ _ st7 b hb;exact(I8.pin (b,o) (Zk _ (Zk _ (CW hb e)))).2.1
   refine i4 (hg s3 H3 fp _ s7 σ5 H7 x u _ I7' r7 (step x H7 y7)) fun _ s8 ⟨σ8,H8,I8,q8⟩=>?_
   refine i4 (ht s3 H3 fp _ s8 σ8 H8 _ I8 q8) fun b s9 ⟨H9,I9,q9⟩=>?_
   cases b with
   |false=>
    simp only[Zz,Yu]at q9 ⊢;obtain⟨m',hm,w9⟩:=q9;exact back I9 hm w9
   |true=>
    simp only[Zm]at q9 ⊢;exact i4 (he s3 H3 fp p _ s9 σ8 H9 _ I9 q9) fun _ s10 ⟨σ10,H10,I10,m',hm,w10⟩=>back I10 hm w10
 refine codeAny_compStart_list loop ?_
 exact Qi (T.self X.A 0 s4 _ (fun _ _=>False) st4 loop) (fun _ _ q=>q) fun _ _ q=>q.elim
def Ie(wi:TI)(keep:List Bool)(more:Nat)(g:TG)(tt:TT)(act:Addr->Z4):TE:=fun σ H Q=>wi σ H fun J H1=>∀p,H1 p=none->Fy J g tt (act p) (N6 keep more σ) (upd H1 p (.lst [])) (fun _ H'=>Q (.ref p) H')
theorem ZK{wi:TI}(ok:kY X N' scope keep more)(hc:X.calm=true)(hi:PI X tg iter wi)(hg:∀s H fp,PG (J1 X N' scope s H fp) tg g)(ht:∀s H fp,V1 (J1 X N' scope s H fp) ifs tt)
  (he:∀s H fp p,As (J1 X N' scope s H fp) (X9 elt (⟨tg,iter,ifs,0⟩::gs) scope pos 0 (.ref p) (J1 X N' scope s H fp).env) (act p))
  (hs:∀x,foldedSetIterable iter X.env x=pure x:=by intro _;rfl):PE X (.ListComp elt (⟨tg,iter,ifs,0⟩::gs) scope pos) (Ie wi keep more g tt act):=by
 intro pins s σ H Q I h;rw[eval_ListComp];refine wpAny_comprehension_free (use:=none) rfl hs ok.clos ok.kind (fun x hx hl=>by have:=ok.uniq x hx;rwa [hl]at this) (i4 (hi pins s σ H _ I h) fun v s1 h1=>i4 h1 fun itv s2 h2=>?_)
 obtain⟨it,fp,tn,J,H2,e,I2,T,st2,f2,run⟩:=h2;subst e;refine NP (Qf:=fun p H'=>Q (.ref p) H') (RR:=fun acc C=>compPost (model X.prog X.w) X.A X.xe none (EP X pins σ Q) acc C) ok hc hg ht he I2 T st2 f2 run ?_
 intro p C s' H' m IX qf hn hCL hCc hCn turn;exact⟨m,hn,fun h' hs'=>⟨.ref p,H',turn σ H' s' h' IX hCn hs',rfl,qf⟩⟩
end
def W4(m:Mo D):Mo (List D):=fun env=>(m env).map fun q=>([q.1],q.2)
def Z5(g:OZ)(t:Mo Bool)(a:Mo (List D)):List D->Mo (List D)
 |[],env=>some ([],env)
 |d::ds,env=>(g d env).bind fun e1=>(t e1).bind fun p=>if p.1 then(a p.2).bind fun q=>(Z5 g t a ds q.2).map fun r=>(q.1++r.1,r.2)else Z5 g t a ds p.2
def uD(mi:Mo (List D))(g:OZ)(t:Mo Bool)(a:Mo (List D)):Mo (List D):=fun env=>(mi env).bind fun p=>Z5 g t a p.1 p.2
def CB(mi:Mo (List D))(keep:List Bool)(more:Nat)(g:OZ)(t:Mo Bool)(a:Mo (List D)):Mo (List D):=fun env=>(mi env).bind fun p=>
 (Z5 g t a p.1 (N7 keep more p.2)).bind fun q=>if q.1.length≤100000 then(M8 keep p.2 q.2).map fun e=>(q.1,e)else none
theorem ZL{H:Hp}{p:Addr}{o:HO}(h:H p=some o):upd H p o=H:=by
 funext b
 by_cases hb:b=p
 ·subst hb;rw[F9,h]
 ·rw[D6 hb]
section
variable{K:Qq}{B:OA}{n:Nat}
def qI(K:Qq)(B:OA)(n:Nat)(a:Mo (List D))(p:Addr):Z4:=fun σ H Q=>∃G env zs env' ys,Rel K B G σ env H/\ ¬ d8 σ env p/\G p=none/\H p=some (.lst ys)/\a env=some (zs,env')/\ys.length+zs.length≤100000/\
 ∀σ' G' H' vs,Ev K B G σ env (upd H p (.lst (ys++vs))) G' σ' env' H'->(∀j,j<n->σ'[j]? =σ[j]?)->H' p=some (.lst (ys++vs))->C3 K G' vs zs->Q σ' H'
theorem ZM{m:Mo D}{p:Addr}:∀σ H Q,qI K B n (W4 m) p σ H Q->NN (TD K B m) p σ H Q:=by
 rintro σ H Q ⟨G,env,zs,env',ys,rl,no,gp,hp,e,hl,k⟩;obtain⟨⟨d,a8⟩,e1,e2⟩:=E9 e;cases e2;refine⟨G,env,d,a8,rl,e1,fun v G' H' ev r=>?_⟩
 have hp':H' p=some (.lst ys):=ev.keep p _ no lC hp
 refine⟨ys,hp',Qd (by simp at hl;omega) (show 100000≤sizeLine by decide),?_⟩
 exact k σ G' _ [v] (ev.swapAt no (by rw[hp];simp) gp lC (fun φ z=>by rw[hp']at z;cases z)) (fun _ _=>rfl) F9 (d9 r f7)
theorem NQ{g:OZ}{t:Mo Bool}{a:Mo (List D)}{p:Addr}{J:It}{G1:Hp}{σ:St}{a8 envF:a9}{H1:Hp}{items zs:List D}{ys:List V}{Q:St->Hp->Prop}(rl:Rel K B G1 σ a8 H1)(itd:rK K J G1 items)(no:¬ d8 σ a8 p)(gp:G1 p=none)
  (hp:H1 p=some (.lst ys))(e3:Z5 g t a items a8=some (zs,envF))(hl:ys.length+zs.length≤100000)
  (k:∀σ' G' H' vs,Ev K B G1 σ a8 (upd H1 p (.lst (ys++vs))) G' σ' envF H'->(∀j,j<n->σ'[j]? =σ[j]?)->H' p=some (.lst (ys++vs))->C3 K G' vs zs->Q σ' H'):
  Fy J (sQ K B n g) (nH K B t) (qI K B n a p) σ H1 Q:=by
 have hpS:∀us,(upd H1 p (.lst us)) p=some (.lst us):=fun us=>F9
 refine⟨fun i m' σ2 H2=>m'=items.length-i/\i≤items.length/\∃G2 f9 vs acc rest,Ev K B G1 σ a8 (upd H1 p (.lst (ys++vs))) G2 σ2 f9 H2/\(∀j,j<n->σ2[j]? =σ[j]?)/\
   C3 K G2 vs acc/\Z5 g t a (items.drop i) f9=some (rest,envF)/\acc++rest=zs,⟨_,rfl,Jj _,G1,a8,[],[],zs,?_,fun _ _=>rfl,f7,by simpa using e3,by simp⟩,?_⟩
 ·rw[Yg,ZL hp];exact .refl rl
 rintro i m' σ2 H2 ⟨rfl,hi,G2,f9,vs,acc,rest,d7,y2,r2,c2,t2⟩;have hp2:H2 p=some (.lst (ys++vs)):=d7.keep p _ no lC (hpS _);have lH:Le G1 H2:=d7.same.trans d7.rel.sub
 by_cases hlt:i<items.length
 ·refine .inr ⟨itd.go i H2 lH hlt,fun x H3 y=>?_⟩
  have ed:items.drop i=items[i]::items.drop (i+1):=Vq hlt
  rw[ed]at c2;obtain⟨mM,e7,e8⟩:=C7 c2;obtain⟨⟨b,lU⟩,e9,e10⟩:=C7 e8;have hget:items[i]? =some items[i]:=by simp[hlt]
  have st:∃G3,Ev K B G1 σ a8 (upd H1 p (.lst (ys++vs))) G3 σ2 f9 H3/\Le G2 G3/\b0 K G3 x items[i]:=by
   rcases itd.yld i H2 x H3 items[i] lH y hget with⟨rfl,r⟩|⟨q,o,hno,hq,rfl,r⟩
   ·exact⟨G2,d7,Le.refl,b0.mono d7.same _ r⟩
   ·have gq:=d7.rel.gnone hq
    refine⟨upd G2 q o,d7.trans (d7.rel.alloc hq hno),Le.upd gq,b0.mono (fun b u z=>?_) _ r⟩
    by_cases hb2:b=q
    ·subst hb2;rw[F9]at z ⊢;exact z
    ·rw[D6 hb2]at z ⊢;exact d7.same b u z
  obtain⟨G3,mR,l3,r3⟩:=st;refine⟨G3,f9,items[i],mM,mR.rel,r3,e7,fun σ4 G4 H4 nU y4=>?_⟩
  refine⟨G4,mM,b,lU,nU.rel,e9,fun G5 H5 oQ=>?_⟩
  have lV:=(mR.trans nU).trans oQ
  have r5:C3 K G5 vs acc:=C3.mono ((l3.trans nU.same).trans oQ.same) acc r2
  have y5:∀j,j<n->σ4[j]? =σ[j]?:=fun j hj=>(y4 j hj).trans (y2 j hj)
  have sL:H5 p=some (.lst (ys++vs)):=lV.keep p _ no lC (hpS _)
  cases b with
  |true=>
   simp only[Zm]at e10 ⊢;obtain⟨⟨z7,sG⟩,e11,e12⟩:=C7 e10;obtain⟨⟨rest8,wH⟩,e13,e14⟩:=E9 e12;cases e14;have lz:zs.length=acc.length+(z7.length+rest8.length):=by rw[←t2];simp
   have no5:¬ d8 σ4 lU p:=fun z=>(lV.sub p z).elim no fun q=>by rw[hpS]at q;cases q
   refine⟨G5,lU,z7,sG,ys++vs,oQ.rel,no5,lV.stay p (by rw[hpS];simp) no gp,sL,e11,by rw[Ql,r2.length];omega,fun σ6 G6 H6 us uX y7 h7 r7=>?_⟩
   have nx:∀φ,H5 p≠some (.ext φ):=fun φ z=>by rw[sL]at z;cases z
   have sw:=lV.swapAt (o:=.lst (ys++vs++us)) no (by rw[hpS];simp) gp lC nx
   rw[LA]at sw;refine⟨items.length-(i+1),by omega,rfl,hlt,G6,sG,vs++us,acc++z7,rest8,?_,fun j hj=>(y7 j hj).trans (y5 j hj),(C3.mono uX.same acc r5).append r7,e13,by rw[Vb];exact t2⟩
   rw[←Vb];exact sw.trans uX
  |false=>
   simp only[Zz,Yu]at e10 ⊢;exact⟨items.length-(i+1),by omega,rfl,hlt,G5,lU,vs,acc,rest,lV,y5,r5,e10,t2⟩
 ·have ei:i=items.length:=by omega
  subst ei;rw[Tq]at c2;cases c2;rw[Yg]at t2;subst t2;exact .inl ⟨itd.stop _ H2 lH (Qm _),k σ2 G2 H2 vs d7 y2 hp2 r2⟩
theorem ZN{mi:Mo (List D)}{g:OZ}{t:Mo Bool}{a:Mo (List D)}{p:Addr}:∀σ H Q,qI K B n (uD mi g t a) p σ H Q->NO (t7 K B mi) (sQ K B n g) (nH K B t) (qI K B n a p) σ H Q:=by
 rintro σ H Q ⟨G,env,zs,env',ys,rl,no,gp,hp,e,hl,k⟩;obtain⟨⟨items,a8⟩,e1,e2⟩:=C7 e;refine⟨G,env,items,a8,rl,e1,fun J G1 H1 j5 itd=>?_⟩
 have hp1:H1 p=some (.lst ys):=j5.keep p _ no lC hp
 refine NQ j5.rel itd (fun z=>(j5.sub p z).elim no fun q=>by rw[hp]at q;cases q) (j5.stay p (by rw[hp];simp) no gp) hp1 e2 hl fun σ' G' H' vs ev y h r=>?_
 have nx:∀φ,H1 p≠some (.ext φ):=fun φ z=>by rw[hp1]at z;cases z
 exact k σ' G' H' vs ((j5.swapAt (o:=.lst (ys++vs)) no (by rw[hp];simp) gp lC nx).trans ev) y h r
theorem NR{mi:Mo (List D)}{keep:List Bool}{more:Nat}{g:OZ}{t:Mo Bool}{a:Mo (List D)}(hkl:keep.length=n):
  ∀(σ:St) H Q,σ.length=n->TL K B (CB mi keep more g t a) σ H Q->Ie (t7 K B mi) keep more (sQ K B n g) (nH K B t) (qI K B n a) σ H Q:=by
 rintro σ H Q hσn ⟨G,env,total,env',rl,e,k⟩;obtain⟨⟨items,a8⟩,e1,e2⟩:=C7 e;obtain⟨⟨total',envF⟩,e3,e4⟩:=C7 e2;dsimp only at e4;split at e4
 ·rename_i hlen
  obtain⟨env'',e5,e6⟩:=E9 e4;cases e6;refine⟨G,env,items,a8,rl,e1,fun J G1 H1 j5 itd p hp=>?_⟩
  have hk:keep.length=σ.length:=by rw[hkl,hσn]
  have gp:G1 p=none:=j5.rel.gnone hp
  have no1:¬ d8 σ a8 p:=j5.rel.unowned hp
  have no:¬ d8 (N6 keep more σ) (N7 keep more a8) p:=fun z=>no1 (Hw z)
  have relS:∀ys,Rel K B G1 σ a8 (upd H1 p (.lst ys)):=fun ys=>(j5.rel.allocM hp).rel
  refine NQ (ys:=[]) ((relS []).ext hk) itd no gp F9 e3 (by simpa using hlen) fun σ2 G2 H2 ys d7 y2 hp2 r2=>?_
  rw[Xz,LA]at d7;rw[Xz]at hp2;have evO:=Ev.out (relS ys) hk d7 (fun j hj=>y2 j (by omega)) e5
  have evA:=j5.trans ((j5.rel.allocM (o:=.lst ys) hp).trans evO)
  have hpn:H p=none:=by
   cases q:H p with
   |none=>rfl
   |some o=>exact absurd hp (j5.live p (by rw[q];simp))
  have hpS:(upd H1 p (.lst ys)) p=some (.lst ys):=F9
  refine k p ys G2 H2 evA hpn (fun z=>?_) hp2 (d7.stay p (by rw[hpS];simp) no gp) r2
  rcases evO.sub p z with q|q
  ·exact no1 q
  ·rw[hpS]at q;cases q
 ·cases e4
end
def rQ(X:Cx)(B:OA)(n:Nat)(elt:Expr)(gens:List Comprehension)(scope:Scope)(pos:Pos)(d:Nat)(p:Addr)(a:Mo (List D)):Prop:=As X (X9 elt gens scope pos d (.ref p) X.env) (qI X.K B n a p)
theorem NS{X:Cx}{sem:Sem Unit}{t t':Z4}(h:As X sem t)(i:∀σ H Q,t' σ H Q->t σ H Q):As X sem t':=fun pins s σ H Q I q=>h pins s σ H Q I (i σ H Q q)
section
variable{X:Cx}{B:OA}{N':List Str}{scope lE:Scope}{keep:List Bool}{more n d:Nat}{tg iter elt:Expr}{ifs:List Expr}{gens gs:List Comprehension}{g:OZ}{t:Mo Bool}{m:Mo D}{mi:Mo (List D)}{a:Mo (List D)}{pos:Pos}{s:Shared}{H:Hp}{fp:List Addr}{p:Addr}
theorem Fz(hn:gens[d+1]? =none)(he:ED (J1 X N' lE s H fp) B elt m):rQ (J1 X N' lE s H fp) B n elt gens scope pos d p (W4 m):=NS (ZI (fun _ _ z=>z) hn he) ZM
theorem NU(hd:gens[d+1]? =some ⟨tg,iter,ifs,0⟩)(hc:X.calm=true)(hi:EI (J1 X N' lE s H fp) B tg iter mi)(hg:EG (J1 X N' lE s H fp) B n tg g)(ht:V1 (J1 X N' lE s H fp) ifs (nH X.K B t))
  (ha:rQ (J1 X N' lE s H fp) B n elt gens scope pos (d+1) p a)(hs:∀x,foldedSetIterable iter (J1 X N' lE s H fp).env x=pure x:=by intro _;rfl):
  rQ (J1 X N' lE s H fp) B n elt gens scope pos d p (uD mi g t a):=NS (ZJ (fun _ _ z=>z) hc hd hi hg ht ha hs) ZN
theorem ZO(ok:kY X N' scope keep more)(hc:X.calm=true)(hi:EI X B tg iter mi)(hg:∀s H fp,EG (J1 X N' scope s H fp) B X.N.length tg g)(ht:∀s H fp,V1 (J1 X N' scope s H fp) ifs (nH X.K B t))
  (he:∀s H fp p,rQ (J1 X N' scope s H fp) B X.N.length elt (⟨tg,iter,ifs,0⟩::gs) scope pos 0 p a)
  (hs:∀x,foldedSetIterable iter X.env x=pure x:=by intro _;rfl):EL X B (.ListComp elt (⟨tg,iter,ifs,0⟩::gs) scope pos) (CB mi keep more g t a):=by
 intro pins s σ H Q I h;exact ZK (act:=qI X.K B X.N.length a) ok hc hi hg ht (fun s H fp p=>he s H fp p) hs pins s σ H Q I (NR ok.klen σ H Q I.len h)
end
section
variable{X:Cx}{B:OA}{pos:Pos}{o e:Expr}{ma mb:Mo D}
end
section
variable{X:Cx}{B:OA}{pos:Pos}
theorem ZP{i j:Int}{x1 x2:Nat}{p1 p2:Pos}:PE X (.Dict [some (.Constant (.int i) x1 p1)] [.Constant (.int j) x2 p2] pos) (fun _ H Q=>∀p,H p=none->Q (.ref p) (upd H p (.dK [(.inl i,.int j)]))):=fun pins s σ H Q I h=>by
 refine wpAny_Dict_walk (knd:=Q1 X.prog X.w) rfl rfl (by simp) (show 1≤15 by decide) (pairTrees_cons_walk (Xp (Xp (pairTrees_nil_walk ?_))))
 refine⟨[(.inl i,.int j (s.toks+1))],⟨by simp[Q1,Bj,Value.isInt],rfl,trivial⟩,Heap.DictOf.new s.heap,fun h' d sb=>?_⟩
 have hne:∀b u,s.heap.get? b=some u->b≠s.heap.objs.size:=fun b u e=>Qs (Qu e)
 refine⟨.ref s.heap.objs.size,_,I.laid (a:=s.heap.objs.size) (o:=.dK [(.inl i,.int j)]) (fun b u e=>(sb.2 b (hne b u e)).trans (Qx _ e)) (Qm _)
  ⟨show 1≤sizeLine by decide,Ua.mpr (Zg (Qs (Mc I))),_,.cons ⟨rfl,⟨_,rfl⟩⟩ .nil,d⟩,rfl,h _ (I.hok.fresh (Qm _))⟩
theorem NV{i j:Int}{x1 x2:Nat}{p1 p2:Pos}:ED X B (.Dict [some (.Constant (.int i) x1 p1)] [.Constant (.int j) x2 p2] pos) (mC .emp):=by
 refine d6 ZP ?_
 rintro σ H Q ⟨G,env,d,env',rl,e,k⟩;cases e;exact fun p hp=>k _ _ _ (rl.alloc hp) (by simp only[b0];exact⟨p,_,rfl,F9⟩)
end
section
variable{prog:Program}{w:World}{A:Around}{E:OE}{s:Shared}{c1 c2:Bool}
end
section
variable{X:Cx}{pins:OX}{σ:St}{A:Around}{R:Result->Shared->Prop}{c1 c2:Bool}{n l1 l2 S:Addr}{xs ys:List V}
end
section
variable{X:Cx}{B:OA}{pos:Pos}{a b:Expr}{ms:Mo (List D)}
end
section
variable{X:Cx}{B:OA}
def NW(K:Qq)(neg:Bool):R2:=fun x y H Q=>∃G a ds,Le G H/\b0 K G x a/\(b0 K G y (.lst ds)\/b0 K G y (.tup ds))/\qG a=true/\(lS a).depth≤60/\PyData.canLayAll0 (K1 ds)=true/\
 Q (.bl (if neg then !((K1 ds).any fun y=>PyData.eqv y (lS a))else(K1 ds).any fun y=>PyData.eqv y (lS a))) H
theorem Cz(hu:X.A.units+64<cLine):kQ X (compareOp .NotIn) (NW X.K true):=by
 intro pins s σ H x y v u Q I rx ry h;obtain⟨G,a,ds,l,ra,rb,ha,hd,hb,q⟩:=h;have hl:=Jn ha;obtain⟨as,h1⟩:=kG I l a x v hl rx ra;have hroom:X.A.units+1+min (PyData.depthAll (K1 ds)) (lS a).depth<cLine:=by
  have:min (PyData.depthAll (K1 ds)) (lS a).depth≤(lS a).depth:=Nat.min_le_right _ _
  omega
 rcases rb with rb|rb
 ·obtain⟨bs,h2⟩:=kG I l (.lst ds) y u (by show PyData.canLay0 (.list (K1 ds))=true;simpa [PyData.canLay0]using hb) ry rb
  exact SeqAt.notIn_list_reads h2 h1 hb hl hroom ⟨.bl _,H,I,rfl,q⟩
 ·obtain⟨bs,h2⟩:=kG I l (.tup ds) y u (by show PyData.canLay0 (.tuple (K1 ds))=true;simpa [PyData.canLay0]using hb) ry rb
  exact SeqAt.notIn_tuple_reads h2 h1 hb hl hroom ⟨.bl _,H,I,rfl,q⟩
def Y0(neg:Bool):D->D->Option D:=fun a b=>(D.items b).bind fun ds=>if qG a&&decide ((lS a).depth≤60)&&PyData.canLayAll0 (K1 ds)then
 some (.bl (if neg then !((K1 ds).any fun y=>PyData.eqv y (lS a))else(K1 ds).any fun y=>PyData.eqv y (lS a)))else none
theorem EX{neg:Bool}:lN X B (NW X.K neg) (Y0 neg):=by
 intro G σ env H x y a b d Q rl ra rb e k;obtain⟨ds,e1,e2⟩:=C7 e;split at e2
 ·rename_i h
  rw[Qw,Qw,Zh]at h;cases e2;refine⟨G,a,ds,rl.sub,ra,?_,h.1.1,h.1.2,h.2,k _ G H (.refl rl) (by simp only[b0])⟩
  cases b<;>first|(exact absurd (show(none:Option (List D))=some ds from e1) (by simp))|skip
  ·cases e1;exact .inr rb
  ·cases e1;exact .inl rb
 ·cases e2
end
section
variable{prog:Program}{w:World}{A:Around}{E:OE}{s:Shared}
end
section
variable{X:Cx}{B:OA}{pos:Pos}{es:List Expr}{gs:List D->a9->Option a9}
end
def lZ:OI->List D->List Int->Option D
 |k'::ks,v::vs,k=>if k'=k then some v else lZ ks vs k
 |_,_,_=>none
def nV:OI->List D->List Int->D->List D
 |k'::ks,v::vs,k,d=>if k'=k then d::nV ks vs k d else v::nV ks vs k d
 |_,vs,_,_=>vs
def V5:D->Option (List Int)
 |.tup ds=>jY ds
 |_=>none
section
variable{K:Qq}{G:Hp}
theorem Ig:∀ns:List Int,(L9 ns).map kV=ns.map V.int
 |[]=>rfl
 |n::ns=>by show V.int n::(L9 ns).map kV=_;rw[Ig ns];rfl
theorem Ih:∀{a b:List Int},L9 a=L9 b->a=b
 |[],[],_=>rfl
 |[],_::_,e=>by simp[L9]at e
 |_::_,[],e=>by simp[L9]at e
 |x::a,y::b,e=>by
  simp only[L9,Qr,Vo,Sum.inl.injEq]at e;rw[e.1,Ih e.2]
def DA(K:Qq)(H:Hp)(b:Addr)(k:List Int):Prop:=H b=some (.tup ((L9 k).map kV))\/L8 K b (L9 k)
theorem DA.mono{H H':Hp}{b:Addr}{k:List Int}(l:Le H H')(h:DA K H b k):DA K H' b k:=h.imp (fun e=>l _ _ e) id
theorem EY{v:V}{d:D}{k:List Int}(r:b0 K G v d)(h:V5 d=some k):∃b,v=.ref b/\DA K G b k:=by
 cases d<;>first|(exact absurd (show(none:Option (List Int))=some k from h) (by simp))|skip
 rename_i ds;simp only[b0]at r;obtain⟨a,xs,rfl,q,t⟩:=r;have hx:=BK t (show jY ds=some k from h)
 subst hx;refine⟨a,rfl,?_⟩
 rcases q with q|q
 ·exact .inl (by rw[Ig];exact q)
 ·exact .inr (.inr (by rw[Ig];exact q))
theorem EZ{P:Program}{w:World}{H:Hp}{h:Heap}{b:Addr}{k:List Key}(ok:mI P w H h)(kin:K.In h)(e:H b=some (.tup (k.map kV))\/L8 K b k):(tupleKind (Q1 P w)).is h k b:=by
 rcases e with e|e
 ·exact UP ok e
 ·rcases e with e|⟨o,its,n,h1,h2,_,h3,_,h4⟩
  ·cases e
  ·exact⟨o,its,n,kin b o h1,h2,h3,Hb h4⟩
end
section
variable{X:Cx}{pins:OX}{σ:St}{H:Hp}{s:Shared}{a b:Addr}{A:Around}{E:OE}{kvs:List (List Key×V)}
theorem Ea(I:Inv X pins σ H s)(e:H a=some (.dT (L8 X.K) kvs)):kvs.length≤sizeLine/\(a==sysModules)=false/\∃xs,KT (L8 X.K) H kvs xs/\s.heap.DictOfH (tupleKind (Q1 X.prog X.w)) a xs:=by
 obtain⟨z,y,xs,r,o,es,ep,h1,h2,h3,h4,h5⟩:=(show J9 X.prog X.w H s.heap a (.dT (L8 X.K) kvs)from I.hok a _ e)
 refine⟨z,y,xs,r,o,es,ep,h1,h2,h3,h4,fun x hx=>?_,h5⟩
 have all:∀{l:List (List Key×V)}{m:List (List Key×Addr×Value)},KT (L8 X.K) H l m->∀x∈m,(tupleKind (Q1 X.prog X.w)).is s.heap x.1 x.2.1:=by
  intro l m q
  induction q with
  |nil=>intro x hx;exact nomatch hx
  |@cons p q ps qs hq t ih=>
   intro x hx
   rcases Qg.mp hx with e|hx
   ·subst e
    exact EZ (K:=X.K) I.hok I.kIn (by rw[←hq.1];exact hq.2.1)
   ·exact ih x hx
 exact all r x hx
theorem NX{v:V}{k:List Key}{Q:OE}(hu:A.units+1<cLine)(I:Inv X pins σ H s)(e:H a=some (.dT (L8 X.K) kvs))(eb:H b=some (.tup (k.map kV))\/L8 X.K b k)(l:X2 kvs k=some v)
  (h:∀w' s',Inv X pins σ H s'->D8 v w'->Q w' s'):wpAny (model X.prog X.w) A (getItem (.ref a) (.ref b)) Q E s:=by
 obtain⟨z,hd,xs,rel,dd⟩:=Ea I e;obtain⟨w',hw,rw'⟩:=AE.some_of (v:=v) (o:=(atKey xs k).map (·.2)) (by rw[←l];exact rel.val k)
 obtain⟨p,hp,hp2⟩:=Um.mp hw;refine wpAny_getItem_heap (Vv hu) (EZ (K:=X.K) I.hok I.kIn eb) dd hp ?_
 rw[hp2];exact h w' _ (I.tok _) rw'
theorem ZQ{k:List Key}{Q:OE}(hu:A.units+1<cLine)(I:Inv X pins σ H s)(e:H a=some (.dT (L8 X.K) kvs))(eb:H b=some (.tup (k.map kV))\/L8 X.K b k)
  (h:∀s',Inv X pins σ H s'->Q (.bool (X2 kvs k).isSome) s'):wpAny (model X.prog X.w) A (compareOp .In (.ref b) (.ref a)) Q E s:=by
 obtain⟨z,hd,xs,rel,dd⟩:=Ea I e;refine wpAny_in_heap (Vv hu) (EZ (K:=X.K) I.hok I.kIn eb) hd dd ?_
 have q:=(rel.val k).isSome_eq
 rw[Xd]at q;rw[←q];exact h _ (I.tok _)
theorem ZR{k:List Key}{Q:OE}(hu:A.units+1<cLine)(I:Inv X pins σ H s)(e:H a=some (.dT (L8 X.K) kvs))(eb:H b=some (.tup (k.map kV))\/L8 X.K b k)
  (h:∀s',Inv X pins σ H s'->Q (.bool (!(X2 kvs k).isSome)) s'):wpAny (model X.prog X.w) A (compareOp .NotIn (.ref b) (.ref a)) Q E s:=by
 obtain⟨z,hd,xs,rel,dd⟩:=Ea I e;refine wpAny_notIn_heap (Vv hu) (EZ (K:=X.K) I.hok I.kIn eb) hd dd ?_
 have q:=(rel.val k).isSome_eq
 rw[Xd]at q;rw[←q];exact h _ (I.tok _)
theorem ZS{k:List Key}{v:V}{r:Value}{Q:Unit->Shared->Prop}(hu:A.units+1<cLine)(I:Inv X pins σ H s)(e:H a=some (.dT (L8 X.K) kvs))(eb:H b=some (.tup (k.map kV))\/L8 X.K b k)(l:kvs.length<sizeLine)(rv:D8 v r)
  (h:∀s',Inv X pins σ (upd H a (.dT (L8 X.K) (AG kvs k v))) s'->Q () s'):wpAny (model X.prog X.w) A (setItem (.ref a) (.ref b) r) Q E s:=by
 obtain⟨z,hd,xs,rel,dd⟩:=Ea I e;have hz:xs.length≤sizeLine:=by rw[←Paired.length rel];exact z
 have hl:(AG kvs k v).length≤sizeLine:=by have:=UN kvs k v;omega
 refine wpAny_setItem_heap (hsz:=hz) (Vv hu) (EZ (K:=X.K) I.hok I.kIn eb) dd fun h' dd' hs=>h _ ?_
 obtain⟨q,es,ep,hq,h2,h3,h4,_,h5⟩:=dd';refine UQ I (by rw[e];exact True.intro) hs ⟨q,hq⟩ ⟨hl,hd,_,(rel.put k eb rv).keeps fun c ys ec=>?_,q,es,ep,hq,h2,h3,h4,h5⟩
 rw[D6 (Ru ec e (fun z=>nomatch z))]
 exact ec
theorem NY(I:Inv X pins σ H s)(e:H a=some (.dT (L8 X.K) kvs)):s.TypeIs (.ref a) "dict":=by
 obtain⟨_,_,xs,_,dd⟩:=Ea I e;exact dd.typeIs
end
section
variable{K:Qq}{G:Hp}
theorem DB:∀{kvs:List (List Key×V)}{ks:OI}{vs:List D}(k:List Int),kvs.map (·.1)=ks.map L9->C3 K G (kvs.map (·.2)) vs->
  (∀d,lZ ks vs k=some d->∃v,X2 kvs (L9 k)=some v/\b0 K G v d)/\((X2 kvs (L9 k)).isSome=ks.contains k)
 |[],[],vs,k,_,r=>⟨fun d h=>by simp[lZ]at h,rfl⟩
 |[],_::_,_,_,e,_=>by simp at e
 |_::_,[],_,_,e,_=>by simp at e
 |p::kvs,k'::ks,[],k,e,r=>by have:=r.length;simp at this
 |p::kvs,k'::ks,d'::vs,k,e,r=>by
  simp only[Qr,Vo]at e;obtain⟨e1,e2⟩:=e;rw[Qr]at r;simp only[C3]at r;obtain⟨x,t,z,r1,r2⟩:=r;cases z;obtain⟨h1,h2⟩:=DB (ks:=ks) (vs:=vs) k e2 r2
  by_cases hk:k'=k
  ·subst hk
   refine⟨fun d h=>?_,?_⟩
   ·simp only[lZ,Zm,Zl]at h
    subst h;exact⟨p.2,FK e1,r1⟩
   ·rw[FK e1];simp
  ·have ne:¬ p.1=L9 k:=fun z=>hk (Ih (e1.symm.trans z))
   refine⟨fun d h=>?_,?_⟩
   ·simp only[lZ,Qt hk]at h
    obtain⟨v,q1,q2⟩:=h1 d h;exact⟨v,by rw[FL ne];exact q1,q2⟩
   ·have hb:(k==k')=false:=by simpa using fun z=>hk (Eq.symm z)
    rw[FL ne,h2,Uy,hb,Vn]
theorem NZ:∀{kvs:List (List Key×V)}{ks:OI}{vs:List D}(k:List Int) {v:V}{d:D},kvs.map (·.1)=ks.map L9->C3 K G (kvs.map (·.2)) vs->b0 K G v d->
  (kvs.map fun kv=>if kv.1=L9 k then(kv.1,v)else kv).map (·.1)=ks.map L9/\C3 K G ((kvs.map fun kv=>if kv.1=L9 k then(kv.1,v)else kv).map (·.2)) (nV ks vs k d)
 |[],[],vs,k,v,d,_,r,_=>⟨rfl,by simpa [nV]using r⟩
 |[],_::_,_,_,_,_,e,_,_=>by simp at e
 |_::_,[],_,_,_,_,e,_,_=>by simp at e
 |p::kvs,k'::ks,[],k,v,d,e,r,_=>by have:=r.length;simp at this
 |p::kvs,k'::ks,d'::vs,k,v,d,e,r,rd=>by
  simp only[Qr,Vo]at e;obtain⟨e1,e2⟩:=e;rw[Qr]at r;simp only[C3]at r;obtain⟨x,t,z,r1,r2⟩:=r;cases z;obtain⟨h1,h2⟩:=NZ (ks:=ks) (vs:=vs) k e2 r2 rd
  by_cases hk:k'=k
  ·subst hk
   simp only[Qr,Qc e1,nV,Zm];exact⟨by rw[e1,h1],d9 rd h2⟩
  ·have ne:¬ p.1=L9 k:=fun z=>hk (Ih (e1.symm.trans z))
   simp only[Qr,Qt ne,nV,Qt hk];exact⟨by rw[e1,h1],d9 r1 h2⟩
def N3(ks:OI)(k:List Int):OI:=if ks.contains k then ks else ks++[k]
def O3(ks:OI)(vs:List D)(k:List Int)(d:D):List D:=if ks.contains k then nV ks vs k d else vs++[d]
theorem ZT{kvs:List (List Key×V)}{ks:OI}{vs:List D}(k:List Int){v:V}{d:D}(e:kvs.map (·.1)=ks.map L9)(r:C3 K G (kvs.map (·.2)) vs)(rd:b0 K G v d):
  (AG kvs (L9 k) v).map (·.1)=(N3 ks k).map L9/\C3 K G ((AG kvs (L9 k) v).map (·.2)) (O3 ks vs k d):=by
 have h:=(DB (K:=K) (G:=G) k e r).2
 unfold AG N3 O3;rw[Ha,h];cases ks.contains k with
 |true=>simp only[Zm];exact NZ k e r rd
 |false=>
  simp only[Zz,Yu,Yd,Qr,Va];exact⟨by rw[e],r.append (d9 rd f7)⟩
end
theorem ZU{P:Program}{w:World}{H:Hp}{C:Addr->List Key->Prop}(h:Heap)(hb:sysModules<h.objs.size):J9 P w H (h.push {cls:=.type "dict",data:=.dict #[]}) h.objs.size (.dT C []):=
 ⟨Jj _,Ua.mpr (Zg (Qs hb)),[],.nil,_,#[],0,Qh _ rfl,⟨rfl,rfl,rfl⟩,rfl,rfl,List.nodup_nil⟩
def ZV(C:Addr->List Key->Prop):TE:=fun _ H Q=>∀p,H p=none->Q (.ref p) (upd H p (.dT C []))
section
variable{X:Cx}{B:OA}{pos:Pos}{a b e:Expr}{ma mb:Mo D}
theorem Na{C:Addr->List Key->Prop}:PE X (.Dict [] [] pos) (ZV C):=fun pins s σ H Q I h=>
 wpAny_Dict_empty ⟨.ref s.heap.objs.size,_,I.laid (a:=s.heap.objs.size) (o:=.dT C []) (t':=s.toks) (fun _ _ q=>Qx _ q) (Qm _) (ZU s.heap I.big),rfl,h _ (I.hok.fresh (Qm _))⟩
def GA(i:Nat):Mo Fl:=fun env=>some (.nx,env.set i (.ownD [] []))
theorem GB{i:Nat}{x:Str}{pos' dpos:Pos}(hN:X.N.Nodup)(hi:X.N[i]? =some x)(hx:Loc X.env.scope x)(hs:swapsWith (.Dict [] [] dpos) (some (.Name x pos')) pos.line X.env=pure false:=by rfl)(hf:X.fn x=true\/X.env.scope.names.lookup x=some .local:=by first|exact .inl rfl|exact .inr rfl|assumption):
  ES X B (.Assign [.Name x pos'] (.Dict [] [] dpos) pos) (GA i):=by
 refine jZ (CU hN hi hx (Na (C:=L8 X.K)) hs hf) ?_
 rintro D σ H ⟨G,env,fl,env',rl,e,k⟩;cases e;intro p hp;have ev:=rl.allocM (o:=.dT (L8 X.K) []) hp;exact k _ _ _ (ev.setOwnM (m:=.d [] []) (fun z=>rl.old p z hp) hp (rl.unowned hp) F9 (rl.gnone hp) ⟨[],rfl,rfl,f7⟩ rfl rfl)
def GC(i:Nat)(mb:Mo D):Mo D:=fun env=>(mb env).bind fun p=>((p.2[i]?).bind W.mutD).bind fun q=>(V5 p.1).bind fun k=>(lZ q.1 q.2 k).map fun d=>(d,p.2)
theorem Ii{i:Nat}{x:Str}{p:Pos}(hu:X.A.units+64<cLine)(ha:PE X (.Name x p) (Q3 i))(hb:ED X B b mb)(hs:Dh b)(hr:∀env d env' w ds,mb env=some (d,env')->env'[i]? =some w->w.mut=some ds->∃w0 ds0,env[i]? =some w0/\w0.mut=some ds0):
  ED X B (.Subscript (.Name x p) b pos) (GC i mb):=by
 intro pins s σ H Q I h;obtain⟨G,env,d,env',rl,e,k⟩:=h;obtain⟨⟨d1,a8⟩,e1,e2⟩:=C7 e;obtain⟨⟨ks,vs⟩,e3,e4⟩:=C7 e2;obtain⟨w,e5,e6⟩:=C7 e3;obtain⟨key,e7,e8⟩:=C7 e4;obtain⟨d2,e9,e10⟩:=E9 e8;cases e10;obtain⟨w0,m0,e11,e12⟩:=hr env d1 _ w (.d ks vs) e1 e5 (W.mutD_of e6);obtain⟨q,o,h1,_⟩:=rl.own i w0 m0 e11 e12;refine Lw PySem.F.slot_dict_getitem.lookup hs (i4 (ha pins s σ H (fun v H1=>v=.ref q/\H1=H) I ⟨_,h1,rfl,rfl⟩) fun u s1 ⟨x,H1,I1,rx,z1,z2⟩=>?_)
 subst z1 z2;cases rx;refine i4 (hb pins s1 σ H1 (fun v H2=>∃G2,Ev X.K B G σ env H1 G2 σ a8 H2/\b0 X.K G2 v d1) I1 ⟨G,env,d1,a8,rl,e1,fun v G2 H2 ev r=>⟨G2,ev,r⟩⟩) fun iv s2 ⟨y,H2,I2,ry,G2,ev,r⟩=>?_
 obtain⟨q',kvs,g1,g2,g3,g4,g5⟩:=ev.rel.ownD i w ks vs e5 e6;rw[h1]at g1;cases g1;obtain⟨b',rfl,kb⟩:=EY r e7;cases ry;obtain⟨v,l1,l2⟩:=(DB key g3 g4).1 _ e9;exact⟨NY I2 g2,NX (by omega) I2 g2 (kb.mono ev.rel.sub) l1 fun w' s3 I3 rw'=>⟨v,H2,I3,rw',k v G2 H2 ev l2⟩⟩
def CC:D->D->Option D:=fun a b=>match a with
 |.dct ks vs=>(V5 b).bind fun k=>lZ ks vs k
 |_=>none
theorem Ij(hu:X.A.units+64<cLine)(ha:ED X B a ma)(hb:ED X B b mb)(hs:Dh b):ED X B (.Subscript a b pos) (B8 CC ma mb):=by
 intro pins s σ H Q I h;obtain⟨G,env,d,env',rl,e,k⟩:=h;obtain⟨⟨d0,oB⟩,e0,e⟩:=C7 e;obtain⟨⟨d1,a8⟩,e1,e2⟩:=C7 e;obtain⟨d2,e3,e4⟩:=E9 e2;cases e4;unfold CC at e3;dsimp only at e3;split at e3
 case h_2=>cases e3
 rename_i ks vs;obtain⟨key,e7,e9⟩:=C7 e3;refine Lw PySem.F.slot_dict_getitem.lookup hs (i4 (ha pins s σ H (fun v H1=>∃G1,Ev X.K B G σ env H G1 σ oB H1/\b0 X.K G1 v (.dct ks vs)) I ⟨G,env,_,oB,rl,e0,fun v G1 H1 ev r=>⟨G1,ev,r⟩⟩) fun u s1 ⟨x,H1,I1,rx,G1,j5,r1⟩=>?_)
 simp only[b0]at r1;obtain⟨q,kvs,rfl,g2,g3,g4⟩:=r1;cases rx;refine i4 (hb pins s1 σ H1 (fun v H2=>∃G2,Ev X.K B G1 σ oB H1 G2 σ a8 H2/\b0 X.K G2 v d1) I1 ⟨G1,oB,d1,a8,j5.rel,e1,fun v G2 H2 ev r=>⟨G2,ev,r⟩⟩) fun iv s2 ⟨y,H2,I2,ry,G2,d7,r⟩=>?_
 obtain⟨b',rfl,kb⟩:=EY r e7;cases ry;have hq:H2 q=some (.dT (L8 X.K) kvs):=d7.rel.sub _ _ (d7.same _ _ g2);obtain⟨v,l1,l2⟩:=(DB key g3 (C3.mono d7.same _ g4)).1 _ e9;exact⟨NY I2 hq,NX (by omega) I2 hq (kb.mono d7.rel.sub) l1 fun w' s3 I3 rw'=>⟨v,H2,I3,rw',k v G2 H2 (j5.trans d7) l2⟩⟩
def DC(neg:Bool)(i:Nat)(ma:Mo D):Mo D:=fun env=>(ma env).bind fun p=>((p.2[i]?).bind W.mutD).bind fun q=>(V5 p.1).map fun k=>(.bl (if neg then !q.1.contains k else q.1.contains k),p.2)
theorem jW{i:Nat}{x:Str}{p:Pos}(hu:X.A.units+64<cLine)(ha:ED X B a ma)(hn:PE X (.Name x p) (Q3 i)):PC X .In a (.Name x p) (TD X.K B (DC false i ma)):=by
 intro pins s σ H Q I h;obtain⟨G,env,d,env',rl,e,k⟩:=h;obtain⟨⟨d1,a8⟩,e1,e2⟩:=C7 e;obtain⟨⟨ks,vs⟩,e3,e4⟩:=C7 e2;obtain⟨w,e5,e6⟩:=C7 e3;obtain⟨key,e7,e8⟩:=E9 e4;cases e8;refine i4 (ha pins s σ H (fun v H1=>∃G1,Ev X.K B G σ env H G1 σ a8 H1/\b0 X.K G1 v d1) I ⟨G,env,d1,a8,rl,e1,fun v G2 H2 ev r=>⟨G2,ev,r⟩⟩) fun iv s1 ⟨y,H1,I1,ry,G1,ev,r⟩=>?_
 obtain⟨q,kvs,g1,g2,g3,g4,g5⟩:=ev.rel.ownD i w ks vs e5 e6;refine i4 (hn pins s1 σ H1 (fun v H2=>v=.ref q/\H2=H1) I1 ⟨_,g1,rfl,rfl⟩) fun u s2 ⟨x,H2,I2,rx,z1,z2⟩=>?_
 subst z1 z2;cases rx;obtain⟨b',rfl,kb⟩:=EY r e7;cases ry;exact ZQ (by omega) I2 g2 (kb.mono ev.rel.sub) fun s3 I3=>⟨.bl _,H2,I3,rfl,k _ G1 H2 ev (by rw[(DB key g3 g4).2];simp only[b0];rfl)⟩
theorem ZW{i:Nat}{x:Str}{p:Pos}(hu:X.A.units+64<cLine)(ha:ED X B a ma)(hn:PE X (.Name x p) (Q3 i)):PC X .NotIn a (.Name x p) (TD X.K B (DC true i ma)):=by
 intro pins s σ H Q I h;obtain⟨G,env,d,env',rl,e,k⟩:=h;obtain⟨⟨d1,a8⟩,e1,e2⟩:=C7 e;obtain⟨⟨ks,vs⟩,e3,e4⟩:=C7 e2;obtain⟨w,e5,e6⟩:=C7 e3;obtain⟨key,e7,e8⟩:=E9 e4;cases e8;refine i4 (ha pins s σ H (fun v H1=>∃G1,Ev X.K B G σ env H G1 σ a8 H1/\b0 X.K G1 v d1) I ⟨G,env,d1,a8,rl,e1,fun v G2 H2 ev r=>⟨G2,ev,r⟩⟩) fun iv s1 ⟨y,H1,I1,ry,G1,ev,r⟩=>?_
 obtain⟨q,kvs,g1,g2,g3,g4,g5⟩:=ev.rel.ownD i w ks vs e5 e6;refine i4 (hn pins s1 σ H1 (fun v H2=>v=.ref q/\H2=H1) I1 ⟨_,g1,rfl,rfl⟩) fun u s2 ⟨x,H2,I2,rx,z1,z2⟩=>?_
 subst z1 z2;cases rx;obtain⟨b',rfl,kb⟩:=EY r e7;cases ry;exact ZR (by omega) I2 g2 (kb.mono ev.rel.sub) fun s3 I3=>⟨.bl _,H2,I3,rfl,k _ G1 H2 ev (by rw[(DB key g3 g4).2];simp only[b0];rfl)⟩
theorem ZX{m:Mo D}(σ:St)(H:Hp)(Q:Bool->Hp->Prop)(h:nH X.K B (mT m) σ H Q):tB (TD X.K B m) σ H Q:=by
 obtain⟨G,env,b,env',rl,e,k⟩:=h;unfold mT at e;obtain⟨⟨d,a8⟩,e1,e2⟩:=C7 e;cases d<;>first|(exact absurd (show(none:Option (Bool×a9))=some _ from e2) (by simp))|skip
 cases e2;exact⟨G,env,_,_,rl,e1,fun v G1 H1 ev r=>⟨_,by simpa only[b0]using r,k G1 H1 ev⟩⟩
theorem Nb{i:Nat}{x:Str}{p:Pos}(hu:X.A.units+64<cLine)(ha:ED X B a ma)(hn:PE X (.Name x p) (Q3 i))(hm:behindInMarks .NotIn (.Name x p)=false):ET X B (.Compare a [.NotIn] [.Name x p] pos) (mT (DC true i ma)):=
 nL (SA (ZW hu ha hn) hm) ZX
def ZY(K:Qq):FG:=fun o i v H Q=>∃a b kvs k,o=.ref a/\i=.ref b/\H a=some (.dT (L8 K) kvs)/\DA K H b k/\kvs.length<sizeLine/\Q (upd H a (.dT (L8 K) (AG kvs (L9 k) v)))
theorem ZZ(hu:X.A.units+64<cLine):HL X (ZY X.K):=by
 intro pins s σ H o i v ov iv u Q I ro ri rv h;obtain⟨a,b,kvs,k,rfl,rfl,e,kb,hl,q⟩:=h;cases ro;cases ri;exact ZS (by omega) I e kb hl rv fun s' I'=>⟨_,I',q⟩
def qJ(s:Nat)(mi:Mo D):OZ:=fun d env=>((env[s]?).bind W.mutD).bind fun _=>(mi env).bind fun p=>(p.2[s]?).bind fun w=>w.mutD.bind fun q=>(V5 p.1).bind fun k=>
 if q.1.length<100000 then some (p.2.set s (w.putM (.d (N3 q.1 k) (O3 q.1 q.2 k d))))else none
theorem GD{n s:Nat}{x:Str}{p:Pos}(hu:X.A.units+64<cLine)(ho:PE X (.Name x p) (Q3 s))(hi:ED X B b mb)
  (ha:∀v,assign (.Subscript (.Name x p) b pos) X.env v=(do
   let ov←holding [v] (eval (.Name x p) X.env)
   let iv←holding [v,ov] (eval b X.env)
   standAt pos
   holding [v,ov,iv] (setItem ov iv v)
   release [v,ov,iv] []):=by intro _;rfl):EG X B n (.Subscript (.Name x p) b pos) (qJ s mb):=by
 refine FY (LM ho hi (ZZ hu) ha) ?_
 rintro v σ H Q ⟨G,env,d,env',rl,r,e,k⟩;obtain⟨⟨ks0,vs0⟩,e0,e⟩:=C7 e;obtain⟨w0,e00,em0⟩:=C7 e0;obtain⟨⟨d1,a8⟩,e1,e2⟩:=C7 e;obtain⟨w,e3,e4⟩:=C7 e2;obtain⟨⟨ks,vs⟩,e5,e6⟩:=C7 e4;obtain⟨key,e7,e8⟩:=C7 e6;dsimp only at e8 e3;split at e8
 case isFalse=>cases e8
 rename_i hl;cases e8;obtain⟨q,kvs0,h1,_⟩:=rl.ownD s w0 ks0 vs0 e00 em0;refine⟨_,h1,.bind rl e1 fun iv G1 H1 ev r1=>?_⟩
 obtain⟨q',kvs,g1,g2,g3,g4,g5⟩:=ev.rel.ownD s w ks vs e3 e5;rw[h1]at g1;cases g1;obtain⟨b',rfl,kb⟩:=EY r1 e7;obtain⟨p1,p2⟩:=ZT (K:=X.K) (G:=G1) key g3 g4 (b0.mono ev.same _ r);have hz:kvs.length<sizeLine:=by
  have:=Za List.length g3;rw[Qk,Qk]at this;rw[this];exact Uq hl (by decide)
 exact⟨q,b',kvs,key,rfl,rfl,g2,kb.mono ev.rel.sub,hz,k _ G1 _ (ev.writeM e3 (W.mutD_of e5) h1 ⟨_,rfl,p1,p2⟩) fun _ _=>rfl⟩
end
def uY(K:Qq)(B:OA)(m:Mo (List D)):TA:=fun σ H Q=>∃G env ds env',Rel K B G σ env H/\m env=some (ds,env')/\
 ∀vs a G' H',Ev K B G σ env H G' σ env' H'->C3 K G' vs ds->H a=none-> ¬ d8 σ env' a->H' a=some (.dT (L8 K) [])->G' a=none->Q (vs++[V.ref a]) H'
abbrev sV(X:Cx)(B:OA)(es:List Expr)(m:Mo (List D)):Prop:=PA X es (uY X.K B m)
section
variable{X:Cx}{B:OA}{pos p:Pos}{e:Expr}{es:List Expr}{ma:Mo D}{ms:Mo (List D)}
theorem Nc{dp:Pos}(hs:starEach (.Dict [] [] dp::[]) X.env=(false,eval (.Dict [] [] dp) X.env)::starEach [] X.env:=by rfl):sV X B [.Dict [] [] dp] B6:=by
 refine mB (O5 (Na (C:=L8 X.K)) Aj hs) ?_
 rintro σ H Q ⟨G,env,ds,env',rl,e,k⟩;cases e;intro a ha;exact k [] a _ _ (rl.allocM ha) f7 ha (rl.unowned ha) F9 (rl.gnone ha)
theorem Nd(ha:ED X B e ma)(hr:sV X B es ms)(hs:starEach (e::es) X.env=(false,eval e X.env)::starEach es X.env:=by rfl):sV X B (e::es) (B0 ma ms):=by
 refine mB (O5 ha hr hs) ?_
 rintro σ H Q ⟨G,env,ds,env',rl,e,k⟩;obtain⟨⟨d1,a8⟩,e1,e2⟩:=C7 e;obtain⟨⟨ds2,f9⟩,e3,e4⟩:=E9 e2;cases e4;refine .bind rl e1 fun v G1 H1 j5 r1=>⟨G1,a8,ds2,_,j5.rel,e3,fun vs a G2 H2 d7 r2 ha no h' g'=>?_⟩
 have h0:H a=none:=by
  cases q:H a with
  |none=>rfl
  |some o=>exact absurd ha (j5.live a (by rw[q];simp))
 exact k (v::vs) a G2 H2 (j5.trans d7) (d9 (b0.mono d7.same _ r1) r2) h0 no h' g'
end
def Ik(n:Nat)(f:Fn)(ms:Mo (List D)):Mo Rr:=fun env=>(ms env).bind fun p=>if p.1.length+1=n then(f (p.1.map W.dat++[.parD [] []])).map fun q=>(q.1,p.2)else none
def GF(n:Nat)(f:Fn)(ms:Mo (List D)):Mo D:=fun env=>(Ik n f ms env).bind sC
section
variable{K:Qq}{B:OA}{G G1 G2:Hp}{σ:St}{env a8:a9}{H H1 H2:Hp}{vs:List V}{ds:List D}{a:Addr}
theorem GG{α:Type}{l:List α}{x y:α}{i:Nat}(h:(l++[x])[i]? =some y):(i<l.length/\l[i]? =some y)\/(i=l.length/\y=x):=by
 by_cases hi:i<l.length
 ·rw[Yz hi]at h;exact .inl ⟨hi,h⟩
 ·rw[Ys (by omega)]at h
  have:i-l.length=0:=by
   have:=(Qb.mp h).1
   simp at this;omega
  rw[this]at h
  simp at h
  exact .inr ⟨by omega,h.symm⟩
theorem aA{b:Addr}(hl:vs.length=ds.length)(h:d8 ((vs++[V.ref a]).map some) (ds.map W.dat++[.parD [] []]) b):b=a:=by
 obtain⟨i,w,m,e1,e2,e3⟩:=h
 rcases GG e1 with⟨_,z⟩|⟨z1,z2⟩
 ·rw[Zy]at z
  cases q:ds[i]? with
  |none=>rw[q]at z;cases z
  |some d=>rw[q]at z;cases z;cases e2
 ·rw[Qk]at z1
  subst z1;rw[Yd,Ys (by simp[hl]),Qk,hl]at e3
  simp at e3
  exact e3.symm
theorem aB(rl:Rel K B G1 σ a8 H1)(r:C3 K G1 vs ds)(h':H1 a=some (.dT (L8 K) []))(g':G1 a=none):Rel K N4 G1 ((vs++[V.ref a]).map some) (ds.map W.dat++[.parD [] []]) H1:=by
 have hl:=r.length
 refine⟨rl.sub,by simp[hl],fun i d e=>?_,fun i w m e1 e2=>?_,fun i j w w' m m' b q1 q2 q3 q4 q5 q6=>?_,fun i w b q1 qo q2 h=>h,fun b h=>h.elim,rl.tabs,rl.gnt⟩
 ·rcases GG e with⟨z1,z⟩|⟨z1,z2⟩
  ·rw[Zy]at z
   cases q:ds[i]? with
   |none=>rw[q]at z;cases z
   |some d'=>
    rw[q]at z;cases z;obtain⟨v,g1,g2⟩:=r.get q;refine⟨v,?_,g2⟩;rw[Yd,Yz (by rw[Qk]at z1 ⊢;omega),Zy,g1];rfl
  ·cases z2
 ·rcases GG e1 with⟨_,z⟩|⟨z1,z2⟩
  ·rw[Zy]at z
   cases q:ds[i]? with
   |none=>rw[q]at z;cases z
   |some d=>rw[q]at z;cases z;cases e2
  ·subst z2
   cases e2;rw[Qk]at z1;subst z1;refine⟨a,_,?_,h',⟨[],rfl,rfl,f7⟩,g'⟩;rw[Yd,Ys (by simp[hl]),Qk,hl];simp
 ·have g:∀(i:Nat) (w:W) (m:Mu),(ds.map W.dat++[.parD [] []])[i]? =some w->w.mut=some m->i=ds.length:=fun i w m e1 e2=>by
   rcases GG e1 with⟨_,z⟩|⟨z1,z2⟩
   ·rw[Zy]at z
    cases q:ds[i]? with
    |none=>rw[q]at z;cases z
    |some d=>rw[q]at z;cases z;cases e2
   ·simpa using z1
  rw[g i w m q1 q2,g j w' m' q3 q4]
theorem Nf{ws':List W}(ev:Ev K B G σ env H G1 σ a8 H1)(r:C3 K G1 vs ds)(ha:H a=none)(no:¬ d8 σ a8 a)(d7:Ev K N4 G1 ((vs++[V.ref a]).map some) (ds.map W.dat++[.parD [] []]) H1 G2 ((vs++[V.ref a]).map some) ws' H2):
  Ev K B G σ env H G2 σ a8 H2:=by
 have isA:∀b,d8 ((vs++[V.ref a]).map some) (ds.map W.dat++[.parD [] []]) b->b=a:=fun b=>aA r.length
 refine⟨⟨d7.rel.sub,ev.rel.len,fun i d e=>?_,fun i w m e1 e2=>?_,ev.rel.inj,ev.rel.fresh,fun b h=>d7.live b (ev.rel.old b h),d7.rel.tabs,d7.rel.gnt⟩,ev.same.trans d7.same,fun b o n t e=>?_,fun b e=>d7.live b (ev.live b e),fun b e n g=>?_,ev.sub,ev.par,ev.slen⟩
 ·obtain⟨v,q1,q2⟩:=ev.rel.dat i d e
  exact⟨v,q1,b0.mono d7.same d q2⟩
 ·obtain⟨p,o,q1,q2,q3,q4⟩:=ev.rel.own i w m e1 e2
  have hp:¬ d8 ((vs++[V.ref a]).map some) (ds.map W.dat++[.parD [] []]) p:=fun z=>no (by rw[←isA p z];exact⟨i,w,m,e1,e2,q1⟩)
  exact⟨p,o,q1,d7.keep p o hp q3.nt q2,q3.mono d7.same,d7.stay p (by rw[q2];simp) hp q4⟩
 ·exact d7.keep b o (fun z=>by rw[isA b z,ha]at e;cases e) t (ev.keep b o n t e)
 ·exact d7.stay b (ev.live b e) (fun z=>e (by rw[isA b z];exact ha)) (ev.stay b e n g)
end
theorem aC{K:Qq}{B:OA}{n:Nat}{f:Fn}{ms:Mo (List D)}{σ:St}{H:Hp}{G:Hp}{env env':a9}{r:Rr}{Q:VK}{E:XK}(rl:Rel K B G σ env H)(e:Ik n f ms env=some (r,env'))
  (k:MN K B G σ env H env' Q r):FI (k7 K n f) [] E (uY K B ms) σ H Q:=by
 obtain⟨⟨ds,a8⟩,e1,e2⟩:=C7 e;dsimp only at e2;split at e2
 case isFalse=>cases e2
 rename_i hn;obtain⟨⟨r',ws'⟩,e3,e4⟩:=E9 e2;cases e4;refine⟨G,env,ds,env',rl,e1,fun vs a G1 H1 ev rp ha no h' g'=>?_⟩
 show k7 K n f ((vs++[V.ref a])++[]) H1 Q E;rw[Yg];have ok:Cj (ds.map W.dat++[.parD [] []]):=fun w hw=>by
  rcases Zf.mp hw with z|z
  ·obtain⟨d,_,rfl⟩:=Zq.mp z
   exact .inl ⟨d,rfl⟩
  ·obtain rfl:=Vw.mp z
   exact .inr rfl
 refine⟨G1,_,r',ws',by simpa using hn,ok,aB ev.rel rp h' g',e3,?_⟩
 cases r' with
 |d d=>exact fun v G2 H2 d7 r2=>k v G2 H2 (Nf ev rp ha no d7) r2
 |l xs=>
  intro b ys G2 H2 d7 hb nb hb' gb rb;have h0:H b=none:=by
   cases q:H b with
   |none=>rfl
   |some o=>exact absurd hb (ev.live b (by rw[q];simp))
  exact k b ys G2 H2 (Nf ev rp ha no d7) h0 (ev.rel.unowned hb) hb' gb rb
section
variable{X:Cx}{B:OA}{pos p:Pos}{e:Expr}{es:List Expr}{ms:Mo (List D)}{fn:Fn}{k n:Nat}{x:Str}
theorem Ng(D:Def X.prog X.w X.K X.mg X.base x k n fn)(hr:g9 k X.A)(hg:Gl X x)(ha:sV X B (e::es) ms)(hdb:(x==("__debug__":Str))=false:=by decide)
  (he:starEach (e::es) X.env=(false,eval e X.env)::starEach es X.env:=by rfl)(hpl:(backTo pos (starEach es X.env)).any (·.1)=false:=by rfl):
  ED X B (.Call (.Name x p) (e::es) [] pos) (GF n fn ms):=by
 obtain⟨f,fd,ps,F,rfl,hm,hk,hb⟩:=D.ex;refine d6 (Dc F hr hg hm hk hb .nil Dj ha hdb he hpl) ?_
 rintro σ H Q ⟨G,env,d,env',rl,e,k⟩;obtain⟨⟨r,a8⟩,e1,e2⟩:=C7 e;cases r with
 |d d'=>cases e2;exact aC rl e1 k
 |l ds=>cases e2
end
def sW(i:Nat)(m:Mo (List Ar)):Prop:=∀env d env' w ds,m env=some (d,env')->env'[i]? =some w->w.mut=some ds->∃w0 ds0,env[i]? =some w0/\w0.mut=some ds0
theorem aD{i:Nat}:sW i B9:=fun env d env' w ds e h1 h2=>by cases e;exact⟨w,ds,h1,h2⟩
theorem Nh{i:Nat}{m:Mo D}{ms:Mo (List Ar)}(h:Kp i m)(t:sW i ms):sW i (B4 m ms):=fun env d env' w ds e h1 h2=>by
 obtain⟨⟨d1,a8⟩,e1,e2⟩:=C7 e;obtain⟨⟨d2,f9⟩,e3,e4⟩:=E9 e2;cases e4;obtain⟨w1,m1,q1,q2⟩:=t a8 _ _ w ds e3 h1 h2;exact h env _ _ w1 m1 e1 q1 q2
theorem aE{i n:Nat}{f:Fn}{as:Mo (List Ar)}(h:sW i as):Kp i (c9 n f as):=fun env d env' w ds e h1 h2=>by
 obtain⟨⟨r,a8⟩,e1,e2⟩:=C7 e;have e0:a8=env':=by
  cases r with
  |d d'=>cases e2;rfl
  |l _=>cases e2
 subst e0;obtain⟨⟨av,f9⟩,e3,e4⟩:=C7 e1;dsimp only at e4;split at e4
 case isFalse=>cases e4
 split at e4
 ·obtain⟨q,e5,e6⟩:=E9 e4
  cases e6;exact h env _ _ w ds e3 h1 h2
 ·rename_i j hs
  obtain⟨w0,e5,e6⟩:=C7 e4;obtain⟨c,e7,e8⟩:=C7 e6;obtain⟨q,e9,e10⟩:=C7 e8;obtain⟨c',e11,e12⟩:=E9 e10;cases e12
  rcases M1 h1 with⟨z1,z2⟩|⟨z1,z2⟩
  ·subst z1
   exact h env _ _ w0 c e3 e5 e7
  ·exact h env _ _ w ds e3 z2 h2
 ·cases e4
def Eb:D->Option Str
 |.str x=>if x.length≤1000 then some x else none
 |.int i=>if-1000000000000000000<i/\i<1000000000000000000 then some (Str.ofString (toString i))else none
 |_=>none
def GH:List D->Option Str
 |[]=>some Str.empty
 |d::ds=>(Eb d).bind fun x=>(GH ds).map fun y=>x++y
def Ni(ms:Mo (List D)):Mo D:=fun env=>(ms env).bind fun p=>if p.1.length≤100 then(GH p.1).map fun s=>(.str s,p.2)else none
theorem Nj{i:Int}(h: -1000000000000000000<i/\i<1000000000000000000):i.natAbs<10^18:=by omega
theorem aF{i:Int}(hi: -1000000000000000000<i/\i<1000000000000000000):i.natAbs.log2<1920:=by
 have h1:=Nj hi
 by_cases h0:i.natAbs=0
 ·rw[h0];decide
 ·exact(Nat.log2_lt h0).mpr (Qd h1 (Zs (by decide:10^18≤2^60) (Xk (by decide) (by decide))))
theorem Il{x y:Str}(h:Eb (.str x)=some y):y=x/\x.length≤1000:=by
 have h':(if x.length≤1000 then some x else none)=some y:=h
 by_cases hx:x.length≤1000
 ·rw[Qc hx]at h';cases h';exact⟨rfl,hx⟩
 ·rw[Qt hx]at h';cases h'
theorem Nk{i:Int}{y:Str}(h:Eb (.int i)=some y):y=Str.ofString (toString i)/\(-1000000000000000000<i/\i<1000000000000000000):=by
 have h':(if-1000000000000000000<i/\i<1000000000000000000 then some (Str.ofString (toString i))else none)=some y:=h
 by_cases hx: -1000000000000000000<i/\i<1000000000000000000
 ·rw[Qc hx]at h';cases h';exact⟨rfl,hx⟩
 ·rw[Qt hx]at h';cases h'
theorem Im{d:D}{x:Str}(h:Eb d=some x):x.length≤1000:=by
 cases d<;>first|(exact absurd (show(none:Option Str)=some x from h) (by simp))|skip
 ·obtain⟨rfl,hi⟩:=Nk h
  have:=int_text_length_le10 (k:=18) (by decide) (Nj hi)
  rw[PySem.ofString_length];omega
 ·obtain⟨rfl,hx⟩:=Il h
  exact hx
theorem Nl:∀{ds:List D}{y:Str},GH ds=some y->y.length≤1000 * ds.length
 |[],y,h=>by cases h;exact Jj _
 |d::ds,y,h=>by
  obtain⟨x,h1,h2⟩:=C7 h;obtain⟨z,h3,h4⟩:=E9 h2;subst h4;have:=Im h1;have:=Nl h3;rw[strLen_append,Qo];omega
section
variable{X:Cx}{B:OA}{pos p:Pos}{e:Expr}{vs:List Expr}{ma:Mo D}{ms:Mo (List D)}
def PJ(X:Cx)(B:OA)(vs:List Expr)(ms:Mo (List D)):Prop:=∀(pins:OX) (s:Shared) (σ:St) (H:Hp) (acc:Str) (Q:Str->Hp->Prop),Inv X pins σ H s->
 (∃G env ds env' y,Rel X.K B G σ env H/\ms env=some (ds,env')/\GH ds=some y/\acc.length+1000 * ds.length≤sizeLine/\∀G' H',Ev X.K B G σ env H G' σ env' H'->Q (acc++y) H')->
 Joins (model X.prog X.w) X.A X.xe (evalEach vs X.env) acc (fun out s1=>∃H',Inv X pins σ H' s1/\Q out H') s
theorem Nm:PJ X B [] B6:=by
 rintro pins s σ H acc Q I ⟨G,env,ds,env',y,rl,e,f,hl,k⟩;cases e;cases f;refine⟨H,I,?_⟩;have:=k G H (.refl rl);rw[Str.append_empty]at this;exact this
theorem Nn{ev:Expr}(h:∀(pins:OX) (s:Shared) (σ:St) (H:Hp) (x:Str) (G:Hp) (env:a9) (d:D) (env':a9) (Q:OE),Inv X pins σ H s->Rel X.K B G σ env H->ma env=some (d,env')->Eb d=some x->
   (∀t s1 G' H',Inv X pins σ H' s1->Ev X.K B G σ env H G' σ env' H'->Q (.str x t) s1)->wpAny (model X.prog X.w) X.A (eval ev X.env) Q X.xe s)(t:PJ X B vs ms):PJ X B (ev::vs) (B0 ma ms):=by
 rintro pins s σ H acc Q I ⟨G,env,ds,env',y,rl,e,f,hl,k⟩;obtain⟨⟨d1,a8⟩,e1,e2⟩:=C7 e;obtain⟨⟨ds2,f9⟩,e3,e4⟩:=E9 e2;cases e4;obtain⟨x,f1,f2⟩:=C7 f;obtain⟨z,f3,f4⟩:=E9 f2;subst f4;show wpAny _ _ (eval ev X.env) _ _ s;refine h pins s σ H x G env d1 a8 _ I rl e1 f1 fun tk s1 G1 H1 I1 j5=>⟨x,tk,rfl,?_,?_⟩
 ·have:=Im f1
  rw[Qo]at hl;dsimp only at hl;rw[strLen_append];omega
 ·refine t pins s1 σ H1 (acc++x) Q I1 ⟨G1,a8,ds2,_,z,j5.rel,e3,f3,?_,fun G2 H2 d7=>?_⟩
  ·have:=Im f1
   rw[Qo]at hl;dsimp only at hl;rw[strLen_append];omega
  ·rw[Str.append_assoc]
   exact k G2 H2 (j5.trans d7)
theorem GI{x:Str}{j}(t:PJ X B vs ms):PJ X B (.Constant (.str x) j p::vs) (B0 (mC (.str x)) ms):=by
 refine Nn (fun pins s σ H y G env d env' Q I rl e f k=>?_) t
 cases e;obtain⟨rfl,_⟩:=Il f;exact Calls.Constant_str (k _ _ G H (I.tok _) (.refl rl))
theorem GJ(h:ED X B e ma)(t:PJ X B vs ms):PJ X B (.FormattedValue e (-1) none p::vs) (B0 ma ms):=by
 refine Nn (fun pins s σ H y G env d env' Q I rl em f k=>?_) t
 refine PyProof.Rows.FormattedValue_plain (i4 (h pins s σ H (fun v H1=>∃G1,Ev X.K B G σ env H G1 σ env' H1/\b0 X.K G1 v d) I ⟨G,env,d,env',rl,em,fun v G1 H1 ev r=>⟨G1,ev,r⟩⟩) fun u s1 ⟨x,H1,I1,rx,G1,ev,r⟩=>?_)
 cases d<;>first|(exact absurd (show(none:Option Str)=some y from f) (by simp))|skip
 ·simp only[b0]at r
  subst r;obtain⟨tk,rfl⟩:=rx;obtain⟨rfl,hi⟩:=Nk f;exact formatField_int_small (aF hi) (k _ _ G1 H1 ((I1.tok _)) ev)
 ·rename_i z
  simp only[b0]at r;obtain⟨r,hz⟩:=r;subst r;obtain⟨tk,rfl⟩:=rx;obtain⟨rfl,_⟩:=Il f;exact formatField_str (fun t' tk'=>k _ _ G1 H1 (I1.tok _) ev) hz
theorem Np{M:Model}{A:Around}{E:OE}:∀{l:List (Sem Value)}{acc:Str}{Q Q':Str->Shared->Prop}{s:Shared},Joins M A E l acc Q s->(∀x s,Q x s->Q' x s)->Joins M A E l acc Q' s
 |[],acc,Q,Q',s,h,f=>f _ _ h
 |x::l,acc,Q,Q',s,h,f=>Qi h (fun v s1 ⟨y,t,e,z,r⟩=>⟨y,t,e,z,Np r f⟩) fun _ _ e=>e
theorem Nq{v1 v2:Expr}(h:PJ X B (v1::v2::vs) ms):ED X B (.JoinedStr (v1::v2::vs) pos) (Ni ms):=by
 rintro pins s σ H Q I ⟨G,env,d,env',rl,e,k⟩;obtain⟨⟨ds,a8⟩,e1,e2⟩:=C7 e;dsimp only at e2;split at e2
 case isFalse=>cases e2
 rename_i hl;obtain⟨y,e3,e4⟩:=E9 e2;cases e4;have hy:=Nl e3;have hb:1000 * ds.length≤100000:=by omega
 have hz:(100000:Nat)≤sizeLine:=by decide
 refine wpAny_JoinedStr ?_
 have:=h pins s σ H Str.empty (fun out H1=>out.length≤sizeLine/\Q (.str out) H1) I ⟨G,env,ds,env',y,rl,e1,e3,by show 0+_≤_;omega,fun G1 H1 ev=>⟨?_,?_⟩⟩
 ·exact Np this fun out s1 ⟨H1,I1,q1,q2⟩=>⟨q1,.str out,H1,I1.tok _,⟨_,rfl⟩,q2⟩
 ·rw[Str.empty_append];omega
 ·rw[Str.empty_append]
  exact k _ G1 H1 ev (by simp only[b0];exact⟨trivial,by omega⟩)
end
section
variable{X:Cx}{N':List Str}{scope:Scope}{keep:List Bool}{more:Nat}{tg iter elt:Expr}{ifs:List Expr}{gs:List Comprehension}{g:TG}{tt:TT}{act:Addr->Z4}{pos:Pos}
theorem aG{wi:TI}{i:Nat}{y:Str}{py spos:Pos}(ok:kY X N' scope keep more)(hc:X.calm=true)(hN:X.N.Nodup)(hy:X.N[i]? =some y)(hyl:X.env.scope.names.lookup y=some .local)
  (hsw:swapsWith (.ListComp elt (⟨tg,iter,ifs,0⟩::gs) scope pos) (some (.Name y py)) spos.line X.env=pure true)
  (hi:PI X tg iter wi)(hg:∀s H fp,PG (J1 X N' scope s H fp) tg g)(ht:∀s H fp,V1 (J1 X N' scope s H fp) ifs tt)(he:∀s H fp p,As (J1 X N' scope s H fp) (X9 elt (⟨tg,iter,ifs,0⟩::gs) scope pos 0 (.ref p) (J1 X N' scope s H fp).env) (act p))
  (hs:∀x,foldedSetIterable iter X.env x=pure x:=by intro _;rfl):PS X (.Assign [.Name y py] (.ListComp elt (⟨tg,iter,ifs,0⟩::gs) scope pos) spos) (HN (Ie wi keep more g tt act) (HM i)):=by
 intro pins s σ H D I h;rw[exec_Assign_Name_used _ _ _ _ hsw];refine Qz (Uz (Qz ?_));show wpAny _ X.A (do let _←comprehension (.ListComp elt (⟨tg,iter,ifs,0⟩::gs) scope pos) scope X.env _ (newList []) false (eval iter X.env) (some (assign (.Name y py) X.env))) _ _ s
 refine Qz (Qi (wpAny_comprehension_free (use:=some (assign (.Name y py) X.env)) (Q:=fun _ s'=>SP X pins D .next s') rfl hs ok.clos ok.kind (fun x hx hl=>by have:=ok.uniq x hx;rwa [hl]at this) (i4 (hi pins s σ H _ I h) fun v s1 h1=>i4 h1 fun itv s2 h2=>?_)) (fun _ s' hq=>Qv (Qv hq)) fun _ _ e=>e)
 obtain⟨it,fp,tn,J,H2,e,I2,T,st2,f2,run⟩:=h2;subst e;refine NP (Qf:=fun p H'=>D.nx (σ.set i (some (.ref p))) H') (RR:=fun acc C=>compPost (model X.prog X.w) X.A X.xe (some (assign (.Name y py) X.env)) (fun _ s'=>SP X pins D .next s') acc C) ok hc hg ht he I2 T st2 f2 run ?_
 intro p C s' H' m IX qf hn hCL hCc hCn turn;refine wpAny_assign_Name (LC (v:=.ref p) (u:=.ref p) IX hN hy (.inl hyl) rfl (fun s'' I'' hs''=>?_) (.inr hyl))
 obtain⟨a,hsb,ha⟩:=hs'';have hCa:C≠a:=by
  rcases ha with z|z
  ·rw[z];exact hCL
  ·exact fun q=>hCc y a z q.symm
 exact⟨m,hn.sameBut hsb hCa,fun h' hs'=>⟨_,H',turn _ H' s'' h' I'' hCn hs',qf⟩⟩
end
section
variable{X:Cx}{B:OA}{N':List Str}{scope lE:Scope}{keep:List Bool}{more n d:Nat}{tg iter elt:Expr}{ifs:List Expr}{gens gs:List Comprehension}{g:OZ}{t:Mo Bool}{m:Mo D}{mi:Mo (List D)}{a:Mo (List D)}{pos:Pos}{s:Shared}{H:Hp}{fp:List Addr}{p:Addr}
theorem Io{i:Nat}{y:Str}{py spos:Pos}(ok:kY X N' scope keep more)(hc:X.calm=true)(hN:X.N.Nodup)(hy:X.N[i]? =some y)(hyl:X.env.scope.names.lookup y=some .local)
  (hsw:swapsWith (.ListComp elt (⟨tg,iter,ifs,0⟩::gs) scope pos) (some (.Name y py)) spos.line X.env=pure true)
  (hi:EI X B tg iter mi)(hg:∀s H fp,EG (J1 X N' scope s H fp) B X.N.length tg g)(ht:∀s H fp,V1 (J1 X N' scope s H fp) ifs (nH X.K B t))
  (he:∀s H fp p,rQ (J1 X N' scope s H fp) B X.N.length elt (⟨tg,iter,ifs,0⟩::gs) scope pos 0 p a)
  (hs:∀x,foldedSetIterable iter X.env x=pure x:=by intro _;rfl):ES X B (.Assign [.Name y py] (.ListComp elt (⟨tg,iter,ifs,0⟩::gs) scope pos) spos) (O7 i (CB mi keep more g t a)):=by
 intro pins s σ H D I h;obtain⟨G,env,fl,env',rl,e,k⟩:=h;obtain⟨⟨d,a8⟩,e1,e2⟩:=E9 e;cases e2;exact aG (act:=qI X.K B X.N.length a) ok hc hN hy hyl hsw hi hg ht (fun s H fp p=>he s H fp p) hs pins s σ H D I (NR ok.klen σ H _ I.len ⟨G,env,d,_,rl,e1,fun a xs G' H' ev ha no h' g' r=>k _ G' H' (ev.setOwn (fun z=>rl.old a z ha) ha no h' g' r)⟩)
end
inductive nR (X:Cx):List Expr->List Nat->Prop
 |nil:nR X [] []
 |cons {x:Str}{p:Pos}{i:Nat}{es:List Expr}{is:List Nat}:PE X (.Name x p) (Q3 i)->nR X es is->nR X (.Name x p::es) (i::is)
section
variable{K:Qq}{B:OA}{G:Hp}{σ:St}{env:a9}{H:Hp}
open Classical in
end
section
variable{X:Cx}{B:OA}{pos p:Pos}{e:Expr}{es:List Expr}{is:List Nat}{fn:Fn}{k n:Nat}{x:Str}
end
end L2.Mir
namespace L2.Mir
open PySem PyProof PyProof.Rows L2
variable{X:Cx}{B:OA}
def Ip(i j:Int):Prop:=Builtin.Int.intBits i≤60000/\Builtin.Int.intBits j≤60000
def Nr(i j:Int):Bool:=decide (Builtin.Int.intBits i≤60000)&&decide (Builtin.Int.intBits j≤60000)
def GK:=fI Nr fun i j=>.int (i * j)
theorem aH:kQ X (inplaceOp .Mult) (rI Ip fun i j=>.int (i * j)):=rH fun _ _ _ _ _ _ _ hc q=>imul_int q (IntMulOk.of_le (m:=60000) (n:=60000) hc.1 hc.2 (by decide))
theorem aI:lN X B (rI Ip fun i j=>.int (i * j)) GK:=Cc (fun i j h=>by simpa [Ip,Nr]using h) fun _ _ _ _=>by simp only[b0]
inductive kK (h:Heap):List Value->OI->Prop
 |nil:kK h [] []
 |cons {a:Addr}{its:Array Value}{k:List Int}{vs:List Value}{ks:OI}(t:IsTup h a its) (i:IntsAre its.toList k) (r:kK h vs ks):kK h (.ref a::vs) (k::ks)
theorem kK.length{h:Heap}{vs:List Value}{ks:OI}(r:kK h vs ks):vs.length=ks.length:=by
 induction r with
 |nil=>rfl
 |cons _ _ _ ih=>simp[ih]
section
open PySem.SeqAt
open PySem.AutoSeq1 (wpAny_loadPart')
open PySem.MeetsSeq PySem.MeetsSeq2 PySem.MeetsSeq3
end
section
variable{prog:Program}{w:World}{A:Around}{E:OE}{s:Shared}
end
def oE:List D->Option (OI)
 |[]=>some []
 |.tup x::r=>(jY x).bind fun a=>(oE r).map fun l=>a::l
 |_::_=>none
section
variable{X:Cx}{B:OA}{pins:OX}{σ:St}{G H:Hp}{s:Shared}
theorem Nt(I:Inv X pins σ H s)(l:Le G H):∀{ds:List D}{xs:List V}{us:List Value}{ks:OI},D3 xs us->C3 X.K G xs ds->oE ds=some ks->kK s.heap us ks
 |[],_,_,_,v,r,e=>by
  simp only[C3]at r;subst r;cases v;cases e;exact .nil
 |d::ds,_,_,ks,v,r,e=>by
  simp only[C3]at r;obtain⟨x,t,rfl,q,r⟩:=r;cases d<;>first|(exact absurd (show(none:Option (OI))=some ks from e) (by simp))|skip
  rename_i es;obtain⟨k,e1,e2⟩:=C7 (show(jY es).bind _=some ks from e)
  obtain⟨l',e3,e4⟩:=E9 e2;subst e4;simp only[b0]at q;obtain⟨a,ys,rfl,hq,rp⟩:=q;have hy:=BK rp e1;subst hy;cases v with
  |cons v1 v2=>
   cases v1;obtain⟨its,rv,p1,_⟩:=I.tuple (l.sqT hq);exact .cons p1 (by simpa using Dg rv) (Nt I l v2 r e3)
end
def Iq(i j:Int):Prop:=0<j/\Builtin.divisionGoesByPylong i j=false
def Ec(i j:Int):Bool:=decide (0<j)&&!Builtin.divisionGoesByPylong i j
def CD:=fI Ec fun i j=>.int (i/j)
theorem aJ{X:Cx}:kQ X (binaryOp .FloorDiv) (rI Iq fun i j=>.int (i/j)):=rH fun i j _ _ _ _ _ hc q=>by
 have h1:(0:Int)<j:=hc.1
 exact floordiv_int (by omega) (by rw[Int.fdiv_eq_ediv_of_nonneg i (by omega)];exact q) (.inl hc.2)
theorem aK{X:Cx}{B:OA}:lN X B (rI Iq fun i j=>.int (i/j)) CD:=Cc (fun i j h=>by simpa [Iq,Ec]using h) fun _ _ _ _=>by simp only[b0]
section
variable{X:Cx}{B:OA}{e st:Expr}{ma:Mo D}{pos p2:Pos}
end
section
variable{prog:Program}{w:World}{A:Around}{E:OE}{s:Shared}
theorem aL{p:Addr}{its:List Value}{ns:List Int}{Q:OE}(hh:A.handled=none)(hl:IsTup s.heap p its.toArray)(hi:IntsAre its ns)
  (q:∀h' tk t',(∀b o,s.heap.get? b=some o->h'.get? b=some o)->Q (.int ns.sum t') {s with heap:=h',toks:=tk}):wpAny (model prog w) A (call (.builtin "sum") [.ref p]) Q E s:=by
 have hl:s.heap.IsTuple p its.toArray:=hl
 have hlt:p<s.heap.objs.size:=by obtain⟨_,e,_⟩:=hl;exact Qu e
 refine call_sum_walkG (Uw hl ?_);refine⟨s.heap.objs.size,[s.heap.objs.size,p],[s.heap.objs.size],its.toArray.size,_,_,fun i=>ns.getD i 0,rfl,Walks.tuple (A:=A.in1) hh _ p (Qs hlt) its.toArray,
  ⟨⟨_,Qh _ rfl,rfl,rfl⟩,hl.push _⟩,fun b hb=>?_,fun i v hP=>Cu hi i v (by simpa using hP),fun h' tk t' hk'=>?_⟩
 ·have hs:=Qu (Qh s.heap (o:={cls:=.type "tuple_iterator",data:=.fields #[.ref p,.int 0 0]}) rfl)
  rcases Qg.mp hb with rfl|hb
  ·exact hs
  ·rcases Qg.mp hb with rfl|hb
   ·exact Uq hlt hs
   ·cases hb
 ·rw[Qp,hi.length,Vk,Vm (Qm _)]
  exact q h' tk t' (Vc hk')
variable{h₀:Heap}{L kS D:Addr}{m:OU}{news0:OX}{e1:Nat}{Fin:List Value->Nat->Shared->Prop}
theorem Nu{n:Int}{t:Tok}:∀{vs:List Value}{ns:List Int},IntsAre vs ns->IntsAre (vs++[.int n t]) (ns++[n])
 |_,_,.nil=>.cons n t .nil
 |_,_,.cons a u r=>.cons a u (Nu r)
end
section
variable{X:Cx}{pins:OX}{σ:St}{H:Hp}{s:Shared}
def Ir:List (Str×Value):=[(Str.ofString "key",.builtin "sum"),(Str.ofString "reverse",.bool true)]
end
section
variable{X:Cx}{B:OA}{e:Expr}{ma:Mo D}{p p1 kp1 kp2 pos:Pos}{j:Nat}{p2:Pos}
end
section
open PySem.SeqAt
open PySem.AutoSeq1 (wpAny_loadPart')
open PySem.MeetsSeq PySem.MeetsSeq2 PySem.MeetsSeq3
end
section
variable{X:Cx}{B:OA}{pos:Pos}{o e:Expr}{ma mb:Mo D}
end
section
variable{K:Qq}{B:OA}{H0 G G':Hp}{σ σ':St}{env env':a9}{H H':Hp}{r:Nat}
end
section
variable(K:Qq)(B:OA)(r:Nat)
end
section
variable{X:Cx}{B:OA}{r:Nat}{e a b:Expr}{pos:Pos}{st:Stmt}{rest:List Stmt}
end
section
variable{X:Cx}{B:OA}{r:Nat}{e a b tg:Expr}{pos:Pos}{st:Stmt}{rest:List Stmt}
end
mutual
def D.lf:D->Bool
 |.non=>true
 |.bl _=>true
 |.int _=>true
 |.str _=>true
 |.tup ds=>sH ds
 |_=>false
def sH:List D->Bool
 |[]=>true
 |d::ds=>d.lf&&sH ds
end
section
variable{K:Qq}{G G':Hp}
mutual
theorem rC(h:∀b xs,G b=some (.tup xs)->G' b=some (.tup xs)):∀(d:D) {v:V},d.lf=true->b0 K G v d->b0 K G' v d
 |.non,v,_,r=>by simpa only[b0]using r
 |.bl b,v,_,r=>by simpa only[b0]using r
 |.int i,v,_,r=>by simpa only[b0]using r
 |.str x,v,_,r=>by simpa only[b0]using r
 |.tup ds,v,l,r=>by
  simp only[b0]at r ⊢;obtain⟨a,xs,e,q,t⟩:=r;exact⟨a,xs,e,q.imp (fun e=>h _ _ e) id,oY h ds (by simpa only[D.lf]using l) t⟩
 |.lst ds,v,l,r=>by simp[D.lf]at l
 |.emp,v,l,r=>by simp[D.lf]at l
 |.obj o,v,l,r=>by simp[D.lf]at l
 |.dct _ _,v,l,r=>by simp[D.lf]at l
theorem oY(h:∀b xs,G b=some (.tup xs)->G' b=some (.tup xs)):∀(ds:List D) {xs:List V},sH ds=true->C3 K G xs ds->C3 K G' xs ds
 |[],_,_,r=>by simpa only[C3]using r
 |d::ds,_,l,r=>by
  simp only[C3]at r ⊢;obtain⟨x,t,e,q,u⟩:=r;have l':d.lf=true/\sH ds=true:=by simpa only[sH,Qw]using l
  exact⟨x,t,e,rC h d l'.1 q,oY h ds l'.2 u⟩
end
end
section
variable{K:Qq}{B:OA}{H0 G:Hp}{σ:St}{env:a9}{H:Hp}
end
section
variable{X:Cx}{B:OA}{r:Nat}{pos p px:Pos}{fn:Fn}{k n:Nat}{x y:Str}
end
section
variable{K:Qq}{B:OA}{G G1:Hp}{σ σ1:St}{env a8:a9}{H H1:Hp}
end
section
variable{X:Cx}{B:OA}{r:Nat}{N':List Str}{scope:Scope}{keep:List Bool}{more:Nat}{tg iter elt:Expr}{g:OZ}{ml mi:Mo (List D)}{pos:Pos}
end
section
variable{X:Cx}{B:OA}{e:Expr}{ma:Mo D}{pos p2:Pos}
end
open PySem.W Builtin Builtin.ObjectAttr Builtin.Getset_descriptor PySem.Calls
theorem tZ:typeLookup (.type "function") "__getattribute__"=pure (some (.builtin "object.__getattribute__")):=by rfl
theorem wI(self:Value):bindSpecial (Value.builtin "object.__getattribute__") self=pure (Value.builtin "object.__getattribute__",[self]):=by rfl
theorem wJ:typeLookup (.type "function") "__class__"=pure (some (.builtin "object.__class__")):=by rfl
theorem uZ:isSubtype (.type "function") (.type "object")=pure true:=by rfl
theorem pV:getOf (some (.builtin "object.__class__"))=pure (some (.builtin "getset_descriptor.__get__")):=by rfl
theorem wK:dataDescriptor? (some (.builtin "object.__class__")) (some (.builtin "getset_descriptor.__get__"))=pure (some (.builtin "getset_descriptor.__get__",.builtin "object.__class__")):=by rfl
section
variable{prog:Program}{w:World}{A:Around}{E:OE}{x:Addr}{h:Heap}{g:Array GenState}{d:Drawn}{t:Nat}{os:OsState}
theorem aM{R:Result->Shared->Prop}{tp:Value}(I:KitAt x "function" h)
  (hq:R (.ok (.ret (.type "function"))) ⟨h,g,d,t,os⟩):codeAny (model prog w) A (.call (.builtin "getset_descriptor.__get__") ⟨[.builtin "object.__class__",.ref x,tp],[]⟩) R ⟨h,g,d,t,os⟩:=by
 have L0:=kitAt_ty (M:=model prog w) (T:="function") _ I
 refine Ui KF.slot_gs.plain KF.entry_gs (KF.slot_gs.check _ _ _ _ _ _ _ _ KF.type_class (KF.args_gs _ _ _) ?_);unfold Builtin.«getset_descriptor.__get__» descrGet;rw[dga_obj];refine Qz (Qv ?_);unfold descrGetter descrCheckInstance descrNameAndClass isInstance;simp only[KF.owner_class]
 repeat (first|with_reducible refine L0.at ?_|wp_step)
 dsimp only;rw[uZ]
 repeat (first|with_reducible refine L0.at ?_|wp_step)
 refine⟨Code.quiet_builtin _ (by rfl'),codeAny_builtin KF.entry_class ?_⟩
 unfold Builtin.«object.__class__» shownTypeOf
 repeat (first|with_reducible refine L0.at ?_|wp_step)
 exact hq
theorem aN{tk:Tok}{Q:Fin->Shared->Prop}(I:KitAt x "function" h)(hq:Q (.done (.ret (.type "function"))) ⟨h,g,d,t,os⟩):
  wpAny (model prog w) A (Builtin.«object.__getattribute__» ⟨[.ref x,.str "__class__" tk],[]⟩) Q E ⟨h,g,d,t,os⟩:=by
 have L0:=kitAt_ty (M:=model prog w) (T:="function") _ I
 unfold Builtin.«object.__getattribute__»
 repeat (any_goals (first|assumption|with_reducible refine L0.at ?_|wp_step))
 rw[wJ];refine Qv ?_
 rw[pV];refine Qz (Qv ?_);rw[wK]
 repeat (any_goals (first|assumption|with_reducible refine L0.at ?_|wp_step))
 refine aM I ?_
 repeat (any_goals (first|assumption|wp_step))
theorem aO{M:Model}{nameV:Value}{Q:Unit->Shared->Prop}(I:KitAt x "function" h)(hq:Q () ⟨h,g,d,t,os⟩):
  wpAny M A (checkBuiltinCall "object.__getattribute__" ⟨[.ref x,nameV],[]⟩) Q E ⟨h,g,d,t,os⟩:=by
 have hk:builtinKind "object.__getattribute__"=some .slot:=by rfl'
 have hsplit:splitId "object.__getattribute__"=some ("object","__getattribute__"):=by rfl'
 have L0:=kitAt_ty (M:=M) (T:="function") _ I
 simp only[checkBuiltinCall,hk,hsplit];refine Qz ?_
 unfold isInstance
 repeat (first|with_reducible refine L0.at ?_|wp_step)
 rw[uZ]
 repeat (first|with_reducible refine L0.at ?_|wp_step)
 exact hq
theorem aP{Q:Option Value->Shared->Prop}{s:Shared}(I:KitAt x "function" s.heap)(k:Q (some (.type "function")) ⟨s.heap,s.gens,s.drawn,s.toks+1,s.os⟩):
  wpAny (model prog w) A (getAttr? (.ref x) "__class__") Q E s:=by
 obtain⟨h,g,d,t,os⟩:=s;have L0:=kitAt_ty (M:=model prog w) (T:="function") _ I;unfold getAttr? getAttrBy?
 repeat (any_goals (first|assumption|with_reducible refine L0.at ?_|wp_step))
 rw[tZ]
 repeat (any_goals (first|assumption|with_reducible refine L0.at ?_|wp_step))
 rw[wI]
 repeat (any_goals (first|assumption|with_reducible refine L0.at ?_|wp_step))
 refine Ui (by rfl') F.entry_object_getattribute (aO I (aN I ?_))
 repeat (any_goals (first|assumption|wp_step))
end
theorem aQ{K:Frag}{x:Addr}{o:Obj}(hl:List.lookup x K=some o)(hc:o.cls=.type "function"):KitX K (.ref x) (.type "function") (fun _=>True):=by
 have q:KitX K (.ref x) (.type "function") (KitAt x "function"):=kitx_of (fun M h p=>kitAt_ty M h p) (fun{prog w A E Q s} p k=>aP p k)
 exact⟨fun M h X _=>q.ty M h X (kitAt_K X hl hc),fun M h X _=>q.it M h X (kitAt_K X hl hc),q.ne,fun{prog w A E Q s} X _ k=>q.ca X (kitAt_K X hl hc) k⟩
def Nv(K:Qq)(f:Addr):Bool:=match List.lookup f K with
 |some o=>o.cls==.type "function"
 |none=>false
theorem Iu{K:Qq}{f:Addr}(h:Nv K f=true):PySem.W.KitX K (.ref f) (.type "function") (fun _=>True):=by
 unfold Nv at h;split at h
 ·rename_i o e
  exact aQ e (Uv h)
 ·cases h
def pS(K:Qq)(mg:OU)(x:Str):Prop:=∃f,PySem.W.nsIn K mainGlobals x=some (some (.ref f))/\mg x=some (.ref f)/\PySem.W.KitX K (.ref f) (.type "function") (fun _=>True)
section
variable{X:Cx}{B:OA}{e:Expr}{es:List Expr}{p pos:Pos}{y:Str}{i k n:Nat}{as:Mo (List Ar)}
theorem Iv{x:Str}(hg:Gl X x)(hm:pS X.K X.mg x)(hd:(x==("__debug__":Str))=false:=by decide):ED X B (.Name x pos) (mC (.obj (.fn x))):=by
 obtain⟨f,h1,h2,h3⟩:=hm;refine d6 (HI (v:=.ref f) hg h2 rfl hd) ?_
 rintro σ H Q ⟨G,env,d,env',rl,em,kk⟩;cases em;exact kk (.ref f) G H (.refl rl) (by simp only[b0];exact⟨f,rfl,h1,h3⟩)
theorem Nw{CX}{f:Addr}{fd:FuncData}{ps:List Str}{sp:Sp}{ds:List Value}{dvs:List V}{E:XK}{t:TA}(F:f6 X.prog X.w X.K X.mg X.base CX k f fd ps sp)(hr:g9 k X.A)(hv:PE X (.Name y p) (Q3 i))(hk:PySem.W.keepIn X.K (.ref f)=true)(hb:O6 X.K fd ps ds)(hd:D3 dvs ds)(hx:Da CX X E)
  (ha:PA X (e::es) t)(he:starEach (e::es) X.env=(false,eval e X.env)::starEach es X.env:=by rfl)(hpl:(backTo pos (starEach es X.env)).any (·.1)=false:=by rfl):
  PE X (.Call (.Name y p) (e::es) [] pos) (fun σ H Q=>σ[i]? =some (some (.ref f))/\FI sp dvs E t σ H Q):=by
 intro pins s σ H Q I ⟨h0,h⟩;refine Yo (i4 (hv pins s σ H (fun v H'=>v=.ref f/\H'=H) I ⟨_,h0,rfl,rfl⟩) fun u s0 ⟨v,H',I',r',q'⟩=>?_)
 obtain⟨rfl,rfl⟩:=q';cases r';refine PySem.W.callWith_K (h₀:=X.base) I'.ok.mod.kin hk (i4 (ha pos pins s0 σ _ _ I' h) fun us s1 ⟨vs,H1,I1,r,q⟩=>⟨I1.kIn,?_⟩) he hpl
 exact LZ F hr hb hd hx I1 r q
def CF(X:Cx)(n:Nat)(l:List (Str×Fn)):Prop:=∀nm fn,l.lookup nm=some fn->∃k,g9 k X.A/\Def X.prog X.w X.K X.mg X.base nm k n fn/\pS X.K X.mg nm
def CG(X:Cx)(n:Nat)(l:List (Str×(List W->Option Str))):Prop:=∀nm g,l.lookup nm=some g->∃k,g9 k X.A/\m8 X.prog X.w X.K X.mg X.base nm k n g/\pS X.K X.mg nm
theorem Nx:CF X n []:=fun nm fn h=>by cases h
theorem aR{x:Str}{fn:Fn}{l:List (Str×Fn)}(hr:g9 k X.A)(d:Def X.prog X.w X.K X.mg X.base x k n fn)(hn:pS X.K X.mg x)(h:CF X n l):CF X n ((x,fn)::l):=fun nm fn' e=>by
 rw[Tz]at e;split at e
 ·rename_i hb
  cases e;have:nm=x:=Uv hb;subst this;exact⟨k,hr,d,hn⟩
 ·exact h nm fn' e
theorem Ny:CG X n []:=fun nm fn h=>by cases h
theorem aS{x:Str}{g:List W->Option Str}{l:List (Str×(List W->Option Str))}(hr:g9 k X.A)(d:m8 X.prog X.w X.K X.mg X.base x k n g)(hn:pS X.K X.mg x)(h:CG X n l):CG X n ((x,g)::l):=fun nm fn' e=>by
 rw[Tz]at e;split at e
 ·rename_i hb
  cases e;have:nm=x:=Uv hb;subst this;exact⟨k,hr,d,hn⟩
 ·exact h nm fn' e
def mCV(n i:Nat)(l:List (Str×Fn))(as:Mo (List Ar)):Mo D:=fun env=>match env[i]? with
 |some (.dat (.obj (.fn nm)))=>(l.lookup nm).bind fun fn=>c9 n fn as env
 |_=>none
theorem Nz{G:Hp}{v:V}{nm:Str}{f':Addr}(hn:pS X.K X.mg nm)(hm:X.mg nm=some (.ref f'))(q:b0 X.K G v (.obj (.fn nm))):v=.ref f':=by
 obtain⟨f0,h1,h2,_⟩:=hn;simp only[b0]at q;obtain⟨f,rfl,h3,_⟩:=q;rw[h1]at h3;rw[h2]at hm;cases h3;cases hm
 rfl
def pY(n i:Nat)(l:List (Str×(List W->Option Str)))(as:Mo (List Ar)):Mx:=fun env=>match env[i]? with
 |some (.dat (.obj (.fn nm)))=>(l.lookup nm).bind fun g=>Ao n g as env
 |_=>none
theorem OB{E:XK}{l:List (Str×(List W->Option Str))}(hx:rO X E)(ht:CG X n l)(hv:PE X (.Name y p) (Q3 i))(ha:pC X B (e::es) as)(he:starEach (e::es) X.env=(false,eval e X.env)::starEach es X.env:=by rfl)(hpl:(backTo pos (starEach es X.env)).any (·.1)=false:=by rfl):
  pQ X B E (.Call (.Name y p) (e::es) [] pos) (pY n i l as):=by
 intro pins s σ H Q I ⟨G,env,c,rl,em,C,hC,w⟩;unfold pY at em;split at em
 case h_2=>cases em
 rename_i nm hen;obtain⟨g,e0,em⟩:=C7 em;obtain⟨k,hr,D,hn0⟩:=ht nm g e0;obtain⟨v,q1,q2⟩:=rl.dat i _ hen;obtain⟨f',fd,ps,F,rfl,hm,hk,hb⟩:=D.ex;have:=Nz hn0 hm q2;subst this;refine Nw F hr hv hk hb .nil hx.pass ha he hpl pins s σ H Q I ⟨q1,?_⟩;obtain⟨⟨av,a8⟩,e1,e2⟩:=C7 em;dsimp only at e2;split at e2
 ·rename_i hn
  split at e2
  ·rename_i hs
   refine⟨G,env,av,a8,rl,e1,fun vs G1 H1 ev ra=>?_⟩
   show pX X.K ps.length g (vs++[]) H1 Q E;rw[Yg];exact⟨G1,av.map (N1 (.l [])),c,C,by rw[Qk];exact hn,Fb,Fc (i:=0) (w:=.nil) ev.rel ra (fun k j e=>absurd e (AO hs k j)) (fun k k' j j' e=>absurd e (AO hs k j)),e2,hC,
    fun G2 ws' H2 d7=>w σ G2 a8 H2 (ev.trans (Fd ev.rel ra hs d7))⟩
  ·cases e2
 ·cases e2
end
section
variable{prog:Program}{w:World}{A:Around}{E:OE}{s:Shared}
end
inductive nS (K:Qq) (G:Hp):List V->List (List Int×V)->Prop
 |nil:nS K G [] []
 |cons {q b:Addr}{k:List Int}{v:V}{xs:List V}{ps:List (List Int×V)}:pT K G q [.ref b,v]->DA K G b k->nS K G xs ps->nS K G (.ref q::xs) ((k,v)::ps)
section
variable{X:Cx}{pins:OX}{σ:St}{A:Around}{R:Result->Shared->Prop}{l it d:Addr}{xs:List V}{G:Hp}
end
section
variable{X:Cx}{B:OA}
end
end L2.Mir
namespace L2.Mir
open PySem PySem.Spec PyProof.Rows PySem.W
structure wL(P:Program)(w:World)(K:Frag)(mg:OU)(base:Heap)(x:Str)(k n:Nat)(fn:Fn)(ts:List Addr):Prop where
 ex:∃(f:Addr) (fd:FuncData) (ps:List Str),f6 P w K mg base kF k f fd ps (rB K ts n fn)/\ps.length=n/\mg x=some (.ref f)/\keepIn K (.ref f)=true/\O6 K fd ps []
section
variable{X:Cx}{B:OA}{pos p:Pos}{e:Expr}{es:List Expr}{as:Mo (List Ar)}{fn:Fn}{k n:Nat}{x:Str}{ts:List Addr}{f:Addr}{fd:FuncData}{ps:List Str}{t:TA}{E:XK}
end
theorem K2{N P:List Str}{sc:Scope}(a:sc.kind=.function:=by rfl)(b:sc.isCoroutine=false:=by rfl)(c:sc.isGenerator=false:=by rfl)(d:N.Nodup:=by rfl')(e:N.take P.length=P:=by rfl)(f:∀x∈P,sc.names.lookup x=some .local\/sc.names.lookup x=some .cell:=by rfl')(g:∀y∈sc.names,y.2≠.free:=by rfl'):c4 N P sc:=⟨a,b,c,d,e,f,g⟩
theorem pZ{α:Type}{M:List α->Prop}(h:∀a,M [a]):∀us:List α,us.length=1->M us
 |[a],_=>h a
theorem nW{α:Type}{M:List α->Prop}(h:∀a b,M [a,b]):∀us:List α,us.length=2->M us
 |[a,b],_=>h a b
theorem uE{α:Type}{M:List α->Prop}(h:∀a b c,M [a,b,c]):∀us:List α,us.length=3->M us
 |[a,b,c],_=>h a b c
theorem wM{α:Type}{M:List α->Prop}(h:∀a b c d,M [a,b,c,d]):∀us:List α,us.length=4->M us
 |[a,b,c,d],_=>h a b c d
section
variable{X:Cx}{B:OA}{pos:Pos}{o e:Expr}{ma mb:Mo D}
end
section
variable{X:Cx}{B:OA}{pos:Pos}{o e:Expr}{ma mb:Mo D}
end
section
variable{X:Cx}{B:OA}{tg e:Expr}{ma:Mo D}
end
section
variable{X:Cx}{B:OA}{pos:Pos}{e e2:Expr}{ma mb:Mo D}
end
def u0:List (Key×Key)->Key->Option Key
 |[],_=>none
 |p::l,k=>if p.1=k then some p.2 else u0 l k
structure DkG(P:Program)(w:World)(K:Qq)(mg:OU)(x:Str)(kvs:List (Key×Key)):Prop where
 ex:∃a,mg x=some (.ref a)/\(a==sysModules)=false/\∀h:Heap,K.In h->(∃o,h.get? a=some o/\o.cls=.type "dict")/\∃g:Key->Option Value,h.MapOf (Q1 P w) a g/\∀k,AE ((u0 kvs k).map kV) (g k)
section
variable{X:Cx}{B:OA}{pos:Pos}{a b:Expr}{ma mb:Mo D}{kvs:List (Key×Key)}
end
section
variable{X:Cx}{B:OA}{pos:Pos}{k1 k2 k3 v1 v2 v3:Expr}{a1 a2 a3 b1 b2 b3:Key}
end
inductive rD (P:Program) (w:World):List DictEntry->List (Key×Key)->Prop
 |nil:rD P w [] []
 |cons {e:DictEntry}{p:Key×Key}{es:List DictEntry}{kvs:List (Key×Key)}:D8 (kV p.1) e.key->e.hash=(Q1 P w).hash p.1->D8 (kV p.2) e.val->rD P w es kvs->rD P w (e::es) (p::kvs)
section
variable{X:Cx}{B:OA}{a b e st:Expr}{ma mb:Mo D}{pos p2:Pos}
end
def u3:List (Str×Str)->Key->Option Str
 |[],_=>none
 |p::l,k=>if(.inr p.1:Key)=k then some p.2 else u3 l k
def aT(mg:OU):Option Str->Option Value->Prop
 |none,o=>o=none
 |some n,o=>∃f,mg n=some (.ref f)/\o=some (.ref f)
structure DfG(P:Program)(w:World)(K:Qq)(mg:OU)(x:Str)(kvs:List (Str×Str)):Prop where
 ex:∃a,mg x=some (.ref a)/\(a==sysModules)=false/\∀h:Heap,K.In h->(∃o,h.get? a=some o/\o.cls=.type "dict")/\∃g:Key->Option Value,h.MapOf (Q1 P w) a g/\∀k,aT mg (u3 kvs k) (g k)
 wk:(kvs.map fun p=>(.inr p.1:Key)).Nodup->∃a vs ep,mg x=some (.ref a)/\(a==sysModules)=false/\vs.map (·.1)=kvs.map (fun p=>(.inr p.1:Key))/\∀h:Heap,K.In h->h.DictAt (Q1 P w) a vs ep
section
variable{X:Cx}{B:OA}{pos:Pos}{a b:Expr}{ma mb:Mo D}{kvs:List (Str×Str)}
end
inductive rE (P:Program) (w:World) (mg:OU):List DictEntry->List (Str×Str)->Prop
 |nil:rE P w mg [] []
 |cons {e:DictEntry}{p:Str×Str}{f:Addr}{es:List DictEntry}{kvs:List (Str×Str)}:D8 (.str p.1) e.key->e.hash=(Q1 P w).hash (.inr p.1)->e.val=.ref f->mg p.2=some (.ref f)->rE P w mg es kvs->rE P w mg (e::es) (p::kvs)
section
variable{K:Qq}{B:OA}{G G':Hp}{σ σ':St}{env env':a9}{H H':Hp}
end
section
variable{X:Cx}{B:OA}{pos:Pos}{k1 k2 k3 k4 v1 v2 v3 v4:Expr}{a1 a2 a3 a4:Str}{m1 m2 m3 m4:Mo D}
end
section
variable{X:Cx}{B:OA}{pos p:Pos}{fn:Fn}{k:Nat}{x:Str}
end
section
variable{X:Cx}{B:OA}{tg:Expr}{kvs:List (Str×Str)}
end
section
variable{prog:Program}{w:World}{A:Around}{R:Result->Shared->Prop}{I S:Addr}{fp wr:List Addr}{n:Nat}{P:Nat->Value->Prop}{St:Nat->Heap->Prop}{bt:Nat->Nat->Bool}{Z:Heap->Prop}
end
section
variable{X:Cx}{B:OA}
end
section
variable{X:Cx}{B:OA}{pos p p1:Pos}{e2:Expr}{m:Mo D}{fn:Fn}{k i:Nat}{x y:Str}
end
section
variable{prog:Program}{w:World}{A:Around}{s:Shared}{fin:Bool}{Q:Bool->Shared->Prop}
end
section
variable{X:Cx}{B:OA}{pins:OX}{σ:St}{G H:Hp}{s:Shared}
end
theorem Iw{g:OZ}{t:Mo Bool}{m:Mo D}:∀{ds:List D}{env e:a9}{r:List D},N8 g t m ds env=some (r,e)->Z5 g t (W4 m) ds env=some (r,e)/\r.length≤ds.length
 |[],env,e,r,h=>by cases h;exact⟨rfl,Qm _⟩
 |d::ds,env,e,r,h=>by
  obtain⟨e1,h1,h⟩:=C7 h;obtain⟨⟨b,e2⟩,h2,h⟩:=C7 h;have goal:∀z,((g d env).bind fun e1=>(t e1).bind fun p=>if p.1 then(W4 m p.2).bind fun q'=>(Z5 g t (W4 m) ds q'.2).map fun r=>(q'.1++r.1,r.2)else Z5 g t (W4 m) ds p.2)=z->Z5 g t (W4 m) (d::ds) env=z:=fun z h=>h
  cases b with
  |false=>
   obtain⟨a1,a2⟩:=Iw (show N8 g t m ds e2=some (r,e)from h)
   exact⟨goal _ (by rw[h1,Qj,h2];exact a1),Xi a2⟩
  |true=>
   obtain⟨⟨x,e3⟩,h3,h⟩:=C7 (show(m e2).bind (fun q=>(N8 g t m ds q.2).map fun r=>(q.1::r.1,r.2))=some (r,e)from h)
   obtain⟨⟨r',e4⟩,h4,h5⟩:=E9 h;cases h5;obtain⟨a1,a2⟩:=Iw h4;refine⟨goal _ ?_,Nat.succ_le_succ a2⟩;have he:W4 m e2=some ([x],e3):=by
    show(m e2).map _=_;rw[h3]
    rfl
   rw[h1,Qj,h2];show(W4 m e2).bind _=_;rw[he];show(Z5 g t (W4 m) ds e3).map _=_;rw[a1]
   rfl
theorem OC{mi:Mo (List D)}{keep:List Bool}{more:Nat}{g:OZ}{t:Mo Bool}{m:Mo D}{env:a9}{x:List D×a9}(h:G9 mi keep more g t m env=some x):CB mi keep more g t (W4 m) env=some x:=by
 obtain⟨p,h1,h⟩:=C7 h;split at h
 case isFalse=>cases h
 rename_i hl;obtain⟨⟨r,e⟩,h2,h3⟩:=C7 h;obtain⟨a1,a2⟩:=Iw h2;unfold CB;rw[h1,Qj,a1,Qj,Qc (Zs a2 hl)];exact h3
section
variable{X:Cx}{B:OA}{N':List Str}{scope:Scope}{keep:List Bool}{more:Nat}{tg iter elt:Expr}{ifs:List Expr}{g:OZ}{t:Mo Bool}{m:Mo D}{mi:Mo (List D)}{pos:Pos}
theorem R0(ok:kY X N' scope keep more)(hc:X.calm=true)(hi:EI X B tg iter mi)(hg:∀s H fp,EG (J1 X N' scope s H fp) B X.N.length tg g)(ht:∀s H fp,V1 (J1 X N' scope s H fp) ifs (nH X.K B t))(he:∀s H fp,ED (J1 X N' scope s H fp) B elt m)
  (hs:∀x,foldedSetIterable iter X.env x=pure x:=by intro _;rfl):EL X B (.ListComp elt [⟨tg,iter,ifs,0⟩] scope pos) (G9 mi keep more g t m):=
 d6 (ZO ok hc hi hg ht (fun s H fp p=>Fz rfl (he s H fp)) hs) fun σ H Q ⟨G,env,d,env',rl,e,k⟩=>⟨G,env,d,env',rl,OC e,k⟩
theorem OD{i:Nat}{y:Str}{py spos:Pos}(ok:kY X N' scope keep more)(hc:X.calm=true)(hN:X.N.Nodup)(hy:X.N[i]? =some y)(hyl:X.env.scope.names.lookup y=some .local)
  (hsw:swapsWith (.ListComp elt [⟨tg,iter,ifs,0⟩] scope pos) (some (.Name y py)) spos.line X.env=pure true)
  (hi:EI X B tg iter mi)(hg:∀s H fp,EG (J1 X N' scope s H fp) B X.N.length tg g)(ht:∀s H fp,V1 (J1 X N' scope s H fp) ifs (nH X.K B t))(he:∀s H fp,ED (J1 X N' scope s H fp) B elt m)
  (hs:∀x,foldedSetIterable iter X.env x=pure x:=by intro _;rfl):ES X B (.Assign [.Name y py] (.ListComp elt [⟨tg,iter,ifs,0⟩] scope pos) spos) (O7 i (G9 mi keep more g t m)):=by
 refine jZ (Io (i:=i) ok hc hN hy hyl hsw hi hg ht (fun s H fp p=>Fz rfl (he s H fp)) hs) ?_
 rintro D σ H ⟨G,env,fl,env',rl,e,k⟩;obtain⟨⟨d,a8⟩,e1,e2⟩:=E9 e;cases e2;refine⟨G,env,.nx,a8.set i (.own d),rl,?_,k⟩;show(CB mi keep more g t (W4 m) env).map _=_;rw[OC e1]
 rfl
end
section
variable{X:Cx}{k n:Nat}
theorem DD{x:Str}{fn:Fn}{l:List (Str×Fn)}(d:Def X.prog X.w X.K X.mg X.base x k n fn)(hn:pS X.K X.mg x)(hr:g9 k X.A)(h:CF X n l):CF X n ((x,fn)::l):=aR hr d hn h
theorem DE{x:Str}{g:List W->Option Str}{l:List (Str×(List W->Option Str))}(d:m8 X.prog X.w X.K X.mg X.base x k n g)(hn:pS X.K X.mg x)(hr:g9 k X.A)(h:CG X n l):CG X n ((x,g)::l):=aS hr d hn h
end
structure PS where
 a:Array Nat
 pd:Array (Nat×Nat×Nat)
 mg:Nat
def Iy:Bool->Keyed->Array Keyed->Nat->Nat->Nat->StateT SortSt Sem (Option Nat):=sortPriv%PySem.Builtin.gallop
def wN:Nat->StateT SortSt Sem Unit:=sortPriv%PySem.Builtin.setMinGallop
def wO:Array Keyed->Array Keyed->StateT SortSt Sem (Array Keyed):=sortPriv%PySem.Builtin.mergeLo
structure Lt where
 N:Nat
 lt:Nat->Nat->Bool
structure Sx where
 prog:Program
 w:World
 A:Around
 E:OE
 s:Shared
 κ:SortKind
 it:Nat->Keyed
 L:Lt
 ok:∀i j (C:Bool->Shared->Prop),i<L.N->j<L.N->C (L.lt i j) s->wpAny (model prog w) A (keyLt' κ (it i).1 (it j).1) C (fun _ _=>False) s
variable{Y:Sx}{α β γ δ:Type}
abbrev Sx.st(Y:Sx)(S:PS):SortSt:=SortSt.mk' Y.κ (S.a.map Y.it) S.pd S.mg none
def At(Y:Sx)(enc:β->α)(m:StateT SortSt Sem α)(S:PS)(o:Option (β×PS)):Prop:=
 ∀r S',o=some (r,S')->∀Q:α->SortSt->Shared->Prop,Q (enc r) (Y.st S') Y.s->kasC (model Y.prog Y.w) Y.A Y.E m Q (Y.st S) Y.s
theorem BR{enc:β->α}{m:StateT SortSt Sem α}{S:PS}:At Y enc m S none:=fun _ _ h=>nomatch h
theorem E3{enc:β->α}{v:α}{b:β}{S:PS}(h:v=enc b):At Y enc (pure v) S (some (b,S)):=by
 intro r S' e Q q;cases e;rw[h];exact kasC_pure q
theorem E4{e1:β->α}{e2:δ->γ}{m:StateT SortSt Sem α}{k:α->StateT SortSt Sem γ}{S:PS}{o:Option (β×PS)}{g:β×PS->Option (δ×PS)}(h:At Y e1 m S o)(hk:∀b S',At Y e2 (k (e1 b)) S' (g (b,S'))):
  At Y e2 (m>>=k) S (o.bind g):=by
 intro r S' e Q q;obtain⟨⟨b,S1⟩,h1,h2⟩:=C7 e;exact Up (h b S1 h1 _ (hk b S1 r S' h2 Q q))
theorem J6{enc:β->α}{c:Prop}[Decidable c]{m n:StateT SortSt Sem α}{S:PS}{o p:Option (β×PS)}(h1:c->At Y enc m S o)(h2:¬ c->At Y enc n S p):At Y enc (if c then m else n) S (if c then o else p):=by
 by_cases h:c
 ·rw[Qc h,Qc h];exact h1 h
 ·rw[Qt h,Qt h];exact h2 h
theorem OF{a:Array Nat}{i:Nat}{S:PS}:At Y Y.it (elem' (a.map Y.it) i) S (a[i]?.map fun x=>(x,S)):=by
 intro r S' e Q q;obtain⟨x,h1,h2⟩:=E9 e;cases h2;rw[elem'_eq,Xf,h1];exact kasC_pure q
theorem GL{i j:Nat}{S:PS}:At Y some (lt' (Y.it i) (Y.it j)) S (if i<Y.L.N/\j<Y.L.N then some (Y.L.lt i j,S)else none):=by
 intro r S' e Q q;split at e
 ·rename_i h
  cases e;rw[lt'_eq];refine Up (kasC_get ?_);refine Up (kasC_lift (Xn (Qi (Y.ok i j (fun b s'=>b=Y.L.lt i j/\s'=Y.s) h.1 h.2 ⟨rfl,rfl⟩) (fun c s' hc=>?_) fun _ _ hF=>hF.elim)))
  obtain⟨rfl,rfl⟩:=hc;exact kasC_pure q
 ·cases e
def sX(Y:Lt)(i j:Nat)(S:PS):Option (Bool×PS):=if i<Y.N/\j<Y.N then some (Y.lt i j,S)else none
def DF(Y:Lt)(i j:Nat)(S:PS):Option (Bool×PS):=S.a[i]?.bind fun x=>S.a[j]?.bind fun y=>sX Y x y S
theorem Ed{i j:Nat}{S:PS}:At Y some (ltAt' i j) S (DF Y.L i j S):=by
 intro r S' e Q q;obtain⟨x,h1,e⟩:=C7 e;obtain⟨y,h2,e⟩:=C7 e;rw[ltAt'_eq];refine Up (kasC_get ?_);show kasC _ _ _ (do let x←elem' (S.a.map Y.it) i;let y←elem' (S.a.map Y.it) j;lt' x y) Q _ _
 rw[elem'_eq,elem'_eq,Xf,Xf,h1,h2];exact Up (kasC_pure (Up (kasC_pure (GL r S' e Q q))))
theorem Ee{enc:β->α}{x:String}{k:Unit->StateT SortSt Sem α}{S:PS}{o:Option (β×PS)}(h:At Y enc (k ()) S o):At Y enc ((liftM (rule x):StateT SortSt Sem Unit)>>=k) S o:=by
 intro r S' e Q q;exact Up (kasC_lift (Ja (h r S' e Q q)))
theorem Au{enc:β->α}{k:SortSt->StateT SortSt Sem α}{S:PS}{o:Option (β×PS)}(h:At Y enc (k (Y.st S)) S o):At Y enc (get>>=k) S o:=by
 intro r S' e Q q;exact Up (kasC_get (h r S' e Q q))
theorem CH{enc:β->α}{f:SortSt->SortSt}{k:PUnit->StateT SortSt Sem α}{S S1:PS}{o:Option (β×PS)}(hf:f (Y.st S)=Y.st S1)(h:At Y enc (k ⟨⟩) S1 o):At Y enc (modify f>>=k) S o:=by
 intro r S' e Q q;refine Up (kasC_modify ?_);rw[hf];exact h r S' e Q q
def U2(g:β->PS->Option (ForInStep β×PS)):Nat->β->PS->Option (β×PS)
 |0,b,S=>some (b,S)
 |n+1,b,S=>(g b S).bind fun p=>match p.1 with
  |.done b'=>some (b',p.2)
  |.yield b'=>U2 g n b' p.2
def R8(enc:β->α):ForInStep β->ForInStep α
 |.done b=>.done (enc b)
 |.yield b=>.yield (enc b)
theorem DG{enc:β->α}{f:Nat->α->StateT SortSt Sem (ForInStep α)}{g:β->PS->Option (ForInStep β×PS)}(h:∀x b S,At Y (R8 enc) (f x (enc b)) S (g b S)){a c:Nat}{b:β}{S:PS}:
  At Y enc (forIn [a:c] (enc b) f) S (U2 g (c-a) b S):=by
 have go:∀(l:List Nat) (b:β) (S:PS),At Y enc (forIn l (enc b) f) S (U2 g l.length b S):=by
  intro l
  induction l with
  |nil=>
   intro b S r S' e Q q;cases e;exact kasC_nil q
  |cons x l ih=>
   intro b S r S' e Q q;obtain⟨⟨st,S1⟩,h1,h2⟩:=C7 e;refine kasC_cons (h x b S st S1 h1 _ ?_);cases st with
   |done b'=>
    cases h2;exact q
   |yield b'=>exact ih b' S1 r S' h2 Q q
 intro r S' e Q q;refine kasC_range (go _ b S r S' ?_ Q q);rw[List.length_range'];exact e
abbrev Mz:=StateT SortSt Sem
variable{Y:Sx}{α β γ δ:Type}
def bX(left:Bool)(key:Keyed)(arr:Array Keyed)(base i:Nat):Mz (Option Bool):=do
 let x←elem' arr (base+i)
 if left=true then lt' x key else do
  let r←lt' key x
  pure (r.map fun b=>!b)
def DH(bey:Nat->Mz (Option Bool))(n lo hi:Nat):Mz (Option Nat):=do
 let t←forIn [0:n] ((none,lo,hi):Option (Option Nat)×Nat×Nat) fun _ t=>if t.2.1 ≥ t.2.2 then pure (.done (none,t.2.1,t.2.2))else do
  let y←bey (t.2.1+(t.2.2-t.2.1)/2)
  match y with
  |some b=>if b=true then pure (.yield (none,t.2.1+(t.2.2-t.2.1)/2+1,t.2.2))else pure (.yield (none,t.2.1,t.2.1+(t.2.2-t.2.1)/2))
  |_=>pure (.done (some none,t.2.1,t.2.2))
 match t.1 with
 |some r=>pure r
 |none=>pure (some t.2.2)
def DI(bey:Nat->Mz (Option Bool))(at_:Nat->Nat)(stp:Bool->Bool)(n most:Nat)(k:Nat->Nat->Mz (Option Nat)):Mz (Option Nat):=do
 let t←forIn [0:n] ((none,0,1):Option (Option Nat)×Nat×Nat) fun _ t=>if t.2.2 ≥ most then pure (.done (none,t.2.1,t.2.2))else do
  let y←bey (at_ t.2.2)
  match y with
  |some b=>if stp b=true then pure (.done (none,t.2.1,t.2.2))else pure (.yield (none,t.2.2,2 * t.2.2+1))
  |_=>pure (.done (some none,t.2.1,t.2.2))
 match t.1 with
 |some r=>pure r
 |none=>k t.2.1 t.2.2
theorem aU(left:Bool)(key:Keyed)(arr:Array Keyed)(base n hint:Nat):Iy left key arr base n hint=(do
  let y←bX left key arr base hint
  match y with
  |some b=>if b=true then DI (bX left key arr base) (fun o=>hint+o) (fun b=>!b) n (n-hint) (fun l o=>DH (bX left key arr base) n (hint+l+1) (hint+min o (n-hint)))else DI (bX left key arr base) (fun o=>hint-o) (fun b=>b) n (hint+1) (fun l o=>DH (bX left key arr base) n (hint+1-min o (hint+1)) (hint-l))
  |_=>pure none):=by
 refine congr (Za bind ?_) (funext fun y=>?_)
 ·rfl
 ·cases y with
  |none=>rfl
  |some b=>
   show(if b=true then _ else _)=(if b=true then _ else _)
   congr 1
   ·unfold DI
    refine congr (Za bind ?_) (funext fun y=>?_)
    ·congr 1
    ·obtain⟨o,l,h⟩:=y
     cases o with
     |some o=>rfl
     |none=>
      unfold DH;refine congr (Za bind ?_) (funext fun y=>?_)
      ·congr 1
      ·obtain⟨o,_,_⟩:=y;cases o<;>rfl
   ·unfold DI
    refine congr (Za bind ?_) (funext fun y=>?_)
    ·congr 1
    ·obtain⟨o,l,h⟩:=y
     cases o with
     |some o=>rfl
     |none=>
      unfold DH;refine congr (Za bind ?_) (funext fun y=>?_)
      ·congr 1
      ·obtain⟨o,_,_⟩:=y;cases o<;>rfl
def bS(Y:Lt)(left:Bool)(key:Nat)(arr:Array Nat)(base i:Nat)(S:PS):Option (Bool×PS):=(arr[base+i]?.map fun x=>(x,S)).bind fun p=>if left=true then sX Y p.1 key p.2 else(sX Y key p.1 p.2).bind fun q=>some (!q.1,q.2)
theorem Ef{left:Bool}{key:Nat}{arr:Array Nat}{base i:Nat}{S:PS}:At Y some (bX left (Y.it key) (arr.map Y.it) base i) S (bS Y.L left key arr base i S):=by
 unfold bX bS;refine E4 OF fun x S'=>?_
 exact J6 (fun _=>GL) fun _=>E4 (e1:=some) GL fun b S2=>E3 rfl
def GN(bey:Nat->PS->Option (Bool×PS))(n lo hi:Nat)(S:PS):Option (Nat×PS):=
 (U2 (fun(b:Nat×Nat) S=>if b.1 ≥ b.2 then some (.done b,S)else(bey (b.1+(b.2-b.1)/2) S).bind fun p=>if p.1=true then some (.yield (b.1+(b.2-b.1)/2+1,b.2),p.2)else some (.yield (b.1,b.1+(b.2-b.1)/2),p.2)) (n-0) (lo,hi) S).bind fun p=>some (p.1.2,p.2)
abbrev e2(b:Nat×Nat):Option (Option Nat)×Nat×Nat:=(none,b.1,b.2)
theorem OG{bx:Nat->Mz (Option Bool)}{bs:Nat->PS->Option (Bool×PS)}(hb:∀i S,At Y some (bx i) S (bs i S)){n lo hi:Nat}{S:PS}:At Y some (DH bx n lo hi) S (GN bs n lo hi S):=by
 unfold DH GN;refine E4 (DG (enc:=e2) (b:=(lo,hi)) fun x b S=>?_) fun b S'=>E3 rfl
 exact J6 (fun _=>E3 rfl) fun _=>E4 (hb _ _) fun c S2=>J6 (fun _=>E3 rfl) fun _=>E3 rfl
def GO(bey:Nat->PS->Option (Bool×PS))(at_:Nat->Nat)(stp:Bool->Bool)(n most:Nat)(k:Nat->Nat->PS->Option (Nat×PS))(S:PS):Option (Nat×PS):=
 (U2 (fun(b:Nat×Nat) S=>if b.2 ≥ most then some (.done b,S)else(bey (at_ b.2) S).bind fun p=>if stp p.1=true then some (.done b,p.2)else some (.yield (b.2,2 * b.2+1),p.2)) (n-0) (0,1) S).bind fun p=>k p.1.1 p.1.2 p.2
theorem OH{bx:Nat->Mz (Option Bool)}{bs:Nat->PS->Option (Bool×PS)}(hb:∀i S,At Y some (bx i) S (bs i S)){at_:Nat->Nat}{stp:Bool->Bool}{n most:Nat}{kx:Nat->Nat->Mz (Option Nat)}{ks:Nat->Nat->PS->Option (Nat×PS)}(hk:∀i j S,At Y some (kx i j) S (ks i j S)){S:PS}:At Y some (DI bx at_ stp n most kx) S (GO bs at_ stp n most ks S):=by
 unfold DI GO;refine E4 (DG (enc:=e2) (b:=(0,1)) fun x b S=>?_) fun b S'=>hk _ _ _
 exact J6 (fun _=>E3 rfl) fun _=>E4 (hb _ _) fun c S2=>J6 (fun _=>E3 rfl) fun _=>E3 rfl
def CI(Y:Lt)(left:Bool)(key:Nat)(arr:Array Nat)(base n hint:Nat)(S:PS):Option (Nat×PS):=
 (bS Y left key arr base hint S).bind fun p=>if p.1=true then GO (bS Y left key arr base) (fun o=>hint+o) (fun b=>!b) n (n-hint) (fun l o=>GN (bS Y left key arr base) n (hint+l+1) (hint+min o (n-hint))) p.2
  else GO (bS Y left key arr base) (fun o=>hint-o) (fun b=>b) n (hint+1) (fun l o=>GN (bS Y left key arr base) n (hint+1-min o (hint+1)) (hint-l)) p.2
theorem Iz{left:Bool}{key:Nat}{arr:Array Nat}{base n hint:Nat}{S:PS}:At Y some (Iy left (Y.it key) (arr.map Y.it) base n hint) S (CI Y.L left key arr base n hint S):=by
 rw[aU];unfold CI;refine E4 Ef fun b S'=>?_
 exact J6 (fun _=>OH (fun _ _=>Ef) fun _ _ _=>OG fun _ _=>Ef) fun _=>OH (fun _ _=>Ef) fun _ _ _=>OG fun _ _=>Ef
def Eg(i j:Nat)(S:PS):PS:={S with a:=mirror S.a i j ((j-i)/2)}
def OJ(i j:Nat)(S:PS):PS:={S with a:=bubble S.a i (i-j)}
theorem BS{i j:Nat}{S:PS}:At Y id (reverseSlice' i j) S (some ((),Eg i j S)):=by
 intro r S' e Q q;cases e;rw[reverseSlice'_eq];refine kasC_modify ?_
 have e1:mirror (S.a.map Y.it) i j ((j-i)/2)=(mirror S.a i j ((j-i)/2)).map Y.it:=kas_swaps_map Y.it (fun k=>i+k) (fun k=>j-1-k) _ S.a
 show Q () (SortSt.mk' Y.κ (mirror (S.a.map Y.it) i j ((j-i)/2)) S.pd S.mg none) Y.s;rw[e1];exact q
theorem aV{i j:Nat}{S:PS}:At Y id (moveDown' i j) S (some ((),OJ i j S)):=by
 intro r S' e Q q;cases e;rw[moveDown'_eq];refine kasC_modify ?_
 have e1:bubble (S.a.map Y.it) i (i-j)=(bubble S.a i (i-j)).map Y.it:=kas_swaps_map Y.it (fun k=>i-k) (fun k=>i-k-1) _ S.a
 show Q () (SortSt.mk' Y.κ (bubble (S.a.map Y.it) i (i-j)) S.pd S.mg none) Y.s;rw[e1];exact q
def u6(lo a m:Nat):Mz (Option (Option Nat)×Nat):=forIn [a:m] ((none,a):Option (Option Nat)×Nat) fun _ t=>do
 let y←ltAt' (lo+t.2) (lo+t.2-1)
 match y with
 |some b=>if b=true then pure (.done (none,t.2))else pure (.yield (none,t.2+1))
 |_=>pure (.done (some none,t.2))
def sY(Y:Lt)(lo a m:Nat)(S:PS):Option (Nat×PS):=U2 (fun(b:Nat) S=>(DF Y (lo+b) (lo+b-1) S).bind fun p=>if p.1=true then some (.done b,p.2)else some (.yield (b+1),p.2)) (m-a) a S
abbrev e1(b:Nat):Option (Option Nat)×Nat:=(none,b)
theorem Eh{lo a m:Nat}{S:PS}:At Y e1 (u6 lo a m) S (sY Y.L lo a m S):=by
 unfold u6 sY;exact DG (enc:=e1) (b:=a) fun x b S=>E4 Ed fun c S2=>J6 (fun _=>E3 rfl) fun _=>E3 rfl
def DJ(Y:Lt)(lo n m:Nat)(S:PS):Option (Nat×PS):=(some ((),Eg lo (lo+n) S)).bind fun p=>(sY Y lo n m p.2).bind fun q=>some (q.1,q.2)
def u7(lo a m:Nat):Mz (Option (Option Nat)×Nat×Nat):=forIn [a:m] ((none,a,0):Option (Option Nat)×Nat×Nat) fun _ t=>do
 let y←ltAt' (lo+t.2.1) (lo+t.2.1-1)
 match y with
 |some b=>if b=true then(if t.2.2>0 then(reverseSlice' (lo+t.2.1-(t.2.2+1)) (lo+t.2.1)>>=fun _=>pure (.yield (none,t.2.1+1,0)))else pure (.yield (none,t.2.1+1,0)))else do
   let y←ltAt' (lo+t.2.1-1) (lo+t.2.1)
   match y with
   |some c=>if c=true then pure (.done (none,t.2.1,t.2.2))else pure (.yield (none,t.2.1+1,t.2.2+1))
   |_=>pure (.done (some none,t.2.1,t.2.2))
 |_=>pure (.done (some none,t.2.1,t.2.2))
def uF(Y:Lt)(lo a m:Nat)(S:PS):Option ((Nat×Nat)×PS):=U2 (fun(t:Nat×Nat) S=>(DF Y (lo+t.1) (lo+t.1-1) S).bind fun p=>if p.1=true then(if t.2>0 then(some ((),Eg (lo+t.1-(t.2+1)) (lo+t.1) p.2)).bind fun q=>some (.yield (t.1+1,0),q.2)else some (.yield (t.1+1,0),p.2))
  else(DF Y (lo+t.1-1) (lo+t.1) p.2).bind fun q=>if q.1=true then some (.done t,q.2)else some (.yield (t.1+1,t.2+1),q.2)) (m-a) (a,0) S
theorem OK{lo a m:Nat}{S:PS}:At Y e2 (u7 lo a m) S (uF Y.L lo a m S):=by
 unfold u7 uF;refine DG (enc:=e2) (b:=(a,0)) fun x b S=>E4 Ed fun c S2=>?_
 refine J6 (fun _=>J6 (fun _=>?_) fun _=>E3 rfl) fun _=>?_
 ·exact E4 BS fun u S3=>E3 rfl
 ·exact E4 Ed fun d S3=>J6 (fun _=>E3 rfl) fun _=>E3 rfl
def sZ(Y:Lt)(lo n m:Nat)(S:PS):Option (Nat×PS):=(uF Y lo (n+1) m S).bind fun p=>if p.1.2>0 then(some ((),Eg (lo+p.1.1-(p.1.2+1)) (lo+p.1.1) p.2)).bind fun q=>DJ Y lo p.1.1 m q.2 else DJ Y lo p.1.1 m p.2
variable{Y:Sx}{α β γ δ:Type}
def JA(Y:Lt)(lo m:Nat)(S:PS):Option (Nat×PS):=(sY Y lo 1 m S).bind fun p=>if(p.1==m)=true then some (p.1,p.2)else if p.1>1 then(DF Y lo (lo+p.1-1) p.2).bind fun q=>if q.1=true then some (p.1,q.2)else(some ((),Eg lo (lo+p.1) q.2)).bind fun u=>sZ Y lo p.1 m u.2
 else sZ Y lo p.1 m p.2
theorem aW{lo m:Nat}{S:PS}:At Y some (countRun' lo m) S (JA Y.L lo m S):=by
 unfold JA;refine E4 (e1:=e1) (Eh (lo:=lo) (a:=1) (m:=m)) fun b S1=>?_
 refine J6 (fun _=>E3 rfl) fun _=>?_
 refine J6 (fun _=>?_) fun _=>?_
 ·refine E4 Ed fun c S2=>?_
  refine J6 (fun _=>E3 rfl) fun _=>?_
  refine E4 BS fun u S3=>?_
  unfold sZ;refine Ee (E4 (OK (lo:=lo) (a:=b+1) (m:=m)) fun t S4=>J6 (fun _=>E4 BS fun u S5=>?_) fun _=>?_)
  ·unfold DJ
   exact E4 BS fun u S6=>E4 Eh fun c S7=>E3 rfl
  ·unfold DJ
   exact E4 BS fun u S6=>E4 Eh fun c S7=>E3 rfl
 ·unfold sZ
  refine Ee (E4 (OK (lo:=lo) (a:=b+1) (m:=m)) fun t S4=>J6 (fun _=>E4 BS fun u S5=>?_) fun _=>?_)
  ·unfold DJ
   exact E4 BS fun u S6=>E4 Eh fun c S7=>E3 rfl
  ·unfold DJ
   exact E4 BS fun u S6=>E4 Eh fun c S7=>E3 rfl
def GP(g:Nat->β->PS->Option (ForInStep β×PS)):Nat->Nat->β->PS->Option (β×PS)
 |0,_,b,S=>some (b,S)
 |n+1,x,b,S=>(g x b S).bind fun p=>match p.1 with
  |.done b'=>some (b',p.2)
  |.yield b'=>GP g n (x+1) b' p.2
theorem aX{enc:β->α}{f:Nat->α->StateT SortSt Sem (ForInStep α)}{g:Nat->β->PS->Option (ForInStep β×PS)}(h:∀x b S,At Y (R8 enc) (f x (enc b)) S (g x b S)){a c:Nat}{b:β}{S:PS}:
  At Y enc (forIn [a:c] (enc b) f) S (GP g (c-a) a b S):=by
 have go:∀(n a:Nat) (b:β) (S:PS),At Y enc (forIn (List.range' a n) (enc b) f) S (GP g n a b S):=by
  intro n
  induction n with
  |zero=>
   intro a b S r S' e Q q;cases e;exact kasC_nil q
  |succ n ih=>
   intro a b S r S' e Q q;obtain⟨⟨st,S1⟩,h1,h2⟩:=C7 e;show kasC _ _ _ (forIn (a::List.range' (a+1) n) _ _) _ _ _;refine kasC_cons (h a b S st S1 h1 _ ?_);cases st with
   |done b'=>
    cases h2;exact q
   |yield b'=>exact ih (a+1) b' S1 r S' h2 Q q
 intro r S' e Q q;exact kasC_range (go _ a b S r S' e Q q)
def u8(Y:Lt)(lo k:Nat)(S:PS):Option ((Nat×Nat)×PS):=U2 (fun(b:Nat×Nat) S=>if b.1 ≥ b.2 then some (.done b,S)else(DF Y (lo+k) (lo+(b.1+b.2)/2) S).bind fun p=>if p.1=true then some (.yield (b.1,(b.1+b.2)/2),p.2)else some (.yield ((b.1+b.2)/2+1,b.2),p.2)) (k-0) (0,k) S
def JB(Y:Lt)(lo n ok:Nat)(S:PS):Option (Bool×PS):=(GP (fun k (_:Unit) S=>(u8 Y lo k S).bind fun p=>(some ((),OJ (lo+k) (lo+p.1.1) p.2)).bind fun q=>some (.yield (),q.2)) (n-max ok 1) (max ok 1) () S).bind fun p=>some (true,p.2)
abbrev e3(b:Nat×Nat):Option Bool×Nat×Nat:=(none,b.1,b.2)
abbrev e0{α:Type}(_:Unit):Option α×Unit:=(none,())
theorem aY{lo n ok:Nat}{S:PS}:At Y id (binarySort' lo n ok) S (JB Y.L lo n ok S):=by
 unfold JB;refine E4 (e1:=e0) (aX (enc:=e0) (b:=()) fun k b S=>?_) fun b S'=>E3 rfl
 unfold u8;refine E4 (DG (enc:=e3) (b:=(0,k)) fun x b S=>?_) fun b S1=>?_
 ·exact J6 (fun _=>E3 rfl) fun _=>E4 Ed fun c S2=>J6 (fun _=>E3 rfl) fun _=>E3 rfl
 ·exact E4 aV fun u S2=>E3 rfl
theorem W5(a:Array Nat)(it:Nat->Keyed)(i j:Nat):(a.map it).extract i j=(a.extract i j).map it:=by simp
theorem W6(a:Array Nat)(it:Nat->Keyed)(x:Nat):(a.map it).push (it x)=(a.push x).map it:=by simp
theorem Z7(a b:Array Nat)(it:Nat->Keyed):a.map it++b.map it=(a++b).map it:=by simp
theorem Av(a:Array Nat)(it:Nat->Keyed):(a.map it).size=a.size:=by simp
theorem OL{n:Nat}{S:PS}:At Y id (wN n) S (some ((),{S with mg:=n})):=by
 intro r S' e Q q;cases e;exact kasC_modify q
variable{Y:Sx}{α β γ δ:Type}
theorem AY{enc:β->α}{c d:Prop}[Decidable c][Decidable d]{m n:StateT SortSt Sem α}{S:PS}{o p:Option (β×PS)}(hc:c↔d)(h1:d->At Y enc m S o)(h2:¬ d->At Y enc n S p):At Y enc (if c then m else n) S (if d then o else p):=by
 by_cases h:d
 ·rw[Qc (hc.mpr h),Qc h];exact h1 h
 ·rw[Qt (fun z=>h (hc.mp z)),Qt h];exact h2 h
abbrev An:=Array Nat
def p0(a b out:An)(ia ib:Nat):An:=out++a.extract ia a.size++b.extract ib b.size
def qK(a b out:An)(ia ib:Nat):An:=out++b.extract ib b.size++a.extract ia a.size
abbrev T6:=Option An×An×Nat×Nat×Nat×Nat
abbrev T7:=Option An×An×Nat×Nat×Nat×Nat×Nat
abbrev T5:=Option An×An×Nat×Nat×Nat
abbrev oM(it:Nat->Keyed)(o:Option An):Option (Array Keyed):=o.map fun a=>a.map it
abbrev c5(it:Nat->Keyed)(t:T5):Option (Array Keyed)×Array Keyed×Nat×Nat×Nat:=(oM it t.1,t.2.1.map it,t.2.2.1,t.2.2.2.1,t.2.2.2.2)
abbrev c6(it:Nat->Keyed)(t:T6):Option (Array Keyed)×Array Keyed×Nat×Nat×Nat×Nat:=(oM it t.1,t.2.1.map it,t.2.2.1,t.2.2.2.1,t.2.2.2.2.1,t.2.2.2.2.2)
abbrev c7(it:Nat->Keyed)(t:T7):Option (Array Keyed)×Array Keyed×Nat×Nat×Nat×Nat×Nat:=(oM it t.1,t.2.1.map it,t.2.2.1,t.2.2.2.1,t.2.2.2.2.1,t.2.2.2.2.2.1,t.2.2.2.2.2.2)
def pE(a:An)(i:Nat)(S:PS):Option (Nat×PS):=a[i]?.map fun x=>(x,S)
def lo1(Y:Lt)(a b:An)(mg:Nat)(t:T6)(S:PS):Option (ForInStep T6×PS):=
 (pE b t.2.2.2.1 S).bind fun p=>(pE a t.2.2.1 p.2).bind fun q=>(sX Y p.1 q.1 q.2).bind fun c=>if c.1=true then(pE b t.2.2.2.1 c.2).bind fun x=>
   if(t.2.2.2.1+1==b.size)=true then some (.done (some (p0 a b (t.2.1.push x.1) t.2.2.1 (t.2.2.2.1+1)),t.2.1.push x.1,t.2.2.1,t.2.2.2.1+1,0,t.2.2.2.2.2+1),x.2)
   else if t.2.2.2.2.2+1 ≥ mg then some (.done (none,t.2.1.push x.1,t.2.2.1,t.2.2.2.1+1,0,t.2.2.2.2.2+1),x.2)else some (.yield (none,t.2.1.push x.1,t.2.2.1,t.2.2.2.1+1,0,t.2.2.2.2.2+1),x.2)
  else(pE a t.2.2.1 c.2).bind fun x=>
   if(t.2.2.1+1+1==a.size)=true then some (.done (some (qK a b (t.2.1.push x.1) (t.2.2.1+1) t.2.2.2.1),t.2.1.push x.1,t.2.2.1+1,t.2.2.2.1,t.2.2.2.2.1+1,0),x.2)
   else if t.2.2.2.2.1+1 ≥ mg then some (.done (none,t.2.1.push x.1,t.2.2.1+1,t.2.2.2.1,t.2.2.2.2.1+1,0),x.2)else some (.yield (none,t.2.1.push x.1,t.2.2.1+1,t.2.2.2.1,t.2.2.2.2.1+1,0),x.2)
def uG(a b:An)(mg k k2 ia:Nat)(out:An)(ib:Nat)(S:PS):Option (ForInStep T7×PS):=(pE a ia S).bind fun z=>
 if(ia+1+1==a.size)=true then some (.done (some (qK a b (out.push z.1) (ia+1) ib),out.push z.1,ia+1,ib,mg,k,k2),z.2)
 else if(decide (k<7)&&decide (k2<7))=true then some (.done (none,out.push z.1,ia+1,ib,mg,k,k2),z.2)else some (.yield (none,out.push z.1,ia+1,ib,mg,k,k2),z.2)
def uH(Y:Lt)(a b:An)(mg k bc ib:Nat)(out:An)(ia:Nat)(S:PS):Option (ForInStep T7×PS):=(pE b ib S).bind fun x=>
 if(ib+1==b.size)=true then some (.done (some (p0 a b (out.push x.1) ia (ib+1)),out.push x.1,ia,ib+1,mg,k,bc),x.2)
 else(pE a ia x.2).bind fun y=>(CI Y true y.1 b (ib+1) (b.size-(ib+1)) 0 y.2).bind fun q=>if q.1>0 then
   (if(ib+1+q.1==b.size)=true then some (.done (some (p0 a b (out.push x.1++b.extract (ib+1) (ib+1+q.1)) ia (ib+1+q.1)),out.push x.1++b.extract (ib+1) (ib+1+q.1),ia,ib+1+q.1,mg,k,q.1),q.2)
    else uG a b mg k q.1 ia (out.push x.1++b.extract (ib+1) (ib+1+q.1)) (ib+1+q.1) q.2)
  else uG a b mg k q.1 ia (out.push x.1) (ib+1) q.2
def JC(Y:Lt)(a b:An)(t:T7)(mg:Nat)(S:PS):Option (ForInStep T7×PS):=(some ((),{S with mg:=mg})).bind fun u=>(pE b t.2.2.2.1 u.2).bind fun x=>(CI Y false x.1 a t.2.2.1 (a.size-t.2.2.1) 0 x.2).bind fun q=>if q.1>0 then
   (if(t.2.2.1+q.1+1==a.size)=true then some (.done (some (qK a b (t.2.1++a.extract t.2.2.1 (t.2.2.1+q.1)) (t.2.2.1+q.1) t.2.2.2.1),t.2.1++a.extract t.2.2.1 (t.2.2.1+q.1),t.2.2.1+q.1,t.2.2.2.1,mg,q.1,t.2.2.2.2.2.2),q.2)
    else if(t.2.2.1+q.1==a.size)=true then some (.done (some (p0 a b (t.2.1++a.extract t.2.2.1 (t.2.2.1+q.1)) (t.2.2.1+q.1) t.2.2.2.1),t.2.1++a.extract t.2.2.1 (t.2.2.1+q.1),t.2.2.1+q.1,t.2.2.2.1,mg,q.1,t.2.2.2.2.2.2),q.2)
    else uH Y a b mg q.1 t.2.2.2.2.2.2 t.2.2.2.1 (t.2.1++a.extract t.2.2.1 (t.2.2.1+q.1)) (t.2.2.1+q.1) q.2)
  else uH Y a b mg q.1 t.2.2.2.2.2.2 t.2.2.2.1 t.2.1 t.2.2.1 q.2
def u9(Y:Lt)(a b:An)(t:T7)(S:PS):Option (ForInStep T7×PS):=if t.2.2.2.2.1>1 then JC Y a b t (t.2.2.2.2.1-1) S else JC Y a b t t.2.2.2.2.1 S
def vA(Y:Lt)(a b:An)(t:T5)(S:PS):Option (ForInStep T5×PS):=(U2 (lo1 Y a b t.2.2.2.2) (a.size+b.size-0) (none,t.2.1,t.2.2.1,t.2.2.2.1,0,0) S).bind fun p=>match p.1.1 with
 |some r=>some (.done (some r,p.1.2.1,p.1.2.2.1,p.1.2.2.2.1,t.2.2.2.2),p.2)
 |none=>(U2 (u9 Y a b) (a.size+b.size-0) (none,p.1.2.1,p.1.2.2.1,p.1.2.2.2.1,t.2.2.2.2+1,p.1.2.2.2.2.1,p.1.2.2.2.2.2) p.2).bind fun q=>match q.1.1 with
  |some r=>some (.done (some r,q.1.2.1,q.1.2.2.1,q.1.2.2.2.1,q.1.2.2.2.2.1),q.2)
  |none=>(some ((),{q.2 with mg:=q.1.2.2.2.2.1+1})).bind fun u=>some (.yield (none,q.1.2.1,q.1.2.2.1,q.1.2.2.2.1,q.1.2.2.2.2.1+1),u.2)
def uI(Y:Lt)(a b:An)(S:PS):Option (An×PS):=(pE b 0 S).bind fun x=>if(1==b.size)=true then some (p0 a b #[x.1] 0 1,x.2)else if(0+1==a.size)=true then some (qK a b #[x.1] 0 1,x.2)
 else(U2 (vA Y a b) (a.size+b.size-0) (none,#[x.1],0,1,x.2.mg) x.2).bind fun p=>match p.1.1 with
  |some r=>some (r,p.2)
  |none=>none
theorem Z8{a:An}{i:Nat}{S:PS}:At Y Y.it (elem' (a.map Y.it) i) S (pE a i S):=OF
theorem Aw{a:An}{i:Nat}:((i==(a.map Y.it).size)=true)↔((i==a.size)=true):=by rw[Array.size_map]
theorem CJ{enc:β->α}{f:Nat->α->StateT SortSt Sem (ForInStep α)}{g:β->PS->Option (ForInStep β×PS)}{v:α}{b:β}{c d:Nat}{S:PS}(h0:v=enc b)(hc:c=d)(h:∀x b S,At Y (R8 enc) (f x (enc b)) S (g b S)):
  At Y enc (forIn [0:c] v f) S (U2 g (d-0) b S):=by
 subst h0 hc;exact DG h
theorem OM{left:Bool}{key:Nat}{arr:An}{base n n' hint:Nat}{S:PS}(h:n=n'):At Y some (Iy left (Y.it key) (arr.map Y.it) base n hint) S (CI Y.L left key arr base n' hint S):=by
 subst h;exact Iz
theorem uJ{a b:An}:(a.map Y.it).size+(b.map Y.it).size=a.size+b.size:=by simp
theorem vB{a:An}{i:Nat}:(a.map Y.it).size-i=a.size-i:=by simp
theorem ON(it:Nat->Keyed)(x:Nat): #[it x]=(#[x]:An).map it:=by simp
theorem aZ{a b:An}{S:PS}:At Y (fun r:An=>r.map Y.it) (wO (a.map Y.it) (b.map Y.it)) S (uI Y.L a b S):=by
 unfold uI;refine Ee (E4 Z8 fun x S1=>?_)
 refine AY Aw (fun _=>E3 ?_) fun _=>AY Aw (fun _=>E3 ?_) fun _=>Au ?_
 ·rw[ON];simp only[p0,Z7,W5,Av]
 ·rw[ON];simp only[qK,Z7,W5,Av]
 refine E4 (e1:=c5 Y.it) (CJ (enc:=c5 Y.it) (b:=(none,#[x],0,1,S1.mg)) (by simp) uJ fun _ t S2=>?_) fun t S2=>?_
 ·unfold vA
  refine E4 (e1:=c6 Y.it) (CJ (enc:=c6 Y.it) (b:=(none,t.2.1,t.2.2.1,t.2.2.2.1,0,0)) (by simp) uJ fun _ t S3=>?_) fun u S3=>?_
  ·unfold lo1
   refine E4 Z8 fun p S1=>E4 Z8 fun q S2=>E4 GL fun c S3=>?_
   refine J6 (fun _=>E4 Z8 fun x S4=>?_) fun _=>E4 Z8 fun x S4=>?_
   ·refine AY Aw (fun _=>E3 ?_) fun _=>J6 (fun _=>E3 ?_) fun _=>E3 ?_
    ·simp only[R8,p0,W6,Z7,W5,Av,Yl]<;>rfl
    ·simp only[R8,W6,Ub]<;>rfl
    ·simp only[R8,W6,Ub]<;>rfl
   ·refine AY Aw (fun _=>E3 ?_) fun _=>J6 (fun _=>E3 ?_) fun _=>E3 ?_
    ·simp only[R8,qK,W6,Z7,W5,Av,Yl]<;>rfl
    ·simp only[R8,W6,Ub]<;>rfl
    ·simp only[R8,W6,Ub]<;>rfl
  ·obtain⟨o,out,ia,ib,ac,bc⟩:=u
   cases o with
   |some r=>exact E3 rfl
   |none=>
    refine Ee (E4 (e1:=c7 Y.it) (CJ (enc:=c7 Y.it) (b:=(none,out,ia,ib,t.2.2.2.2+1,ac,bc)) (by simp) uJ fun _ t S4=>?_) fun u S4=>?_)
    ·unfold u9
     refine J6 (fun _=>?_) fun _=>?_
     all_goals
      unfold JC;refine E4 OL fun _ S5=>E4 Z8 fun x S6=>E4 (OM vB) fun k S7=>?_
      refine J6 (fun _=>AY Aw (fun _=>E3 (by simp only[R8,qK,W6,Z7,W5,Av,Yl]<;>rfl)) fun _=>AY Aw (fun _=>E3 (by simp only[R8,p0,W6,Z7,W5,Av,Yl]<;>rfl)) fun _=>?_) fun _=>?_
      all_goals
       unfold uH;refine E4 Z8 fun y S8=>AY Aw (fun _=>E3 (by simp only[R8,p0,W6,Z7,W5,Av,Yl]<;>rfl)) fun _=>?_
       refine E4 Z8 fun z S9=>E4 (OM vB) fun k2 S10=>?_
       refine J6 (fun _=>AY Aw (fun _=>E3 (by simp only[R8,p0,W6,Z7,W5,Av,Yl]<;>rfl)) fun _=>?_) fun _=>?_
       all_goals
        unfold uG;refine E4 Z8 fun z S11=>AY Aw (fun _=>E3 (by simp only[R8,qK,W6,Z7,W5,Av,Yl]<;>rfl)) fun _=>J6 (fun _=>E3 (by simp only[R8,W6,Z7,W5,Ub]<;>rfl)) fun _=>E3 (by simp only[R8,W6,Z7,W5,Ub]<;>rfl)
    ·obtain⟨o,out,ia,ib,mg,ac,bc⟩:=u
     cases o with
     |some r=>exact E3 rfl
     |none=>exact E4 OL fun _ S5=>E3 rfl
 ·obtain⟨o,out,ia,ib,mg⟩:=t
  cases o with
  |some r=>exact E3 rfl
  |none=>exact BR
variable{Y:Sx}{α β γ δ:Type}
theorem bA{enc:β->α}{st:SortSt}{k:PUnit->StateT SortSt Sem α}{S S1:PS}{o:Option (β×PS)}(hf:st=Y.st S1)(h:At Y enc (k ⟨⟩) S1 o):At Y enc ((set st:StateT SortSt Sem PUnit)>>=k) S o:=by
 intro r S' e Q q;refine Up ?_
 unfold kasC;rw[StateT.run_set];refine Qv ?_
 rw[hf];exact h r S' e Q q
def CK{γ:Type}(sa:Nat)(l:List (γ ×Nat))(a:Array γ):Array γ:=l.foldl (fun a x=>a.setIfInBounds (sa+x.2) x.1) a
theorem OP(it:Nat->Keyed)(sa:Nat):∀(l:List (Nat×Nat)) (a:An),CK sa (l.map fun x=>(it x.1,x.2)) (a.map it)=(CK sa l a).map it
 |[],_=>rfl
 |x::l,a=>by
  show CK sa (l.map fun x=>(it x.1,x.2)) ((a.map it).setIfInBounds (sa+x.2) (it x.1))=_
  rw[show(a.map it).setIfInBounds (sa+x.2) (it x.1)=(a.setIfInBounds (sa+x.2) x.1).map it by simp]
  exact OP it sa l _
theorem bB(it:Nat->Keyed)(r:An):(r.map it).toList.zipIdx=r.toList.zipIdx.map fun x=>(it x.1,x.2):=by
 rw[Array.toList_map,List.zipIdx_map]
 rfl
def GQ(Y:Lt)(i:Nat)(S:PS):Option (Bool×PS):=match S.pd[i]?,S.pd[i+1]? with
 |some (sa,na,pw),some (sb,nb,_)=>(pE S.a sb {S with pd:=(S.pd.setIfInBounds i (sa,na+nb,pw)).eraseIdxIfInBounds (i+1)}).bind fun x=>(CI Y false x.1 S.a sa na 0 x.2).bind fun k=>
   if(na-k.1==0)=true then some (true,k.2)else(pE S.a (sa+k.1+(na-k.1)-1) k.2).bind fun y=>(CI Y true y.1 S.a sb nb (nb-1) y.2).bind fun q=>
    if(q.1==0)=true then some (true,q.2)else if na-k.1≤q.1 then(uI Y (S.a.extract (sa+k.1) sb) (S.a.extract sb (sb+q.1)) q.2).bind fun r=>some (true,{r.2 with a:=CK (sa+k.1) r.1.toList.zipIdx r.2.a})else none
 |_,_=>none
theorem JD{i:Nat}{S:PS}:At Y id (mergeAt' i) S (GQ Y.L i S):=by
 unfold GQ;refine Au ?_
 dsimp only;cases h1:S.pd[i]? with
 |none=>exact BR
 |some p1=>
  cases h2:S.pd[i+1]? with
  |none=>exact BR
  |some p2=>
   obtain⟨sa,na,pw⟩:=p1;obtain⟨sb,nb,pw2⟩:=p2;dsimp only;refine bA (S1:={S with pd:=(S.pd.setIfInBounds i (sa,na+nb,pw)).eraseIdxIfInBounds (i+1)}) rfl ?_
   refine E4 Z8 fun x S1=>E4 Iz fun k S2=>?_
   refine J6 (fun _=>E3 rfl) fun _=>?_
   refine E4 Z8 fun y S3=>E4 Iz fun q S4=>?_
   refine J6 (fun _=>E3 rfl) fun _=>J6 (fun _=>?_) fun _=>BR
   have el:=aZ (Y:=Y) (a:=S.a.extract (sa+k) sb) (b:=S.a.extract sb (sb+q)) (S:=S4)
   rw[←W5,←W5]at el;refine E4 el fun r S5=>CH (S1:={S5 with a:=CK (sa+k) r.toList.zipIdx S5.a}) ?_ (Au (E3 rfl))
   show SortSt.mk' Y.κ (CK (sa+k) ((r.map Y.it).toList.zipIdx) (S5.a.map Y.it)) S5.pd S5.mg none=SortSt.mk' Y.κ ((CK (sa+k) r.toList.zipIdx S5.a).map Y.it) S5.pd S5.mg none;rw[bB,OP]
def JE(Y:Lt)(pw:Nat)(_:Unit)(S:PS):Option (ForInStep Unit×PS):=match (if S.pd.size>1 then S.pd[S.pd.size-2]? else none)with
 |some (_,_,older)=>if older≤pw then some (.done (),S)else(GQ Y (S.pd.size-2) S).bind fun p=>if(!p.1)=true then none else some (.yield (),p.2)
 |none=>some (.done (),S)
def GR(Y:Lt)(size lo n:Nat)(S:PS):Option (ForInStep Nat×PS):=match S.pd.back? with
 |some (s1,n1,_)=>(U2 (JE Y (power' size (2 * s1+n1) (2 * s1+n1+n1+n) size)) (size-0) () S).bind fun u=>some (.yield (lo+n),{u.2 with pd:=(u.2.pd.modify (u.2.pd.size-1) fun x=>(x.1,x.2.1,power' size (2 * s1+n1) (2 * s1+n1+n1+n) size)).push (lo,n,0)})
 |none=>some (.yield (lo+n),{S with pd:=S.pd.push (lo,n,0)})
def OQ(Y:Lt)(size lo:Nat)(S:PS):Option (ForInStep Nat×PS):=if lo ≥ size then some (.done lo,S)else(JA Y lo (size-lo) S).bind fun p=>
 if p.1<minRun' size size 0 then(JB Y lo (min (size-lo) (minRun' size size 0)) p.1 p.2).bind fun q=>if(!q.1)=true then none else GR Y size lo (min (size-lo) (minRun' size size 0)) q.2 else GR Y size lo p.1 p.2
def OR(Y:Lt)(_:Unit)(S:PS):Option (ForInStep Unit×PS):=if S.pd.size≤1 then some (.done (),S)else
 (GQ Y (if(Option.any (fun x=>decide (x<(S.pd[S.pd.size-2+1]?.elim 0 fun x=>x.2.1))) (if S.pd.size-2>0 then(S.pd[S.pd.size-2-1]?).map (fun x=>x.2.1)else none))=true then S.pd.size-2-1 else S.pd.size-2) S).bind fun p=>if(!p.1)=true then none else some (.yield (),p.2)
def JF(Y:Lt)(S:PS):Option (Unit×PS):=(U2 (OQ Y S.a.size) (S.a.size-0) 0 S).bind fun p=>(U2 (OR Y) (S.a.size-0) () p.2).bind fun q=>some ((),q.2)
abbrev eN(n:Nat):Option Unit×Nat:=(none,n)
theorem bC{S:PS}:At Y id sortRuns' S (JF Y.L S):=by
 unfold JF;refine Au ?_
 refine E4 (e1:=eN) (CJ (enc:=eN) (b:=0) (d:=S.a.size) rfl (by simp) fun _ lo S0=>?_) fun lo S1=>?_
 ·unfold OQ
  refine AY (by simp) (fun _=>E3 rfl) fun _=>?_
  have hz:(S.a.map Y.it).size=S.a.size:=by simp
  show At Y _ (countRun' lo ((S.a.map Y.it).size-lo)>>=_) _ _;rw[hz];refine E4 aW fun n S2=>?_
  refine J6 (fun _=>Ee (E4 aY fun ok S3=>J6 (fun _=>BR) fun _=>?_)) fun _=>?_
  ·unfold GR
   refine Au ?_
   dsimp only;cases h1:S3.pd.back? with
   |none=>
    refine CH (S1:={S3 with pd:=S3.pd.push (lo,(min (S.a.size-lo) (minRun' S.a.size S.a.size 0)),0)}) rfl ?_
    exact E3 rfl
   |some p=>
    obtain⟨s1,n1,pw⟩:=p;refine E4 (e1:=e0) (CJ (enc:=e0) (b:=()) rfl rfl fun _ b S1=>?_) fun _ S1=>?_
    ·unfold JE
     refine Au ?_
     dsimp only;cases h2:(if S1.pd.size>1 then S1.pd[S1.pd.size-2]? else none)with
     |none=>exact E3 rfl
     |some p=>
      obtain⟨_,_,older⟩:=p;refine J6 (fun _=>E3 rfl) fun _=>E4 JD fun ok S2=>?_
      exact J6 (fun _=>BR) fun _=>E3 rfl
    ·refine CH (S1:={S1 with pd:=S1.pd.modify (S1.pd.size-1) fun x=>(x.1,x.2.1,power' S.a.size (2 * s1+n1) (2 * s1+n1+n1+(min (S.a.size-lo) (minRun' S.a.size S.a.size 0))) S.a.size)}) rfl ?_
     refine CH (S1:={S1 with pd:=(S1.pd.modify (S1.pd.size-1) fun x=>(x.1,x.2.1,power' S.a.size (2 * s1+n1) (2 * s1+n1+n1+(min (S.a.size-lo) (minRun' S.a.size S.a.size 0))) S.a.size)).push (lo,(min (S.a.size-lo) (minRun' S.a.size S.a.size 0)),0)}) rfl ?_
     exact E3 rfl
  ·unfold GR
   refine Au ?_
   dsimp only;cases h1:S2.pd.back? with
   |none=>
    refine CH (S1:={S2 with pd:=S2.pd.push (lo,n,0)}) rfl ?_
    exact E3 rfl
   |some p=>
    obtain⟨s1,n1,pw⟩:=p;refine E4 (e1:=e0) (CJ (enc:=e0) (b:=()) rfl rfl fun _ b S1=>?_) fun _ S1=>?_
    ·unfold JE
     refine Au ?_
     dsimp only;cases h2:(if S1.pd.size>1 then S1.pd[S1.pd.size-2]? else none)with
     |none=>exact E3 rfl
     |some p=>
      obtain⟨_,_,older⟩:=p;refine J6 (fun _=>E3 rfl) fun _=>E4 JD fun ok S2=>?_
      exact J6 (fun _=>BR) fun _=>E3 rfl
    ·refine CH (S1:={S1 with pd:=S1.pd.modify (S1.pd.size-1) fun x=>(x.1,x.2.1,power' S.a.size (2 * s1+n1) (2 * s1+n1+n1+n) S.a.size)}) rfl ?_
     refine CH (S1:={S1 with pd:=(S1.pd.modify (S1.pd.size-1) fun x=>(x.1,x.2.1,power' S.a.size (2 * s1+n1) (2 * s1+n1+n1+n) S.a.size)).push (lo,n,0)}) rfl ?_
     exact E3 rfl
 ·refine E4 (e1:=e0) (CJ (enc:=e0) (b:=()) (d:=S.a.size) rfl (by simp) fun _ b S2=>?_) fun _ S2=>E3 rfl
  unfold OR;refine Au (J6 (fun _=>E3 rfl) fun _=>E4 JD fun ok S3=>?_)
  exact J6 (fun _=>BR) fun _=>E3 rfl
section
variable{prog:Program}{w:World}{A:Around}{E:OE}
theorem BU{n:Nat}(h:n≤1000):n≤sizeLine:=by rw[sizeLine_eq];omega
theorem OS{D kS:Addr}{e1:Nat}{h0:Heap}{s0:Shared}{body:Value->PUnit->Sem (ForInStep PUnit)}{Q:PUnit->Shared->Prop}(hne:D≠kS)(hk0:∀o,h0.get? kS=some o->False)(hh:A.handled=none)
  (hb:∀x (s:Shared) (R:ForInStep PUnit->Shared->Prop),wpAny (model prog w) A (call (.builtin "sum") [x]) (fun k s'=>wpAny (model prog w) A (Builtin.List.listUpdate (.ref kS) (·.push k)) (fun _ s''=>R (.yield ⟨⟩) s'') E s') (fun _ _=>False) s->wpAny (model prog w) A (body x ⟨⟩) R E s):
  ∀(r:List Value) (ns:OI) (ks:List Value) (kz:List Int) (e tk:Nat) (h:Heap),kK h0 r ns->IntsAre ks kz->ks.length+r.length≤1000->(∀b o,h0.get? b=some o->h.get? b=some o)->h.get? kS=some (seqObj "list" ks.toArray e)->h.get? D=some (seqObj "list" #[] e1)->
   (∀ks' e' tk' h',IntsAre ks' (kz++ns.map List.sum)->(∀b o,h0.get? b=some o->h'.get? b=some o)->h'.get? kS=some (seqObj "list" ks'.toArray e')->h'.get? D=some (seqObj "list" #[] e1)->Q ⟨⟩ {s0 with heap:=h',toks:=tk'})->
   wpAny (model prog w) A (forIn r PUnit.unit body) Q E {s0 with heap:=h,toks:=tk}
 |[],ns,ks,kz,e,tk,h,hr,hi,hz,kp,gk,gd,hQ=>by
  cases hr;rw[Xy];exact Qv (hQ ks e tk h (by simpa using hi) kp gk gd)
 |v::r,ns,ks,kz,e,tk,h,hr,hi,hz,kp,gk,gd,hQ=>by
  cases hr with
  |@cons a its k vs ks0 t i r0=>
   rw[Tv];have t':IsTup h a its.toList.toArray:=by
    obtain⟨o,q1,q2,n,q3⟩:=t;exact⟨o,kp _ _ q1,q2,n,by simpa using q3⟩
   refine Qz (hb _ _ _ (aL (s:={s0 with heap:=h,toks:=tk}) hh t' i fun h' tk' t2 kp2=>?_))
   have gk':=kp2 _ _ gk
   have ea:ks.toArray.push (Value.int k.sum t2)=(ks++[Value.int k.sum t2]).toArray:=by simp
   rw[Qo]at hz;have hsz:(ks.toArray.push (Value.int k.sum t2)).size≤sizeLine:=by rw[Array.size_push,Qp];exact BU (by omega)
   refine listUpdate_at (s:={s0 with heap:=h',toks:=tk'}) gk' rfl ?_ (BU (by rw[Qp];omega)) (Xi hsz)
   have s1:=Jg h' kS (Obj.mapSeq (·.push (Value.int k.sum t2)))
   have gk2:=get?_update_seq gk' (·.push (Value.int k.sum t2))
   rw[ea]at gk2;refine OS hne hk0 hh hb r ks0 (ks++[Value.int k.sum t2]) (kz++[k.sum]) _ tk' _ r0 (Nu hi) (by rw[Ql,List.length_singleton];omega) (fun b o hbo=>(s1.2 b (fun z=>by subst z;exact hk0 o hbo)).trans (kp2 b o (kp b o hbo))) gk2 ((s1.2 D hne).trans (kp2 _ _ gd)) fun ks' e' tk2 h2 q1 q2 q3 q4=>?_
   exact hQ ks' e' tk2 h2 (by simpa using q1) q2 q3 q4
def GS(n:Nat)(lt:Nat->Nat->Bool):Option (Array Nat):=(JF ⟨n,lt⟩ ⟨(List.range n).toArray,#[],7⟩).bind fun p=>if p.2.a.size=n then some p.2.a else none
theorem bD{s:Shared}{κ:SortKind}{ks vs:List Value}{lt:Nat->Nat->Bool}{p:Array Nat}{Q:Unit×SortSt->Shared->Prop}(hl:ks.length=vs.length)
  (ok:∀i j (C:Bool->Shared->Prop),i<vs.length->j<vs.length->C (lt i j) s->wpAny (model prog w) A (keyLt' κ (ks.getD i Value.none) (ks.getD j Value.none)) C (fun _ _=>False) s)(hp:GS vs.length lt=some p)
  (h:∀st',p.size=vs.length->arrOf st'=p.map (kas_item (ks.toArray.zip vs.toArray))->failedOf st'=none->Q ((),st') s):wpAny (model prog w) A (sortRuns'.run (SortSt.mk' κ (ks.toArray.zip vs.toArray) #[] 7 none)) Q E s:=by
 obtain⟨⟨u,S'⟩,h1,h2⟩:=C7 hp;dsimp only at h2;split at h2
 ·rename_i hn
  cases h2;have hok:∀i j (C:Bool->Shared->Prop),i<vs.length->j<vs.length->C (lt i j) s->wpAny (model prog w) A (keyLt' κ (kas_item (ks.toArray.zip vs.toArray) i).1 (kas_item (ks.toArray.zip vs.toArray) j).1) C (fun _ _=>False) s:=fun i j C hi hj hc=>by
   rw[kat_item hl,kat_item hl];exact ok i j C hi hj hc
  let Y:Sx:={prog:=prog,w:=w,A:=A,E:=E,s:=s,κ:=κ,it:=kas_item (ks.toArray.zip vs.toArray),L:=⟨vs.length,lt⟩,ok:=hok}
  have est:SortSt.mk' κ (ks.toArray.zip vs.toArray) #[] 7 none=Y.st ⟨(List.range vs.length).toArray,#[],7⟩:=by
   have e:=kas_range (ks.toArray.zip vs.toArray)
   rw[show(ks.toArray.zip vs.toArray).size=vs.length by simp[hl]]at e
   show SortSt.mk' κ (ks.toArray.zip vs.toArray) #[] 7 none=SortSt.mk' κ ((List.toArray (List.range vs.length)).map (kas_item (ks.toArray.zip vs.toArray))) #[] 7 none;rw[e]
  rw[est];exact(bC (Y:=Y) () S' h1 (fun _ st s'=>Q ((),st) s') (h _ hn rfl rfl))
 ·cases h2
theorem bE{s:Shared}{l:Addr}{vs:List Value}{ns:OI}{p:Array Nat}{Q:OE}(hh:A.handled=none)(hl:s.heap.IsList l vs.toArray)(ht:kK s.heap vs ns)(h2:2≤vs.length)(hz:vs.length≤1000)
  (hp:GS vs.length (fun i j=>decide (((ns.map List.sum).reverse).getD i 0<((ns.map List.sum).reverse).getD j 0))=some p)
  (h:∀c h' tk,(∀b o,s.heap.get? b=some o->h'.get? b=some o)->h'.get? (s.heap.objs.size+1)=some (seqObj "list" ((p.toList.map fun i=>vs.reverse.getD i Value.none).reverse).toArray c)->Q (.ref (s.heap.objs.size+1)) {s with heap:=h',toks:=tk}):
  wpAny (model prog w) A (call (.builtin "sorted") [.ref l] Ir) Q E s:=by
 refine call_function_entry_kw kind_sorted plain_sorted entry_sorted (ksk_s2 _ _ _) ?_
 unfold Builtin.«sorted»;refine Qz (m:=checkCount "sorted" 1 1 _) (Qv ?_);refine Qz (collect_list hl ?_ (BU hz));refine Qz (wpAny_newList ?_ (BU hz));generalize hH1:((s.heap.push (seqObj "list" #[] 0)).update s.heap.objs.size (Obj.mapSeq (· ++vs.toArray)))=H1
 have hsz:H1.objs.size=s.heap.objs.size+1:=by rw[←hH1,Heap.size_update,size_push']
 have keep:∀b o,s.heap.get? b=some o->(H1.push (seqObj "list" vs.toArray 0)).get? b=some o:=fun b o q=>by
  have hlt:b<s.heap.objs.size:=Qu q
  refine Qx _ ?_
  rw[←hH1,Heap.get?_update_ne _ _ _ _ (Qs hlt)];exact Qx _ q
 have gD:(H1.push (seqObj "list" vs.toArray 0)).get? H1.objs.size=some (seqObj "list" vs.toArray 0):=Qh _ rfl
 show wpAny _ _ _ _ _ {s with heap:=H1.push (seqObj "list" vs.toArray 0)}
 refine Qz (Jy (wpAny_call_entry_kw slot_list_sort ⟨_,gD,rfl⟩ entry_list_sort ?body (ksk_l2 _ _ _)))
 case body=>
  show wpAny (model prog w) A.in1.in1 (Builtin.«list.sort» ⟨[.ref H1.objs.size],Ir⟩) _ _ _;have ht5:Builtin.«list.sort» ⟨[.ref H1.objs.size],Ir⟩=ksk_tree H1.objs.size (.builtin "sum") true:=ksk_t5 "sum" H1.objs.size true;rw[ht5];unfold ksk_tree;refine Qz (listItems_at gD rfl ?_);refine Qz (listUpdate_at gD rfl ?_ (by rw[Qp];exact BU hz) (Jj _))
  have u1:=Jg (H1.push (seqObj "list" vs.toArray 0)) H1.objs.size (Obj.mapSeq fun _=>(#[]:Array Value))
  obtain⟨e1,g1⟩:∃e1,((H1.push (seqObj "list" vs.toArray 0)).update H1.objs.size (Obj.mapSeq fun _=>(#[]:Array Value))).get? H1.objs.size=some (seqObj "list" #[] e1):=⟨_,get?_update_seq gD fun _=>#[]⟩
  generalize hH2:(H1.push (seqObj "list" vs.toArray 0)).update H1.objs.size (Obj.mapSeq fun _=>(#[]:Array Value))=H2 at u1 g1
  have kp2:∀b o,s.heap.get? b=some o->H2.get? b=some o:=fun b o q=>by
   refine(u1.2 b ?_).trans (keep b o q);have:=Qu q;exact Qs (by rw[hsz];exact Ur this)
  refine Qz (seqEpoch_at (s:={s with heap:=H2}) g1 rfl ?_)
  refine Qz (wpAny_newTuple ?_ (by show vs.length≤_;exact BU hz))
  refine Qz (wpAny_newList ?_ (Jj _));refine Jy ?_
  generalize hH3:H2.push (seqObj "tuple" vs.toArray 0)=H3;have kp3:∀b o,H2.get? b=some o->(H3.push (seqObj "list" #[] 0)).get? b=some o:=fun b o q=>Qx _ (by rw[←hH3];exact Qx _ q)
  have gk:(H3.push (seqObj "list" #[] 0)).get? H3.objs.size=some (seqObj "list" #[] 0):=Qh _ rfl
  have hne:H1.objs.size≠H3.objs.size:=by
   have h1:=Qu g1
   rw[←hH3,size_push'];exact Qs (Ur h1)
  have hk0:∀o,s.heap.get? H3.objs.size=some o->False:=fun o q=>by
   have h1:=Qu (kp2 _ _ q)
   rw[←hH3,size_push']at h1;exact absurd h1 (Nat.not_lt_of_le (Nat.le_succ _))
  show wpAny _ A.in1.in1 (ksk_rest H1.objs.size (.builtin "sum") true vs.toArray e1 (.ref H3.objs.size)) _ _ {s with heap:=H3.push (seqObj "list" #[] 0)}
  unfold ksk_rest;refine Qz (Ja ?_)
  first
   |rw[List.forIn_toArray]
   |(rw[←Array.forIn_toList];simp only[List.toList_toArray])
   |rw[←Array.forIn_toList]
  refine Qz (OS (A:=A.in1.in1) (s0:=s) (D:=H1.objs.size) (kS:=H3.objs.size) (e1:=e1) (h0:=s.heap) hne hk0 (by simp[hh]) (fun x s' R hx=>?_) vs ns [] [] 0 s.toks _ ht .nil (by simpa using hz) (fun b o q=>kp3 b o (kp2 b o q)) gk (kp3 _ _ g1) fun ks' e' tk' h' hi kp gk' gd'=>?_)
  ·refine Qz (Xn (Qi hx (fun k s'' hk=>?_) fun _ _ hF=>hF.elim))
   exact Qz (Qi hk (fun _ s3 h3=>Qv h3) fun _ _ e=>e)
  ·have hi':IntsAre ks' (ns.map List.sum):=by simpa using hi
   have hlen:ks'.length=vs.length:=by rw[hi'.length,Qk,ht.length]
   refine Qz (listItems_at (s:={s with heap:=h',toks:=tk'}) gk' rfl ?_)
   unfold ksk_end;dsimp only;rw[Qc rfl];refine Qz (Ja ?_);have hn2:¬ vs.toArray.size<2:=by rw[Qp];omega
   rw[Qt hn2,Qt hn2];have hkd:=PyProof.Rows.ksk_kind (keys:=ks'.toArray) (kz:=ns.map List.sum) (by simpa using hi') (by simp;omega)
   rw[hkd];refine Qz (Qv ?_);rw[kat_pairs true hlen];have hlr:(katRev true ks').length=(katRev true vs).length:=by rw[kat_len,kat_len,hlen]
   have hr:IntsAre ks'.reverse (ns.map List.sum).reverse:=hi'.reverse
   have at':∀i,i<vs.length->∃t,ks'.reverse.getD i Value.none=.int (((ns.map List.sum).reverse).getD i 0) t:=fun i hi=>by
    have hl:i<ks'.reverse.length:=by rw[Xw];omega
    obtain⟨t,e⟩:=Cu hr i (ks'.reverse[i]) (by rw[Zv hl])
    exact⟨t,by rw[Ut,Zv hl,Option.getD_some];exact e⟩
   refine Qz (bD (lt:=fun i j=>decide (((ns.map List.sum).reverse).getD i 0<((ns.map List.sum).reverse).getD j 0)) (p:=p) hlr (fun i j C hi hj hc=>?_) (by rw[kat_len];exact hp) fun st' hps har hf=>?_)
   ·rw[kat_len]at hi hj
    obtain⟨t1,q1⟩:=at' i hi;obtain⟨t2,q2⟩:=at' j hj;show wpAny _ _ (keyLt' oneType' (ks'.reverse.getD i Value.none) (ks'.reverse.getD j Value.none)) C _ _;rw[q1,q2];exact kat_lt_int hc
   ·have hout:=kat_snds hlr har
    have hpl:p.toList.length=vs.length:=by rw[Ue,hps,kat_len]
    unfold ksk_tail;dsimp only;rw[hout,kat_outs];have gkz:ks'.toArray.size≤sizeLine:=by rw[Qp,hlen];exact BU hz
    refine Qz (listUpdate_at (s:={s with heap:=h',toks:=tk'}) gk' rfl ?_ gkz (Jj _))
    have u4:=Jg h' H3.objs.size (Obj.mapSeq fun _=>(#[]:Array Value))
    generalize h'.update H3.objs.size (Obj.mapSeq fun _=>(#[]:Array Value))=H4 at u4
    refine Qz (wpAny_letGo ?_);have gd4:H4.get? H1.objs.size=some (seqObj "list" #[] e1):=(u4.2 _ hne).trans gd';refine Qz (seqEpoch_at (s:={s with heap:=H4,toks:=tk'}) gd4 rfl ?_)
    have hsz5:(List.toArray (katRev true (p.toList.map fun i=>(katRev true vs).getD i Value.none))).size≤sizeLine:=by
     rw[Qp,kat_len,Qk,hpl];exact BU hz
    refine Qz (listUpdate_at (s:={s with heap:=H4,toks:=tk'}) gd4 rfl ?_ (Jj _) (Xi hsz5))
    have u5:=Jg H4 H1.objs.size (Obj.mapSeq fun _=>List.toArray (katRev true (p.toList.map fun i=>(katRev true vs).getD i Value.none)))
    have g5:=get?_update_seq gd4 fun _=>List.toArray (katRev true (p.toList.map fun i=>(katRev true vs).getD i Value.none))
    generalize H4.update H1.objs.size (Obj.mapSeq fun _=>List.toArray (katRev true (p.toList.map fun i=>(katRev true vs).getD i Value.none)))=H5 at u5 g5
    rw[hf];simp only[bne_self_eq_false,Zz,Yu];refine Qv ⟨_,rfl,Qv ⟨_,rfl,?_⟩⟩;rw[hsz]at g5 ⊢;refine h _ H5 tk' (fun b o q=>?_) g5
    have hb:=Qu q
    refine(u5.2 b (fun z=>?_)).trans ((u4.2 b (fun z=>by subst z;exact hk0 o q)).trans (kp b o q))
    rw[z,hsz]at hb;exact absurd hb (Nat.not_lt_of_le (Nat.le_succ _))
end
section
variable{X:Cx}{B:OA}{e:Expr}{ma:Mo D}{p p1 kp1 kp2 pos:Pos}{j:Nat}{p2:Pos}
def CL(ds:List D):Option (List D):=(oE ds).bind fun ks=>if 2≤ks.length/\ks.length≤1000 then
 (GS ks.length (fun i j=>decide (((ks.map List.sum).reverse).getD i 0<((ks.map List.sum).reverse).getD j 0))).bind fun p=>if p.toList.length≤1000 then(p.toList.mapM fun i=>ds.reverse[i]?).map List.reverse else none else none
def JG(m:Mo D):Mo (List D):=fun env=>(m env).bind fun p=>match p.1 with
 |.lst ds=>(CL ds).map fun es=>(es,p.2)
 |_=>none
theorem OT(hc:X.calm=true)(he:ED X B e ma)(hg:Gl X "sorted")(hm:X.mg "sorted"=none)(hg2:Gl X "sum")(hm2:X.mg "sum"=none)
  (hs:starEach [e] X.env=(false,eval e X.env)::starEach [] X.env:=by rfl)(hpl:(backTo pos (starEach [] X.env)).any (·.1)=false:=by rfl):
  EL X B (.Call (.Name "sorted" p) [e] [⟨some "key",.Name "sum" p1,kp1⟩,⟨some "reverse",.Constant (.bool true) j p2,kp2⟩] pos) (JG ma):=by
 have pe:PE X (.Call (.Name "sorted" p) [e] [⟨some "key",.Name "sum" p1,kp1⟩,⟨some "reverse",.Constant (.bool true) j p2,kp2⟩] pos) (fun σ H Q=>sP X.K B (B0 ma B6) σ H fun vs H1=>∃a G ys ds es,vs=[.ref a]/\Le G H1/\lX X.K G a ys/\C3 X.K G ys ds/\CL ds=some es/\∀l zs,H1 l=none->C3 X.K G zs es->Q (.ref l) (upd H1 l (.lst zs))):=by
  intro pins s σ H Q I h;refine Yo (BA I hg hm Wv ?_ (by decide) (by decide))
  refine PyProof.Rows.callWith_kw (i4 ((B5 he C4 hs:oP X B [e] (B0 ma B6)) pos pins s σ H _ I h) fun us s1 ⟨vs,H1,I1,r1,q1⟩=>?_) (by simp only[hs,backTo];rfl) (by simp only[hs,backTo];rfl) rfl rfl
  refine PyProof.Rows.kws_cons (BA I1 hg2 hm2 Ms (PyProof.Rows.kws_cons ?_) (by decide) (by decide))
  refine i4 (LF (b:=true) pins s1 σ H1 (fun x H2=>x=.bl true/\H2=H1) I1 ⟨rfl,rfl⟩) fun vb s1' ⟨xb,H1',I1',rb,qb⟩=>PyProof.Rows.kws_nil ?_
  obtain⟨rfl,rfl⟩:=qb;cases rb;obtain⟨a,G,ys,ds,es,rfl,l,hq,rp,hs',q⟩:=q1;obtain⟨u,rfl,rx⟩:=Ai r1;cases rx;clear I1;obtain⟨vs,rv,pl,hz⟩:=I1'.list (l.sqL hq);obtain⟨ks,e1,e2⟩:=C7 hs';split at e2
  case isFalse=>cases e2
  rename_i hn;obtain⟨pa,e3,e4⟩:=C7 e2;split at e4
  case isFalse=>cases e4
  rename_i hpl;obtain⟨es0,e5,e6⟩:=E9 e4;subst e6;have ht:kK s1'.heap vs ks:=Nt I1' l rv rp e1;have hlen:=ht.length;obtain⟨zs,h1,h2⟩:=Mb rp.reverse rv.reverse e5;refine bE (p:=pa) (I1'.ok.hd hc) pl.isList ht (by omega) (by omega) (by rw[hlen];exact e3) fun c h' tk kp gD=>?_
  have hzl:zs.reverse.length≤sizeLine:=by
   have:=h1.length;rw[Qk]at this;rw[Xw,this];exact Jx (Dk hpl)
  have hs1:s1'.heap.objs.size≤s1'.heap.objs.size+1:=Nat.le_succ _
  exact⟨.ref (s1'.heap.objs.size+1),_,I1'.laid (a:=s1'.heap.objs.size+1) (o:=.lst zs.reverse) (t':=tk) kp hs1 ⟨hzl,_,_,h1.reverse,gD⟩,rfl,q _ zs.reverse (I1'.hok.fresh hs1) h2.reverse⟩
 refine d6 pe ?_
 rintro σ H Q ⟨G,env,d,env',rl,e,k⟩;obtain⟨⟨d1,a8⟩,e1,e2⟩:=C7 e;dsimp only at e2;split at e2
 ·rename_i ds
  obtain⟨es,e3,e4⟩:=E9 e2;cases e4;refine⟨G,env,[.lst ds],_,rl,by unfold B0;rw[e1];rfl,fun vs G1 H1 ev r1=>?_⟩
  obtain⟨x,rfl,q⟩:=U8 r1;simp only[b0]at q;obtain⟨a,ys,rfl,h1,h2⟩:=q;exact⟨a,G1,ys,ds,_,rfl,ev.rel.sub,h1,h2,e3,fun l zs hl rz=>FW ev hl rz k⟩
 ·cases e2
end
theorem PG.nox{X:Cx}{tg:Expr}{t:TG}(h:PG X.nox tg t):PG X tg t:=fun pins s σ H v u Q I r hw=>
 Qi (h pins s σ H v u Q (I.wish _) r hw) (fun _ _ ⟨σ',H',I',q⟩=>⟨σ',H',I'.unwish,q⟩) fun _ _ z=>False.elim z
theorem PI.nox{X:Cx}{tg e:Expr}{wi:TI}(h:PI X.nox tg e wi):PI X tg e wi:=fun pins s σ H R I hw=>
 Qi (h pins s σ H R (I.wish _) hw) (fun _ _ q=>Qi q (fun _ _ ⟨it,fp,tn,J,H',e,I',T,t0,f,r⟩=>⟨it,fp,tn,J,H',e,I'.unwish,T,t0,fun b hb=>f b hb,r⟩) fun _ _ z=>False.elim z) fun _ _ z=>False.elim z
def Z9(g:OZ)(x:Mx)(m:Mo Fl):List D->Mx
 |[],_=>none
 |d::ds,env=>(g d env).bind fun e1=>match x e1 with
  |some n=>some n
  |none=>match m e1 with
   |some (.nx,e2)=>Z9 g x m ds e2
   |some (.ct,e2)=>Z9 g x m ds e2
   |_=>none
def GU(mi:Mo (List D))(g:OZ)(x:Mx)(m:Mo Fl):Mx:=fun env=>(mi env).bind fun p=>Z9 g x m p.1 p.2
section
variable{X:Cx}{B:OA}{E:XK}{pos:Pos}{tg:Expr}{g:OZ}
theorem bF{iter:Expr}{body:List Stmt}{mi:Mo (List D)}{mbd:Mo Fl}{xb:Mx}(hp:PassesOwn (model X.prog X.w) X.A X.env X.xe)(hc:X.calm=true)(hi:EI X B tg iter mi)(hg:EG X B 0 tg g)(hb:pD X B body mbd)(hx:Am X B E body xb)
  (hs:∀x,foldedSetIterable iter X.env x=pure x:=by intro _;rfl):pW X B E (.For tg iter body [] pos) (GU mi g xb mbd):=by
 have hbx:m9 X body (fun D σ H=>TX X.K B E xb σ H\/tW X.K B mbd D σ H):=fun pins s σ H D I q=>q.elim (hx pins s σ H D I) (hb pins s σ H D I)
 refine jZ (LO hp hc hi hg hbx hs) ?_
 rintro D σ H ⟨G,env,n,rl,e,w⟩;obtain⟨⟨ds,a8⟩,e1,e2⟩:=C7 e;dsimp only at e2;refine⟨G,env,ds,a8,rl,e1,fun J G1 H1 j5 it=>?_⟩
 refine⟨fun i m σ2 H2=>m=ds.length-i/\i≤ds.length/\∃G2 f9,Ev X.K B G σ env H G2 σ2 f9 H2/\Le G1 G2/\Z9 g xb mbd (ds.drop i) f9=some n,⟨_,rfl,Jj _,G1,a8,j5,Le.refl,by simpa using e2⟩,?_⟩
 rintro i m σ2 H2 ⟨rfl,hi2,G2,f9,d7,l2,e3⟩;have lH:Le G1 H2:=l2.trans d7.rel.sub
 by_cases hlt:i<ds.length
 ·refine .inr ⟨it.go i H2 lH hlt,fun σ' H'=>∃G3 mL,Ev X.K B G σ env H G3 σ' mL H'/\Le G1 G3/\Z9 g xb mbd (ds.drop (i+1)) mL=some n,?_,fun x H3 y=>?_⟩
  ·rintro σ' H' ⟨G3,mL,mR,l3,e4⟩
   exact⟨ds.length-(i+1),by omega,rfl,hlt,G3,mL,mR,l3,e4⟩
  ·have ed:ds.drop i=ds[i]::ds.drop (i+1):=Vq hlt
   rw[ed]at e3;obtain⟨mM,e4,e5⟩:=C7 e3;have hget:ds[i]? =some ds[i]:=by simp[hlt]
   have st:∃G3,Ev X.K B G σ env H G3 σ2 f9 H3/\Le G1 G3/\b0 X.K G3 x ds[i]:=by
    rcases it.yld i H2 x H3 ds[i] lH y hget with⟨rfl,r⟩|⟨p,o,hno,hp2,rfl,r⟩
    ·exact⟨G2,d7,l2,b0.mono l2 _ r⟩
    ·have gp:=d7.rel.gnone hp2
     refine⟨upd G2 p o,d7.trans (d7.rel.alloc hp2 hno),l2.trans (Le.upd gp),b0.mono (fun b u q=>?_) _ r⟩
     by_cases hb2:b=p
     ·subst hb2;rw[F9]at q ⊢;exact q
     ·rw[D6 hb2]at q ⊢;exact l2 b u q
   obtain⟨G3,mR,l3,r3⟩:=st;refine⟨G3,f9,ds[i],mM,mR.rel,r3,e4,fun σ4 G4 H4 nU _=>?_⟩
   have oQ:=mR.trans nU
   cases hx4:xb mM with
   |some n'=>
    rw[hx4]at e5;cases e5;exact .inl ⟨G4,mM,_,nU.rel,hx4,w.after oQ⟩
   |none=>
    rw[hx4]at e5;dsimp only at e5;cases nG:mbd mM with
    |none=>rw[nG]at e5;cases e5
    |some q=>
     obtain⟨pV,lU⟩:=q;rw[nG]at e5;refine .inr ⟨G4,mM,pV,lU,nU.rel,nG,?_⟩;cases pV with
     |nx=>exact fun σ6 G6 H6 lV=>⟨G6,lU,oQ.trans lV,(l3.trans nU.same).trans lV.same,e5⟩
     |ct=>exact fun σ6 G6 H6 lV=>⟨G6,lU,oQ.trans lV,(l3.trans nU.same).trans lV.same,e5⟩
     |bk=>cases e5
     |ret d=>cases e5
     |retL d=>cases e5
 ·have ei:i=ds.length:=by omega
  subst ei;rw[Tq]at e3;cases e3
end
def tD:Rr×a9->Option (D×a9)
 |(.d d,e)=>some (d,e)
 |(.l ds,e)=>some (.lst ds,e)
def AA(n i:Nat)(l:List (Str×Fn))(as:Mo (List Ar)):Mo D:=fun env=>match env[i]? with
 |some (.dat (.obj (.fn nm)))=>(l.lookup nm).bind fun fn=>(V0 n fn as env).bind tD
 |_=>none
section
variable{X:Cx}{B:OA}{e:Expr}{es:List Expr}{y:Str}{p pos:Pos}{n i:Nat}{as:Mo (List Ar)}
theorem OV{l:List (Str×Fn)}(ht:CF X n l)(hv:PE X (.Name y p) (Q3 i))(ha:pC X B (e::es) as)(he:starEach (e::es) X.env=(false,eval e X.env)::starEach es X.env:=by rfl)(hpl:(backTo pos (starEach es X.env)).any (·.1)=false:=by rfl):
  ED X B (.Call (.Name y p) (e::es) [] pos) (AA n i l as):=by
 intro pins s σ H Q I ⟨G,env,d,env',rl,em,kk⟩;unfold AA at em;split at em
 case h_2=>cases em
 rename_i nm hen;obtain⟨fn,e1,e2⟩:=C7 em;obtain⟨k,hr,D,hn⟩:=ht nm fn e1;obtain⟨v,q1,q2⟩:=rl.dat i _ hen;obtain⟨f',fd,ps,F,rfl,hm,hk,hb⟩:=D.ex;have:=Nz hn hm q2;subst this;obtain⟨⟨r,a8⟩,e3,e4⟩:=C7 e2;refine Nw F hr hv hk hb .nil Dj ha he hpl pins s σ H Q I ⟨q1,?_⟩;cases r with
 |d d'=>cases e4;exact Fe rl e3 kk
 |l ds=>cases e4;exact Fe rl e3 fun a xs G' H' ev ha no h' g' r=>kk (.ref a) _ H' (ev.frz ha no h' g') (Hd F9 (C3.mono (Le.upd g') ds r))
end
end L2.Mir
namespace L2.Mir
open PySem L2
abbrev qC(n:Nat):List D:=(List.range n).map fun(i:Nat)=>D.int (i:Int)
theorem bG(n:Nat):V9 0 n=qC n:=by
 unfold V9 qC;exact Yb fun i _=>by simp
theorem OW{M:Mo D}{e e1:a9}{n:Nat}{j:Int}(hM:M e=some (.int j,e1))(hj:j=(n:Int))(hn:n≤10000):AM (B0 M B6) e=some (qC n,e1):=by
 subst hj;have:=Mm (ms:=B0 M B6) (env:=e) (e1:=e1) (j:=(n:Int)) (by unfold B0 B6;rw[hM];rfl) (by omega) (by omega)
 rw[this,Ji,bG]
theorem bH{base:a9}{w v:W}{k:Nat}(h:base.length=k):(base++[w]).set k v=base++[v]:=by
 subst h;simp
theorem bI{base:a9}{w w2 v v2:W}{k:Nat}(h:base.length=k):((base++[w,w2]).set k v).set (k+1) v2=base++[v,v2]:=by
 subst h;rw[List.set_append_right _ _ (Qm _),Nat.sub_self,List.set_append_right _ _ (by omega)]
 simp
theorem OY{α:Type}{t:Mo Bool}{m:Mo D}{base:a9}{q f:α->D}{p:α->Bool}{k:Nat}(hk:base.length=k):∀{l:List α},(∀a∈l,t (base++[.dat (q a)])=some (p a,base++[.dat (q a)])/\(p a=true->m (base++[.dat (q a)])=some (f a,base++[.dat (q a)])))->∀w,∃w',N8 (gN k) t m (l.map q) (base++[w])=some ((l.filter p).map f,base++[w'])
 |[],_,w=>⟨w,rfl⟩
 |a::l,h,w=>by
  obtain⟨h1,h2⟩:=h a (by simp)
  obtain⟨w',e⟩:=OY hk (l:=l) (fun x hx=>h x (by simp[hx])) (.dat (q a))
  refine⟨w',?_⟩;rw[Qr];unfold N8 gN;rw[Qj,bH hk,h1,Qj];cases hp:p a with
  |false=>simp only[Zz,Yu];rw[List.filter_cons_of_neg (by simp[hp])];exact e
  |true=>
   simp only[Zm];rw[h2 hp,Qj,List.filter_cons_of_pos hp,Qr];show(N8 (gN k) t m (l.map q) (base++[.dat (q a)])).map _=_;rw[e];rfl
theorem Oa{α:Type}{mi:Mo (List D)}{keep:List Bool}{t:Mo Bool}{m:Mo D}{env base:a9}{l:List α}{q f:α->D}{p:α->Bool}{k:Nat}(hi:mi env=some (l.map q,env))(hl:l.length≤100000)(hb:N7 keep 0 env=base)(hk:base.length=k)
  (h:∀a∈l,t (base++[.dat (q a)])=some (p a,base++[.dat (q a)])/\(p a=true->m (base++[.dat (q a)])=some (f a,base++[.dat (q a)])))(ho:∀w,M8 keep env (base++[w])=some env):G9 mi keep 1 (gN k) t m env=some ((l.filter p).map f,env):=by
 obtain⟨w',e⟩:=OY hk h .nil;refine EF hi (by simpa using hl) (e2:=base++[w']) ?_ (ho w')
 have:N7 keep 1 env=base++[.nil]:=by rw[←hb];unfold N7;simp
 rw[this];exact e
theorem GV{α:Type}{mi:Mo (List D)}{keep:List Bool}{m:Mo D}{env base:a9}{l:List α}{q f:α->D}{k:Nat}(hi:mi env=some (l.map q,env))(hl:l.length≤100000)(hb:N7 keep 0 env=base)(hk:base.length=k)
  (h:∀a∈l,m (base++[.dat (q a)])=some (f a,base++[.dat (q a)]))(ho:∀w,M8 keep env (base++[w])=some env):G9 mi keep 1 (gN k) J0 m env=some (l.map f,env):=by
 have:=Oa (p:=fun _=>true) (t:=J0) hi hl hb hk (fun a ha=>⟨rfl,fun _=>h a ha⟩) ho
 rw[this,Uo.mpr (fun _ _=>rfl)]
theorem GW{α:Type}{t:Mo Bool}{m:Mo D}{base:a9}{q q2 f:α->D}{p:α->Bool}{k:Nat}(hk:base.length=k):∀{l:List α},(∀a∈l,t (base++[.dat (q a),.dat (q2 a)])=some (p a,base++[.dat (q a),.dat (q2 a)])/\(p a=true->m (base++[.dat (q a),.dat (q2 a)])=some (f a,base++[.dat (q a),.dat (q2 a)])))->∀w w2,∃w' w2',N8 (gT 2 (mS (gN k) (mS (gN (k+1)) oR))) t m (l.map fun a=>.tup [q a,q2 a]) (base++[w,w2])=some ((l.filter p).map f,base++[w',w2'])
 |[],_,w,w2=>⟨w,w2,rfl⟩
 |a::l,h,w,w2=>by
  obtain⟨h1,h2⟩:=h a (by simp)
  obtain⟨w',w2',e⟩:=GW hk (l:=l) (fun x hx=>h x (by simp[hx])) (.dat (q a)) (.dat (q2 a))
  refine⟨w',w2',?_⟩;rw[Qr];unfold N8;have hg:gT 2 (mS (gN k) (mS (gN (k+1)) oR)) (.tup [q a,q2 a]) (base++[w,w2])=some (base++[.dat (q a),.dat (q2 a)]):=by
   show some (((base++[w,w2]).set k _).set (k+1) _)=_;rw[bI hk]
  rw[hg,Qj,h1,Qj];cases hp:p a with
  |false=>simp only[Zz,Yu];rw[List.filter_cons_of_neg (by simp[hp])];exact e
  |true=>
   simp only[Zm];rw[h2 hp,Qj,List.filter_cons_of_pos hp,Qr];show(N8 _ t m (l.map _) (base++[.dat (q a),.dat (q2 a)])).map _=_;rw[e];rfl
theorem bJ{α:Type}{mi:Mo (List D)}{keep:List Bool}{t:Mo Bool}{m:Mo D}{env base:a9}{l:List α}{q q2 f:α->D}{p:α->Bool}{k:Nat}(hi:mi env=some (l.map (fun a=>.tup [q a,q2 a]),env))(hl:l.length≤100000)(hb:N7 keep 0 env=base)(hk:base.length=k)
  (h:∀a∈l,t (base++[.dat (q a),.dat (q2 a)])=some (p a,base++[.dat (q a),.dat (q2 a)])/\(p a=true->m (base++[.dat (q a),.dat (q2 a)])=some (f a,base++[.dat (q a),.dat (q2 a)])))(ho:∀w w2,M8 keep env (base++[w,w2])=some env):
  G9 mi keep 2 (gT 2 (mS (gN k) (mS (gN (k+1)) oR))) t m env=some ((l.filter p).map f,env):=by
 obtain⟨w',w2',e⟩:=GW hk h .nil .nil;refine EF hi (by simpa using hl) (e2:=base++[w',w2']) ?_ (ho w' w2')
 have:N7 keep 2 env=base++[.nil,.nil]:=by rw[←hb];unfold N7;simp
 rw[this];exact e
theorem JH{α:Type}{mi:Mo (List D)}{keep:List Bool}{m:Mo D}{env base:a9}{l:List α}{q q2 f:α->D}{k:Nat}(hi:mi env=some (l.map (fun a=>.tup [q a,q2 a]),env))(hl:l.length≤100000)(hb:N7 keep 0 env=base)(hk:base.length=k)
  (h:∀a∈l,m (base++[.dat (q a),.dat (q2 a)])=some (f a,base++[.dat (q a),.dat (q2 a)]))(ho:∀w w2,M8 keep env (base++[w,w2])=some env):G9 mi keep 2 (gT 2 (mS (gN k) (mS (gN (k+1)) oR))) J0 m env=some (l.map f,env):=by
 have:=bJ (p:=fun _=>true) (t:=J0) hi hl hb hk (fun a ha=>⟨rfl,fun _=>h a ha⟩) ho
 rw[this,Uo.mpr (fun _ _=>rfl)]
theorem Oc{g:OZ}{b:Mo Fl}:∀{ds:List D}{P:Nat->a9->Prop}{env:a9},(∀i d e,ds[i]? =some d->P i e->∃e1 e2,g d e=some e1/\b e1=some (.nx,e2)/\P (i+1) e2)->P 0 env->∃env',loop g b ds env=some (.nx,env')/\P ds.length env'
 |[],P,env,_,p=>⟨env,rfl,p⟩
 |d::ds,P,env,h,p=>by
  obtain⟨e1,e2,h1,h2,h3⟩:=h 0 d env rfl p;obtain⟨e3,h4,h5⟩:=Oc (ds:=ds) (P:=fun i e=>P (i+1) e) (fun i x e hi q=>h (i+1) x e (by simpa using hi) q) h3
  refine⟨e3,?_,h5⟩;unfold loop;rw[h1];simp only[Qj];rw[h2];exact h4
theorem Od{g:OZ}{b:Mo Fl}{n:Nat}(P:Nat->a9->Prop){env:a9}(h:∀i<n,∀e,P i e->∃e1 e2,g (.int (i:Int)) e=some e1/\b e1=some (.nx,e2)/\P (i+1) e2)(p:P 0 env):∃env',loop g b (qC n) env=some (.nx,env')/\P n env':=by
 obtain⟨e',h1,h2⟩:=Oc (ds:=qC n) (g:=g) (b:=b) (P:=P) (env:=env) (fun i d e hi q=>by
  unfold qC at hi;rw[Zy]at hi
  by_cases hl:i<n
  ·rw[List.getElem?_range hl]at hi
   cases hi;exact h i hl e q
  ·rw[List.getElem?_eq_none (by simpa using hl)]at hi;cases hi) p
 refine⟨e',h1,?_⟩;have:(qC n).length=n:=by simp[qC]
 rw[this]at h2;exact h2
theorem Li{m:Mo D}{ml mh:Mo (Option Int)}{e:a9}{xs:List D}{lo hi:Option Int}(h:m e=some (.tup xs,e))(h1:ml e=some (lo,e))(h2:mh e=some (hi,e)):kZ m ml mh e=some (.tup (J8 xs lo hi),e):=by
 unfold kZ;rw[h,Qj,h1,Qj,h2];rfl
theorem BV(l:List Int):jY (l.map D.int)=some l:=by
 induction l with
 |nil=>rfl
 |cons a l ih=>show(jY (l.map D.int)).map _=_;rw[ih];rfl
theorem F1{m n:Mo Fl}{e e1:a9}{r:Option (Fl×a9)}(h:m e=some (.nx,e1))(h2:n e1=r):C6 m n e=r:=by unfold C6;rw[h];exact h2
theorem BW{t:Mo Bool}{m n:Mo Fl}{e e1:a9}{r:Option (Fl×a9)}(h:t e=some (true,e1))(h2:m e1=r):F3 t m n e=r:=by unfold F3;rw[h];exact h2
theorem O4{t:Mo Bool}{m n:Mo Fl}{e e1:a9}{r:Option (Fl×a9)}(h:t e=some (false,e1))(h2:n e1=r):F3 t m n e=r:=by unfold F3;rw[h];exact h2
theorem JI{t u:Mo Bool}{e e1:a9}(h:t e=some (true,e1)):L4 t u e=some (true,e1):=by unfold L4;rw[h];rfl
theorem Ei{t u:Mo Bool}{e e1:a9}{r:Option (Bool×a9)}(h:t e=some (false,e1))(h2:u e1=r):L4 t u e=r:=by unfold L4;rw[h];exact h2
theorem K3{n:Nat}{f:Fn}{as:Mo (List Ar)}{env e1:a9}{av:List Ar}{r:D}{ws':List W}(h:as env=some (av,e1))(hn:av.length=n)(hs:slots av=[])(hf:f (av.map (N1 (.l [])))=some (.d r,ws')):c9 n f as env=some (r,e1):=V2 (X7 h hn hs hf)
theorem Oe{names:List Str}{keep:List Bool}{mb:Mo D}{xb:Mx}{fr:Option Str->Option D}{env lw:a9}{n:Str}{d:D}(hw:Aq keep env=lw)(hx:xb lw=some n)(hn:names.contains n=true)(hf:fr (some n)=some d):W3 names keep mb xb fr env=some (d,env):=by
 unfold W3 outcome;rw[hw,hx];simp only[hn,Zm,Qj];rw[hf];rfl
theorem bK{names:List Str}{keep:List Bool}{mb:Mo D}{xb:Mx}{fr:Option Str->Option D}{env lw:a9}{p:D×a9}{d:D}(hw:Aq keep env=lw)(hx:xb lw=none)(hm:mb lw=some p)(hf:fr none=some d):W3 names keep mb xb fr env=some (d,env):=by
 unfold W3 outcome;rw[hw,hx,hm];show(fr none).map _=_;rw[hf];rfl
theorem bL{C N:Nat}(hC:1≤C)(hC2:C≤900){body last:Mo Fl}{ns:List Int}(hb:∀k:Nat,k<1000->∀ws:List W,ws.length=N->∃ws':List W,ws'.length=N+1/\body (.dat (.lst (ns.map D.int))::.dat (.int (k:Int))::ws)=some (.nx,.dat (.lst (ns.map D.int))::ws'))
  (hl:∀ws:List W,ws.length=N+1->∃e,last (.dat (.lst (ns.map D.int))::ws)=some (.ret (.bl true),e)):
  ∃ws',kJ (N+2) (C6 (M6 (AM (B0 (i5 Cn (B0 (mC (.int 1)) (B0 (i5 Co (B0 (i5 J7 (B0 (A0 0) B6)) (B0 (mC (.int (C:Int))) B6))) B6))) B6)) (gN 1) body) last) [.dat (.lst (ns.map D.int))]=some (.d (.bl true),ws'):=by
 obtain⟨K,hK,hr⟩:∃K:Nat,K≤C/\(AM (B0 (i5 Cn (B0 (mC (.int 1)) (B0 (i5 Co (B0 (i5 J7 (B0 (A0 0) B6)) (B0 (mC (.int (C:Int))) B6))) B6))) B6)) (.dat (.lst (ns.map D.int))::List.replicate (N+1) .nil)=some (qC K,.dat (.lst (ns.map D.int))::List.replicate (N+1) .nil):=by
  let q:Int:=if(C:Int)<(ns.length:Int)then C else(ns.length:Int)
  let p:Int:=if q>1 then q else 1
  have hq:q≤C:=by simp only[q];split<;>omega
  have hp:1≤p/\p≤C:=by simp only[p];split<;>omega
  refine⟨p.toNat,by omega,OW (j:=p) (P4 (C8 rfl (C8 (P4 (C8 (P4 (C8 rfl rfl) (show J7 [.lst (ns.map .int)]=some (.int (ns.length:Int))from ?_)) (C8 rfl rfl)) (show Co [.int (ns.length:Int),.int C]=some (.int q)from rfl)) rfl)) (show Cn [.int 1,.int q]=some (.int p)from rfl)) (by omega) (by omega)⟩
  show some (D.int ((ns.map D.int).length:Nat))=_;rw[Qk]
 obtain⟨e',h1,ws,hws,rfl⟩:=Od (g:=gN 1) (b:=body) (n:=K) (fun _ e=>∃ws:List W,ws.length=N+1/\e=.dat (.lst (ns.map D.int))::ws) (env:=.dat (.lst (ns.map D.int))::List.replicate (N+1) .nil)
  (fun i hi e ⟨ws,hw,he⟩=>by
   subst he
   match ws,hw with
   |w::ws,hw=>
    obtain⟨ws',h1,h2⟩:=hb i (by omega) ws (by simpa using hw)
    exact⟨_,_,rfl,h2,ws',h1,rfl⟩) ⟨_,by simp,rfl⟩
 obtain⟨e2,h2⟩:=hl ws hws;refine⟨_,P1 (d:=.bl true) (env:=e2) ?_⟩;show C6 _ _ (.dat (.lst (ns.map D.int))::List.replicate (N+1) .nil)=_;exact F1 ((Z3 hr).trans h1) h2
theorem AB{n:Nat}{g:List W->Option Str}{as:Mo (List Ar)}{env e1:a9}{av:List Ar}{r:Option Str}(h:as env=some (av,e1))(hn:av.length=n)(hs:slots av=[])(hg:g (av.map (N1 (.l [])))=r):Ao n g as env=r:=by
 unfold Ao;rw[h,Qj];simp only[hn,Zm,hs];exact hg
theorem Of(l:List Int):P7 [.lst (l.map D.int)]=some (.int l.sum):=by
 show(jY _).map _=_;rw[BV];rfl
theorem GX{ms:Mo (List D)}{env e1:a9}{ds:List D}(h:ms env=some (ds,e1))(hl:ds.length≤1000):D1 ms env=some (.tup ds,e1):=by unfold D1;rw[h,Qj];simp only[hl,Zm]
theorem bM{α:Type}(l:List α)(p q:α->D):Z2 (l.map p) (l.map q)=l.map fun a=>.tup [p a,q a]:=by
 unfold Z2
 induction l with
 |nil=>rfl
 |cons a l ih=>rw[Qr,Qr,List.zip_cons_cons,Qr,ih,Qr]
theorem bN{ms:Mo (List D)}{e e1:a9}{a b:D}{α:Type}{l:List α}{p q:α->D}(h:ms e=some ([a,b],e1))(ha:a.items=some (l.map p))(hb:b.items=some (l.map q)):Al ms e=some (l.map fun a=>.tup [p a,q a],e1):=by
 unfold Al;rw[h];show a.items.bind _=_;rw[ha];show b.items.map _=_;rw[hb,Yl,bM]
theorem JJ{m n:Mo D}{e e1:a9}{r:Option (D×a9)}(h:m e=some (.bl true,e1))(h2:n e1=r):X3 m n e=r:=by unfold X3;rw[h];exact h2
theorem bO{m n:Mo D}{e e1:a9}(h:m e=some (.bl false,e1)):X3 m n e=some (.bl false,e1):=by unfold X3;rw[h];rfl
theorem L7{i:Nat}{m:Mo D}{env e1 e2:a9}{d:D}(h:m env=some (d,e1))(he:e1.set i (.dat d)=e2):D0 i m env=some (.nx,e2):=by rw[X6 h,he]
theorem bP{i:Nat}{m:Mo (List D)}{env e1 e2:a9}{d:List D}(h:m env=some (d,e1))(he:e1.set i (.own d)=e2):O7 i m env=some (.nx,e2):=by rw[Wx h,he]
theorem GY{i j:Nat}{ms:Mo (List D)}{env e1 e2:a9}{a b:D}(h:ms env=some ([a,b],e1))(he:(e1.set i (.dat a)).set j (.dat b)=e2):AL i j ms env=some (.nx,e2):=by
 unfold AL;rw[h,←he];rfl
theorem Y1{N:Nat}{mb:Mo Fl}{ws env ws':List W}{d:D}(h:mb (ws++List.replicate (N-ws.length) .nil)=some (.ret d,env))(he:U9 ws env=ws'):kJ N mb ws=some (.d d,ws'):=by rw[P1 h,he]
theorem bQ{N:Nat}{mb:Mo Fl}{ws env ws':List W}{d:List D}(h:mb (ws++List.replicate (N-ws.length) .nil)=some (.retL d,env))(he:U9 ws env=ws'):kJ N mb ws=some (.l d,ws'):=by rw[Fq h,he]
abbrev up(a n:Nat):List Nat:=(List.range (n-a)).map (a+ ·)
theorem Y2{xs ys:List D}(h:xs.length+ys.length≤10000):D7 (.tup xs) (.tup ys)=some (.tup (xs++ys)):=by
 show(if xs.length+ys.length≤10000 then _ else none)=_
 rw[Qc h]
end L2.Mir
namespace L2.Mir
open PySem PySem.W
structure i7(K:Frag)(x:Str)(st:Stmt)(f:Addr)(pm:Value)(cd:Addr):Prop where
 a:nsIn K mainGlobals x=some (some (.ref f))
 l:K.lookup f=some ⟨.type "function",none,.func (fnOf x x (Bn st) (X1 st) (E8 st) .none .none .none pm none (.ref cd) .none),⟨[]⟩⟩
 c:codeIn K (.ref cd) x=true
 k:keepIn K (.ref f)=true
theorem i7.f{K:Frag}{x:Str}{st:Stmt}{f:Addr}{pm:Value}{cd:Addr}(A:i7 K x st f pm cd):kM K x x st f (fnOf x x (Bn st) (X1 st) (E8 st) .none .none .none pm none (.ref cd) .none):=UM A.l A.c A.k
theorem i7.g{K:Frag}{x:Str}{st:Stmt}{f:Addr}{pm:Value}{cd:Addr}{h:Heap}{mg:OU}(A:i7 K x st f pm cd)(X:K.In h)(G:h.Ns mainGlobals mg):mg x=some (.ref f):=mg_of X G A.a
theorem dM(P:Program)(w:World)(base:Heap){K:Frag}{x:Str}{st:Stmt}{f cd:Addr}{pm:Value}{k n:Nat}{fn:Fn}{fd:FuncData}{ps:List Str}{h:Heap}{mg:OU}(o:f6 P w K mg base kF k f fd ps (k7 K n fn))(A:i7 K x st f pm cd)(X:K.In h)(G:h.Ns mainGlobals mg)(b:O6 K fd ps [])(e:ps.length=n:=by rfl):Def P w K mg base x k n fn:=⟨_,_,_,o,e,A.g X G,A.k,b⟩
theorem dX(P:Program)(w:World)(base:Heap){K:Frag}{x:Str}{st:Stmt}{f cd:Addr}{pm:Value}{k n:Nat}{g:List W->Option Str}{fd:FuncData}{ps:List Str}{h:Heap}{mg:OU}(o:f6 P w K mg base (nD P w) k f fd ps (pX K n g))(A:i7 K x st f pm cd)(X:K.In h)(G:h.Ns mainGlobals mg)(b:O6 K fd ps [])(e:ps.length=n:=by rfl):m8 P w K mg base x k n g:=⟨_,_,_,o,e,A.g X G,A.k,b⟩
end L2.Mir
namespace K81
open PySem L2 L2.Mir
def top(i:Nat):Stmt:=PySem.Challenge.pw_turnsigns_k81_first_rows_and_shares.main.body.getD i (.Pass ⟨0,0,0,0⟩)
abbrev JK:Stmt:=top 16
abbrev JL:Stmt:=top 17
abbrev JM:Stmt:=top 18
abbrev JN:Stmt:=top 19
abbrev GZ:Stmt:=top 22
abbrev JO:Stmt:=top 23
abbrev JP:Stmt:=top 24
abbrev JQ:Stmt:=top 25
abbrev JR:Stmt:=top 26
abbrev Ga:Stmt:=top 27
abbrev JS:Stmt:=top 28
abbrev JT:Stmt:=top 30
abbrev Gb:Stmt:=top 31
abbrev JU:Stmt:=top 32
abbrev Gd:Stmt:=top 33
abbrev Ge:Stmt:=top 34
abbrev Gf:Stmt:=top 35
abbrev JV:Stmt:=top 37
abbrev JW:Stmt:=top 38
abbrev JX:Stmt:=top 39
abbrev JY:Stmt:=top 40
abbrev JZ:Stmt:=top 41
abbrev KA:Stmt:=top 42
abbrev KB:Stmt:=top 43
abbrev KC:Stmt:=top 44
abbrev KD:Stmt:=top 47
abbrev KE:Stmt:=top 48
abbrev KG:Stmt:=top 49
abbrev KH:Stmt:=top 50
abbrev KI:Stmt:=top 51
abbrev KJ:Stmt:=top 52
abbrev DK:Stmt:=top 53
abbrev xN:List Str:=["NoTable","NoHeights","NoNet","NoPlace","NoTriangle","NoRow","NoNumber","NoTurn","NotAlike","NoStep","NoRows","TooMany","BadNote"]
structure Txt(K:Qq)(mg:OU):Prop where
 ex:AX K "SignError" xN=true
 g_isinstance:mg "isinstance"=none
 g_int:mg "int"=none
 g_bool:mg "bool"=none
 g_all:mg "all"=none
 g_tuple:mg "tuple"=none
 g_len:mg "len"=none
 g_range:mg "range"=none
 g_sum:mg "sum"=none
 g_zip:mg "zip"=none
 g_min:mg "min"=none
 g_sorted:mg "sorted"=none
 g_list:mg "list"=none
 g_ValueError:mg "ValueError"=none
 g_max:mg "max"=none
 kH:pS K mg "next_rows"
 kP:pS K mg "share_so"
 lA:pS K mg "many_so"
 c_GREATEST_SIDE:∃t,mg "GREATEST_SIDE"=some (.int 6 t)
section
variable{P:Program}{w:World}{K:Qq}{mg:OU}{base:Heap}
set_option hygiene false
local macro_rules
 | `(tactic| k_units)=>`(tactic| first | fail_if_success (show (_:Prop)) | ((with_reducible show PE _ _ (Q3 _));exact pv _) | with_reducible (first | show PE _ _ _ | show PA _ _ _ | show PS _ _ _ | show m9 _ _ _ | show PT _ _ _ | show PG _ _ _ | show PI _ _ _ _ | show V1 _ _ _ | show PW _ _ _ | show PO _ _ _ | show qE _ _ _ | show O2 _ _ _ | show kQ _ _ _ | show rQ _ _ _ _ _ _ _ _ _ _ | show PJ _ _ _ _ | show CF _ _ _ | show CG _ _ _ | show pQ _ _ _ _ _ | show wG _ _ _ _ _ | show sE _ _ _ _ _ | show pW _ _ _ _ _ | show Am _ _ _ _ _ | assumption | exact PassesOwn.never | exact PySem.boot_len | exact Wt | exact Wr | exact Mh | exact Fp | exact Mi | exact Ms | exact Ws | exact DZ | exact U5 | exact FJ | exact WD | exact XD | exact MQ | exact Dp | exact XB | exact VI | exact hr.units | exact WC | exact WB | exact WA | exact VZ | exact Mg | exact O0 | exact UX | exact aK | exact mE | exact VC | exact VB | exact WJ | exact EX | exact XV | exact VA | exact UZ | exact UY | exact IC | exact aI | exact Hf | exact UT | exact EK) | exact B7 rfl | exact E7 rfl | assumption | exact uB rfl | exact wD rfl rfl | exact Or.inl rfl | exact Or.inr rfl | exact hr.mono (by decide) | exact hr.mono (Nat.le_refl _) | rfl | exact (Dz rfl) | exact (Fs rfl) | exact (BN rfl) | exact (IE rfl rfl) | exact (Ib (by assumption) (by rfl')) | exact (aE (Nh (IF (by decide)) (Nh (IF (by decide)) aD))) | exact (IF (by decide)) | exact (l0 _) | exact g9.units (by assumption) | exact Mg | exact g9.mono (by assumption) (by decide) | exact g9.mono (by assumption) (by omega) | exact fun _ _=>rfl | exact fun _=>rfl | exact fun _ _ _ _=>rfl | (intro _;rfl) | decide | with_unfolding_all rfl | rfl')
local macro_rules
 | `(tactic| k_types)=>`(tactic| ((with_reducible show kQ _ _ _);first | exact (oS hr.units) | exact (oS (g9.units (by assumption))) | exact (mD hr.units) | exact (mD (g9.units (by assumption))) | exact (Cz hr.units) | exact (Cz (g9.units (by assumption))) | exact aH | exact N9 | exact TM | exact aJ | exact TY | exact TV | exact UI | exact TZ | exact TU | exact TR | exact TN | exact IB | exact UJ | exact HV | exact TJ))
local macro_rules
 | `(tactic| exists $t)=>`(tactic| (((intros;refine' $t) <;> try k_units) <;> try k_types))
local macro_rules
 | `(tactic| injections $xs*)=>do
  let mut r ← `(tactic| skip)
  let w:=("A C5 B3 B B3 C4 C D5 G7 D E5 B5 E C9 F8 F D9 B3 G A D2 H C1 C4 I B3 B5 J C9 K7 K L5 B3 L E1 A M R7 B3 N B5 M0 O B5 B P T4 G8 Q J5 B3 R B5 E6 S K4 B5 T K G8 U C9 R5 V C1 B5 W U7 R3 X K9 U5 Y L G Z C1 B3 a B5 D b E6 W0 c T R6 d E6 S e V4 I f Z0 AI g E5 C4 h D5 Bu i D H j K6 C k B5 I l BH P m P BG n Q C1 o B3 B3 p BC J5 q D9 D9 r D5 F8 s BE C1 t C9 Bv u AS B3 v E1 C5 w M7 D2 x D9 C1 y N0 C4".splitOn " ").map String.toName
  let m:=(List.range 51).foldl (fun m i=>m.insert w[3*i]! [w[3*i+1]!,w[3*i+2]!]) ({}:Lean.NameMap (List Lean.Name))
  let mut ns:List Lean.Name:=(xs.map fun x=>x.raw.getId).toList
  for _ in [0:3] do ns:=ns.flatMap fun n=>(m.find? n).getD [n]
  for n in ns do
   let t:Lean.TSyntax `term:=⟨(Lean.mkIdent n).raw⟩
   let h ← `(?_)
   let hs:Array (Lean.TSyntax `term):=Array.replicate (if [`DZ,`U5,`FJ,`D2,`IP,`N0,`NV,`Me,`C1,`AH,`C4,`IM,`BG,`R6,`BF,`K6,`Fu,`Nm].contains n then 0 else if [`PA.nox,`PE.nox,`PT.nox,`Nc,`Nq,`B3,`BD,`Hg,`E6,`Bq,`M0,`E5,`L5,`Dy,`K4,`D5,`G7,`Bu,`AW,`IQ,`U7,`Z0,`FR,`BC,`GI].contains n then 1 else if [`Fz,`Br,`AS,`C9,`IJ,`R3,`FT,`AI,`GJ].contains n then 2 else if [`C5,`M7,`Nd,`Fo,`T3,`B5,`Hn,`T4,`K7,`IL,`Fv].contains n then 3 else if [`EM,`D9,`Ij,`BE,`GD,`BH,`Dt,`Nb].contains n then 4 else if [`Cb,`Ii,`G8,`MF,`Fm,`Ch,`GB,`J5].contains n then 5 else if [`R5,`F8,`Bv].contains n then 6 else if [`NU,`E1,`Ng,`NL,`NB,`IS,`W0,`R0,`FX].contains n then 7 else if [`MA,`V4,`ER,`OT,`Ds,`Fw].contains n then 8 else if [`K9,`Cf,`R7,`Ci].contains n then 10 else if [`OD,`Io].contains n then 11 else 16) h
   r ← if hs.isEmpty then `(tactic| ($r:tactic;(intros;exact $t))) else `(tactic| ($r:tactic;((intros;refine' $t $hs*) <;> try k_units) <;> try k_types))
  return r
set_option hygiene true
theorem bR:c4 ["thing"] ["thing"] (E8 JK):=K2
def bT:Mo Fl:=(E2 (X3 (nB "int" (A0 0)) (FU (nB "bool" (A0 0)))))
def AZ:Fn:=kJ 1 bT
theorem bU{f:Addr}{fd:FuncData}(F:kM K "is_whole" "is_whole" JK f fd)(T:Txt K mg):f6 P w K mg base kF 1 f fd ["thing"] (k7 K 1 AZ):=
 K8 F bR fun cdv A outer s H E hr=>(by cases T;injections C Br M Bq Hg M)
theorem bV:c4 ["thing","least","greatest"] ["thing","least","greatest"] (E8 JL):=K2
def bW:Mo Fl:=(E2 (X3 (c9 1 AZ (B4 (A0 0) B9)) (FV tX tX (A0 1) (A0 0) (A0 2))))
def Ej:Fn:=kJ 3 bW
theorem bY{f:Addr}{fd:FuncData}(F:kM K "is_within" "is_within" JL f fd)(T:Txt K mg)(lF:Def P w K mg base "is_whole" 1 1 AZ):f6 P w K mg base kF 2 f fd ["thing","least","greatest"] (k7 K 3 Ej):=
 K8 F bV fun cdv A outer s H E hr=>(by cases T;injections C Br E1 G Bq MA o B3)
theorem bZ:c4 ["thing","width"] ["thing","width"] (E8 JM):=K2
theorem wQ:(["-0","-1","number"]:List Str).Nodup:=by rfl'
def KM:Mo Fl:=(C6 (F3 (L4 (K0 (mT (nB "tuple" (A0 0)))) (mT (B8 (j7 true) (i5 J7 (B0 (A0 0) B6)) (A0 1)))) (E2 (mC (.bl false))) kO) (E2 (i5 AQ (B0 (mF (G9 (F4 (A0 0)) [false,false] 1 (gN 2) J0 (c9 1 AZ (B4 (A0 2) B9)))) B6))))
def Ax:Fn:=kJ 2 KM
theorem cA{f:Addr}{fd:FuncData}(F:kM K "is_row" "is_row" JM f fd)(T:Txt K mg)(lF:Def P w K mg base "is_whole" 1 1 AZ):f6 P w K mg base kF 2 f fd ["thing","width"] (k7 K 2 Ax):=
 K8 F bZ fun cdv A outer s H E hr=>(by have n0:=wQ;cases T;injections J f W M p X O B3 C N0 j K9;exists (Dz rfl);injections R;exists (R0 (N':=["-0","-1","number"]) (keep:=[false,false]) (more:=1) ?_ ?_ ?_ ?_ ?_ ?_ ?_);injections c E1 G C4)
theorem cB:c4 ["thing","many","width"] ["thing","many","width"] (E8 JN):=K2
theorem wR:(["-0","-1","width","row"]:List Str).Nodup:=by rfl'
def Ek:Mo Fl:=(C6 (F3 (L4 (K0 (mT (nB "tuple" (A0 0)))) (mT (B8 (j7 true) (i5 J7 (B0 (A0 0) B6)) (A0 1)))) (E2 (mC (.bl false))) kO) (E2 (i5 AQ (B0 (mF (G9 (F4 (A0 0)) [false,false,true] 1 (gN 3) J0 (c9 2 Ax (B4 (A0 3) (B4 (A0 2) B9))))) B6))))
def Gg:Fn:=kJ 3 Ek
theorem cC{f:Addr}{fd:FuncData}(F:kM K "is_grid" "is_grid" JN f fd)(T:Txt K mg)(oF:Def P w K mg base "is_row" 2 2 Ax):f6 P w K mg base kF 3 f fd ["thing","many","width"] (k7 K 3 Gg):=
 K8 F cB fun cdv A outer s H E hr=>(by have n0:=wR;cases T;injections J f W M p X O B3 C N0 j K9;exists (Dz rfl);injections R;exists (R0 (N':=["-0","-1","width","row"]) (keep:=[false,false,true]) (more:=1) ?_ ?_ ?_ ?_ ?_ ?_ ?_);injections c Y C4)
theorem Og:c4 ["thing","least","greatest","name"] ["thing","least","greatest","name"] (E8 GZ):=K2
def cD:Mo Fl:=(F3 (K0 (mT (c9 3 Ej (B4 (A0 0) (B4 (A0 1) (B4 (A0 2) B9)))))) AJ kO)
def CM:Fn:=kJ 4 cD
theorem cE{f:Addr}{fd:FuncData}(F:kM K "must_be_within" "must_be_within" GZ f fd)(T:Txt K mg)(kR:Def P w K mg base "is_within" 2 3 Ej):f6 P w K mg base kF 3 f fd ["thing","least","greatest","name"] (k7 K 4 CM):=
 K8 F Og fun cdv A outer s H E hr=>(by cases T;injections D5 K7 W L A G D5 BF K6)
def cF:Mx:=(pR (K0 (mT (c9 3 Ej (B4 (A0 0) (B4 (A0 1) (B4 (A0 2) B9)))))) (EN "NoNumber" (B0 (Ni (B0 (mC (.str "the ")) (B0 (A0 3) (B0 (mC (.str " must be a whole number from ")) (B0 (A0 1) (B0 (mC (.str " to ")) (B0 (A0 2) B6))))))) B6)) nO)
def DL:List W->Option Str:=rP 4 cF
theorem cG{f:Addr}{fd:FuncData}(F:kM K "must_be_within" "must_be_within" GZ f fd)(T:Txt K mg)(kR:Def P w K mg base "is_within" 2 3 Ej):f6 P w K mg base (nD P w) 3 f fd ["thing","least","greatest","name"] (pX K 4 DL):=
 EU F Og fun cdv A outer s H E hr=>(by cases T;injections AW Fv PT.nox W L A G AW Fw PA.nox B5 Nq GI GJ B3 GI GJ B3 GI GJ B3 Nm C4 Fu)
theorem Oh:c4 ["number","product","factor"] ["number"] (E8 JO):=K2
def cH:Mo Fl:=(C6 (D0 1 (mC (.int 1))) (C6 (M6 (ME (B0 (mC (.int 2)) (B0 (B8 D7 (A0 0) (mC (.int 1))) B6))) (gN 2) (Dq 1 GK (A0 2))) (E2 (A0 1))))
def Gh:Fn:=kJ 3 cH
theorem cI{f:Addr}{fd:FuncData}(F:kM K "factorial" "factorial" JO f fd)(T:Txt K mg):f6 P w K mg base kF 1 f fd ["number"] (k7 K 1 Gh):=
 K8 F Oh fun cdv A outer s H E hr=>(by have n0:=Oh.nd;cases T;injections E C1 U MF B5 V F H G8 D5 FX B3 C B3)
theorem Oi:c4 ["side","top","bottom","at"] ["side"] (E8 JP):=K2
def cJ:Mo Fl:=(C6 (D0 1 (mC (.int 1))) (C6 (D0 2 (mC (.int 1))) (C6 (M6 (AM (B0 (A0 0) B6)) (gN 3) (C6 (Dq 1 GK (c9 1 Gh (B4 (B8 D7 (B8 M5 (mC (.int 3)) (A0 3)) (mC (.int 1))) B9))) (Dq 2 GK (c9 1 Gh (B4 (B8 D7 (A0 0) (A0 3)) B9))))) (E2 (B8 CD (A0 1) (A0 2))))))
def Y3:Fn:=kJ 4 cJ
theorem cK{f:Addr}{fd:FuncData}(F:kM K "counted" "counted" JP f fd)(T:Txt K mg)(mX:Def P w K mg base "factorial" 1 1 Gh):f6 P w K mg base kF 2 f fd ["side"] (k7 K 1 Y3):=
 K8 F Oi fun cdv A outer s H E hr=>(by have n0:=Oi.nd;cases T;injections E C1 E C1 U Dt O G8 C9 FX v q Z C1 D2 D5 FX v F B3 D2 C F B3)
theorem Oj:c4 ["sums","rows","above"] ["sums"] (E8 JQ):=K2
theorem wU:(["-0","-1","-2","row"]:List Str).Nodup:=by rfl'
theorem wV:(["-0","-1","above","row","number"]:List Str).Nodup:=by rfl'
def cL:Mo Fl:=(C6 (D0 1 (mF (F7 (B0 (D1 B6) B6)))) (C6 (M6 (F4 (A0 0)) (gN 2) (O7 1 (CB (F4 (A0 1)) [false,false,true] 2 (gN 3) J0 (uD (F4 (D1 (B0 (T2 (mC (.int 1))) (B0 (mC (.int 0)) (B0 (mC (.int 1)) B6))))) (gN 4) (Ce (mT (B8 (rL false) (B8 D7 (A0 2) (A0 4)) (D1 (B0 (mC (.int 0)) (B0 (mC (.int 1)) B6))))) (mT (B8 (rL false) (B8 D7 (i5 P7 (B0 (A0 3) B6)) (A0 4)) (D1 (B0 (mC (.int 0)) (B0 (mC (.int 1)) B6)))))) (W4 (B8 D7 (A0 3) (D1 (B0 (A0 4) B6)))))))) (AK (G9 (F4 (A0 1)) [false,false,false] 1 (gN 3) (mT (B8 (j7 false) (i5 P7 (B0 (A0 3) B6)) (mC (.int 1)))) (A0 3)))))
def U3:Fn:=kJ 3 cL
theorem cM{f:Addr}{fd:FuncData}(F:kM K "rows_on" "rows_on" JQ f fd)(T:Txt K mg):f6 P w K mg base kF 1 f fd ["sums"] (k7 K 1 U3):=
 K8 F Oj fun cdv A outer s H E hr=>(by have n0:=wU;have n1:=wV;have n2:=Oj.nd;cases T;injections E d g C4 U T D5;exists (Io (N':=["-0","-1","above","row","number"]) (keep:=[false,false,true]) (more:=2) ?_ ?_ ?_ ?_ ?_ ?_ ?_ ?_ ?_ ?_ ?_);injections c NU L5 D BD V V H G8 Dy Z0 FT J5 F B3 D V H FR J5 D9 K9;exists (BN rfl);injections O B3 D V H Fz F D B h;exists (R0 (N':=["-0","-1","-2","row"]) (keep:=[false,false,false]) (more:=1) ?_ ?_ ?_ ?_ ?_ ?_ ?_);injections T Dy J5 K9;exists (BN rfl);injections O Z)
theorem cN:c4 ["sums","row"] ["sums","row"] (E8 JR):=K2
theorem wW:(["-0","-1","above","number"]:List Str).Nodup:=by rfl'
def KN:Mo Fl:=(E2 (i5 Hl (B0 (mF (G9 (Al (B0 (A0 0) (B0 (A0 1) B6))) [false,false] 2 (gT 2 (mS (gN 2) (mS (gN 3) oR))) J0 (B8 D7 (A0 2) (A0 3)))) B6)))
def Y4:Fn:=kJ 2 KN
theorem cO{f:Addr}{fd:FuncData}(F:kM K "added" "added" JR f fd)(T:Txt K mg):f6 P w K mg base kF 1 f fd ["sums","row"] (k7 K 2 Y4):=
 K8 F cN fun cdv A outer s H E hr=>(by have n0:=wW;cases T;injections C Cf FJ R;exists (R0 (N':=["-0","-1","above","number"]) (keep:=[false,false]) (more:=2) ?_ ?_ ?_ ?_ ?_ ?_ ?_);injections Fm k B l m R6 F B)
theorem cP:c4 ["sums","known"] ["sums","known"] (E8 Ga):=K2
theorem wX:(["sums","known","row"]:List Str).Nodup:=by rfl'
def KO(r_:Fn):Mo Fl:=(AK (G9 (F4 (mF (M3 1 U3 (B4 (A0 0) B9)))) [true,true] 1 (gN 2) J0 (D1 (B0 (A0 2) (B0 (c9 2 r_ (B4 (c9 2 Y4 (B4 (A0 0) (B4 (A0 2) B9))) (G0 1 B9))) B6)))))
def Aa(r_:Fn):Fn:=kJ 2 (KO r_)
theorem Ol{f:Addr}{fd:FuncData}{k_:Nat}{r_:Fn}(F:kM K "choices_on" "choices_on" Ga f fd)(T:Txt K mg)(g6:Def P w K mg base "rows_on" 1 1 U3)(j0:Def P w K mg base "added" 1 2 Y4)(hk_:1≤k_)(i3:Def P w K mg base "ways_on" k_ 2 r_):f6 P w K mg base kF (k_+1) f fd ["sums","known"] (k7 K 2 (Aa r_)):=
 K8 F cP fun cdv A outer s H E hr=>(by have n0:=wX;cases T;injections h;exists (R0 (N':=["sums","known","row"]) (keep:=[true,true]) (more:=1) ?_ ?_ ?_ ?_ ?_ ?_ ?_);injections L5 b G G8 R6 D I v Y w C4)
theorem cQ:c4 ["sums","known"] ["sums","known"] (E8 JS):=K2
theorem wY:(["-0","-1","row","ways"]:List Str).Nodup:=by rfl'
def Ay(r_:Fn):Mo Fl:=(C6 (F3 (mT (B8 (rL true) (mC (.int 0)) (A0 0))) (E2 (mC (.int 1))) kO) (C6 (F3 (mT (DC true 1 (A0 0))) (Q4 (i5 P7 (B0 (mF (G9 (F4 (mF (M3 2 (Aa r_) (B4 (A0 0) (G0 1 B9))))) [false,false] 2 (gT 2 (mS (gN 2) (mS (gN 3) oR))) J0 (A0 3))) B6)) (qJ 1 (A0 0))) kO) (E2 (GC 1 (A0 0)))))
def M4:Nat->Fn
 |0=>fun _=>none
 |n_+1=>kJ 2 (Ay (M4 n_))
theorem Om{f f2:Addr}{fd fd2:FuncData}(F:kM K "ways_on" "ways_on" JS f fd)(F2:kM K "choices_on" "choices_on" Ga f2 fd2)(T:Txt K mg)(g6:Def P w K mg base "rows_on" 1 1 U3)(j0:Def P w K mg base "added" 1 2 Y4)(hmg:mg "ways_on"=some (.ref f))(hkp:PySem.W.keepIn K (.ref f)=true)(hbd:O6 K fd ["sums","known"] [])(hmg2:mg "choices_on"=some (.ref f2))(hkp2:PySem.W.keepIn K (.ref f2)=true)(hbd2:O6 K fd2 ["sums","known"] []):∀n_:Nat,f6 P w K mg base kF (1+2 * n_) f fd ["sums","known"] (k7 K 2 (M4 n_))
 |0=>Mt
 |n_+1=>by
  have i3:Def P w K mg base "ways_on" (1+2 * n_) 2 (M4 n_):=⟨_,_,_,Om F F2 T g6 j0 hmg hkp hbd hmg2 hkp2 hbd2 n_,rfl,hmg,hkp,hbd⟩
  have kA:Def P w K mg base "choices_on" (1+2 * n_+1) 2 (Aa (M4 n_)):=⟨_,_,_,Ol F2 T g6 j0 (by omega) i3,rfl,hmg2,hkp2,hbd2⟩
  exact(show f6 P w K mg base kF (1+2 * n_+1+1) f fd ["sums","known"] (k7 K 2 (M4 (n_+1)))from K8 F cQ fun cdv A outer s H E hr=>(by have n0:=wY;cases T;injections J J5 Z C C1 K6 J Nb B3 D5 Ch K9;exists (BN rfl);injections R;exists (R0 (N':=["-0","-1","row","ways"]) (keep:=[false,false]) (more:=2) ?_ ?_ ?_ ?_ ?_ ?_ ?_);injections L5 b A w l m R6 B GD B3 j Ii B3))
theorem cR:c4 ["thing","width"] ["thing","width"] (E8 JT):=K2
def KP:Mo Fl:=(E2 (X3 (nB "tuple" (A0 0)) (c9 3 Gg (B4 (A0 0) (B4 (i5 J7 (B0 (A0 0) B6)) (B4 (A0 1) B9))))))
def BX:Fn:=kJ 2 KP
theorem cT{f:Addr}{fd:FuncData}(F:kM K "is_rows" "is_rows" JT f fd)(T:Txt K mg)(nI:Def P w K mg base "is_grid" 3 3 Gg):f6 P w K mg base kF 4 f fd ["thing","width"] (k7 K 2 BX):=
 K8 F cR fun cdv A outer s H E hr=>(by cases T;injections C Br M Bq L C5 X O G)
theorem BY:c4 ["side","rows","sums","row"] ["side","rows"] (E8 Gb):=K2
def KQ:Mo Fl:=(C6 (Ct (c9 4 CM (B4 (A0 0) (B4 (mC (.int 1)) (B4 (mC (.int 6)) (B4 (mC (.str "side")) B9)))))) (C6 (F3 (K0 (mT (c9 2 BX (B4 (A0 1) (B4 (A0 0) B9))))) AJ kO) (C6 (D0 2 (B8 M5 (D1 (B0 (mC (.int 0)) B6)) (A0 0))) (C6 (M6 (F4 (A0 1)) (gN 3) (C6 (F3 (mT (B8 (Y0 true) (A0 3) (mF (M3 1 U3 (B4 (A0 2) B9))))) AJ kO) (D0 2 (c9 2 Y4 (B4 (A0 2) (B4 (A0 3) B9)))))) (E2 (A0 2))))))
def Ab:Fn:=kJ 4 KQ
theorem cU{f:Addr}{fd:FuncData}(F:kM K "sums_behind" "sums_behind" Gb f fd)(T:Txt K mg)(i6:Def P w K mg base "must_be_within" 3 4 CM)(kN:Def P w K mg base "is_rows" 4 2 BX)(j0:Def P w K mg base "added" 1 2 Y4)(g6:Def P w K mg base "rows_on" 1 1 U3):f6 P w K mg base kF 5 f fd ["side","rows"] (k7 K 2 Ab):=
 K8 F BY fun cdv A outer s H E hr=>(by have n0:=BY.nd;cases T;injections C9 IJ L C5 C1 C5 Fo C5 M0 D2 J W Y D5 BF K6 E D9 i B3 U T J Q b G D5 BF K6 r Y C B3)
def CN:Mx:=(Q9 (Ao 4 DL (B4 (A0 0) (B4 (mC (.int 1)) (B4 (mC (.int 6)) (B4 (mC (.str "side")) B9))))) (Ct (c9 4 CM (B4 (A0 0) (B4 (mC (.int 1)) (B4 (mC (.int 6)) (B4 (mC (.str "side")) B9)))))) (Q9 (pR (K0 (mT (c9 2 BX (B4 (A0 1) (B4 (A0 0) B9))))) (EN "NoRows" (B0 (mC (.str "first rows are a tuple of rows as wide as the side")) B6)) nO) (F3 (K0 (mT (c9 2 BX (B4 (A0 1) (B4 (A0 0) B9))))) AJ kO) (Q9 nO (D0 2 (B8 M5 (D1 (B0 (mC (.int 0)) B6)) (A0 0))) (Q9 (GU (F4 (A0 1)) (gN 3) (Q9 (pR (mT (B8 (Y0 true) (A0 3) (mF (M3 1 U3 (B4 (A0 2) B9))))) (EN "NoRows" (B0 (mC (.str "no table of the side begins with these rows")) B6)) nO) (F3 (mT (B8 (Y0 true) (A0 3) (mF (M3 1 U3 (B4 (A0 2) B9))))) AJ kO) nO) (C6 (F3 (mT (B8 (Y0 true) (A0 3) (mF (M3 1 U3 (B4 (A0 2) B9))))) AJ kO) (D0 2 (c9 2 Y4 (B4 (A0 2) (B4 (A0 3) B9)))))) (M6 (F4 (A0 1)) (gN 3) (C6 (F3 (mT (B8 (Y0 true) (A0 3) (mF (M3 1 U3 (B4 (A0 2) B9))))) AJ kO) (D0 2 (c9 2 Y4 (B4 (A0 2) (B4 (A0 3) B9)))))) nO))))
def R9:List W->Option Str:=rP 4 CN
theorem cV{f:Addr}{fd:FuncData}(F:kM K "sums_behind" "sums_behind" Gb f fd)(T:Txt K mg)(i6:Def P w K mg base "must_be_within" 3 4 CM)(kN:Def P w K mg base "is_rows" 4 2 BX)(j0:Def P w K mg base "added" 1 2 Y4)(g6:Def P w K mg base "rows_on" 1 1 U3)(kC:m8 P w K mg base "must_be_within" 3 4 DL):f6 P w K mg base (nD P w) 5 f fd ["side","rows"] (pX K 2 R9):=
 EU F BY fun cdv A outer s H E hr=>(@BP _ _ _ _ _ _ _ _ (@XF _ _ _ _ _ _ (@ER _ _ _ _ _ _ _ _ _ _ _ _ (by exact EK) (by exact kC) (by exact(hr.mono (show 3≤4 by decide))) (by exact rfl) (by exact(PA.nox (@C5 _ _ _ _ _ _ (@B3 _ _ _ _ _ (pv 0)) (@C5 _ _ _ _ _ _ (@C1 _ _ _ _ _) (@C5 _ _ _ _ _ _ (@Fo _ _ _ _ _ (by exact rfl) (by exact T.c_GREATEST_SIDE) (by decide)) (@C5 _ _ _ _ _ _ (@M0 _ _ _ _ _ (by decide)) (@D2 _ _) (by exact B7 rfl)) (by exact B7 rfl)) (by exact B7 rfl)) (by exact B7 rfl)))) (by decide) (by exact B7 rfl) (by exact E7 rfl)) (by rfl)) (by exact(PS.nox (@IJ _ _ _ _ _ (@E1 _ _ _ _ _ _ _ _ _ _ _ (by exact i6) (by exact(hr.mono (show 3≤4 by decide))) (by exact rfl) (@C5 _ _ _ _ _ _ (@B3 _ _ _ _ _ (pv 0)) (@C5 _ _ _ _ _ _ (@C1 _ _ _ _ _) (@C5 _ _ _ _ _ _ (@Fo _ _ _ _ _ (by exact rfl) (by exact T.c_GREATEST_SIDE) (by decide)) (@C5 _ _ _ _ _ _ (@M0 _ _ _ _ _ (by decide)) (@D2 _ _) (by exact B7 rfl)) (by exact B7 rfl)) (by exact B7 rfl)) (by exact B7 rfl)) (by decide) (by exact B7 rfl) (by exact E7 rfl)) (by rfl)))) (@BP _ _ _ _ _ _ _ _ (@Fv _ _ _ _ _ _ _ _ _ _ (by exact(PT.nox (@U7 _ _ _ _ _ (@R3 _ _ _ _ (@E1 _ _ _ _ _ _ _ _ _ _ _ (by exact kN) (by exact(hr.mono (show 4≤4 by decide))) (by exact rfl) (@C5 _ _ _ _ _ _ (@B3 _ _ _ _ _ (pv 1)) (@C5 _ _ _ _ _ _ (@B3 _ _ _ _ _ (pv 0)) (@D2 _ _) (by exact B7 rfl)) (by exact B7 rfl)) (by decide) (by exact B7 rfl) (by exact E7 rfl)) (by intro _;rfl))))) (@AW _ _ _ _ _ (@Fw _ _ _ _ _ _ _ _ _ _ (by exact EK) (by exact rfl) (by exact(Ib T.ex (by rfl'))) (by exact rfl) (by exact(PA.nox (@B5 _ _ _ _ _ _ (@M0 _ _ _ _ _ (by decide)) (@C4 _ _) (by exact B7 rfl)))) (by exact B7 rfl) (by exact E7 rfl) (by decide))) (@Fu _ _ _)) (by exact(PS.nox (@K7 _ _ _ _ _ _ _ _ _ (@U7 _ _ _ _ _ (@R3 _ _ _ _ (@E1 _ _ _ _ _ _ _ _ _ _ _ (by exact kN) (by exact(hr.mono (show 4≤4 by decide))) (by exact rfl) (@C5 _ _ _ _ _ _ (@B3 _ _ _ _ _ (pv 1)) (@C5 _ _ _ _ _ _ (@B3 _ _ _ _ _ (pv 0)) (@D2 _ _) (by exact B7 rfl)) (by exact B7 rfl)) (by decide) (by exact B7 rfl) (by exact E7 rfl)) (by intro _;rfl))) (@D5 _ _ _ _ (@BF _ _ _)) (@K6 _ _)))) (@BP _ _ _ _ _ _ _ _ (@Cv _ _ _ _) (by exact(PS.nox (@F8 _ _ _ _ _ 2 _ _ (by exact BY.nd) (by exact rfl) (by first|exact Or.inl rfl|exact Or.inr rfl) (@D9 _ _ _ _ _ _ _ _ _ _ (by exact IB) (by exact IC) (@E5 _ _ _ _ _ _ (@B5 _ _ _ _ _ _ (@C1 _ _ _ _ _) (@C4 _ _) (by exact B7 rfl))) (@B3 _ _ _ _ _ (pv 0))) (by rfl) (by first|exact .inl rfl|exact .inr rfl|assumption)))) (@BP _ _ _ _ _ _ _ _ (@bF _ _ _ _ _ _ _ _ _ _ _ (by exact PassesOwn.leaving) (by exact rfl) (by exact(PI.nox (@L5 _ _ _ _ _ (@B3 _ _ _ _ _ (pv 1))))) (by exact(PG.nox (@G8 _ _ _ _ 3 _ (by exact(show 0≤3 by decide)) (by exact BY.nd) (by exact rfl) (by first|exact Or.inl rfl|exact Or.inr rfl) (by first|exact .inl rfl|exact .inr rfl|assumption)))) (by exact(m9.nox (@C9 _ _ _ _ _ _ (@K7 _ _ _ _ _ _ _ _ _ (@J5 _ _ _ _ _ _ _ _ _ _ (by exact(Cz hr.units)) (by exact EX) (@B3 _ _ _ _ _ (pv 3)) (@E6 _ _ _ _ (@W0 _ _ _ _ _ _ _ _ _ _ _ (by exact g6) (by exact(hr.mono (show 1≤4 by decide))) (by exact rfl) (@C5 _ _ _ _ _ _ (@B3 _ _ _ _ _ (pv 2)) (@D2 _ _) (by exact B7 rfl)) (by decide) (by exact B7 rfl) (by exact E7 rfl))) (by with_unfolding_all rfl)) (@D5 _ _ _ _ (@BF _ _ _)) (@K6 _ _)) (@D5 _ _ _ _ (@F8 _ _ _ _ _ 2 _ _ (by exact BY.nd) (by exact rfl) (by first|exact Or.inl rfl|exact Or.inr rfl) (@E1 _ _ _ _ _ _ _ _ _ _ _ (by exact j0) (by exact(hr.mono (show 1≤4 by decide))) (by exact rfl) (@C5 _ _ _ _ _ _ (@B3 _ _ _ _ _ (pv 2)) (@C5 _ _ _ _ _ _ (@B3 _ _ _ _ _ (pv 3)) (@D2 _ _) (by exact B7 rfl)) (by exact B7 rfl)) (by decide) (by exact B7 rfl) (by exact E7 rfl)) (by rfl) (by first|exact .inl rfl|exact .inr rfl|assumption)))))) (@BP _ _ _ _ _ _ _ _ (@Fv _ _ _ _ _ _ _ _ _ _ (by exact(PT.nox (@J5 _ _ _ _ _ _ _ _ _ _ (by exact(Cz hr.units)) (by exact EX) (@B3 _ _ _ _ _ (pv 3)) (@E6 _ _ _ _ (@W0 _ _ _ _ _ _ _ _ _ _ _ (by exact g6) (by exact(hr.mono (show 1≤4 by decide))) (by exact rfl) (@C5 _ _ _ _ _ _ (@B3 _ _ _ _ _ (pv 2)) (@D2 _ _) (by exact B7 rfl)) (by decide) (by exact B7 rfl) (by exact E7 rfl))) (by with_unfolding_all rfl)))) (@AW _ _ _ _ _ (@Fw _ _ _ _ _ _ _ _ _ _ (by exact EK) (by exact rfl) (by exact(Ib T.ex (by rfl'))) (by exact rfl) (by exact(PA.nox (@B5 _ _ _ _ _ _ (@M0 _ _ _ _ _ (by decide)) (@C4 _ _) (by exact B7 rfl)))) (by exact B7 rfl) (by exact E7 rfl) (by decide))) (@Fu _ _ _)) (by exact(PS.nox (@K7 _ _ _ _ _ _ _ _ _ (@J5 _ _ _ _ _ _ _ _ _ _ (by exact(Cz hr.units)) (by exact EX) (@B3 _ _ _ _ _ (pv 3)) (@E6 _ _ _ _ (@W0 _ _ _ _ _ _ _ _ _ _ _ (by exact g6) (by exact(hr.mono (show 1≤4 by decide))) (by exact rfl) (@C5 _ _ _ _ _ _ (@B3 _ _ _ _ _ (pv 2)) (@D2 _ _) (by exact B7 rfl)) (by decide) (by exact B7 rfl) (by exact E7 rfl))) (by with_unfolding_all rfl)) (@D5 _ _ _ _ (@BF _ _ _)) (@K6 _ _)))) (@AW _ _ _ _ _ (@Cv _ _ _ _))) (by intro _;rfl)) (by exact(PS.nox (@R5 _ _ _ _ _ _ _ _ _ (by exact Vz) (by exact rfl) (@L5 _ _ _ _ _ (@B3 _ _ _ _ _ (pv 1))) (@G8 _ _ _ _ 3 _ (by exact(show 0≤3 by decide)) (by exact BY.nd) (by exact rfl) (by first|exact Or.inl rfl|exact Or.inr rfl) (by first|exact .inl rfl|exact .inr rfl|assumption)) (@C9 _ _ _ _ _ _ (@K7 _ _ _ _ _ _ _ _ _ (@J5 _ _ _ _ _ _ _ _ _ _ (by exact(Cz hr.units)) (by exact EX) (@B3 _ _ _ _ _ (pv 3)) (@E6 _ _ _ _ (@W0 _ _ _ _ _ _ _ _ _ _ _ (by exact g6) (by exact(hr.mono (show 1≤4 by decide))) (by exact rfl) (@C5 _ _ _ _ _ _ (@B3 _ _ _ _ _ (pv 2)) (@D2 _ _) (by exact B7 rfl)) (by decide) (by exact B7 rfl) (by exact E7 rfl))) (by with_unfolding_all rfl)) (@D5 _ _ _ _ (@BF _ _ _)) (@K6 _ _)) (@D5 _ _ _ _ (@F8 _ _ _ _ _ 2 _ _ (by exact BY.nd) (by exact rfl) (by first|exact Or.inl rfl|exact Or.inr rfl) (@E1 _ _ _ _ _ _ _ _ _ _ _ (by exact j0) (by exact(hr.mono (show 1≤4 by decide))) (by exact rfl) (@C5 _ _ _ _ _ _ (@B3 _ _ _ _ _ (pv 2)) (@C5 _ _ _ _ _ _ (@B3 _ _ _ _ _ (pv 3)) (@D2 _ _) (by exact B7 rfl)) (by exact B7 rfl)) (by decide) (by exact B7 rfl) (by exact E7 rfl)) (by rfl) (by first|exact .inl rfl|exact .inr rfl|assumption)))) (by intro _;rfl)))) (@AW _ _ _ _ _ (@Cv _ _ _ _))))))
theorem Oo:c4 ["top","bottom","common","rest"] ["top","bottom"] (E8 JU):=K2
def KR:Mo Fl:=(C6 (AL 2 3 (B0 (A0 0) (B0 (A0 1) B6))) (C6 (IK 60 (mT (B8 qV (A0 3) (mC (.int 0)))) (AL 2 3 (B0 (A0 3) (B0 (B8 R1 (A0 2) (A0 3)) B6)))) (E2 (D1 (B0 (B8 CD (A0 0) (A0 2)) (B0 (B8 CD (A0 1) (A0 2)) B6))))))
def Ac:Fn:=kJ 4 KR
theorem cW{f:Addr}{fd:FuncData}(F:kM K "fraction" "fraction" JU f fd)(T:Txt K mg):f6 P w K mg base kF 1 f fd ["top","bottom"] (k7 K 2 Ac):=
 K8 F Oo fun cdv A outer s H E hr=>(by have n0:=Oo.nd;cases T;injections C9;exists (Ci (i:=2) (j:=3) ?_ ?_ ?_ ?_ ?_ ?_ ?_ ?_ ?_ ?_);injections k B C9 IL n D5;exists (Ci (i:=2) (j:=3) ?_ ?_ ?_ ?_ ?_ ?_ ?_ ?_ ?_ ?_);injections k F B C D F I F B)
theorem Oq:c4 ["side","rows"] ["side","rows"] (E8 Gd):=K2
def KS:Mo Fl:=(E2 (GF 2 (M4 8) (B0 (c9 2 Ab (B4 (A0 0) (B4 (A0 1) B9))) B6)))
def O1:Fn:=kJ 2 KS
theorem cX{f:Addr}{fd:FuncData}(F:kM K "many_so" "many_so" Gd f fd)(T:Txt K mg)(i3:Def P w K mg base "ways_on" 17 2 (M4 8))(g0:Def P w K mg base "sums_behind" 5 2 Ab):f6 P w K mg base kF 18 f fd ["side","rows"] (k7 K 2 O1):=
 K8 F Oq fun cdv A outer s H E hr=>(by cases T;injections C Ng Nd Y Nc)
def El:Mx:=(AV (Ao 2 R9 (B4 (A0 0) (B4 (A0 1) B9))) (c9 2 Ab (B4 (A0 0) (B4 (A0 1) B9))) (AV nO (mC .emp) nO))
def V6:List W->Option Str:=rP 2 El
theorem cY{f:Addr}{fd:FuncData}(F:kM K "many_so" "many_so" Gd f fd)(T:Txt K mg)(i3:Def P w K mg base "ways_on" 17 2 (M4 8))(g0:Def P w K mg base "sums_behind" 5 2 Ab)(i9:m8 P w K mg base "sums_behind" 5 2 R9):f6 P w K mg base (nD P w) 18 f fd ["side","rows"] (pX K 2 V6):=
 EU F Oq fun cdv A outer s H E hr=>(by cases T;injections AW IQ IS EM ER PA.nox A G PE.nox Y EM IM PE.nox Me IP)
theorem Ot:c4 ["side","rows"] ["side","rows"] (E8 Ge):=K2
def KU:Mo Fl:=(E2 (c9 2 Ac (B4 (c9 2 O1 (B4 (A0 0) (B4 (A0 1) B9))) (B4 (c9 1 Y3 (B4 (A0 0) B9)) B9))))
def P8:Fn:=kJ 2 KU
theorem cZ{f:Addr}{fd:FuncData}(F:kM K "share_so" "share_so" Ge f fd)(T:Txt K mg)(jX:Def P w K mg base "fraction" 1 2 Ac)(i8:Def P w K mg base "many_so" 18 2 O1)(lT:Def P w K mg base "counted" 2 1 Y3):f6 P w K mg base kF 19 f fd ["side","rows"] (k7 K 2 P8):=
 K8 F Ot fun cdv A outer s H E hr=>(by cases T;injections C v Y C5 E1 G D2)
def Em:Mx:=(AV (Ao 2 V6 (B4 (A0 0) (B4 (A0 1) B9))) (c9 2 O1 (B4 (A0 0) (B4 (A0 1) B9))) (AV nO (c9 1 Y3 (B4 (A0 0) B9)) nO))
def Y5:List W->Option Str:=rP 2 Em
theorem dA{f:Addr}{fd:FuncData}(F:kM K "share_so" "share_so" Ge f fd)(T:Txt K mg)(jX:Def P w K mg base "fraction" 1 2 Ac)(i8:Def P w K mg base "many_so" 18 2 O1)(lT:Def P w K mg base "counted" 2 1 Y3)(kE:m8 P w K mg base "many_so" 18 2 V6):f6 P w K mg base (nD P w) 19 f fd ["side","rows"] (pX K 2 Y5):=
 EU F Ot fun cdv A outer s H E hr=>(by cases T;injections AW IQ IS EM ER PA.nox A G PE.nox Y EM IM PE.nox E1 G IP)
theorem CO:c4 ["side","rows","sums","known","many"] ["side","rows"] (E8 Gf):=K2
theorem wZ:(["-0","-1","-2","-3","many","row","ways"]:List Str).Nodup:=by rfl'
def KW:Mo Fl:=(C6 (D0 2 (c9 2 Ab (B4 (A0 0) (B4 (A0 1) B9)))) (C6 (GA 3) (C6 (D0 4 (c9 2 (M4 8) (B4 (A0 2) (G0 3 B9)))) (AK (G9 (F4 (mF (M3 2 (Aa (M4 8)) (B4 (A0 2) (G0 3 B9))))) [false,false,false,false,true] 2 (gT 2 (mS (gN 5) (mS (gN 6) oR))) J0 (D1 (B0 (A0 5) (B0 (c9 2 Ac (B4 (A0 6) (B4 (A0 4) B9))) B6))))))))
def AD:Fn:=kJ 5 KW
theorem dB{f:Addr}{fd:FuncData}(F:kM K "next_rows" "next_rows" Gf f fd)(T:Txt K mg)(g0:Def P w K mg base "sums_behind" 5 2 Ab)(i3:Def P w K mg base "ways_on" 17 2 (M4 8))(jX:Def P w K mg base "fraction" 1 2 Ac)(kA:Def P w K mg base "choices_on" 18 2 (Aa (M4 8))):f6 P w K mg base kF 19 f fd ["side","rows"] (k7 K 2 AD):=
 K8 F CO fun cdv A outer s H E hr=>(by have n0:=wZ;have n1:=CO.nd;cases T;injections E Y C9 GB E L w h;exists (R0 (N':=["-0","-1","-2","-3","many","row","ways"]) (keep:=[false,false,false,false,true]) (more:=2) ?_ ?_ ?_ ?_ ?_ ?_ ?_);injections L5 b A w l m R6 D I Y C4)
def En:Mx:=(Q9 (Ao 2 R9 (B4 (A0 0) (B4 (A0 1) B9))) (D0 2 (c9 2 Ab (B4 (A0 0) (B4 (A0 1) B9)))) (Q9 nO (GA 3) (Q9 nO (D0 4 (c9 2 (M4 8) (B4 (A0 2) (G0 3 B9)))) nO)))
def Y6:List W->Option Str:=rP 5 En
theorem dC{f:Addr}{fd:FuncData}(F:kM K "next_rows" "next_rows" Gf f fd)(T:Txt K mg)(g0:Def P w K mg base "sums_behind" 5 2 Ab)(i3:Def P w K mg base "ways_on" 17 2 (M4 8))(jX:Def P w K mg base "fraction" 1 2 Ac)(kA:Def P w K mg base "choices_on" 18 2 (Aa (M4 8)))(i9:m8 P w K mg base "sums_behind" 5 2 R9):f6 P w K mg base (nD P w) 19 f fd ["side","rows"] (pX K 2 Y6):=
 EU F CO fun cdv A outer s H E hr=>(@BP _ _ _ _ _ _ _ _ (@XG _ _ _ _ _ _ 2 _ _ (by exact CO.nd) (by exact rfl) (by first|exact Or.inl rfl|exact Or.inr rfl) (@ER _ _ _ _ _ _ _ _ _ _ _ _ (by exact EK) (by exact i9) (by exact(hr.mono (show 5≤18 by decide))) (by exact rfl) (by exact(PA.nox (@C5 _ _ _ _ _ _ (@B3 _ _ _ _ _ (pv 0)) (@C5 _ _ _ _ _ _ (@B3 _ _ _ _ _ (pv 1)) (@D2 _ _) (by exact B7 rfl)) (by exact B7 rfl)))) (by decide) (by exact B7 rfl) (by exact E7 rfl)) (by rfl) (by first|exact .inl rfl|exact .inr rfl|assumption)) (by exact(PS.nox (@F8 _ _ _ _ _ 2 _ _ (by exact CO.nd) (by exact rfl) (by first|exact Or.inl rfl|exact Or.inr rfl) (@E1 _ _ _ _ _ _ _ _ _ _ _ (by exact g0) (by exact(hr.mono (show 5≤18 by decide))) (by exact rfl) (@C5 _ _ _ _ _ _ (@B3 _ _ _ _ _ (pv 0)) (@C5 _ _ _ _ _ _ (@B3 _ _ _ _ _ (pv 1)) (@D2 _ _) (by exact B7 rfl)) (by exact B7 rfl)) (by decide) (by exact B7 rfl) (by exact E7 rfl)) (by rfl) (by first|exact .inl rfl|exact .inr rfl|assumption)))) (@BP _ _ _ _ _ _ _ _ (@Cv _ _ _ _) (by exact(PS.nox (@GB _ _ _ 3 _ _ _ (by exact CO.nd) (by exact rfl) (by first|exact Or.inl rfl|exact Or.inr rfl) (by rfl) (by first|exact .inl rfl|exact .inr rfl|assumption)))) (@BP _ _ _ _ _ _ _ _ (@Cv _ _ _ _) (by exact(PS.nox (@F8 _ _ _ _ _ 4 _ _ (by exact CO.nd) (by exact rfl) (by first|exact Or.inl rfl|exact Or.inr rfl) (@E1 _ _ _ _ _ _ _ _ _ _ _ (by exact i3) (by exact(hr.mono (show 17≤18 by decide))) (by exact rfl) (@C5 _ _ _ _ _ _ (@B3 _ _ _ _ _ (pv 2)) (@M7 _ _ _ _ _ _ _ (pv 3) (@D2 _ _) (by exact B7 rfl)) (by exact B7 rfl)) (by decide) (by exact B7 rfl) (by exact E7 rfl)) (by rfl) (by first|exact .inl rfl|exact .inr rfl|assumption)))) (@AW _ _ _ _ _ (@Cv _ _ _ _)))))
theorem dD:c4 ["_law_script","_law_k"] ["_law_script","_law_k"] (E8 JV):=K2
def Eo:Mo Fl:=(C6 (F3 (mT (B8 rJ (A0 1) (i5 J7 (B0 (A0 0) B6)))) (E2 (B8 lP (A0 0) (A0 1))) kO) (E2 (mC (.int 0))))
def Ep:Fn:=kJ 2 Eo
theorem dE{f:Addr}{fd:FuncData}(F:kM K "_law_cell_at" "_law_cell_at" JV f fd)(T:Txt K mg):f6 P w K mg base kF 1 f fd ["_law_script","_law_k"] (k7 K 2 Ep):=
 K8 F dD fun cdv A outer s H E hr=>(by cases T;injections J Q X O C T3 o j C1)
theorem Ou:c4 ["_law_script","_law_k","_law_cell"] ["_law_script","_law_k"] (E8 JW):=K2
def Er:Mo Fl:=(C6 (D0 2 (c9 2 Ep (B4 (A0 0) (B4 (A0 1) B9)))) (C6 (F3 (mT (B8 tY (A0 2) (B8 U6 (mC (.int 10)) (mC (.int 18))))) (AK (F7 (B0 (B8 FQ (A0 2) (B8 U6 (mC (.int 10)) (mC (.int 18)))) (B0 (mC (.bl true)) B6)))) kO) (AK (F7 (B0 (B8 R1 (A0 2) (mC (.int 2147483647))) (B0 (mC (.bl false)) B6))))))
def Es:Fn:=kJ 3 Er
theorem dF{f:Addr}{fd:FuncData}(F:kM K "_law_state" "_law_state" JW f fd)(T:Txt K mg)(lR:Def P w K mg base "_law_cell_at" 1 2 Ep):f6 P w K mg base kF 2 f fd ["_law_script","_law_k"] (k7 K 2 Es):=
 K8 F Ou fun cdv A outer s H E hr=>(by have n0:=Ou.nd;cases T;injections E Y J Q x C1 h S F x V y K6 h S F V y)
theorem Ov:c4 ["_law_state_here","_law_many_here","_law_mixed","_law_found"] ["_law_state_here","_law_many_here"] (E8 JX):=K2
def Et:Mo Fl:=(C6 (F3 (mT (R4 0 (mC (.int 1)))) (C6 (D0 3 (B8 R1 (R4 0 (mC (.int 0))) (A0 1))) (C6 (Q4 (B8 Dm (R4 0 (mC (.int 0))) (A0 1)) (gS 0 (mC (.int 0)))) (E2 (A0 3)))) kO) (C6 (Q4 (B8 R1 (B8 D7 (B8 M5 (R4 0 (mC (.int 0))) (mC (.int 48271))) (mC (.int 29))) (mC (.int 2147483647))) (gS 0 (mC (.int 0)))) (C6 (D0 2 (B8 R1 (B8 D7 (B8 D7 (B8 M5 (R4 0 (mC (.int 0))) (R4 0 (mC (.int 0)))) (B8 M5 (mC (.int 39373)) (R4 0 (mC (.int 0))))) (mC (.int 7))) (mC (.int 2147483629)))) (C6 (D0 2 (B8 R1 (B8 D7 (B8 M5 (A0 2) (A0 2)) (B8 M5 (mC (.int 16807)) (A0 2))) (mC (.int 2147483587)))) (E2 (B8 R1 (B8 Dm (A0 2) (mC (.int 8))) (A0 1)))))))
def K5:Fn:=kJ 4 Et
theorem dG{f:Addr}{fd:FuncData}(F:kM K "_law_take" "_law_take" JX f fd)(T:Txt K mg):f6 P w K mg base kF 1 f fd ["_law_state_here","_law_many_here"] (k7 K 2 K5):=
 K8 F Ov fun cdv A outer s H E hr=>(by have n0:=Ov.nd;cases T;injections J R3 s E D9 BE Z C9 Ch D9 BE Z Hn C1 C B3 K6 C9 Ch q D9 s C1 C1 C1 Hn C1 E q q s s x s C1 C1 E q F B3 D9 Z C1 C D9 F Z)
theorem Ow:c4 ["_law_held_here","_law_found","_law_bit","_law_longer","_law_row","_law_here"] ["_law_held_here"] (E8 JY):=K2
theorem xA:(["-0","-1","-2","-3","-4","-5","_law_row","_law_here"]:List Str).Nodup:=by rfl'
def dH:Mo Fl:=(C6 (D0 1 (mF (F7 (B0 (D1 (B0 (D1 B6) (B0 (mC (.int 0)) B6))) B6)))) (C6 (M6 (F4 (A0 0)) (gN 2) (C6 (O7 3 (F7 B6)) (C6 (M6 (F4 (A0 1)) (gT 2 (mS (gN 4) (mS (gN 5) oR))) (C6 (F3 (Ce (mT (B8 (j7 false) (A0 5) (mC (.int 1)))) (mT (B8 (j7 false) (A0 2) (mC (.int 1))))) (Dr 3 (D1 (B0 (B8 D7 (A0 4) (D1 (B0 (T2 (mC (.int 1))) B6))) (B0 (mC (.int 0)) B6)))) kO) (C6 (Dr 3 (D1 (B0 (B8 D7 (A0 4) (D1 (B0 (mC (.int 0)) B6))) (B0 (A0 5) B6)))) (F3 (Ce (mT (B8 (j7 false) (A0 5) (mC (.int 0)))) (mT (B8 (j7 false) (A0 2) (mC (.int 0))))) (Dr 3 (D1 (B0 (B8 D7 (A0 4) (D1 (B0 (mC (.int 1)) B6))) (B0 (mC (.int 1)) B6)))) kO)))) (D0 1 (A0 3))))) (AK (G9 (F4 (A0 1)) [false,false,false,false,false,false] 2 (gT 2 (mS (gN 6) (mS (gN 7) oR))) (mT (B8 (j7 false) (A0 7) (mC (.int 1)))) (A0 6)))))
def T0:Fn:=kJ 6 dH
theorem dI{f:Addr}{fd:FuncData}(F:kM K "_law_rows" "_law_rows" JY f fd)(T:Txt K mg):f6 P w K mg base kF 1 f fd ["_law_held_here"] (k7 K 1 T0):=
 K8 F Ow fun cdv A outer s H E hr=>(by have n0:=xA;have n1:=Ow.nd;cases T;injections E d D g B5 H C4 U T t K4 C4 U K l m J Z0 FT n FR n D5 Ds a F D BD H B5 H C4 K6 C9 Ds a F i O C4 D5 K7 Z0 FT n FR n D5 Ds a F i B5 H C4 K6 r B3 h;exists (R0 (N':=["-0","-1","-2","-3","-4","-5","_law_row","_law_here"]) (keep:=[false,false,false,false,false,false]) (more:=2) ?_ ?_ ?_ ?_ ?_ ?_ ?_);injections K l m Dy Q Z)
theorem dJ:c4 ["_law_held_here","_law_row"] ["_law_held_here","_law_row"] (E8 JZ):=K2
theorem dO:(["-0","-1","_law_first","_law_second"]:List Str).Nodup:=by rfl'
def KY:Mo Fl:=(E2 (i5 Hl (B0 (mF (G9 (Al (B0 (A0 0) (B0 (A0 1) B6))) [false,false] 2 (gT 2 (mS (gN 2) (mS (gN 3) oR))) J0 (B8 D7 (A0 2) (A0 3)))) B6)))
def W7:Fn:=kJ 2 KY
theorem dP{f:Addr}{fd:FuncData}(F:kM K "_law_held" "_law_held" JZ f fd)(T:Txt K mg):f6 P w K mg base kF 1 f fd ["_law_held_here","_law_row"] (k7 K 2 W7):=
 K8 F dJ fun cdv A outer s H E hr=>(by have n0:=dO;cases T;injections C Cf FJ R;exists (R0 (N':=["-0","-1","_law_first","_law_second"]) (keep:=[false,false]) (more:=2) ?_ ?_ ?_ ?_ ?_ ?_ ?_);injections Fm k B l m R6 F B)
theorem Ox:c4 ["_law_state_here","_law_side","_law_held_here","_law_found","_law_few","_law_turn","_law_rows_here","_law_row","_law_most"] ["_law_state_here","_law_side"] (E8 KA):=K2
theorem dQ:(["-0","-1","-2","-3","-4","-5","-6","-7","_law_most","_law_row"]:List Str).Nodup:=by rfl'
theorem dS:(["-0","-1","-2","-3","-4","-5","-6","-7","-8","_law_row"]:List Str).Nodup:=by rfl'
def KZ:Mo Fl:=(C6 (D0 2 (B8 M5 (D1 (B0 (mC (.int 0)) B6)) (A0 1))) (C6 (D0 3 (D1 B6)) (C6 (D0 4 (c9 2 K5 (G0 0 (B4 (mC (.int 3)) B9)))) (C6 (M6 (AM (B0 (A0 1) B6)) (gN 5) (C6 (D0 6 (mF (M3 1 T0 (B4 (A0 2) B9)))) (C6 (F3 (mT (B8 (j7 false) (A0 4) (mC (.int 0)))) (C6 (D0 8 (i5 (Q8 false) (B0 (mF (G9 (F4 (A0 6)) [false,false,false,false,false,false,false,false,false] 1 (gN 9) J0 (i5 (Q8 false) (B0 (A0 9) B6)))) B6))) (O7 6 (G9 (F4 (A0 6)) [false,false,false,false,false,false,false,false,true] 1 (gN 9) (mT (B8 (j7 false) (i5 (Q8 false) (B0 (A0 9) B6)) (A0 8))) (A0 9)))) kO) (C6 (D0 7 (B8 lP (A0 6) (c9 2 K5 (G0 0 (B4 (i5 J7 (B0 (A0 6) B6)) B9))))) (C6 (D0 3 (B8 D7 (A0 3) (D1 (B0 (A0 7) B6)))) (D0 2 (c9 2 W7 (B4 (A0 2) (B4 (A0 7) B9))))))))) (E2 (A0 3))))))
def Eu:Fn:=kJ 9 KZ
theorem dU{f:Addr}{fd:FuncData}(F:kM K "_law_table" "_law_table" KA f fd)(T:Txt K mg)(c8:Def P w K mg base "_law_take" 1 2 K5)(j2:Def P w K mg base "_law_rows" 1 1 T0)(j3:Def P w K mg base "_law_held" 1 2 W7):f6 P w K mg base kF 2 f fd ["_law_state_here","_law_side"] (k7 K 2 Eu):=
 K8 F Ox fun cdv A outer s H E hr=>(by have n0:=dQ;have n1:=dS;have n2:=Ox.nd;cases T;injections E D9 i B3 E g E E1 M7 C5 C1 D2 U Dt O G8 E b G J n E K9;exists (Fs rfl);injections R;exists (R0 (N':=["-0","-1","-2","-3","-4","-5","-6","-7","-8","_law_row"]) (keep:=[false,false,false,false,false,false,false,false,false]) (more:=1) ?_ ?_ ?_ ?_ ?_ ?_ ?_);injections c K9;exists (Fs rfl);injections O C4 D5;exists (OD (N':=["-0","-1","-2","-3","-4","-5","-6","-7","_law_most","_law_row"]) (keep:=[false,false,false,false,false,false,false,false,true]) (more:=1) ?_ ?_ ?_ ?_ ?_ ?_ ?_ ?_ ?_ ?_ ?_);injections T Dy J5 K9;exists (Fs rfl);injections O o K6 E T3 B3 E1 M7 C5 X O D2 E F D B r Y C B3)
theorem Oy:c4 ["_law_side","_law_lots","_law_place","_law_found","_law_held_here"] ["_law_side"] (E8 KB):=K2
theorem dW:(["-0","-1","-2","_law_found","_law_held_here","_law_row"]:List Str).Nodup:=by rfl'
theorem dY:(["-0","-1","-2","-3","-4","_law_row"]:List Str).Nodup:=by rfl'
theorem dZ:(["-0","-1","-2","-3","-4","_law_row"]:List Str).Nodup:=by rfl'
def Ka:Mo Fl:=(C6 (D0 1 (mF (F7 (B0 (D1 B6) B6)))) (C6 (M6 (AM (B0 (A0 0) B6)) (gN 2) (D0 1 (mF (Q5 (mF (G9 (F4 (A0 1)) [false,false,false,false,false] 1 (gN 5) J0 (B8 D7 (A0 5) (D1 (B0 (mC (.int 0)) B6))))) (mF (G9 (F4 (A0 1)) [false,false,false,false,false] 1 (gN 5) J0 (B8 D7 (A0 5) (D1 (B0 (mC (.int 1)) B6))))))))) (C6 (GA 3) (C6 (M6 (F4 (mF (JG (A0 1)))) (gN 4) (C6 (Q4 (i5 AR (B0 (B8 (j7 false) (i5 P7 (B0 (A0 4) B6)) (A0 0)) B6)) (qJ 3 (A0 4))) (F3 (mT (B8 rJ (i5 P7 (B0 (A0 4) B6)) (A0 0))) (Q4 (i5 P7 (B0 (mF (G9 (F4 (mF (M3 1 T0 (B4 (A0 4) B9)))) [false,false,false,true,true] 1 (gN 5) J0 (GC 3 (c9 2 W7 (B4 (A0 4) (B4 (A0 5) B9)))))) B6)) (qJ 3 (A0 4))) kO))) (E2 (A0 3))))))
def Ew:Fn:=kJ 5 Ka
theorem eA{f:Addr}{fd:FuncData}(F:kM K "_law_counts" "_law_counts" KB f fd)(T:Txt K mg)(j3:Def P w K mg base "_law_held" 1 2 W7)(j2:Def P w K mg base "_law_rows" 1 1 T0):f6 P w K mg base kF 2 f fd ["_law_side"] (k7 K 1 Ew):=
 K8 F Oy fun cdv A outer s H E hr=>(by have n0:=dW;have n1:=dY;have n2:=dZ;have n3:=Oy.nd;cases T;injections E d g C4 U Dt O G8 r E6 AS E6;exists (R0 (N':=["-0","-1","-2","-3","-4","_law_row"]) (keep:=[false,false,false,false,false]) (more:=1) ?_ ?_ ?_ ?_ ?_ ?_ ?_);injections c F i E6;exists (R0 (N':=["-0","-1","-2","-3","-4","_law_row"]) (keep:=[false,false,false,false,false]) (more:=1) ?_ ?_ ?_ ?_ ?_ ?_ ?_);injections c F i C9 GB U L5 E6 OT B3 G8 C9 Ch Cf DZ B5 Cb K9;exists (BN rfl);injections O B GD B3 D5 K7 J5 K9;exists (BN rfl);injections O B3 D5 Ch K9;exists (BN rfl);injections R;exists (R0 (N':=["-0","-1","-2","_law_found","_law_held_here","_law_row"]) (keep:=[false,false,false,true,true]) (more:=1) ?_ ?_ ?_ ?_ ?_ ?_ ?_);injections L5 b G G8 R6 Ii Y C4 GD B3 j B3)
theorem eD:c4 ["_law_thing"] ["_law_thing"] (E8 KC):=K2
def eE:Mo Fl:=(E2 (X3 (nB "int" (A0 0)) (FU (nB "bool" (A0 0)))))
def CP:Fn:=kJ 1 eE
theorem eF{f:Addr}{fd:FuncData}(F:kM K "_law_whole" "_law_whole" KC f fd)(T:Txt K mg):f6 P w K mg base kF 1 f fd ["_law_thing"] (k7 K 1 CP):=
 K8 F eD fun cdv A outer s H E hr=>(by cases T;injections C Br M Bq Hg M)
theorem Oz:c4 ["_law_state_here","_law_some"] ["_law_state_here"] (E8 KD):=K2
def Kb:Mo Fl:=(C6 (D0 1 (mF (F7 (B0 (mC .non) (B0 (mC (.bl true)) (B0 (mC (.bl false)) (B0 (T2 (mC (.int 1))) (B0 (mC (.int 0)) (B0 (mC (.int 1)) (B0 (mC (.str "")) (B0 (mC (.str "+")) (B0 (D1 B6) (B0 (mF (F7 B6)) (B0 (D1 (B0 (mC (.bl true)) B6)) (B0 (mF (F7 (B0 (D1 (B0 (mC (.int 1)) B6)) B6))) (B0 (mC .emp) (B0 (D1 (B0 (mC .non) B6)) (B0 (D1 (B0 (D1 (B0 (mC (.bl true)) B6)) B6)) B6)))))))))))))))))) (E2 (B8 lP (mF (Q5 (A0 1) (mF (F7 (B0 (B8 U6 (mC (.int 10)) (mC (.int 29))) (B0 (D1 (B0 (D1 B6) B6)) (B0 (D1 (B0 (D1 (B0 (mC (.int 0)) B6)) B6)) (B0 (D1 (B0 (D1 (B0 (mC (.int 1)) B6)) (B0 (D1 (B0 (mC (.int 1)) B6)) B6))) (B0 (D1 (B0 (D1 (B0 (D1 (B0 (mC (.int 1)) B6)) B6)) B6)) B6))))))))) (c9 2 K5 (G0 0 (B4 (mC (.int 20)) B9))))))
def DM:Fn:=kJ 2 Kb
theorem eG{f:Addr}{fd:FuncData}(F:kM K "_law_odd" "_law_odd" KD f fd)(T:Txt K mg)(c8:Def P w K mg base "_law_take" 1 2 K5):f6 P w K mg base kF 2 f fd ["_law_state_here"] (k7 K 1 DM):=
 K8 F Oz fun cdv A outer s H E hr=>(by have n0:=Oz.nd;cases T;injections E d AH B5 N0 B5 N0 B5 BD V V C1 N N B5 g R K4 C4 a y R S i C4 B5 NV a AH C4 a D y C4 C4 C T3 E6 u d x V D g C4 a i C4 a i a H C4 a D i C4 C4 C4 E1 M7 C5 C1 D2)
theorem Ad:c4 ["_law_state_here","_law_table_here","_law_row","_law_odd_here","_law_rows_here","_law_one","_law_other","_law_some","_law_at","_law_k"] ["_law_state_here","_law_table_here"] (E8 KE):=K2
def Kc:Mo Fl:=(C6 (AL 8 9 (B0 (c9 2 K5 (G0 0 (B4 (i5 J7 (B0 (A0 1) B6)) B9))) (B0 (c9 2 K5 (G0 0 (B4 (i5 J7 (B0 (A0 1) B6)) B9))) B6))) (C6 (D0 2 (B8 lP (A0 1) (A0 8))) (C6 (D0 3 (B8 lP (mF (F7 (B0 (mC (.int 0)) (B0 (mC (.int 1)) (B0 (T2 (mC (.int 1))) (B0 (mC (.int 2)) (B0 (T2 (mC (.int 2))) (B0 (mC (.bl true)) (B0 (mC (.bl false)) (B0 (mC .non) (B0 (mC (.str "1")) (B0 (D1 (B0 (mC (.int 1)) B6)) (B0 (B8 U6 (mC (.int 10)) (mC (.int 29))) (B0 (T2 (B8 lP (A0 2) (A0 9))) B6)))))))))))))) (c9 2 K5 (G0 0 (B4 (mC (.int 12)) B9))))) (C6 (D0 4 (mF (F7 (B0 (B8 D7 (B8 D7 (kZ (A0 2) J3 (J2 (A0 9))) (D1 (B0 (A0 3) B6))) (kZ (A0 2) (J2 (B8 D7 (A0 9) (mC (.int 1)))) J3)) (B0 (B8 D7 (B8 D7 (kZ (A0 2) J3 (J2 (A0 9))) (D1 (B0 (A0 3) B6))) (kZ (A0 2) (J2 (A0 9)) J3)) (B0 (B8 D7 (kZ (A0 2) J3 (J2 (A0 9))) (kZ (A0 2) (J2 (B8 D7 (A0 9) (mC (.int 1)))) J3)) (B0 (mF (pU Bs (B0 (A0 2) B6))) B6))))))) (C6 (D0 5 (B8 lP (mF (Q5 (A0 4) (mF (F7 (B0 (Cp (A0 2)) (B0 (mC .non) B6)))))) (B8 lP (mF (F7 (B0 (mC (.int 0)) (B0 (mC (.int 0)) (B0 (mC (.int 0)) (B0 (mC (.int 0)) (B0 (mC (.int 0)) (B0 (mC (.int 1)) (B0 (mC (.int 2)) (B0 (mC (.int 3)) (B0 (mC (.int 4)) (B0 (mC (.int 5)) B6)))))))))))) (c9 2 K5 (G0 0 (B4 (mC (.int 10)) B9)))))) (C6 (D0 6 (B8 lP (A0 1) (c9 2 K5 (G0 0 (B4 (i5 J7 (B0 (A0 1) B6)) B9))))) (C6 (D0 7 (mF (F7 (B0 (B8 D7 (B8 D7 (kZ (A0 1) J3 (J2 (A0 8))) (D1 (B0 (A0 5) B6))) (kZ (A0 1) (J2 (B8 D7 (A0 8) (mC (.int 1)))) J3)) (B0 (B8 D7 (B8 D7 (kZ (A0 1) J3 (J2 (A0 8))) (D1 (B0 (A0 6) B6))) (kZ (A0 1) (J2 (B8 D7 (A0 8) (mC (.int 1)))) J3)) B6))))) (C6 (D0 7 (mF (Q5 (A0 7) (mF (F7 (B0 (B8 D7 (kZ (A0 1) J3 (J2 (A0 8))) (kZ (A0 1) (J2 (B8 D7 (A0 8) (mC (.int 1)))) J3)) (B0 (B8 D7 (B8 D7 (kZ (A0 1) J3 (J2 (A0 8))) (D1 (B0 (A0 2) B6))) (kZ (A0 1) (J2 (A0 8)) J3)) (B0 (mF (pU Bs (B0 (A0 1) B6))) (B0 (Cp (A0 1)) B6))))))))) (C6 (D0 7 (mF (Q5 (A0 7) (mF (F7 (B0 (D1 (B0 (A0 1) B6)) (B0 (mC .non) (B0 (A0 2) B6)))))))) (E2 (B8 lP (A0 7) (B8 lP (mF (F7 (B0 (mC (.int 0)) (B0 (mC (.int 0)) (B0 (mC (.int 0)) (B0 (mC (.int 0)) (B0 (mC (.int 1)) (B0 (mC (.int 1)) (B0 (mC (.int 2)) (B0 (mC (.int 3)) (B0 (mC (.int 4)) (B0 (mC (.int 5)) (B0 (mC (.int 6)) (B0 (mC (.int 7)) (B0 (mC (.int 8)) B6))))))))))))))) (c9 2 K5 (G0 0 (B4 (mC (.int 13)) B9)))))))))))))))
def Az:Fn:=kJ 10 Kc
theorem eI{f:Addr}{fd:FuncData}(F:kM K "_law_bent" "_law_bent" KE f fd)(T:Txt K mg)(c8:Def P w K mg base "_law_take" 1 2 K5):f6 P w K mg base kF 2 f fd ["_law_state_here","_law_table_here"] (k7 K 2 Az):=
 K8 F Ad fun cdv A outer s H E hr=>(@C9 _ _ _ _ _ _ (@Ci _ _ _ _ _ _ 8 9 _ _ _ _ _ _ _ _ (by exact rfl) (by exact Ad.nd) (by exact rfl) (by exact rfl) (by decide) (by exact rfl) (by exact rfl) (@B5 _ _ _ _ _ _ (@E1 _ _ _ _ _ _ _ _ _ _ _ (by exact c8) (by exact(hr.mono (show 1≤1 by decide))) (by exact rfl) (@M7 _ _ _ _ _ _ _ (pv 0) (@C5 _ _ _ _ _ _ (@K9 _ _ _ _ _ _ _ _ _ _ _ (by exact U5) (by exact Dp) (by exact rfl) (by exact T.g_len) (by exact Xu) (@B5 _ _ _ _ _ _ (@B3 _ _ _ _ _ (pv 1)) (@C4 _ _) (by exact B7 rfl)) (by decide) (by decide) (by exact B7 rfl) (by exact E7 rfl)) (@D2 _ _) (by exact B7 rfl)) (by exact B7 rfl)) (by decide) (by exact B7 rfl) (by exact E7 rfl)) (@B5 _ _ _ _ _ _ (@E1 _ _ _ _ _ _ _ _ _ _ _ (by exact c8) (by exact(hr.mono (show 1≤1 by decide))) (by exact rfl) (@M7 _ _ _ _ _ _ _ (pv 0) (@C5 _ _ _ _ _ _ (@K9 _ _ _ _ _ _ _ _ _ _ _ (by exact U5) (by exact Dp) (by exact rfl) (by exact T.g_len) (by exact Xu) (@B5 _ _ _ _ _ _ (@B3 _ _ _ _ _ (pv 1)) (@C4 _ _) (by exact B7 rfl)) (by decide) (by decide) (by exact B7 rfl) (by exact E7 rfl)) (@D2 _ _) (by exact B7 rfl)) (by exact B7 rfl)) (by decide) (by exact B7 rfl) (by exact E7 rfl)) (@C4 _ _) (by exact B7 rfl)) (by exact B7 rfl)) (by exact rfl) (by rfl)) (@C9 _ _ _ _ _ _ (@F8 _ _ _ _ _ 2 _ _ (by exact Ad.nd) (by exact rfl) (by first|exact Or.inl rfl|exact Or.inr rfl) (@T3 _ _ _ _ _ _ _ (@B3 _ _ _ _ _ (pv 1)) (@B3 _ _ _ _ _ (pv 8)) (fun _ _=>rfl)) (by rfl) (by first|exact .inl rfl|exact .inr rfl|assumption)) (@C9 _ _ _ _ _ _ (@F8 _ _ _ _ _ 3 _ _ (by exact Ad.nd) (by exact rfl) (by first|exact Or.inl rfl|exact Or.inr rfl) (@T3 _ _ _ _ _ _ _ (@E6 _ _ _ _ (@K4 _ _ _ _ _ (@B5 _ _ _ _ _ _ (@C1 _ _ _ _ _) (@B5 _ _ _ _ _ _ (@C1 _ _ _ _ _) (@B5 _ _ _ _ _ _ (@BD _ _ _ _ _ (@C1 _ _ _ _ _)) (@B5 _ _ _ _ _ _ (@C1 _ _ _ _ _) (@B5 _ _ _ _ _ _ (@BD _ _ _ _ _ (@C1 _ _ _ _ _)) (@B5 _ _ _ _ _ _ (@N0 _ _ _ _ _) (@B5 _ _ _ _ _ _ (@N0 _ _ _ _ _) (@B5 _ _ _ _ _ _ (@AH _ _ _ _) (@B5 _ _ _ _ _ _ (@M0 _ _ _ _ _ (by decide)) (@B5 _ _ _ _ _ _ (@E5 _ _ _ _ _ _ (@B5 _ _ _ _ _ _ (@C1 _ _ _ _ _) (@C4 _ _) (by exact B7 rfl))) (@B5 _ _ _ _ _ _ (@D9 _ _ _ _ _ _ _ _ _ _ (by exact HV) (by exact Hf) (@C1 _ _ _ _ _) (@C1 _ _ _ _ _)) (@B5 _ _ _ _ _ _ (@BD _ _ _ _ _ (@T3 _ _ _ _ _ _ _ (@B3 _ _ _ _ _ (pv 2)) (@B3 _ _ _ _ _ (pv 9)) (fun _ _=>rfl))) (@C4 _ _) (by exact B7 rfl)) (by exact B7 rfl)) (by exact B7 rfl)) (by exact B7 rfl)) (by exact B7 rfl)) (by exact B7 rfl)) (by exact B7 rfl)) (by exact B7 rfl)) (by exact B7 rfl)) (by exact B7 rfl)) (by exact B7 rfl)) (by exact B7 rfl)))) (@E1 _ _ _ _ _ _ _ _ _ _ _ (by exact c8) (by exact(hr.mono (show 1≤1 by decide))) (by exact rfl) (@M7 _ _ _ _ _ _ _ (pv 0) (@C5 _ _ _ _ _ _ (@C1 _ _ _ _ _) (@D2 _ _) (by exact B7 rfl)) (by exact B7 rfl)) (by decide) (by exact B7 rfl) (by exact E7 rfl)) (fun _ _=>rfl)) (by rfl) (by first|exact .inl rfl|exact .inr rfl|assumption)) (@C9 _ _ _ _ _ _ (@F8 _ _ _ _ _ 4 _ _ (by exact Ad.nd) (by exact rfl) (by first|exact Or.inl rfl|exact Or.inr rfl) (@E6 _ _ _ _ (@K4 _ _ _ _ _ (@B5 _ _ _ _ _ _ (@D9 _ _ _ _ _ _ _ _ _ _ (by exact N9) (by exact O0) (@D9 _ _ _ _ _ _ _ _ _ _ (by exact N9) (by exact O0) (@P0 _ _ _ _ _ _ _ _ _ _ (@B3 _ _ _ _ _ (pv 2)) (@O8 _ _) (@O9 _ _ _ _ (@B3 _ _ _ _ _ (pv 9)))) (@E5 _ _ _ _ _ _ (@B5 _ _ _ _ _ _ (@B3 _ _ _ _ _ (pv 3)) (@C4 _ _) (by exact B7 rfl)))) (@P0 _ _ _ _ _ _ _ _ _ _ (@B3 _ _ _ _ _ (pv 2)) (@O9 _ _ _ _ (@D9 _ _ _ _ _ _ _ _ _ _ (by exact N9) (by exact O0) (@B3 _ _ _ _ _ (pv 9)) (@C1 _ _ _ _ _))) (@O8 _ _))) (@B5 _ _ _ _ _ _ (@D9 _ _ _ _ _ _ _ _ _ _ (by exact N9) (by exact O0) (@D9 _ _ _ _ _ _ _ _ _ _ (by exact N9) (by exact O0) (@P0 _ _ _ _ _ _ _ _ _ _ (@B3 _ _ _ _ _ (pv 2)) (@O8 _ _) (@O9 _ _ _ _ (@B3 _ _ _ _ _ (pv 9)))) (@E5 _ _ _ _ _ _ (@B5 _ _ _ _ _ _ (@B3 _ _ _ _ _ (pv 3)) (@C4 _ _) (by exact B7 rfl)))) (@P0 _ _ _ _ _ _ _ _ _ _ (@B3 _ _ _ _ _ (pv 2)) (@O9 _ _ _ _ (@B3 _ _ _ _ _ (pv 9))) (@O8 _ _))) (@B5 _ _ _ _ _ _ (@D9 _ _ _ _ _ _ _ _ _ _ (by exact N9) (by exact O0) (@P0 _ _ _ _ _ _ _ _ _ _ (@B3 _ _ _ _ _ (pv 2)) (@O8 _ _) (@O9 _ _ _ _ (@B3 _ _ _ _ _ (pv 9)))) (@P0 _ _ _ _ _ _ _ _ _ _ (@B3 _ _ _ _ _ (pv 2)) (@O9 _ _ _ _ (@D9 _ _ _ _ _ _ _ _ _ _ (by exact N9) (by exact O0) (@B3 _ _ _ _ _ (pv 9)) (@C1 _ _ _ _ _))) (@O8 _ _))) (@B5 _ _ _ _ _ _ (@E6 _ _ _ _ (@Hj _ _ _ _ _ _ _ _ _ _ _ (by exact HZ) (by exact Hm) (by exact rfl) (by exact T.g_list) (by exact Fp) (@B5 _ _ _ _ _ _ (@B3 _ _ _ _ _ (pv 2)) (@C4 _ _) (by exact B7 rfl)) (by decide) (by decide) (by exact B7 rfl) (by exact E7 rfl))) (@C4 _ _) (by exact B7 rfl)) (by exact B7 rfl)) (by exact B7 rfl)) (by exact B7 rfl)))) (by rfl) (by first|exact .inl rfl|exact .inr rfl|assumption)) (@C9 _ _ _ _ _ _ (@F8 _ _ _ _ _ 5 _ _ (by exact Ad.nd) (by exact rfl) (by first|exact Or.inl rfl|exact Or.inr rfl) (@T3 _ _ _ _ _ _ _ (@E6 _ _ _ _ (@AS _ _ _ _ _ _ _ (@B3 _ _ _ _ _ (pv 4)) (@E6 _ _ _ _ (@K4 _ _ _ _ _ (@B5 _ _ _ _ _ _ (@MT _ _ _ _ _ _ _ (@B3 _ _ _ _ _ (pv 2)) (by exact MU)) (@B5 _ _ _ _ _ _ (@AH _ _ _ _) (@C4 _ _) (by exact B7 rfl)) (by exact B7 rfl)))))) (@T3 _ _ _ _ _ _ _ (@E6 _ _ _ _ (@K4 _ _ _ _ _ (@B5 _ _ _ _ _ _ (@C1 _ _ _ _ _) (@B5 _ _ _ _ _ _ (@C1 _ _ _ _ _) (@B5 _ _ _ _ _ _ (@C1 _ _ _ _ _) (@B5 _ _ _ _ _ _ (@C1 _ _ _ _ _) (@B5 _ _ _ _ _ _ (@C1 _ _ _ _ _) (@B5 _ _ _ _ _ _ (@C1 _ _ _ _ _) (@B5 _ _ _ _ _ _ (@C1 _ _ _ _ _) (@B5 _ _ _ _ _ _ (@C1 _ _ _ _ _) (@B5 _ _ _ _ _ _ (@C1 _ _ _ _ _) (@B5 _ _ _ _ _ _ (@C1 _ _ _ _ _) (@C4 _ _) (by exact B7 rfl)) (by exact B7 rfl)) (by exact B7 rfl)) (by exact B7 rfl)) (by exact B7 rfl)) (by exact B7 rfl)) (by exact B7 rfl)) (by exact B7 rfl)) (by exact B7 rfl)) (by exact B7 rfl)))) (@E1 _ _ _ _ _ _ _ _ _ _ _ (by exact c8) (by exact(hr.mono (show 1≤1 by decide))) (by exact rfl) (@M7 _ _ _ _ _ _ _ (pv 0) (@C5 _ _ _ _ _ _ (@C1 _ _ _ _ _) (@D2 _ _) (by exact B7 rfl)) (by exact B7 rfl)) (by decide) (by exact B7 rfl) (by exact E7 rfl)) (fun _ _=>rfl)) (fun _ _=>rfl)) (by rfl) (by first|exact .inl rfl|exact .inr rfl|assumption)) (@C9 _ _ _ _ _ _ (@F8 _ _ _ _ _ 6 _ _ (by exact Ad.nd) (by exact rfl) (by first|exact Or.inl rfl|exact Or.inr rfl) (@T3 _ _ _ _ _ _ _ (@B3 _ _ _ _ _ (pv 1)) (@E1 _ _ _ _ _ _ _ _ _ _ _ (by exact c8) (by exact(hr.mono (show 1≤1 by decide))) (by exact rfl) (@M7 _ _ _ _ _ _ _ (pv 0) (@C5 _ _ _ _ _ _ (@K9 _ _ _ _ _ _ _ _ _ _ _ (by exact U5) (by exact Dp) (by exact rfl) (by exact T.g_len) (by exact Xu) (@B5 _ _ _ _ _ _ (@B3 _ _ _ _ _ (pv 1)) (@C4 _ _) (by exact B7 rfl)) (by decide) (by decide) (by exact B7 rfl) (by exact E7 rfl)) (@D2 _ _) (by exact B7 rfl)) (by exact B7 rfl)) (by decide) (by exact B7 rfl) (by exact E7 rfl)) (fun _ _=>rfl)) (by rfl) (by first|exact .inl rfl|exact .inr rfl|assumption)) (@C9 _ _ _ _ _ _ (@F8 _ _ _ _ _ 7 _ _ (by exact Ad.nd) (by exact rfl) (by first|exact Or.inl rfl|exact Or.inr rfl) (@E6 _ _ _ _ (@K4 _ _ _ _ _ (@B5 _ _ _ _ _ _ (@D9 _ _ _ _ _ _ _ _ _ _ (by exact N9) (by exact O0) (@D9 _ _ _ _ _ _ _ _ _ _ (by exact N9) (by exact O0) (@P0 _ _ _ _ _ _ _ _ _ _ (@B3 _ _ _ _ _ (pv 1)) (@O8 _ _) (@O9 _ _ _ _ (@B3 _ _ _ _ _ (pv 8)))) (@E5 _ _ _ _ _ _ (@B5 _ _ _ _ _ _ (@B3 _ _ _ _ _ (pv 5)) (@C4 _ _) (by exact B7 rfl)))) (@P0 _ _ _ _ _ _ _ _ _ _ (@B3 _ _ _ _ _ (pv 1)) (@O9 _ _ _ _ (@D9 _ _ _ _ _ _ _ _ _ _ (by exact N9) (by exact O0) (@B3 _ _ _ _ _ (pv 8)) (@C1 _ _ _ _ _))) (@O8 _ _))) (@B5 _ _ _ _ _ _ (@D9 _ _ _ _ _ _ _ _ _ _ (by exact N9) (by exact O0) (@D9 _ _ _ _ _ _ _ _ _ _ (by exact N9) (by exact O0) (@P0 _ _ _ _ _ _ _ _ _ _ (@B3 _ _ _ _ _ (pv 1)) (@O8 _ _) (@O9 _ _ _ _ (@B3 _ _ _ _ _ (pv 8)))) (@E5 _ _ _ _ _ _ (@B5 _ _ _ _ _ _ (@B3 _ _ _ _ _ (pv 6)) (@C4 _ _) (by exact B7 rfl)))) (@P0 _ _ _ _ _ _ _ _ _ _ (@B3 _ _ _ _ _ (pv 1)) (@O9 _ _ _ _ (@D9 _ _ _ _ _ _ _ _ _ _ (by exact N9) (by exact O0) (@B3 _ _ _ _ _ (pv 8)) (@C1 _ _ _ _ _))) (@O8 _ _))) (@C4 _ _) (by exact B7 rfl)) (by exact B7 rfl)))) (by rfl) (by first|exact .inl rfl|exact .inr rfl|assumption)) (@C9 _ _ _ _ _ _ (@F8 _ _ _ _ _ 7 _ _ (by exact Ad.nd) (by exact rfl) (by first|exact Or.inl rfl|exact Or.inr rfl) (@E6 _ _ _ _ (@AS _ _ _ _ _ _ _ (@B3 _ _ _ _ _ (pv 7)) (@E6 _ _ _ _ (@K4 _ _ _ _ _ (@B5 _ _ _ _ _ _ (@D9 _ _ _ _ _ _ _ _ _ _ (by exact N9) (by exact O0) (@P0 _ _ _ _ _ _ _ _ _ _ (@B3 _ _ _ _ _ (pv 1)) (@O8 _ _) (@O9 _ _ _ _ (@B3 _ _ _ _ _ (pv 8)))) (@P0 _ _ _ _ _ _ _ _ _ _ (@B3 _ _ _ _ _ (pv 1)) (@O9 _ _ _ _ (@D9 _ _ _ _ _ _ _ _ _ _ (by exact N9) (by exact O0) (@B3 _ _ _ _ _ (pv 8)) (@C1 _ _ _ _ _))) (@O8 _ _))) (@B5 _ _ _ _ _ _ (@D9 _ _ _ _ _ _ _ _ _ _ (by exact N9) (by exact O0) (@D9 _ _ _ _ _ _ _ _ _ _ (by exact N9) (by exact O0) (@P0 _ _ _ _ _ _ _ _ _ _ (@B3 _ _ _ _ _ (pv 1)) (@O8 _ _) (@O9 _ _ _ _ (@B3 _ _ _ _ _ (pv 8)))) (@E5 _ _ _ _ _ _ (@B5 _ _ _ _ _ _ (@B3 _ _ _ _ _ (pv 2)) (@C4 _ _) (by exact B7 rfl)))) (@P0 _ _ _ _ _ _ _ _ _ _ (@B3 _ _ _ _ _ (pv 1)) (@O9 _ _ _ _ (@B3 _ _ _ _ _ (pv 8))) (@O8 _ _))) (@B5 _ _ _ _ _ _ (@E6 _ _ _ _ (@Hj _ _ _ _ _ _ _ _ _ _ _ (by exact HZ) (by exact Hm) (by exact rfl) (by exact T.g_list) (by exact Fp) (@B5 _ _ _ _ _ _ (@B3 _ _ _ _ _ (pv 1)) (@C4 _ _) (by exact B7 rfl)) (by decide) (by decide) (by exact B7 rfl) (by exact E7 rfl))) (@B5 _ _ _ _ _ _ (@MT _ _ _ _ _ _ _ (@B3 _ _ _ _ _ (pv 1)) (by exact MU)) (@C4 _ _) (by exact B7 rfl)) (by exact B7 rfl)) (by exact B7 rfl)) (by exact B7 rfl)))))) (by rfl) (by first|exact .inl rfl|exact .inr rfl|assumption)) (@C9 _ _ _ _ _ _ (@F8 _ _ _ _ _ 7 _ _ (by exact Ad.nd) (by exact rfl) (by first|exact Or.inl rfl|exact Or.inr rfl) (@E6 _ _ _ _ (@AS _ _ _ _ _ _ _ (@B3 _ _ _ _ _ (pv 7)) (@E6 _ _ _ _ (@K4 _ _ _ _ _ (@B5 _ _ _ _ _ _ (@E5 _ _ _ _ _ _ (@B5 _ _ _ _ _ _ (@B3 _ _ _ _ _ (pv 1)) (@C4 _ _) (by exact B7 rfl))) (@B5 _ _ _ _ _ _ (@AH _ _ _ _) (@B5 _ _ _ _ _ _ (@B3 _ _ _ _ _ (pv 2)) (@C4 _ _) (by exact B7 rfl)) (by exact B7 rfl)) (by exact B7 rfl)))))) (by rfl) (by first|exact .inl rfl|exact .inr rfl|assumption)) (@D5 _ _ _ _ (@G7 _ _ _ _ _ (@T3 _ _ _ _ _ _ _ (@B3 _ _ _ _ _ (pv 7)) (@T3 _ _ _ _ _ _ _ (@E6 _ _ _ _ (@K4 _ _ _ _ _ (@B5 _ _ _ _ _ _ (@C1 _ _ _ _ _) (@B5 _ _ _ _ _ _ (@C1 _ _ _ _ _) (@B5 _ _ _ _ _ _ (@C1 _ _ _ _ _) (@B5 _ _ _ _ _ _ (@C1 _ _ _ _ _) (@B5 _ _ _ _ _ _ (@C1 _ _ _ _ _) (@B5 _ _ _ _ _ _ (@C1 _ _ _ _ _) (@B5 _ _ _ _ _ _ (@C1 _ _ _ _ _) (@B5 _ _ _ _ _ _ (@C1 _ _ _ _ _) (@B5 _ _ _ _ _ _ (@C1 _ _ _ _ _) (@B5 _ _ _ _ _ _ (@C1 _ _ _ _ _) (@B5 _ _ _ _ _ _ (@C1 _ _ _ _ _) (@B5 _ _ _ _ _ _ (@C1 _ _ _ _ _) (@B5 _ _ _ _ _ _ (@C1 _ _ _ _ _) (@C4 _ _) (by exact B7 rfl)) (by exact B7 rfl)) (by exact B7 rfl)) (by exact B7 rfl)) (by exact B7 rfl)) (by exact B7 rfl)) (by exact B7 rfl)) (by exact B7 rfl)) (by exact B7 rfl)) (by exact B7 rfl)) (by exact B7 rfl)) (by exact B7 rfl)) (by exact B7 rfl)))) (@E1 _ _ _ _ _ _ _ _ _ _ _ (by exact c8) (by exact(hr.mono (show 1≤1 by decide))) (by exact rfl) (@M7 _ _ _ _ _ _ _ (pv 0) (@C5 _ _ _ _ _ _ (@C1 _ _ _ _ _) (@D2 _ _) (by exact B7 rfl)) (by exact B7 rfl)) (by decide) (by exact B7 rfl) (by exact E7 rfl)) (fun _ _=>rfl)) (fun _ _=>rfl)))))))))))))
theorem eJ:c4 ["_law_found","_law_due"] ["_law_found","_law_due"] (E8 KG):=K2
theorem eK:(["-0","-1","_law_one","_law_other"]:List Str).Nodup:=by rfl'
def Ex(r_:Fn):Mo Fl:=(C6 (F3 (mT (Mp "tuple" "list" (A0 1))) (C6 (F3 (L4 (mT (B8 (j7 true) (nB "tuple" (A0 0)) (nB "tuple" (A0 1)))) (mT (B8 (j7 true) (nB "list" (A0 0)) (nB "list" (A0 1))))) (E2 (mC (.bl false))) kO) (E2 (X3 (B8 (j7 false) (i5 J7 (B0 (A0 0) B6)) (i5 J7 (B0 (A0 1) B6))) (i5 AQ (B0 (mF (G9 (Al (B0 (A0 0) (B0 (A0 1) B6))) [false,false] 2 (gT 2 (mS (gN 2) (mS (gN 3) oR))) J0 (c9 2 r_ (B4 (A0 2) (B4 (A0 3) B9))))) B6))))) kO) (E2 (X3 (B8 (j7 false) (A0 0) (A0 1)) (B8 (j7 false) (nB "bool" (A0 0)) (nB "bool" (A0 1))))))
def P9:Nat->Fn
 |0=>fun _=>none
 |n_+1=>kJ 2 (Ex (P9 n_))
theorem PB{f:Addr}{fd:FuncData}(F:kM K "_law_same" "_law_same" KG f fd)(T:Txt K mg)(hmg:mg "_law_same"=some (.ref f))(hkp:PySem.W.keepIn K (.ref f)=true)(hbd:O6 K fd ["_law_found","_law_due"] []):∀n_:Nat,f6 P w K mg base kF (1+n_) f fd ["_law_found","_law_due"] (k7 K 2 (P9 n_))
 |0=>Mt
 |n_+1=>by
  have kI:Def P w K mg base "_law_same" (1+n_) 2 (P9 n_):=⟨_,_,_,PB F T hmg hkp hbd n_,rfl,hmg,hkp,hbd⟩
  exact K8 F eJ fun cdv A outer s H E hr=>(by have n0:=eK;cases T;injections J R3 XA B3 J f J5 M M p M M C N0 j Br Cb X O X O Bq K9;exists (Dz rfl);injections R;exists (R0 (N':=["-0","-1","_law_one","_law_other"]) (keep:=[false,false]) (more:=2) ?_ ?_ ?_ ?_ ?_ ?_ ?_);injections Fm k B l m R6 Y C4 j Br Cb o Bq Cb M M)
theorem Kd:c4 ["_law_call","_law_error","e","_law_sorts","_law_words"] ["_law_call"] (E8 KH):=K2
theorem eL:(["-0","-1","-2","-3","-4","_law_one"]:List Str).Nodup:=by rfl'
def eM:Mo Fl:=(C6 (F3 (mT (B8 IT (A0 1) (mC .non))) (E2 (mC .non)) kO) (C6 (O7 3 (F7 (B0 (V3 xN "NoTable" (A0 1)) (B0 (V3 xN "NoHeights" (A0 1)) (B0 (V3 xN "NoNet" (A0 1)) B6))))) (C6 (O7 3 (Q5 (A0 3) (mF (F7 (B0 (V3 xN "NoPlace" (A0 1)) (B0 (V3 xN "NoTriangle" (A0 1)) (B0 (V3 xN "NoRow" (A0 1)) B6))))))) (C6 (Dr 3 (V3 xN "NoNumber" (A0 1))) (C6 (O7 3 (Q5 (A0 3) (mF (F7 (B0 (V3 xN "NoTurn" (A0 1)) (B0 (V3 xN "NotAlike" (A0 1)) (B0 (V3 xN "NoStep" (A0 1)) B6))))))) (C6 (O7 3 (Q5 (A0 3) (mF (F7 (B0 (V3 xN "NoRows" (A0 1)) (B0 (V3 xN "TooMany" (A0 1)) (B0 (V3 xN "BadNote" (A0 1)) B6))))))) (C6 (F3 (L4 (K0 (mT (NA xN (A0 1)))) (mT (B8 (j7 true) (i5 P7 (B0 (mF (G9 (F4 (A0 3)) [false,false,false,false,false] 1 (gN 5) J0 (i5 AR (B0 (A0 5) B6)))) B6)) (mC (.int 1))))) (E2 (mC (.str "none of these"))) kO) (C6 (D0 4 (mF (F7 (B0 (mC (.str "table")) (B0 (mC (.str "heights")) (B0 (mC (.str "net")) (B0 (mC (.str "place")) (B0 (mC (.str "triangle")) (B0 (mC (.str "row")) (B0 (mC (.str "number")) (B0 (mC (.str "turn")) (B0 (mC (.str "not alike")) (B0 (mC (.str "step")) B6))))))))))))) (E2 (B8 lP (mF (Q5 (A0 4) (mF (F7 (B0 (mC (.str "rows")) (B0 (mC (.str "many")) (B0 (mC (.str "note")) B6))))))) (B8 Ic (A0 3) (mC (.bl true)))))))))))))
def eO(o:Option Str):Mo Fl:=C6 (D0 1 (mC .non)) (C6 (IV xN 2 1 o) eM)
def U4:Option Str->Option D:=IZ 5 eO
theorem eP{f:Addr}{fd:FuncData}(F:kM K "_law_refused" "_law_refused" KH f fd)(T:Txt K mg)(hmg:mg "_law_refused"=some (.ref f))(hbd:O6 K fd ["_law_call"] []):nP P w K mg base "_law_refused" 21 20 U4:=
 YV F Kd hmg hbd (by decide) fun cdv A outer s H E fl o G hr fn clo=>YH (i0:=0) (i:=2) (j:=1) rfl rfl rfl T.ex Kd.nd rfl (Or.inl rfl) rfl rfl rfl rfl (by decide) rfl fn clo (by have n0:=eL;have n1:=Kd.nd;cases T;injections J Q AH C AH K6 t S e e V4 B t u d e e V4 B C9 Ds B5 V4 B t u d e e V4 B t u d e e V4 B J f W NB B3 p K9;exists (BN rfl);injections R;exists (R0 (N':=["-0","-1","-2","-3","-4","_law_one"]) (keep:=[false,false,false,false,false]) (more:=1) ?_ ?_ ?_ ?_ ?_ ?_ ?_);injections c Cf DZ O C4 C1 C M0 K6 E E6 K4 N N N N N N N N N N C4 C T3 E6 u E6 K4 N N N C4 NL B3 N0)
theorem PD:c4 ["_law_side","_law_rows_here","_law_ways","_law_held_here","_law_row"] ["_law_side","_law_rows_here","_law_ways"] (E8 KI):=K2
theorem eQ:(["-0","-1","-2","-3","-4","_law_one"]:List Str).Nodup:=by rfl'
def CQ:Mo Fl:=(C6 (F3 (L4 (K0 (mT (nB "tuple" (A0 1)))) (mT (B8 qV (i5 J7 (B0 (A0 1) B6)) (A0 0)))) (E2 (mC (.int 0))) kO) (C6 (D0 3 (B8 M5 (D1 (B0 (mC (.int 0)) B6)) (A0 0))) (C6 (M6 (F4 (A0 1)) (gN 4) (C6 (F3 (L4 (K0 (mT (nB "tuple" (A0 4)))) (L4 (K0 (mT (i5 AQ (B0 (mF (G9 (F4 (A0 4)) [false,false,false,false,false] 1 (gN 5) J0 (c9 1 CP (B4 (A0 5) B9)))) B6)))) (mT (B8 (Y0 true) (A0 4) (mF (M3 1 T0 (B4 (A0 3) B9))))))) (E2 (mC (.int 0))) kO) (D0 3 (c9 2 W7 (B4 (A0 3) (B4 (A0 4) B9)))))) (E2 (B8 CC (A0 2) (A0 3))))))
def Y7:Fn:=kJ 5 CQ
theorem eR{f:Addr}{fd:FuncData}(F:kM K "_law_many" "_law_many" KI f fd)(T:Txt K mg)(j3:Def P w K mg base "_law_held" 1 2 W7)(j2:Def P w K mg base "_law_rows" 1 1 T0)(mQ:Def P w K mg base "_law_whole" 1 1 CP):f6 P w K mg base kF 2 f fd ["_law_side","_law_rows_here","_law_ways"] (k7 K 3 Y7):=
 K8 F PD fun cdv A outer s H E hr=>(by have n0:=eQ;have n1:=PD.nd;cases T;injections J f W M p X O B3 C C1 K6 E D9 i B3 U T J f W M AI W K9;exists (Dz rfl);injections R;exists (R0 (N':=["-0","-1","-2","-3","-4","_law_one"]) (keep:=[false,false,false,false,false]) (more:=1) ?_ ?_ ?_ ?_ ?_ ?_ ?_);injections c E1 G C4 BC Q b G C C1 K6 r Y C Ij o)
theorem PF:c4 ["_law_top","_law_bottom","_law_one","_law_other"] ["_law_top","_law_bottom"] (E8 KJ):=K2
def Ke:Mo Fl:=(C6 (AL 2 3 (B0 (A0 1) (B0 (A0 0) B6))) (C6 (IK 60 (mT (B8 qV (A0 3) (mC (.int 0)))) (AL 2 3 (B0 (A0 3) (B0 (B8 R1 (A0 2) (A0 3)) B6)))) (E2 (D1 (B0 (B8 CD (A0 0) (A0 2)) (B0 (B8 CD (A0 1) (A0 2)) B6))))))
def DN:Fn:=kJ 4 Ke
theorem eU{f:Addr}{fd:FuncData}(F:kM K "_law_cut" "_law_cut" KJ f fd)(T:Txt K mg):f6 P w K mg base kF 1 f fd ["_law_top","_law_bottom"] (k7 K 2 DN):=
 K8 F PF fun cdv A outer s H E hr=>(by have n0:=PF.nd;cases T;injections C9;exists (Ci (i:=2) (j:=3) ?_ ?_ ?_ ?_ ?_ ?_ ?_ ?_ ?_ ?_);injections k B C9 IL n D5;exists (Ci (i:=2) (j:=3) ?_ ?_ ?_ ?_ ?_ ?_ ?_ ?_ ?_ ?_);injections k F B C D F I F B)
theorem W8:c4 ["_law_script","_law_k","_law_state_here","_law_side","_law_ways","_law_table_here","_law_rows_here","_law_odd_here","_law_things","_law_thing","_law_due","_law_word","_law_call"] ["_law_script"] (E8 DK):=K2
def PH:Mo Fl:=(C6 (F3 (L4 (mT (B8 (j7 true) (c9 2 O1 (B4 (mC (.int 3)) (B4 (D1 (B0 (D1 (B0 (mC (.int 0)) (B0 (mC (.int 1)) (B0 (mC (.int 0)) B6)))) B6)) B9))) (mC (.int 3)))) (L4 (mT (B8 (j7 true) (c9 2 P8 (B4 (mC (.int 3)) (B4 (D1 (B0 (D1 (B0 (mC (.int 0)) (B0 (mC (.int 1)) (B0 (mC (.int 0)) B6)))) B6)) B9))) (D1 (B0 (mC (.int 3)) (B0 (mC (.int 7)) B6))))) (mT (B8 (j7 true) (c9 2 P8 (B4 (mC (.int 1)) (B4 (D1 B6) B9))) (D1 (B0 (mC (.int 1)) (B0 (mC (.int 1)) B6))))))) (E2 (mC (.bl false))) kO) (C6 (M6 (AM (B0 (i5 Cn (B0 (mC (.int 1)) (B0 (i5 Co (B0 (i5 J7 (B0 (A0 0) B6)) (B0 (mC (.int 6)) B6))) B6))) B6)) (gN 1) (C6 (O7 2 (M3 2 Es (B4 (A0 0) (B4 (A0 1) B9)))) (C6 (D0 3 (B8 D7 (mC (.int 1)) (c9 2 K5 (G0 2 (B4 (mC (.int 6)) B9))))) (C6 (D0 4 (c9 1 Ew (B4 (A0 3) B9))) (C6 (D0 5 (c9 2 Eu (G0 2 (B4 (A0 3) B9)))) (C6 (M6 (F4 (mF (F7 (B0 (kZ (A0 5) J3 (J2 (c9 2 K5 (G0 2 (B4 (B8 D7 (A0 3) (mC (.int 1))) B9))))) (B0 (D1 B6) (B0 (A0 5) (B0 (kZ (A0 5) J3 (J2 (mC (.int 1)))) B6))))))) (gN 6) (C6 (D0 10 (c9 3 Y7 (B4 (A0 3) (B4 (A0 6) (B4 (A0 4) B9))))) (C6 (F3 (K0 (mT (c9 2 (P9 6) (B4 (c9 2 O1 (B4 (A0 3) (B4 (A0 6) B9))) (B4 (A0 10) B9))))) (E2 (mC (.bl false))) kO) (F3 (K0 (mT (c9 2 (P9 6) (B4 (c9 2 P8 (B4 (A0 3) (B4 (A0 6) B9))) (B4 (c9 2 DN (B4 (A0 10) (B4 (B8 CC (A0 4) (B8 M5 (D1 (B0 (mC (.int 0)) B6)) (A0 3))) B9))) B9))))) (E2 (mC (.bl false))) kO)))) (C6 (D0 7 (B8 lP (mF (F7 (B0 (mC (.int 0)) (B0 (mC (.int 7)) (B0 (T2 (mC (.int 1))) (B0 (mC (.bl true)) (B0 (mC (.bl false)) (B0 (mC .non) (B0 (mC (.str "2")) (B0 (D1 (B0 (mC (.int 2)) B6)) (B0 (B8 U6 (mC (.int 10)) (mC (.int 29))) (B0 (mF (F7 (B0 (mC (.int 1)) B6))) B6)))))))))))) (c9 2 K5 (G0 2 (B4 (mC (.int 10)) B9))))) (C6 (D0 8 (mF (F7 (B0 (c9 2 Az (G0 2 (B4 (A0 5) B9))) (B0 (c9 2 Az (G0 2 (B4 (A0 5) B9))) (B0 (kZ (A0 5) (J2 (mC (.int 1))) J3) (B0 (mF (pU Bs (B0 (kZ (A0 5) J3 (J2 (mC (.int 1)))) B6))) (B0 (c9 1 DM (G0 2 B9)) B6)))))))) (M6 (F4 (A0 8)) (gN 9) (C6 (D0 11 (B8 lP (mF (F7 (B0 (mC .non) (B0 (mC (.str "rows")) B6)))) (i5 AR (B0 (B8 (j7 false) (c9 3 Y7 (B4 (A0 3) (B4 (A0 9) (B4 (A0 4) B9)))) (mC (.int 0))) B6)))) (M6 (F4 (mF (F7 (B0 (mC (.obj (.fn "many_so"))) (B0 (mC (.obj (.fn "share_so"))) (B0 (mC (.obj (.fn "next_rows"))) B6)))))) (gN 12) (C6 (F3 (mT (B8 (j7 true) (W3 xN [false,false,false,true,false,false,false,false,false,true,false,false,true] (AA 2 12 [("many_so",O1),("share_so",P8),("next_rows",AD)] (B4 (A0 3) (B4 (A0 9) B9))) (pY 2 12 [("many_so",V6),("share_so",Y5),("next_rows",Y6)] (B4 (A0 3) (B4 (A0 9) B9))) U4) (A0 11))) (E2 (mC (.bl false))) kO) (F3 (mT (B8 (j7 true) (W3 xN [false,false,false,false,false,false,false,true,false,true,false,false,true] (AA 2 12 [("many_so",O1),("share_so",P8),("next_rows",AD)] (B4 (A0 7) (B4 (A0 9) B9))) (pY 2 12 [("many_so",V6),("share_so",Y5),("next_rows",Y6)] (B4 (A0 7) (B4 (A0 9) B9))) U4) (mC (.str "number")))) (E2 (mC (.bl false))) kO))))))))))))) (E2 (mC (.bl true)))))
def Gi:Fn:=kJ 13 PH
theorem eV{f Pt:Addr}{fd:FuncData}{cd:Value}(F:kM K "law" "law" DK f fd)(hcd:fd.code=cd)(T:Txt K mg)(tb:nE K mg base cd "law" Pt)(lG:Def P w K mg base "_law_state" 2 2 Es)(k6:Def P w K mg base "_law_counts" 2 1 Ew)(lI:Def P w K mg base "_law_table" 2 2 Eu)(i8:Def P w K mg base "many_so" 18 2 O1)(j1:Def P w K mg base "share_so" 19 2 P8)(c8:Def P w K mg base "_law_take" 1 2 K5)(kT:Def P w K mg base "_law_many" 2 3 Y7)(kU:Def P w K mg base "_law_bent" 2 2 Az)(mG:Def P w K mg base "_law_odd" 2 1 DM)(kI:Def P w K mg base "_law_same" 7 2 (P9 6))(mH:Def P w K mg base "_law_cut" 1 2 DN)(kD:nP P w K mg base "_law_refused" 21 20 U4)(kW:Def P w K mg base "next_rows" 19 2 AD)(kE:m8 P w K mg base "many_so" 18 2 V6)(kX:m8 P w K mg base "share_so" 19 2 Y5)(kL:m8 P w K mg base "next_rows" 19 2 Y6):f6 P w K mg base kF 22 f fd ["_law_script"] (rB K [Pt] 1 Gi):=
 YZ (N:=["_law_script","_law_k","_law_state_here","_law_side","_law_ways","_law_table_here","_law_rows_here","_law_odd_here","_law_things","_law_thing","_law_due","_law_word","_law_call"]) (mb:=PH) F hcd W8 fun A outer s H E tbi hr=>by
  obtain⟨ps0,hP⟩:=tbi Pt (by simp)
  exact(@C9 _ _ _ _ _ _ (@K7 _ _ _ _ _ _ _ _ _ (@Z0 _ _ _ _ (@AI _ _ _ _ _ _ _ _ (@J5 _ _ _ _ _ _ _ _ _ _ (by exact(mD hr.units)) (by exact mE) (@E1 _ _ _ _ _ _ _ _ _ _ _ (by exact i8) (by exact(hr.mono (show 18≤21 by decide))) (by exact rfl) (@C5 _ _ _ _ _ _ (@C1 _ _ _ _ _) (@C5 _ _ _ _ _ _ (@E5 _ _ _ _ _ _ (@B5 _ _ _ _ _ _ (@E5 _ _ _ _ _ _ (@B5 _ _ _ _ _ _ (@C1 _ _ _ _ _) (@B5 _ _ _ _ _ _ (@C1 _ _ _ _ _) (@B5 _ _ _ _ _ _ (@C1 _ _ _ _ _) (@C4 _ _) (by exact B7 rfl)) (by exact B7 rfl)) (by exact B7 rfl))) (@C4 _ _) (by exact B7 rfl))) (@D2 _ _) (by exact B7 rfl)) (by exact B7 rfl)) (by decide) (by exact B7 rfl) (by exact E7 rfl)) (@C1 _ _ _ _ _) (by exact(l0 _))) (@AI _ _ _ _ _ _ _ _ (@J5 _ _ _ _ _ _ _ _ _ _ (by exact(mD hr.units)) (by exact mE) (@E1 _ _ _ _ _ _ _ _ _ _ _ (by exact j1) (by exact(hr.mono (show 19≤21 by decide))) (by exact rfl) (@C5 _ _ _ _ _ _ (@C1 _ _ _ _ _) (@C5 _ _ _ _ _ _ (@E5 _ _ _ _ _ _ (@B5 _ _ _ _ _ _ (@E5 _ _ _ _ _ _ (@B5 _ _ _ _ _ _ (@C1 _ _ _ _ _) (@B5 _ _ _ _ _ _ (@C1 _ _ _ _ _) (@B5 _ _ _ _ _ _ (@C1 _ _ _ _ _) (@C4 _ _) (by exact B7 rfl)) (by exact B7 rfl)) (by exact B7 rfl))) (@C4 _ _) (by exact B7 rfl))) (@D2 _ _) (by exact B7 rfl)) (by exact B7 rfl)) (by decide) (by exact B7 rfl) (by exact E7 rfl)) (@E5 _ _ _ _ _ _ (@B5 _ _ _ _ _ _ (@C1 _ _ _ _ _) (@B5 _ _ _ _ _ _ (@C1 _ _ _ _ _) (@C4 _ _) (by exact B7 rfl)) (by exact B7 rfl))) (by exact(l0 _))) (@BC _ _ _ _ _ (@J5 _ _ _ _ _ _ _ _ _ _ (by exact(mD hr.units)) (by exact mE) (@E1 _ _ _ _ _ _ _ _ _ _ _ (by exact j1) (by exact(hr.mono (show 19≤21 by decide))) (by exact rfl) (@C5 _ _ _ _ _ _ (@C1 _ _ _ _ _) (@C5 _ _ _ _ _ _ (@E5 _ _ _ _ _ _ (@C4 _ _)) (@D2 _ _) (by exact B7 rfl)) (by exact B7 rfl)) (by decide) (by exact B7 rfl) (by exact E7 rfl)) (@E5 _ _ _ _ _ _ (@B5 _ _ _ _ _ _ (@C1 _ _ _ _ _) (@B5 _ _ _ _ _ _ (@C1 _ _ _ _ _) (@C4 _ _) (by exact B7 rfl)) (by exact B7 rfl))) (by exact(l0 _))))))) (@D5 _ _ _ _ (@G7 _ _ _ _ _ (@N0 _ _ _ _ _))) (@K6 _ _)) (@C9 _ _ _ _ _ _ (@R5 _ _ _ _ _ _ _ _ _ (by exact Vz) (by exact rfl) (@Dt _ _ _ _ _ _ _ (by exact rfl) (by exact T.g_range) (@B5 _ _ _ _ _ _ (@K9 _ _ _ _ _ _ _ _ _ _ _ (by exact(Te rfl)) (by exact WE) (by exact rfl) (by exact T.g_max) (by exact Wu) (@B5 _ _ _ _ _ _ (@C1 _ _ _ _ _) (@B5 _ _ _ _ _ _ (@K9 _ _ _ _ _ _ _ _ _ _ _ (by exact(Tf rfl)) (by exact WG) (by exact rfl) (by exact T.g_min) (by exact Mi) (@B5 _ _ _ _ _ _ (@K9 _ _ _ _ _ _ _ _ _ _ _ (by exact U5) (by exact Dp) (by exact rfl) (by exact T.g_len) (by exact Xu) (@B5 _ _ _ _ _ _ (@B3 _ _ _ _ _ (pv 0)) (@C4 _ _) (by exact B7 rfl)) (by decide) (by decide) (by exact B7 rfl) (by exact E7 rfl)) (@B5 _ _ _ _ _ _ (@C1 _ _ _ _ _) (@C4 _ _) (by exact B7 rfl)) (by exact B7 rfl)) (by decide) (by decide) (by exact B7 rfl) (by exact E7 rfl)) (@C4 _ _) (by exact B7 rfl)) (by exact B7 rfl)) (by decide) (by decide) (by exact B7 rfl) (by exact E7 rfl)) (@C4 _ _) (by exact B7 rfl)) (by exact uB rfl)) (@G8 _ _ _ _ 1 _ (by exact(show 0≤1 by decide)) (by exact W8.nd) (by exact rfl) (by first|exact Or.inl rfl|exact Or.inr rfl) (by first|exact .inl rfl|exact .inr rfl|assumption)) (@C9 _ _ _ _ _ _ (@Bv _ _ _ _ _ 2 _ _ (by exact W8.nd) (by exact rfl) (by first|exact Or.inl rfl|exact Or.inr rfl) (@W0 _ _ _ _ _ _ _ _ _ _ _ (by exact lG) (by exact(hr.mono (show 2≤21 by decide))) (by exact rfl) (@C5 _ _ _ _ _ _ (@B3 _ _ _ _ _ (pv 0)) (@C5 _ _ _ _ _ _ (@B3 _ _ _ _ _ (pv 1)) (@D2 _ _) (by exact B7 rfl)) (by exact B7 rfl)) (by decide) (by exact B7 rfl) (by exact E7 rfl)) (by rfl) (by first|exact .inl rfl|exact .inr rfl|assumption)) (@C9 _ _ _ _ _ _ (@F8 _ _ _ _ _ 3 _ _ (by exact W8.nd) (by exact rfl) (by first|exact Or.inl rfl|exact Or.inr rfl) (@D9 _ _ _ _ _ _ _ _ _ _ (by exact N9) (by exact O0) (@C1 _ _ _ _ _) (@E1 _ _ _ _ _ _ _ _ _ _ _ (by exact c8) (by exact(hr.mono (show 1≤21 by decide))) (by exact rfl) (@M7 _ _ _ _ _ _ _ (pv 2) (@C5 _ _ _ _ _ _ (@C1 _ _ _ _ _) (@D2 _ _) (by exact B7 rfl)) (by exact B7 rfl)) (by decide) (by exact B7 rfl) (by exact E7 rfl))) (by rfl) (by first|exact .inl rfl|exact .inr rfl|assumption)) (@C9 _ _ _ _ _ _ (@F8 _ _ _ _ _ 4 _ _ (by exact W8.nd) (by exact rfl) (by first|exact Or.inl rfl|exact Or.inr rfl) (@E1 _ _ _ _ _ _ _ _ _ _ _ (by exact k6) (by exact(hr.mono (show 2≤21 by decide))) (by exact rfl) (@C5 _ _ _ _ _ _ (@B3 _ _ _ _ _ (pv 3)) (@D2 _ _) (by exact B7 rfl)) (by decide) (by exact B7 rfl) (by exact E7 rfl)) (by rfl) (by first|exact .inl rfl|exact .inr rfl|assumption)) (@C9 _ _ _ _ _ _ (@F8 _ _ _ _ _ 5 _ _ (by exact W8.nd) (by exact rfl) (by first|exact Or.inl rfl|exact Or.inr rfl) (@E1 _ _ _ _ _ _ _ _ _ _ _ (by exact lI) (by exact(hr.mono (show 2≤21 by decide))) (by exact rfl) (@M7 _ _ _ _ _ _ _ (pv 2) (@C5 _ _ _ _ _ _ (@B3 _ _ _ _ _ (pv 3)) (@D2 _ _) (by exact B7 rfl)) (by exact B7 rfl)) (by decide) (by exact B7 rfl) (by exact E7 rfl)) (by rfl) (by first|exact .inl rfl|exact .inr rfl|assumption)) (@C9 _ _ _ _ _ _ (@R5 _ _ _ _ _ _ _ _ _ (by exact Vz) (by exact rfl) (@L5 _ _ _ _ _ (@E6 _ _ _ _ (@K4 _ _ _ _ _ (@B5 _ _ _ _ _ _ (@P0 _ _ _ _ _ _ _ _ _ _ (@B3 _ _ _ _ _ (pv 5)) (@O8 _ _) (@O9 _ _ _ _ (@E1 _ _ _ _ _ _ _ _ _ _ _ (by exact c8) (by exact(hr.mono (show 1≤21 by decide))) (by exact rfl) (@M7 _ _ _ _ _ _ _ (pv 2) (@C5 _ _ _ _ _ _ (@D9 _ _ _ _ _ _ _ _ _ _ (by exact N9) (by exact O0) (@B3 _ _ _ _ _ (pv 3)) (@C1 _ _ _ _ _)) (@D2 _ _) (by exact B7 rfl)) (by exact B7 rfl)) (by decide) (by exact B7 rfl) (by exact E7 rfl)))) (@B5 _ _ _ _ _ _ (@E5 _ _ _ _ _ _ (@C4 _ _)) (@B5 _ _ _ _ _ _ (@B3 _ _ _ _ _ (pv 5)) (@B5 _ _ _ _ _ _ (@P0 _ _ _ _ _ _ _ _ _ _ (@B3 _ _ _ _ _ (pv 5)) (@O8 _ _) (@O9 _ _ _ _ (@C1 _ _ _ _ _))) (@C4 _ _) (by exact B7 rfl)) (by exact B7 rfl)) (by exact B7 rfl)) (by exact B7 rfl))))) (@G8 _ _ _ _ 6 _ (by exact(show 0≤6 by decide)) (by exact W8.nd) (by exact rfl) (by first|exact Or.inl rfl|exact Or.inr rfl) (by first|exact .inl rfl|exact .inr rfl|assumption)) (@C9 _ _ _ _ _ _ (@F8 _ _ _ _ _ 10 _ _ (by exact W8.nd) (by exact rfl) (by first|exact Or.inl rfl|exact Or.inr rfl) (@E1 _ _ _ _ _ _ _ _ _ _ _ (by exact kT) (by exact(hr.mono (show 2≤21 by decide))) (by exact rfl) (@C5 _ _ _ _ _ _ (@B3 _ _ _ _ _ (pv 3)) (@C5 _ _ _ _ _ _ (@B3 _ _ _ _ _ (pv 6)) (@C5 _ _ _ _ _ _ (@B3 _ _ _ _ _ (pv 4)) (@D2 _ _) (by exact B7 rfl)) (by exact B7 rfl)) (by exact B7 rfl)) (by decide) (by exact B7 rfl) (by exact E7 rfl)) (by rfl) (by first|exact .inl rfl|exact .inr rfl|assumption)) (@C9 _ _ _ _ _ _ (@K7 _ _ _ _ _ _ _ _ _ (@U7 _ _ _ _ _ (@R3 _ _ _ _ (@E1 _ _ _ _ _ _ _ _ _ _ _ (by exact kI) (by exact(hr.mono (show 7≤21 by decide))) (by exact rfl) (@C5 _ _ _ _ _ _ (@E1 _ _ _ _ _ _ _ _ _ _ _ (by exact i8) (by exact(hr.mono (show 18≤21 by decide))) (by exact rfl) (@C5 _ _ _ _ _ _ (@B3 _ _ _ _ _ (pv 3)) (@C5 _ _ _ _ _ _ (@B3 _ _ _ _ _ (pv 6)) (@D2 _ _) (by exact B7 rfl)) (by exact B7 rfl)) (by decide) (by exact B7 rfl) (by exact E7 rfl)) (@C5 _ _ _ _ _ _ (@B3 _ _ _ _ _ (pv 10)) (@D2 _ _) (by exact B7 rfl)) (by exact B7 rfl)) (by decide) (by exact B7 rfl) (by exact E7 rfl)) (by intro _;rfl))) (@D5 _ _ _ _ (@G7 _ _ _ _ _ (@N0 _ _ _ _ _))) (@K6 _ _)) (@D5 _ _ _ _ (@K7 _ _ _ _ _ _ _ _ _ (@U7 _ _ _ _ _ (@R3 _ _ _ _ (@E1 _ _ _ _ _ _ _ _ _ _ _ (by exact kI) (by exact(hr.mono (show 7≤21 by decide))) (by exact rfl) (@C5 _ _ _ _ _ _ (@E1 _ _ _ _ _ _ _ _ _ _ _ (by exact j1) (by exact(hr.mono (show 19≤21 by decide))) (by exact rfl) (@C5 _ _ _ _ _ _ (@B3 _ _ _ _ _ (pv 3)) (@C5 _ _ _ _ _ _ (@B3 _ _ _ _ _ (pv 6)) (@D2 _ _) (by exact B7 rfl)) (by exact B7 rfl)) (by decide) (by exact B7 rfl) (by exact E7 rfl)) (@C5 _ _ _ _ _ _ (@E1 _ _ _ _ _ _ _ _ _ _ _ (by exact mH) (by exact(hr.mono (show 1≤21 by decide))) (by exact rfl) (@C5 _ _ _ _ _ _ (@B3 _ _ _ _ _ (pv 10)) (@C5 _ _ _ _ _ _ (@Ij _ _ _ _ _ _ _ (by exact hr.units) (@B3 _ _ _ _ _ (pv 4)) (@D9 _ _ _ _ _ _ _ _ _ _ (by exact IB) (by exact IC) (@E5 _ _ _ _ _ _ (@B5 _ _ _ _ _ _ (@C1 _ _ _ _ _) (@C4 _ _) (by exact B7 rfl))) (@B3 _ _ _ _ _ (pv 3))) (fun _ _=>rfl)) (@D2 _ _) (by exact B7 rfl)) (by exact B7 rfl)) (by decide) (by exact B7 rfl) (by exact E7 rfl)) (@D2 _ _) (by exact B7 rfl)) (by exact B7 rfl)) (by decide) (by exact B7 rfl) (by exact E7 rfl)) (by intro _;rfl))) (@D5 _ _ _ _ (@G7 _ _ _ _ _ (@N0 _ _ _ _ _))) (@K6 _ _))))) (by intro _;rfl)) (@C9 _ _ _ _ _ _ (@F8 _ _ _ _ _ 7 _ _ (by exact W8.nd) (by exact rfl) (by first|exact Or.inl rfl|exact Or.inr rfl) (@T3 _ _ _ _ _ _ _ (@E6 _ _ _ _ (@K4 _ _ _ _ _ (@B5 _ _ _ _ _ _ (@C1 _ _ _ _ _) (@B5 _ _ _ _ _ _ (@C1 _ _ _ _ _) (@B5 _ _ _ _ _ _ (@BD _ _ _ _ _ (@C1 _ _ _ _ _)) (@B5 _ _ _ _ _ _ (@N0 _ _ _ _ _) (@B5 _ _ _ _ _ _ (@N0 _ _ _ _ _) (@B5 _ _ _ _ _ _ (@AH _ _ _ _) (@B5 _ _ _ _ _ _ (@M0 _ _ _ _ _ (by decide)) (@B5 _ _ _ _ _ _ (@E5 _ _ _ _ _ _ (@B5 _ _ _ _ _ _ (@C1 _ _ _ _ _) (@C4 _ _) (by exact B7 rfl))) (@B5 _ _ _ _ _ _ (@D9 _ _ _ _ _ _ _ _ _ _ (by exact HV) (by exact Hf) (@C1 _ _ _ _ _) (@C1 _ _ _ _ _)) (@B5 _ _ _ _ _ _ (@E6 _ _ _ _ (@K4 _ _ _ _ _ (@B5 _ _ _ _ _ _ (@C1 _ _ _ _ _) (@C4 _ _) (by exact B7 rfl)))) (@C4 _ _) (by exact B7 rfl)) (by exact B7 rfl)) (by exact B7 rfl)) (by exact B7 rfl)) (by exact B7 rfl)) (by exact B7 rfl)) (by exact B7 rfl)) (by exact B7 rfl)) (by exact B7 rfl)) (by exact B7 rfl)))) (@E1 _ _ _ _ _ _ _ _ _ _ _ (by exact c8) (by exact(hr.mono (show 1≤21 by decide))) (by exact rfl) (@M7 _ _ _ _ _ _ _ (pv 2) (@C5 _ _ _ _ _ _ (@C1 _ _ _ _ _) (@D2 _ _) (by exact B7 rfl)) (by exact B7 rfl)) (by decide) (by exact B7 rfl) (by exact E7 rfl)) (fun _ _=>rfl)) (by rfl) (by first|exact .inl rfl|exact .inr rfl|assumption)) (@C9 _ _ _ _ _ _ (@F8 _ _ _ _ _ 8 _ _ (by exact W8.nd) (by exact rfl) (by first|exact Or.inl rfl|exact Or.inr rfl) (@E6 _ _ _ _ (@K4 _ _ _ _ _ (@B5 _ _ _ _ _ _ (@E1 _ _ _ _ _ _ _ _ _ _ _ (by exact kU) (by exact(hr.mono (show 2≤21 by decide))) (by exact rfl) (@M7 _ _ _ _ _ _ _ (pv 2) (@C5 _ _ _ _ _ _ (@B3 _ _ _ _ _ (pv 5)) (@D2 _ _) (by exact B7 rfl)) (by exact B7 rfl)) (by decide) (by exact B7 rfl) (by exact E7 rfl)) (@B5 _ _ _ _ _ _ (@E1 _ _ _ _ _ _ _ _ _ _ _ (by exact kU) (by exact(hr.mono (show 2≤21 by decide))) (by exact rfl) (@M7 _ _ _ _ _ _ _ (pv 2) (@C5 _ _ _ _ _ _ (@B3 _ _ _ _ _ (pv 5)) (@D2 _ _) (by exact B7 rfl)) (by exact B7 rfl)) (by decide) (by exact B7 rfl) (by exact E7 rfl)) (@B5 _ _ _ _ _ _ (@P0 _ _ _ _ _ _ _ _ _ _ (@B3 _ _ _ _ _ (pv 5)) (@O9 _ _ _ _ (@C1 _ _ _ _ _)) (@O8 _ _)) (@B5 _ _ _ _ _ _ (@E6 _ _ _ _ (@Hj _ _ _ _ _ _ _ _ _ _ _ (by exact HZ) (by exact Hm) (by exact rfl) (by exact T.g_list) (by exact Fp) (@B5 _ _ _ _ _ _ (@P0 _ _ _ _ _ _ _ _ _ _ (@B3 _ _ _ _ _ (pv 5)) (@O8 _ _) (@O9 _ _ _ _ (@C1 _ _ _ _ _))) (@C4 _ _) (by exact B7 rfl)) (by decide) (by decide) (by exact B7 rfl) (by exact E7 rfl))) (@B5 _ _ _ _ _ _ (@E1 _ _ _ _ _ _ _ _ _ _ _ (by exact mG) (by exact(hr.mono (show 2≤21 by decide))) (by exact rfl) (@M7 _ _ _ _ _ _ _ (pv 2) (@D2 _ _) (by exact B7 rfl)) (by decide) (by exact B7 rfl) (by exact E7 rfl)) (@C4 _ _) (by exact B7 rfl)) (by exact B7 rfl)) (by exact B7 rfl)) (by exact B7 rfl)) (by exact B7 rfl)))) (by rfl) (by first|exact .inl rfl|exact .inr rfl|assumption)) (@D5 _ _ _ _ (@R5 _ _ _ _ _ _ _ _ _ (by exact Vz) (by exact rfl) (@L5 _ _ _ _ _ (@B3 _ _ _ _ _ (pv 8))) (@G8 _ _ _ _ 9 _ (by exact(show 0≤9 by decide)) (by exact W8.nd) (by exact rfl) (by first|exact Or.inl rfl|exact Or.inr rfl) (by first|exact .inl rfl|exact .inr rfl|assumption)) (@C9 _ _ _ _ _ _ (@F8 _ _ _ _ _ 11 _ _ (by exact W8.nd) (by exact rfl) (by first|exact Or.inl rfl|exact Or.inr rfl) (@T3 _ _ _ _ _ _ _ (@E6 _ _ _ _ (@K4 _ _ _ _ _ (@B5 _ _ _ _ _ _ (@AH _ _ _ _) (@B5 _ _ _ _ _ _ (@M0 _ _ _ _ _ (by decide)) (@C4 _ _) (by exact B7 rfl)) (by exact B7 rfl)))) (@Cf _ _ _ _ _ _ _ _ _ _ _ (by exact DZ) (by exact MQ) (by exact rfl) (by exact T.g_int) (by exact Mh) (@B5 _ _ _ _ _ _ (@Cb _ _ _ _ _ _ _ _ _ _ (by exact(oS hr.units)) (by exact mE) (@E1 _ _ _ _ _ _ _ _ _ _ _ (by exact kT) (by exact(hr.mono (show 2≤21 by decide))) (by exact rfl) (@C5 _ _ _ _ _ _ (@B3 _ _ _ _ _ (pv 3)) (@C5 _ _ _ _ _ _ (@B3 _ _ _ _ _ (pv 9)) (@C5 _ _ _ _ _ _ (@B3 _ _ _ _ _ (pv 4)) (@D2 _ _) (by exact B7 rfl)) (by exact B7 rfl)) (by exact B7 rfl)) (by decide) (by exact B7 rfl) (by exact E7 rfl)) (@C1 _ _ _ _ _) (by exact(l0 _))) (@C4 _ _) (by exact B7 rfl)) (by decide) (by decide) (by exact B7 rfl) (by exact E7 rfl)) (fun _ _=>rfl)) (by rfl) (by first|exact .inl rfl|exact .inr rfl|assumption)) (@D5 _ _ _ _ (@R5 _ _ _ _ _ _ _ _ _ (by exact Vz) (by exact rfl) (@L5 _ _ _ _ _ (@E6 _ _ _ _ (@K4 _ _ _ _ _ (@B5 _ _ _ _ _ _ (@Iv _ _ _ _ (by exact rfl) (by exact T.lA) (by decide)) (@B5 _ _ _ _ _ _ (@Iv _ _ _ _ (by exact rfl) (by exact T.kP) (by decide)) (@B5 _ _ _ _ _ _ (@Iv _ _ _ _ (by exact rfl) (by exact T.kH) (by decide)) (@C4 _ _) (by exact B7 rfl)) (by exact B7 rfl)) (by exact B7 rfl))))) (@G8 _ _ _ _ 12 _ (by exact(show 0≤12 by decide)) (by exact W8.nd) (by exact rfl) (by first|exact Or.inl rfl|exact Or.inr rfl) (by first|exact .inl rfl|exact .inr rfl|assumption)) (@C9 _ _ _ _ _ _ (@K7 _ _ _ _ _ _ _ _ _ (@J5 _ _ _ _ _ _ _ _ _ _ (by exact(mD hr.units)) (by exact mE) (@NH _ _ _ _ _ _ _ 19 _ _ ["-0","-1","-2","_law_side","-4","-5","-6","-7","-8","_law_thing","-10","-11","_law_call"] _ [false,false,false,true,false,false,false,false,false,true,false,false,true] _ _ _ _ _ _ _ _ (by exact kD) (by exact(hr.mono (show 21≤21 by decide))) (by exact rfl) (by exact tb) (by exact rfl) (by exact hP) (fun _=>rfl) (by exact T.ex) (by exact(IE rfl rfl)) (by exact rfl) (by exact rfl) (by rfl') (by exact rfl) (fun _ _ _ _=>rfl) (fun fl c' cl H₁ A outer s E hr=>(@OV _ _ _ _ _ _ _ _ _ _ _ (@DD _ _ _ _ _ _ (by exact i8) (by exact T.lA) (by exact(hr.mono (show 18≤19 by decide))) (@DD _ _ _ _ _ _ (by exact j1) (by exact T.kP) (by exact(hr.mono (show 19≤19 by decide))) (@DD _ _ _ _ _ _ (by exact kW) (by exact T.kH) (by exact(hr.mono (show 19≤19 by decide))) (@Nx _ _)))) (pv 12) (@C5 _ _ _ _ _ _ (@B3 _ _ _ _ _ (pv 3)) (@C5 _ _ _ _ _ _ (@B3 _ _ _ _ _ (pv 9)) (@D2 _ _) (by exact B7 rfl)) (by exact B7 rfl)) (by exact B7 rfl) (by exact E7 rfl))) (fun fl c' cl H₁ A outer s E hr=>(@OB _ _ _ _ _ _ _ _ _ _ _ _ (by exact NF) (@DE _ _ _ _ _ _ (by exact kE) (by exact T.lA) (by exact(hr.mono (show 18≤19 by decide))) (@DE _ _ _ _ _ _ (by exact kX) (by exact T.kP) (by exact(hr.mono (show 19≤19 by decide))) (@DE _ _ _ _ _ _ (by exact kL) (by exact T.kH) (by exact(hr.mono (show 19≤19 by decide))) (@Ny _ _)))) (pv 12) (by exact(PA.nox (@C5 _ _ _ _ _ _ (@B3 _ _ _ _ _ (pv 3)) (@C5 _ _ _ _ _ _ (@B3 _ _ _ _ _ (pv 9)) (@D2 _ _) (by exact B7 rfl)) (by exact B7 rfl)))) (by exact B7 rfl) (by exact E7 rfl))) (by decide) (by exact B7 rfl) (by exact E7 rfl)) (@B3 _ _ _ _ _ (pv 11)) (by exact(l0 _))) (@D5 _ _ _ _ (@G7 _ _ _ _ _ (@N0 _ _ _ _ _))) (@K6 _ _)) (@D5 _ _ _ _ (@K7 _ _ _ _ _ _ _ _ _ (@J5 _ _ _ _ _ _ _ _ _ _ (by exact(mD hr.units)) (by exact mE) (@NH _ _ _ _ _ _ _ 19 _ _ ["-0","-1","-2","-3","-4","-5","-6","_law_odd_here","-8","_law_thing","-10","-11","_law_call"] _ [false,false,false,false,false,false,false,true,false,true,false,false,true] _ _ _ _ _ _ _ _ (by exact kD) (by exact(hr.mono (show 21≤21 by decide))) (by exact rfl) (by exact tb) (by exact rfl) (by exact hP) (fun _=>rfl) (by exact T.ex) (by exact(IE rfl rfl)) (by exact rfl) (by exact rfl) (by rfl') (by exact rfl) (fun _ _ _ _=>rfl) (fun fl c' cl H₁ A outer s E hr=>(@OV _ _ _ _ _ _ _ _ _ _ _ (@DD _ _ _ _ _ _ (by exact i8) (by exact T.lA) (by exact(hr.mono (show 18≤19 by decide))) (@DD _ _ _ _ _ _ (by exact j1) (by exact T.kP) (by exact(hr.mono (show 19≤19 by decide))) (@DD _ _ _ _ _ _ (by exact kW) (by exact T.kH) (by exact(hr.mono (show 19≤19 by decide))) (@Nx _ _)))) (pv 12) (@C5 _ _ _ _ _ _ (@B3 _ _ _ _ _ (pv 7)) (@C5 _ _ _ _ _ _ (@B3 _ _ _ _ _ (pv 9)) (@D2 _ _) (by exact B7 rfl)) (by exact B7 rfl)) (by exact B7 rfl) (by exact E7 rfl))) (fun fl c' cl H₁ A outer s E hr=>(@OB _ _ _ _ _ _ _ _ _ _ _ _ (by exact NF) (@DE _ _ _ _ _ _ (by exact kE) (by exact T.lA) (by exact(hr.mono (show 18≤19 by decide))) (@DE _ _ _ _ _ _ (by exact kX) (by exact T.kP) (by exact(hr.mono (show 19≤19 by decide))) (@DE _ _ _ _ _ _ (by exact kL) (by exact T.kH) (by exact(hr.mono (show 19≤19 by decide))) (@Ny _ _)))) (pv 12) (by exact(PA.nox (@C5 _ _ _ _ _ _ (@B3 _ _ _ _ _ (pv 7)) (@C5 _ _ _ _ _ _ (@B3 _ _ _ _ _ (pv 9)) (@D2 _ _) (by exact B7 rfl)) (by exact B7 rfl)))) (by exact B7 rfl) (by exact E7 rfl))) (by decide) (by exact B7 rfl) (by exact E7 rfl)) (@M0 _ _ _ _ _ (by decide)) (by exact(l0 _))) (@D5 _ _ _ _ (@G7 _ _ _ _ _ (@N0 _ _ _ _ _))) (@K6 _ _)))) (by intro _;rfl)))) (by intro _;rfl)))))))))) (by intro _;rfl)) (@D5 _ _ _ _ (@G7 _ _ _ _ _ (@N0 _ _ _ _ _)))))
end
def nJ:D->Bool
 |.int _=>true
 |_=>false
theorem eW(d:D):AZ [.dat d]=some (.d (.bl (nJ d)),[.dat d]):=by cases d<;>rfl
def oI(d:D)(n:Int):Bool:=match d with
 |.tup es=>(es.length:Int)==n&&es.all nJ
 |_=>false
theorem eX(d:D)(n:Int)(hn:n≤1000):Ax [.dat d,.dat (.int n)]=some (.d (.bl (oI d n)),[.dat d,.dat (.int n)]):=by
 cases d with
 |tup es=>
  by_cases h:(es.length:Int)=n
  ·have t:(L4 (K0 (mT (nB "tuple" (A0 0)))) (mT (B8 (j7 true) (i5 J7 (B0 (A0 0) B6)) (A0 1)))) [.dat (.tup es),.dat (.int n)]=some (false,[.dat (.tup es),.dat (.int n)]):=by
    show some (!((es.length:Int)==n),_)=_;rw[h];simp
   obtain⟨e',h1,w,rfl⟩:=IG (g:=gN 2) (m:=c9 1 AZ (B4 (A0 2) B9)) (P:=fun e=>∃w,e=[.nil,.nil,w]) (f:=fun d=>.bl (nJ d)) (ds:=es) (env:=[.nil,.nil,.nil])
    (fun d _ e ⟨w,he⟩=>by
     subst he;refine⟨[.nil,.nil,.dat d],[.nil,.nil,.dat d],rfl,?_,_,rfl⟩;show((AZ [.dat d]).map fun q=>(q.1,_)).bind sC=_
     rw[eW];rfl) ⟨.nil,rfl⟩
   have hl:es.length≤100000:=by omega
   have c:(G9 (F4 (A0 0)) [false,false] 1 (gN 2) J0 (c9 1 AZ (B4 (A0 2) B9))) [.dat (.tup es),.dat (.int n)]=some (es.map fun d=>.bl (nJ d),[.dat (.tup es),.dat (.int n)]):=by
    show(if es.length≤100000 then(N8 _ _ _ es [.nil,.nil,.nil]).bind _ else none)=_
    rw[Qc hl,h1];rfl
   unfold Ax kJ KM;show(match C6 _ _ [.dat (.tup es),.dat (.int n)]with|some (.ret d,env)=>_|some (.retL ds,env)=>_|some (.nx,env)=>_|_=>none)=_
   rw[Q6 (by rw[EC t];rfl)]
   have r:(E2 (i5 AQ (B0 (mF (G9 (F4 (A0 0)) [false,false] 1 (gN 2) J0 (c9 1 AZ (B4 (A0 2) B9)))) B6))) [.dat (.tup es),.dat (.int n)]=some (.ret (.bl (es.all nJ)),[.dat (.tup es),.dat (.int n)]):=by
    unfold E2 i5 B0 mF;rw[c];show(((X5 (es.map fun d=>.bl (nJ d))).map fun k=>D.bl k).map _).map _=_
    rw[EE];rfl
   rw[r];show some (Rr.d (.bl (es.all nJ)),_)=_
   simp[oI,h];rfl
  ·have t:(L4 (K0 (mT (nB "tuple" (A0 0)))) (mT (B8 (j7 true) (i5 J7 (B0 (A0 0) B6)) (A0 1)))) [.dat (.tup es),.dat (.int n)]=some (true,[.dat (.tup es),.dat (.int n)]):=by
    show some (!((es.length:Int)==n),_)=_
    simp[h]
   unfold Ax kJ KM;show(match C6 _ _ [.dat (.tup es),.dat (.int n)]with|some (.ret d,env)=>_|some (.retL ds,env)=>_|some (.nx,env)=>_|_=>none)=_
   rw[AU (d:=.bl false) (by rw[EB t];rfl)]
   simp[oI,h];rfl
 |_=>rfl
def rR(d:D)(m n:Int):Bool:=match d with
 |.tup es=>(es.length:Int)==m&&es.all fun r=>oI r n
 |_=>false
theorem eY(d:D)(k n:Int)(hk:k≤1000)(hn:n≤1000):Gg [.dat d,.dat (.int k),.dat (.int n)]=some (.d (.bl (rR d k n)),[.dat d,.dat (.int k),.dat (.int n)]):=by
 cases d with
 |tup es=>
  by_cases h:(es.length:Int)=k
  ·have t:(L4 (K0 (mT (nB "tuple" (A0 0)))) (mT (B8 (j7 true) (i5 J7 (B0 (A0 0) B6)) (A0 1)))) [.dat (.tup es),.dat (.int k),.dat (.int n)]=some (false,[.dat (.tup es),.dat (.int k),.dat (.int n)]):=by
    show some (!((es.length:Int)==k),_)=_;rw[h];simp
   obtain⟨e',h1,w,rfl⟩:=IG (g:=gN 3) (m:=c9 2 Ax (B4 (A0 3) (B4 (A0 2) B9))) (P:=fun e=>∃w,e=[.nil,.nil,.dat (.int n),w]) (f:=fun d=>.bl (oI d n)) (ds:=es) (env:=[.nil,.nil,.dat (.int n),.nil])
    (fun d _ e ⟨w,he⟩=>by
     subst he;refine⟨[.nil,.nil,.dat (.int n),.dat d],[.nil,.nil,.dat (.int n),.dat d],rfl,?_,_,rfl⟩;show((Ax [.dat d,.dat (.int n)]).map fun q=>(q.1,_)).bind sC=_
     rw[eX d n hn];rfl) ⟨.nil,rfl⟩
   have hl:es.length≤100000:=by omega
   have c:(G9 (F4 (A0 0)) [false,false,true] 1 (gN 3) J0 (c9 2 Ax (B4 (A0 3) (B4 (A0 2) B9)))) [.dat (.tup es),.dat (.int k),.dat (.int n)]=some (es.map fun d=>.bl (oI d n),[.dat (.tup es),.dat (.int k),.dat (.int n)]):=by
    show(if es.length≤100000 then(N8 _ _ _ es [.nil,.nil,.dat (.int n),.nil]).bind _ else none)=_
    rw[Qc hl,h1];rfl
   refine(P1 (d:=.bl (rR (.tup es) k n)) (env:=[.dat (.tup es),.dat (.int k),.dat (.int n)]) ?_).trans rfl;show Ek [.dat (.tup es),.dat (.int k),.dat (.int n)]=_;unfold Ek;rw[Q6 (by rw[EC t];rfl)]
   unfold E2 i5 B0 mF;rw[c];show(((X5 (es.map fun d=>.bl (oI d n))).map fun k=>D.bl k).map _).map _=_
   rw[EE]
   simp[rR,h]
  ·have t:(L4 (K0 (mT (nB "tuple" (A0 0)))) (mT (B8 (j7 true) (i5 J7 (B0 (A0 0) B6)) (A0 1)))) [.dat (.tup es),.dat (.int k),.dat (.int n)]=some (true,[.dat (.tup es),.dat (.int k),.dat (.int n)]):=by
    show some (!((es.length:Int)==k),_)=_
    simp[h]
   refine(P1 (d:=.bl (rR (.tup es) k n)) (env:=[.dat (.tup es),.dat (.int k),.dat (.int n)]) ?_).trans rfl;show Ek [.dat (.tup es),.dat (.int k),.dat (.int n)]=_;unfold Ek;rw[AU (d:=.bl false) (by rw[EB t];rfl)]
   simp[rR,h]
 |_=>rfl
def sJ(d:D)(a b:Int):Bool:=match d with
 |.tup es=>(decide (a≤(es.length:Int))&&decide ((es.length:Int)≤b))&&es.all fun r=>oI r es.length
 |_=>false
def dR(l:List Int):D:=.tup (l.map .int)
def dT(R:OI):D:=.tup (R.map dR)
def mU:D->Int
 |.int i=>i
 |_=>0
def oJ:D->List Int
 |.tup es=>es.map mU
 |.lst es=>es.map mU
 |_=>[]
def pA:D->OI
 |.tup es=>es.map oJ
 |_=>[]
theorem eZ{d:D}(h:nJ d=true):d=.int (mU d):=by cases d<;>first|rfl|cases h
theorem Gj{es:List D}(h:es.all nJ=true):es=(es.map mU).map .int:=by
 induction es with
 |nil=>rfl
 |cons d es ih=>
  rw[Xh,Qw]at h;rw[Qr,Qr,←eZ h.1,←ih h.2]
theorem Ey{d:D}{n:Int}(h:oI d n=true):d=dR (oJ d)/\((oJ d).length:Int)=n:=by
 cases d<;>first|cases h|skip
 rename_i es;simp only[oI,Qw,Ym]at h;refine⟨?_,by simp[oJ,h.1]⟩
 show D.tup es=.tup ((es.map mU).map .int);rw[←Gj h.2]
theorem fA{d:D}{a b:Int}(h:sJ d a b=true):d=dT (pA d)/\a≤((pA d).length:Int)/\((pA d).length:Int)≤b/\∀r∈pA d,r.length=(pA d).length:=by
 cases d<;>first|cases h|skip
 rename_i es;simp only[sJ,Qw,Zh,Qy]at h;refine⟨?_,by simpa [pA]using h.1.1,by simpa [pA]using h.1.2,fun r hr=>?_⟩
 ·show D.tup es=.tup ((es.map oJ).map dR)
  congr 1
  rw[Yy]
  conv=>lhs;rw[←Tw es]
  exact Yb fun x hx=>(Ey (h.2 x hx)).1
 ·obtain⟨x,hx,rfl⟩:=Zq.mp hr
  have:=(Ey (h.2 x hx)).2;simp only[pA,Qk]
  omega
theorem PK(l:List Int):(l.map D.int).map mU=l:=by rw[Yy];exact Tw l
theorem fB(l:List Int):oJ (dR l)=l:=PK l
theorem Ez(R:OI):pA (dT R)=R:=by
 show(R.map dR).map oJ=R;rw[Yy]
 conv=>rhs;rw[←Tw R]
 exact Yb fun r _=>fB r
theorem PL(l:List Int):oI (dR l) l.length=true:=by
 simp[oI,dR,nJ]
theorem PM{R:OI}{a b:Int}(h1:a≤R.length)(h2:(R.length:Int)≤b)(h:∀r∈R,r.length=R.length):sJ (dT R) a b=true:=by
 simp only[sJ,dT,Qk,Qw,Zh,Qy];refine⟨⟨h1,h2⟩,fun x hx=>?_⟩
 obtain⟨r,hr,rfl⟩:=Zq.mp hx;have:=PL r;rw[h r hr]at this;exact this
theorem DO{α:Type}{xs:List α}{j:Nat}{x:α}(h:xs[j]? =some x):o5 xs (j:Int)=some x:=by
 have hj:j<xs.length:=(Qb.mp h).1
 unfold o5 qT;rw[Qc (by omega),Qc (by omega)]
 simpa using h
theorem PN(n:Nat):V9 0 n=(List.range n).map fun(i:Nat)=>D.int i:=by
 unfold V9;exact Yb fun i _=>by simp
theorem fC{α:Type}{g:OZ}{m:Mo D}{P:a9->Prop}{q:α->D}{f:α->D}{l:List α}{env:a9}(h:∀a∈l,∀e,P e->∃e1 e2,g (q a) e=some e1/\m e1=some (f a,e2)/\P e2)(p:P env):
  ∃env',N8 g J0 m (l.map q) env=some (l.map f,env')/\P env':=by
 induction l generalizing env with
 |nil=>exact⟨env,rfl,p⟩
 |cons a l ih=>
  obtain⟨e1,e2,h1,h2,h3⟩:=h a (by simp) env p
  obtain⟨e3,h4,h5⟩:=ih (fun x hx=>h x (by simp[hx])) h3
  refine⟨e3,?_,h5⟩;rw[Qr,Qr];unfold N8;rw[h1];simp only[Qj,J0,Zm];rw[h2];simp only[Qj];rw[h4];rfl
def flip(n:Nat)(R:OI):OI:=(List.range n).map fun j=>R.map fun r=>r.getD j 0
def tt:Int->List Int->Bool
 |s,[]=>s==1
 |s,x::l=>(s+x==0||s+x==1)&&tt (s+x) l
def tE(d:D):Bool:=sJ d 1 6&&(pA d++flip (pA d).length (pA d)).all (tt 0)
theorem FA{i j:Int}(h:Bp i j=true):M5 (.int i) (.int j)=some (.int (i * j)):=by
 unfold M5 sA He fI;simp only[h,Zm]
theorem Gk{i j:Int}(h1: -18446744073709551616<i)(h2:i<18446744073709551616):Bp i j=true:=by
 unfold Bp;rw[show((2:Int)^64)=18446744073709551616 from rfl]
 simp[h1,h2]
theorem fD{i j:Int}(h1: -18446744073709551616<j)(h2:j<18446744073709551616):Bp i j=true:=by
 unfold Bp;rw[show((2:Int)^64)=18446744073709551616 from rfl]
 simp[h1,h2]
theorem DP:∀l:List Int,K1 (l.map D.int)=l.map PyData.int
 |[]=>rfl
 |x::l=>by show PyData.int x::K1 (l.map D.int)=_;rw[DP l];rfl
theorem Kf:∀l:List Int,PyData.canLayAll0 (l.map PyData.int)=true
 |[]=>rfl
 |x::l=>by show(true&&PyData.canLayAll0 (l.map PyData.int))=true;rw[Kf l];rfl
theorem Kg:∀l:List Int,PyData.depthAll (l.map PyData.int)=0
 |[]=>rfl
 |x::l=>by show max 0 (PyData.depthAll (l.map PyData.int))=0;rw[Kg l];rfl
theorem PQ:∀l k:List Int,PyData.eqvAll (l.map PyData.int) (k.map PyData.int)=decide (l=k)
 |[],[]=>rfl
 |[],_::_=>rfl
 |_::_,[]=>rfl
 |x::l,y::k=>by
  show((x==y)&&PyData.eqvAll (l.map PyData.int) (k.map PyData.int))=_;rw[PQ l k]
  by_cases h:x=y
  ·subst h;simp
  ·simp[h]
theorem fE(d:D):CP [.dat d]=some (.d (.bl (nJ d)),[.dat d]):=by cases d<;>rfl
theorem PR{i j k:Int}(h:FP i j=true)(e:i^j.toNat=k):U6 (.int i) (.int j)=some (.int k):=by
 show(if FP i j=true then some (D.int (i^j.toNat))else none)=_
 rw[Qc h,e]
theorem PU:U6 (.int 10) (.int 18)=some (.int 1000000000000000000):=PR (by rfl') (by rfl')
theorem Kh{a m:Int}{b:Bool}(ha:0≤a)(h1:1≤m)(h2:m<1073741824):∃v a',K5 [.par [.int a,.bl b],.dat (.int m)]=some (.d (.int v),[.par [.int a',.bl b],.dat (.int m)])/\0≤v/\v<m/\0≤a':=by
 have dm:∀x:Int,R1 (.int x) (.int m)=some (.int (x%m)):=fun x=>by
  show(if decide (0<m)=true then _ else none)=_
  rw[Qc (by simp;omega)]
 have dd:∀x:Int,Dm (.int x) (.int m)=some (.int (x/m)):=fun x=>by
  show(if FO x m=true then _ else none)=_
  rw[Qc (by unfold FO;simp;omega)]
 cases b with
 |true=>
  refine⟨a%m,a/m,?_,Ug _ (by omega),Vy _ (by omega),Int.ediv_nonneg ha (by omega)⟩
  refine(P1 (d:=.int (a%m)) (env:=[.par [.int (a/m),.bl true],.dat (.int m),.nil,.dat (.int (a%m))]) ?_).trans rfl;show Et [.par [.int a,.bl true],.dat (.int m),.nil,.nil]=_;unfold Et;have t:(mT (R4 0 (mC (.int 1)))) [.par [.int a,.bl true],.dat (.int m),.nil,.nil]=some (true,[.par [.int a,.bl true],.dat (.int m),.nil,.nil]):=rfl;have s1:(D0 3 (B8 R1 (R4 0 (mC (.int 0))) (A0 1))) [.par [.int a,.bl true],.dat (.int m),.nil,.nil]=some (.nx,[.par [.int a,.bl true],.dat (.int m),.nil,.dat (.int (a%m))]):=X6 (e1:=[.par [.int a,.bl true],.dat (.int m),.nil,.nil]) (D4 rfl rfl (dm a));have s2:(Q4 (B8 Dm (R4 0 (mC (.int 0))) (A0 1)) (gS 0 (mC (.int 0)))) [.par [.int a,.bl true],.dat (.int m),.nil,.dat (.int (a%m))]=some (.nx,[.par [.int (a/m),.bl true],.dat (.int m),.nil,.dat (.int (a%m))]):=by
   unfold Q4;rw[D4 (c:=.int (a/m)) rfl rfl (dd a)];rfl
  rw[AU (d:=.int (a%m)) (by rw[EB t,Q6 s1,Q6 s2];rfl)]
 |false=>
  have e1:∀x:Int,M5 (.int x) (.int 48271)=some (.int (x * 48271)):=fun x=>FA (fD (by decide) (by decide))
  have md:∀(x k:Int),0<k->R1 (.int x) (.int k)=some (.int (x%k)):=fun x k hk=>by
   show(if decide (0<k)=true then _ else none)=_
   rw[Qc (by simp;omega)]
  let p:Int:=(a * 48271+29)%2147483647
  have hp:0≤p/\p<2147483647:=⟨Ug _ (by decide),Vy _ (by decide)⟩
  let q:Int:=(p * p+39373 * p+7)%2147483629
  have hq:0≤q/\q<2147483629:=⟨Ug _ (by decide),Vy _ (by decide)⟩
  let r:Int:=(q * q+16807 * q)%2147483587
  have hr:0≤r:=Ug _ (by decide)
  refine⟨r/8%m,p,?_,Ug _ (by omega),Vy _ (by omega),hp.1⟩
  refine(P1 (d:=.int (r/8%m)) (env:=[.par [.int p,.bl false],.dat (.int m),.dat (.int r),.nil]) ?_).trans rfl;show Et [.par [.int a,.bl false],.dat (.int m),.nil,.nil]=_;unfold Et;have t:(mT (R4 0 (mC (.int 1)))) [.par [.int a,.bl false],.dat (.int m),.nil,.nil]=some (false,[.par [.int a,.bl false],.dat (.int m),.nil,.nil]):=rfl;have s1:(Q4 (B8 R1 (B8 D7 (B8 M5 (R4 0 (mC (.int 0))) (mC (.int 48271))) (mC (.int 29))) (mC (.int 2147483647))) (gS 0 (mC (.int 0)))) [.par [.int a,.bl false],.dat (.int m),.nil,.nil]=some (.nx,[.par [.int p,.bl false],.dat (.int m),.nil,.nil]):=by
   unfold Q4;rw[D4 (c:=.int p) (D4 (c:=.int (a * 48271+29)) (D4 rfl rfl (e1 a)) rfl rfl) rfl (md _ _ (by decide))];rfl
  have s2:(D0 2 (B8 R1 (B8 D7 (B8 D7 (B8 M5 (R4 0 (mC (.int 0))) (R4 0 (mC (.int 0)))) (B8 M5 (mC (.int 39373)) (R4 0 (mC (.int 0))))) (mC (.int 7))) (mC (.int 2147483629)))) [.par [.int p,.bl false],.dat (.int m),.nil,.nil]=some (.nx,[.par [.int p,.bl false],.dat (.int m),.dat (.int q),.nil]):=
   X6 (e1:=[.par [.int p,.bl false],.dat (.int m),.nil,.nil]) (D4 (c:=.int q) (D4 (c:=.int (p * p+39373 * p+7)) (D4 (c:=.int (p * p+39373 * p)) (D4 rfl rfl (FA (i:=p) (j:=p) (Gk (by omega) (by omega)))) (D4 rfl rfl (FA (i:=39373) (j:=p) (Gk (by decide) (by decide)))) rfl) rfl rfl) rfl (md _ _ (by decide)))
  have s3:(D0 2 (B8 R1 (B8 D7 (B8 M5 (A0 2) (A0 2)) (B8 M5 (mC (.int 16807)) (A0 2))) (mC (.int 2147483587)))) [.par [.int p,.bl false],.dat (.int m),.dat (.int q),.nil]=some (.nx,[.par [.int p,.bl false],.dat (.int m),.dat (.int r),.nil]):=
   X6 (e1:=[.par [.int p,.bl false],.dat (.int m),.dat (.int q),.nil]) (D4 (c:=.int r) (D4 (c:=.int (q * q+16807 * q)) (D4 rfl rfl (FA (i:=q) (j:=q) (Gk (by omega) (by omega)))) (D4 rfl rfl (FA (i:=16807) (j:=q) (Gk (by decide) (by decide)))) rfl) rfl (md _ _ (by decide)))
  rw[Q6 (by rw[EC t];rfl),Q6 s1,Q6 s2,Q6 s3]
  exact P5 (D4 (c:=.int (r/8%m)) (D4 (c:=.int (r/8)) rfl rfl rfl) rfl (dm _))
theorem fF(ns:List Int)(k:Nat)(hk:k<1000):∃c,Ep [.dat (.lst (ns.map .int)),.dat (.int k)]=some (.d (.int c),[.dat (.lst (ns.map .int)),.dat (.int k)]):=by
 have t:(mT (B8 rJ (A0 1) (i5 J7 (B0 (A0 0) B6)))) [.dat (.lst (ns.map .int)),.dat (.int k)]=some (decide ((k:Int)<(ns.length:Int)),[.dat (.lst (ns.map .int)),.dat (.int k)]):=by
  show some (decide ((k:Int)<((ns.map D.int).length:Nat)),_)=_;rw[Qk]
 by_cases h:k<ns.length
 ·have hd:decide ((k:Int)<(ns.length:Int))=true:=by simp;omega
  rw[hd]at t;refine⟨ns[k],(P1 (d:=.int ns[k]) (env:=[.dat (.lst (ns.map .int)),.dat (.int k)]) ?_).trans rfl⟩;show Eo [.dat (.lst (ns.map .int)),.dat (.int k)]=_;unfold Eo;rw[AU (d:=.int ns[k]) (by
   rw[EB t];exact P5 (D4 rfl rfl (show o5 (ns.map D.int) (k:Int)=_ from DO (by simp[h]))))]
 ·have hd:decide ((k:Int)<(ns.length:Int))=false:=by simp;omega
  rw[hd]at t;refine⟨0,(P1 (d:=.int 0) (env:=[.dat (.lst (ns.map .int)),.dat (.int k)]) ?_).trans rfl⟩;show Eo [.dat (.lst (ns.map .int)),.dat (.int k)]=_;unfold Eo;rw[Q6 (by rw[EC t];rfl)];rfl
theorem fG(ns:List Int)(k:Nat)(hk:k<1000):∃a b,0≤a/\Es [.dat (.lst (ns.map .int)),.dat (.int k)]=some (.l [.int a,.bl b],[.dat (.lst (ns.map .int)),.dat (.int k)]):=by
 obtain⟨c,hc⟩:=fF ns k hk;have s1:(D0 2 (c9 2 Ep (B4 (A0 0) (B4 (A0 1) B9)))) [.dat (.lst (ns.map .int)),.dat (.int k),.nil]=some (.nx,[.dat (.lst (ns.map .int)),.dat (.int k),.dat (.int c)]):=
  X6 (e1:=[.dat (.lst (ns.map .int)),.dat (.int k),.nil]) (V2 (X7 (av:=[.d (.lst (ns.map .int)),.d (.int k)]) rfl rfl rfl hc))
 have t:(mT (B8 tY (A0 2) (B8 U6 (mC (.int 10)) (mC (.int 18))))) [.dat (.lst (ns.map .int)),.dat (.int k),.dat (.int c)]=some (decide (1000000000000000000≤c),[.dat (.lst (ns.map .int)),.dat (.int k),.dat (.int c)]):=by
  refine N2 (D4 (b:=.int 1000000000000000000) rfl ?_ rfl);exact D4 rfl rfl PU
 by_cases h:1000000000000000000≤c
 ·rw[Yx h]at t
  refine⟨c-1000000000000000000,true,by omega,(Fq (d:=[.int (c-1000000000000000000),.bl true]) (env:=[.dat (.lst (ns.map .int)),.dat (.int k),.dat (.int c)]) ?_).trans rfl⟩
  show Er [.dat (.lst (ns.map .int)),.dat (.int k),.nil]=_;unfold Er;rw[Q6 s1];have r:(AK (F7 (B0 (B8 FQ (A0 2) (B8 U6 (mC (.int 10)) (mC (.int 18)))) (B0 (mC (.bl true)) B6)))) [.dat (.lst (ns.map .int)),.dat (.int k),.dat (.int c)]=some (.retL [.int (c-1000000000000000000),.bl true],[.dat (.lst (ns.map .int)),.dat (.int k),.dat (.int c)]):=by
   have b:=D4 (f:=FQ) (ma:=A0 2) (mb:=B8 U6 (mC (.int 10)) (mC (.int 18))) (env:=[.dat (.lst (ns.map .int)),.dat (.int k),.dat (.int c)]) (b:=.int 1000000000000000000) (c:=.int (c-1000000000000000000)) rfl (D4 rfl rfl PU) rfl
   refine II ?_
   unfold F7;rw[C8 b (C8 rfl rfl)];rfl
  unfold C6;rw[EB t,r];rfl
 ·rw[Zx h]at t
  refine⟨c%2147483647,false,Ug _ (by decide),(Fq (d:=[.int (c%2147483647),.bl false]) (env:=[.dat (.lst (ns.map .int)),.dat (.int k),.dat (.int c)]) ?_).trans rfl⟩
  show Er [.dat (.lst (ns.map .int)),.dat (.int k),.nil]=_;unfold Er;rw[Q6 s1,Q6 (by rw[EC t];rfl)];rfl
def bits:Nat->OI
 |0=>[[]]
 |n+1=>(bits n).map (fun l=>0::l)++(bits n).map (fun l=>1::l)
def F6(h r:List Int):List Int:=List.zipWith (· + ·) h r
def PV(h:List Int)(d:D):Bool:=oI d h.length&&(tt 0 (oJ d)&&(F6 h (oJ d)).all fun x=>x==0||x==1)
def qL(h:List Int):Bool:=match T0 [.dat (dR h)]with
 |some (.l ds,_)=>ds.all (PV h)&&((h.all fun x=>x==1)||(decide (1≤ds.length)&&decide (ds.length≤1000)))
 |_=>false
theorem fH:(bits 1).all qL=true:=by rfl'
theorem fJ:(bits 2).all qL=true:=by rfl'
theorem fK:(bits 3).all qL=true:=by rfl'
theorem fL:(bits 4).all qL=true:=by rfl'
theorem fM:(bits 5).all qL=true:=by rfl'
theorem fN:(bits 6).all qL=true:=by rfl'
structure HB(h:List Int)(n:Nat):Prop where
 len:h.length=n
 bit:∀x∈h,x=0\/x=1
theorem HB.mem:∀{n:Nat}{h:List Int},HB h n->h∈bits n
 |0,h,H=>by
  have:=H.len;cases h with
  |nil=>simp[bits]
  |cons _ _=>simp at this
 |n+1,h,H=>by
  cases h with
  |nil=>have:=H.len;simp at this
  |cons x l=>
   have hl:HB l n:=⟨by have:=H.len;simpa using this,fun y hy=>H.bit y (by simp[hy])⟩
   have:=hl.mem;unfold bits;rw[Zf,Zq,Zq]
   rcases H.bit x (by simp)with rfl|rfl
   ·exact .inl ⟨l,this,rfl⟩
   ·exact .inr ⟨l,this,rfl⟩
theorem fO{n:Nat}{h:List Int}(h1:1≤n)(h6:n≤6)(H:HB h n):qL h=true:=by
 have hm:=H.mem
 match n,h1,h6 with
 |1,_,_=>exact Qy.mp fH h hm
 |2,_,_=>exact Qy.mp fJ h hm
 |3,_,_=>exact Qy.mp fK h hm
 |4,_,_=>exact Qy.mp fL h hm
 |5,_,_=>exact Qy.mp fM h hm
 |6,_,_=>exact Qy.mp fN h hm
structure nT(h r:List Int):Prop where
 len:r.length=h.length
 tt:tt 0 r=true
 bit:∀x∈F6 h r,x=0\/x=1
theorem fP{n:Nat}{h:List Int}(h1:1≤n)(h6:n≤6)(H:HB h n)(hs:∃x∈h,x≠1):∃(rows:OI) (ws':List W),T0 [.dat (dR h)]=some (.l (rows.map dR),ws')/\1≤rows.length/\rows.length≤1000/\∀r∈rows,nT h r:=by
 have hc:=fO h1 h6 H
 unfold qL at hc;split at hc
 ·rename_i ds ws' e
  rw[Qw]at hc;have hl:1≤ds.length/\ds.length≤1000:=by
   have h2:=hc.2
   rw[Xx]at h2
   rcases h2 with h2|h2
   ·obtain⟨x,hx,hne⟩:=hs
    have:=Qy.mp h2 x hx
    simp at this
    exact absurd this hne
   ·rw[Qw,Zh,Zh]at h2
    exact h2
  have ok:∀d∈ds,d=dR (oJ d)/\nT h (oJ d):=fun d hd=>by
   have:=Qy.mp hc.1 d hd;unfold PV at this;rw[Qw,Qw]at this;obtain⟨a1,a2⟩:=Ey this.1;exact⟨a1,by omega,this.2.1,fun x hx=>by simpa using Qy.mp this.2.2 x hx⟩
  refine⟨ds.map oJ,ws',?_,by rw[Qk];exact hl.1,by rw[Qk];exact hl.2,fun r hr=>?_⟩
  ·rw[e,Yy]
   have:ds.map (dR∘oJ)=ds:=by
    conv=>rhs;rw[←Tw ds]
    exact Yb fun d hd=>(ok d hd).1.symm
   rw[this]
  ·obtain⟨d,hd,rfl⟩:=Zq.mp hr
   exact(ok d hd).2
 ·cases hc
theorem PX(l:List Int):∀s,tt s l=true->s+l.sum=1:=by
 induction l with
 |nil=>intro s h;simpa [tt]using h
 |cons x l ih=>
  intro s h;simp only[tt,Qw]at h;have:=ih (s+x) h.2;simp only[Ju]
  omega
theorem Ki{h r:List Int}(e:r.length=h.length):(F6 h r).length=h.length:=by simp[F6,e]
theorem Kj:∀{h r:List Int},r.length=h.length->(F6 h r).sum=h.sum+r.sum
 |[],[],_=>rfl
 |x::h,y::r,e=>by
  have:=Kj (h:=h) (r:=r) (by simpa using e)
  simp only[F6,Uc,Ju]at this ⊢
  omega
 |[],_::_,e=>by simp at e
 |_::_,[],e=>by simp at e
def run:Int->List Int->Option Int
 |s,[]=>some s
 |s,x::l=>if s+x=0\/s+x=1 then run (s+x) l else none
theorem fQ(l:List Int):∀s,tt s l=(run s l==some 1):=by
 induction l with
 |nil=>intro s;rfl
 |cons x l ih=>
  intro s;simp only[tt,run]
  by_cases h:s+x=0\/s+x=1
  ·rw[Qc h,←ih]
   have:(s+x==0||s+x==1)=true:=by simpa using h
   rw[this,Bool.true_and]
  ·rw[Qt h]
   have:(s+x==0||s+x==1)=false:=by simpa using h
   rw[this];rfl
theorem fR(l:List Int)(x:Int):∀s t,run s l=some t->(t+x=0\/t+x=1)->run s (l++[x])=some (t+x):=by
 induction l with
 |nil=>intro s t h hx;cases h;simp[run,hx]
 |cons y l ih=>
  intro s t h hx;simp only[run,List.cons_append]at h ⊢;split at h
  ·rename_i hy
   rw[Qc hy];exact ih (s+y) t h hx
  ·cases h
theorem PY:∀{h:List Int},(∀x∈h,x=0\/x=1)->h.sum≤h.length/\(h.sum=h.length->∀x∈h,x=1)
 |[],_=>⟨by simp,fun _ x hx=>by cases hx⟩
 |y::h,H=>by
  obtain⟨h1,h2⟩:=PY (h:=h) fun x hx=>H x (by simp[hx])
  have hy:=H y (by simp)
  simp only[Ju,Qo];refine⟨by omega,fun e x hx=>?_⟩
  rcases Qg.mp hx with rfl|hx
  ·omega
  ·exact h2 (by omega) x hx
theorem PZ{g:OZ}{b:Mo Fl}:∀{ds:List D}{P:Nat->a9->Prop}{env:a9},(∀i d e,ds[i]? =some d->P i e->∃e1 e2,g d e=some e1/\b e1=some (.nx,e2)/\P (i+1) e2)->P 0 env->∃env',loop g b ds env=some (.nx,env')/\P ds.length env'
 |[],P,env,_,p=>⟨env,rfl,p⟩
 |d::ds,P,env,h,p=>by
  obtain⟨e1,e2,h1,h2,h3⟩:=h 0 d env rfl p;obtain⟨e3,h4,h5⟩:=PZ (ds:=ds) (P:=fun i e=>P (i+1) e) (fun i x e hi q=>h (i+1) x e (by simpa using hi) q) h3
  refine⟨e3,?_,h5⟩;unfold loop;rw[h1];simp only[Qj];rw[h2];exact h4
theorem Pa{h r:List Int}{j:Nat}(e:r.length=h.length)(hj:j<h.length):(F6 h r).getD j 0=h.getD j 0+r.getD j 0:=by
 have hj2:j<r.length:=by omega
 simp[F6,Jq,Zv hj,Zv hj2]
theorem Pb{h r:List Int}:Z2 (h.map D.int) (r.map D.int)=(h.zip r).map fun p=>.tup [.int p.1,.int p.2]:=by
 unfold Z2;rw[List.zip_map,Yy];rfl
theorem Pc(f:Nat->Nat->Bool):∀k,argBest f k≤k
 |0=>Qm _
 |k+1=>by
  have:=Pc f k;unfold argBest;split<;>omega
theorem fS{l:List Int}(h:1≤l.length):Q7 false l∈l:=by
 unfold Q7;have hl:=Pc (fun i j=>if false then decide (l.getD i 0>l.getD j 0)else decide (l.getD i 0<l.getD j 0)) (l.length-1)
 rw[Ut,Zv (by omega)]
 exact Ye _
theorem Pd{l:List Int}(h:1≤l.length):Q8 false [dR l]=some (.int (Q7 false l)):=by
 unfold dR;show(jY (l.map D.int)).bind _=_;rw[BV,Qj,Qt];cases l with
 |nil=>simp at h
 |cons _ _=>simp
theorem fT{l:List Int}(h:1≤l.length):Q8 false [.lst (l.map D.int)]=some (.int (Q7 false l)):=by
 show(jY (l.map D.int)).bind _=_;rw[BV,Qj,Qt];cases l with
 |nil=>simp at h
 |cons _ _=>simp
abbrev Kk:Mo Fl:=(C6 (D0 6 (mF (M3 1 T0 (B4 (A0 2) B9)))) (C6 (F3 (mT (B8 (j7 false) (A0 4) (mC (.int 0)))) (C6 (D0 8 (i5 (Q8 false) (B0 (mF (G9 (F4 (A0 6)) [false,false,false,false,false,false,false,false,false] 1 (gN 9) J0 (i5 (Q8 false) (B0 (A0 9) B6)))) B6))) (O7 6 (G9 (F4 (A0 6)) [false,false,false,false,false,false,false,false,true] 1 (gN 9) (mT (B8 (j7 false) (i5 (Q8 false) (B0 (A0 9) B6)) (A0 8))) (A0 9)))) kO) (C6 (D0 7 (B8 lP (A0 6) (c9 2 K5 (G0 0 (B4 (i5 J7 (B0 (A0 6) B6)) B9))))) (C6 (D0 3 (B8 D7 (A0 3) (D1 (B0 (A0 7) B6)))) (D0 2 (c9 2 W7 (B4 (A0 2) (B4 (A0 7) B9))))))))
abbrev fU:Mo Fl:=(F3 (mT (B8 (j7 false) (A0 4) (mC (.int 0)))) (C6 (D0 8 (i5 (Q8 false) (B0 (mF (G9 (F4 (A0 6)) [false,false,false,false,false,false,false,false,false] 1 (gN 9) J0 (i5 (Q8 false) (B0 (A0 9) B6)))) B6))) (O7 6 (G9 (F4 (A0 6)) [false,false,false,false,false,false,false,false,true] 1 (gN 9) (mT (B8 (j7 false) (i5 (Q8 false) (B0 (A0 9) B6)) (A0 8))) (A0 9)))) kO)
def LW(w:W)(ds:List D):Prop:=w=.dat (.lst ds)\/w=.own ds
theorem fV{b:Bool}{a few:Int}{w1 w2 w3 w5 w7 w8:W}{rows:OI}(h1:1≤rows.length)(h2:rows.length≤1000)(hr:∀r∈rows,1≤r.length):
  ∃(rows':OI) (w6 x8:W),fU [.par [.int a,.bl b],w1,w2,w3,.dat (.int few),w5,.dat (.lst (rows.map dR)),w7,w8]=some (.nx,[.par [.int a,.bl b],w1,w2,w3,.dat (.int few),w5,w6,w7,x8])/\LW w6 (rows'.map dR)/\1≤rows'.length/\rows'.length≤1000/\∀r∈rows',r∈rows:=by
 by_cases hf:few=0
 ·subst hf
  let most:Int:=Q7 false (rows.map (Q7 false))
  have hm:most∈rows.map (Q7 false):=fS (by simpa using h1)
  obtain⟨r0,hr0,e0⟩:=Zq.mp hm;refine⟨rows.filter fun r=>(Q7 false r==most),.own ((rows.filter fun r=>(Q7 false r==most)).map dR),.dat (.int most),?_,.inr rfl,?_,?_,fun r hq=>(Uj.mp hq).1⟩
  ·refine BW (e1:=[.par [.int a,.bl b],w1,w2,w3,.dat (.int 0),w5,.dat (.lst (rows.map dR)),w7,w8]) rfl ?_
   have c1:=GV (mi:=F4 (A0 6)) (keep:=[false,false,false,false,false,false,false,false,false]) (m:=i5 (Q8 false) (B0 (A0 9) B6)) (env:=[.par [.int a,.bl b],w1,w2,w3,.dat (.int 0),w5,.dat (.lst (rows.map dR)),w7,w8]) (base:=[.nil,.nil,.nil,.nil,.nil,.nil,.nil,.nil,.nil]) (l:=rows) (q:=dR) (f:=fun r=>.int (Q7 false r)) (k:=9) rfl (by omega) rfl rfl
    (fun r hq=>P4 (C8 (e1:=[.nil,.nil,.nil,.nil,.nil,.nil,.nil,.nil,.nil,.dat (dR r)]) rfl rfl) (Pd (hr r hq))) (fun w=>rfl)
   have s1:(D0 8 (i5 (Q8 false) (B0 (mF (G9 (F4 (A0 6)) [false,false,false,false,false,false,false,false,false] 1 (gN 9) J0 (i5 (Q8 false) (B0 (A0 9) B6)))) B6))) [.par [.int a,.bl b],w1,w2,w3,.dat (.int 0),w5,.dat (.lst (rows.map dR)),w7,w8]=some (.nx,[.par [.int a,.bl b],w1,w2,w3,.dat (.int 0),w5,.dat (.lst (rows.map dR)),w7,.dat (.int most)]):=by
    refine X6 (e1:=[.par [.int a,.bl b],w1,w2,w3,.dat (.int 0),w5,.dat (.lst (rows.map dR)),w7,w8]) (P4 (C8 (J4 c1) rfl) ?_);have:=fT (l:=rows.map (Q7 false)) (by simpa using h1)
    rw[Yy]at this;exact this
   have c2:=Oa (mi:=F4 (A0 6)) (keep:=[false,false,false,false,false,false,false,false,true]) (t:=mT (B8 (j7 false) (i5 (Q8 false) (B0 (A0 9) B6)) (A0 8))) (m:=A0 9) (env:=[.par [.int a,.bl b],w1,w2,w3,.dat (.int 0),w5,.dat (.lst (rows.map dR)),w7,.dat (.int most)]) (base:=[.nil,.nil,.nil,.nil,.nil,.nil,.nil,.nil,.dat (.int most)]) (l:=rows) (q:=dR) (f:=dR) (p:=fun r=>(Q7 false r==most)) (k:=9) rfl (by omega) rfl rfl
    (fun r hq=>⟨N2 (D4 (a:=.int (Q7 false r)) (b:=.int most) (e1:=[.nil,.nil,.nil,.nil,.nil,.nil,.nil,.nil,.dat (.int most),.dat (dR r)]) (P4 (C8 (e1:=[.nil,.nil,.nil,.nil,.nil,.nil,.nil,.nil,.dat (.int most),.dat (dR r)]) rfl rfl) (Pd (hr r hq))) rfl rfl),fun _=>rfl⟩) (fun w=>rfl)
   refine F1 s1 ?_
   unfold O7;rw[c2];rfl
  ·have:r0∈rows.filter fun r=>(Q7 false r==most):=Uj.mpr ⟨hr0,by simp[e0]⟩
   exact List.length_pos_of_mem this
  ·exact Zs (List.length_filter_le _ _) h2
 ·refine⟨rows,.dat (.lst (rows.map dR)),w8,?_,.inl rfl,h1,h2,fun r hq=>hq⟩
  refine O4 (e1:=[.par [.int a,.bl b],w1,w2,w3,.dat (.int few),w5,.dat (.lst (rows.map dR)),w7,w8]) ?_ rfl;refine N2 (D4 rfl rfl ?_);rw[Ml]
  simp[hf]
theorem fW{w0 w1 w2 w3 w4 w5 w6 w7 w8:W}{ds:List D}(h:LW w6 ds):A0 6 [w0,w1,w2,w3,w4,w5,w6,w7,w8]=some (.lst ds,[w0,w1,w2,w3,w4,w5,.dat (.lst ds),w7,w8]):=by
 rcases h with rfl|rfl<;>rfl
theorem Kl{h r:List Int}(hl:r.length=h.length)(h6:h.length≤6):∃ws',W7 [.dat (dR h),.dat (dR r)]=some (.d (dR (F6 h r)),ws'):=by
 have ez:(h.zip r).map (fun p=>D.int (p.1+p.2))=(F6 h r).map D.int:=by
  unfold F6;rw[Vs,List.zip_eq_zipWith,Vs]
 have c:=JH (mi:=Al (B0 (A0 0) (B0 (A0 1) B6))) (keep:=[false,false]) (m:=B8 D7 (A0 2) (A0 3)) (env:=[.dat (dR h),.dat (dR r)]) (base:=[.nil,.nil]) (l:=h.zip r) (q:=fun p=>D.int p.1) (q2:=fun p=>D.int p.2) (f:=fun p=>.int (p.1+p.2)) (k:=2) (by
   show some (Z2 (h.map D.int) (r.map D.int),_)=_;rw[Pb]) (by rw[List.length_zip];omega) rfl rfl (fun p _=>rfl) (fun w w2=>rfl)
 rw[ez]at c;refine⟨_,(P1 (d:=dR (F6 h r)) (env:=[.dat (dR h),.dat (dR r)]) ?_).trans rfl⟩;show KY [.dat (dR h),.dat (dR r)]=_;unfold KY;exact P5 (P4 (C8 (J4 c) rfl) rfl)
structure tF(b:Bool)(n i:Nat)(few:Int)(e:a9)(a:Int)(h:List Int)(rows:OI)(w5 w6 w7 w8:W):Prop where
 eq:e=[.par [.int a,.bl b],.dat (.int n),.dat (dR h),.dat (dT rows),.dat (.int few),w5,w6,w7,w8]
 a0:0≤a
 hb:HB h n
 len:rows.length=i
 row:∀r∈rows,r.length=n/\tt 0 r=true
 sum:h.sum=i
 col:∀j,j<n->run 0 (rows.map fun r=>r.getD j 0)=some (h.getD j 0)
theorem fX{b:Bool}{n i:Nat}{few:Int}{e:a9}{a:Int}{h:List Int}{rows:OI}{w5 w6 w7 w8:W}(h1:1≤n)(h6:n≤6)(hi:i<n)(I:tF b n i few e a h rows w5 w6 w7 w8):
  ∃e2 a' h' rows' x5 x6 x7 x8,Kk e=some (.nx,e2)/\tF b n (i+1) few e2 a' h' rows' x5 x6 x7 x8:=by
 obtain⟨rfl,a0,hb,hlen,hrow,hsum,hcol⟩:=I;have hs:∃x∈h,x≠1:=by
  refine Je fun hn=>?_
  have hall:∀x∈h,x=1:=fun x hx=>Je fun z=>hn ⟨x,hx,z⟩
  have:h.sum=h.length:=by
   clear hcol hsum hn hb
   induction h with
   |nil=>rfl
   |cons y h ih=>
    have h1:=hall y (by simp)
    have:=ih fun x hx=>hall x (by simp[hx])
    simp only[Ju,Qo]
    omega
  have:=hb.len
  omega
 obtain⟨lines0,ws',el,l10,l20,lok0⟩:=fP h1 h6 hb hs;have hnl:h.length=n:=hb.len;obtain⟨lines,w6',x8,ef,lw,l1,l2,lsub⟩:=fV (b:=b) (a:=a) (few:=few) (w1:=.dat (.int n)) (w2:=.dat (dR h)) (w3:=.dat (dT rows)) (w5:=w5) (w7:=w7) (w8:=w8) l10 l20 (fun r hq=>by rw[(lok0 r hq).len,hnl];exact h1)
 have lok:∀r∈lines,nT h r:=fun r hq=>lok0 r (lsub r hq)
 obtain⟨v,a',et,v0,v1,a0'⟩:=Kh (a:=a) (m:=(lines.length:Int)) (b:=b) a0 (by omega) (by omega)
 have hv:v.toNat<lines.length:=by omega
 have hvv:((v.toNat:Nat):Int)=v:=by omega
 generalize hr:lines[v.toNat]=r;have rok:nT h r:=lok r (by rw[←hr];exact Ye hv)
 have rl:r.length=n:=by rw[rok.len,hb.len]
 obtain⟨wh,eh⟩:=Kl (h:=h) (r:=r) rok.len (by omega)
 refine⟨[.par [.int a',.bl b],.dat (.int n),.dat (dR (F6 h r)),.dat (dT (rows++[r])),.dat (.int few),w5,.dat (.lst (lines.map dR)),.dat (dR r),x8],a',F6 h r,rows++[r],w5,.dat (.lst (lines.map dR)),.dat (dR r),x8,?_,rfl,a0',⟨by rw[Ki rok.len];exact hnl,rok.bit⟩,by simp[hlen],?_,?_,?_⟩
 ·have s1:(D0 6 (mF (M3 1 T0 (B4 (A0 2) B9)))) [.par [.int a,.bl b],.dat (.int n),.dat (dR h),.dat (dT rows),.dat (.int few),w5,w6,w7,w8]=some (.nx,[.par [.int a,.bl b],.dat (.int n),.dat (dR h),.dat (dT rows),.dat (.int few),w5,.dat (.lst (lines0.map dR)),w7,w8]):=
   X6 (e1:=[.par [.int a,.bl b],.dat (.int n),.dat (dR h),.dat (dT rows),.dat (.int few),w5,w6,w7,w8]) (J4 (BM (X7 (av:=[.d (dR h)]) rfl rfl rfl el)))
  have tk:(c9 2 K5 (G0 0 (B4 (i5 J7 (B0 (A0 6) B6)) B9))) [.par [.int a,.bl b],.dat (.int n),.dat (dR h),.dat (dT rows),.dat (.int few),w5,.dat (.lst (lines.map dR)),w7,x8]=some (.int v,[.par [.int a',.bl b],.dat (.int n),.dat (dR h),.dat (dT rows),.dat (.int few),w5,.dat (.lst (lines.map dR)),w7,x8]):=by
   refine V2 ((Cs (e1:=[.par [.int a,.bl b],.dat (.int n),.dat (dR h),.dat (dT rows),.dat (.int few),w5,.dat (.lst (lines.map dR)),w7,x8]) (w:=.par [.int a,.bl b]) (av:=[.sl 0,.d (.int (lines.length:Int))]) (i:=0) (c:=[.int a,.bl b]) (c':=[.int a',.bl b]) ?_ rfl rfl rfl rfl et rfl).trans rfl);show some ([Ar.sl 0,Ar.d (.int ((lines.map dR).length:Nat))],_)=_;rw[Qk]
  have s2:(D0 7 (B8 lP (A0 6) (c9 2 K5 (G0 0 (B4 (i5 J7 (B0 (A0 6) B6)) B9))))) [.par [.int a,.bl b],.dat (.int n),.dat (dR h),.dat (dT rows),.dat (.int few),w5,w6',w7,x8]=some (.nx,[.par [.int a',.bl b],.dat (.int n),.dat (dR h),.dat (dT rows),.dat (.int few),w5,.dat (.lst (lines.map dR)),.dat (dR r),x8]):=by
   refine X6 (e1:=[.par [.int a',.bl b],.dat (.int n),.dat (dR h),.dat (dT rows),.dat (.int few),w5,.dat (.lst (lines.map dR)),w7,x8]) (D4 (fW lw) tk ?_);rw[←hvv];exact DO (xs:=lines.map dR) (by rw[Zy,Zv hv,hr];rfl)
  have s4:(D0 3 (B8 D7 (A0 3) (D1 (B0 (A0 7) B6)))) [.par [.int a',.bl b],.dat (.int n),.dat (dR h),.dat (dT rows),.dat (.int few),w5,.dat (.lst (lines.map dR)),.dat (dR r),x8]=some (.nx,[.par [.int a',.bl b],.dat (.int n),.dat (dR h),.dat (dT (rows++[r])),.dat (.int few),w5,.dat (.lst (lines.map dR)),.dat (dR r),x8]):=by
   refine X6 (e1:=[.par [.int a',.bl b],.dat (.int n),.dat (dR h),.dat (dT rows),.dat (.int few),w5,.dat (.lst (lines.map dR)),.dat (dR r),x8]) (D4 rfl rfl ?_);show(if(rows.map dR).length+[dR r].length≤10000 then _ else none)=_
   rw[Qc (by rw[Qk];simp;omega)]
   unfold dT;rw[Yd];rfl
  have s3:(D0 2 (c9 2 W7 (B4 (A0 2) (B4 (A0 7) B9)))) [.par [.int a',.bl b],.dat (.int n),.dat (dR h),.dat (dT (rows++[r])),.dat (.int few),w5,.dat (.lst (lines.map dR)),.dat (dR r),x8]=some (.nx,[.par [.int a',.bl b],.dat (.int n),.dat (dR (F6 h r)),.dat (dT (rows++[r])),.dat (.int few),w5,.dat (.lst (lines.map dR)),.dat (dR r),x8]):=
   X6 (e1:=[.par [.int a',.bl b],.dat (.int n),.dat (dR h),.dat (dT (rows++[r])),.dat (.int few),w5,.dat (.lst (lines.map dR)),.dat (dR r),x8]) (V2 (X7 (av:=[.d (dR h),.d (dR r)]) rfl rfl rfl eh))
  unfold Kk;exact F1 s1 (F1 ef (F1 s2 (F1 s4 s3)))
 ·intro r' hr'
  rcases Zf.mp hr' with z|z
  ·exact hrow r' z
  ·have:r'=r:=by simpa using z
   subst this;exact⟨rl,rok.tt⟩
 ·have:=PX r 0 rok.tt
  rw[Kj rok.len]
  omega
 ·intro j hj
  rw[Yd,Qr,Va,Pa rok.len (by omega)]
  refine fR _ _ 0 _ (hcol j hj) ?_
  rw[←Pa rok.len (by omega)]
  have hjl:j<(F6 h r).length:=by rw[Ki rok.len];omega
  have:(F6 h r).getD j 0=(F6 h r)[j]:=by simp[hjl]
  rw[this];exact rok.bit _ (Ye hjl)
structure Tab(T:OI):Prop where
 lo:1≤T.length
 hi:T.length≤6
 len:∀r∈T,r.length=T.length
 ok:tE (dT T)=true
theorem fY{a:Int}{n:Nat}{b:Bool}(ha:0≤a)(n1:1≤n)(n6:n≤6):∃T a',Eu [.par [.int a,.bl b],.dat (.int n)]=some (.d (dT T),[.par [.int a',.bl b],.dat (.int n)])/\0≤a'/\Tab T/\T.length=n:=by
 obtain⟨v,a1,et,v0,v1,a10⟩:=Kh (a:=a) (m:=3) (b:=b) ha (by omega) (by omega)
 have s1:(D0 2 (B8 M5 (D1 (B0 (mC (.int 0)) B6)) (A0 1))) [.par [.int a,.bl b],.dat (.int n),.nil,.nil,.nil,.nil,.nil,.nil,.nil]=some (.nx,[.par [.int a,.bl b],.dat (.int n),.dat (dR (List.replicate n 0)),.nil,.nil,.nil,.nil,.nil,.nil]):=by
  refine X6 (e1:=[.par [.int a,.bl b],.dat (.int n),.nil,.nil,.nil,.nil,.nil,.nil,.nil]) (D4 rfl rfl ?_);show(if 1≤(n:Int)/\(n:Int)≤1000 then some (D.tup (List.replicate (n:Int).toNat (.int 0)))else none)=_
  rw[Qc (by omega),Ji]
  unfold dR;rw[List.map_replicate]
 have s2:(D0 3 (D1 B6)) [.par [.int a,.bl b],.dat (.int n),.dat (dR (List.replicate n 0)),.nil,.nil,.nil,.nil,.nil,.nil]=some (.nx,[.par [.int a,.bl b],.dat (.int n),.dat (dR (List.replicate n 0)),.dat (dT []),.nil,.nil,.nil,.nil,.nil]):=rfl
 have s3:(D0 4 (c9 2 K5 (G0 0 (B4 (mC (.int 3)) B9)))) [.par [.int a,.bl b],.dat (.int n),.dat (dR (List.replicate n 0)),.dat (dT []),.nil,.nil,.nil,.nil,.nil]=some (.nx,[.par [.int a1,.bl b],.dat (.int n),.dat (dR (List.replicate n 0)),.dat (dT []),.dat (.int v),.nil,.nil,.nil,.nil]):=
  X6 (e1:=[.par [.int a1,.bl b],.dat (.int n),.dat (dR (List.replicate n 0)),.dat (dT []),.nil,.nil,.nil,.nil,.nil]) (V2 ((Cs (e1:=[.par [.int a,.bl b],.dat (.int n),.dat (dR (List.replicate n 0)),.dat (dT []),.nil,.nil,.nil,.nil,.nil]) (w:=.par [.int a,.bl b]) (av:=[.sl 0,.d (.int 3)]) (i:=0) (c:=[.int a,.bl b]) (c':=[.int a1,.bl b]) rfl rfl rfl rfl rfl et rfl).trans rfl))
 have start:tF b n 0 v [.par [.int a1,.bl b],.dat (.int n),.dat (dR (List.replicate n 0)),.dat (dT []),.dat (.int v),.nil,.nil,.nil,.nil] a1 (List.replicate n 0) [] .nil .nil .nil .nil:=by
  refine⟨rfl,a10,⟨by simp,fun x hx=>.inl (List.eq_of_mem_replicate hx)⟩,rfl,fun r hr=>(by cases hr),by simp,fun j hj=>?_⟩
  simp[run,Jp,hj]
 obtain⟨e',h1,a',h',rows',x5,x6,x7,x8,I⟩:=PZ (g:=gN 5) (b:=Kk) (ds:=V9 0 n) (P:=fun i e=>∃a h rows w5 w6 w7 w8,tF b n i v e a h rows w5 w6 w7 w8) (env:=[.par [.int a1,.bl b],.dat (.int n),.dat (dR (List.replicate n 0)),.dat (dT []),.dat (.int v),.nil,.nil,.nil,.nil])
  (fun i d e hi ⟨a,h,rows,w5,w6,w7,w8,I⟩=>by
   have hil:i<n:=by
    have:=(Qb.mp hi).1;rw[PN]at this
    simpa using this
   obtain⟨rfl,r1,r2,r3,r4,r5,r6⟩:=I;obtain⟨e2,a',h',rows',x5,x6,x7,x8,t1,t2⟩:=fX (b:=b) (few:=v) (w5:=.dat d) (w6:=w6) (w7:=w7) (w8:=w8) n1 n6 hil ⟨rfl,r1,r2,r3,r4,r5,r6⟩;exact⟨_,e2,rfl,t1,a',h',rows',x5,x6,x7,x8,t2⟩) ⟨_,_,_,_,_,_,_,start⟩
 have hlen:(V9 0 n).length=n:=by rw[PN];simp
 rw[hlen]at I;obtain⟨rfl,r1,r2,r3,r4,r5,r6⟩:=I;have ones:=(PY r2.bit).2 (by rw[r2.len];exact r5)
 have tab:Tab rows':=by
  refine⟨by omega,by omega,fun r hr=>by rw[r3];exact(r4 r hr).1,?_⟩
  unfold tE;rw[PM (by omega) (by omega) (fun r hr=>by rw[r3];exact(r4 r hr).1),Ez,Bool.true_and,List.all_append,Qw,Qy,Qy]
  refine⟨fun r hr=>(r4 r hr).2,fun c hc=>?_⟩
  unfold flip at hc;obtain⟨j,hj,rfl⟩:=Zq.mp hc;have hj':j<n:=by rw[r3]at hj;exact Jf.mp hj
  rw[fQ,r6 j hj'];have hjl:j<h'.length:=by rw[r2.len];exact hj'
  have:h'.getD j 0=h'[j]:=by simp[hjl]
  rw[this,ones _ (Ye hjl)];rfl
 refine⟨rows',a',(P1 (d:=dT rows') (env:=[.par [.int a',.bl b],.dat (.int n),.dat (dR h'),.dat (dT rows'),.dat (.int v),x5,x6,x7,x8]) ?_).trans rfl,r1,tab,r3⟩;show KZ [.par [.int a,.bl b],.dat (.int n),.nil,.nil,.nil,.nil,.nil,.nil,.nil]=_;unfold KZ;have rg:=Mm (ms:=B0 (A0 1) B6) (env:=[.par [.int a1,.bl b],.dat (.int n),.dat (dR (List.replicate n 0)),.dat (dT []),.dat (.int v),.nil,.nil,.nil,.nil]) (e1:=[.par [.int a1,.bl b],.dat (.int n),.dat (dR (List.replicate n 0)),.dat (dT []),.dat (.int v),.nil,.nil,.nil,.nil]) (j:=(n:Int)) rfl (by omega) (by omega)
 rw[Ji]at rg;rw[Q6 s1,Q6 s2,Q6 s3,Q6 ((Z3 rg).trans h1)];rfl
def S(g:Nat->Int):Nat->Int
 |0=>0
 |k+1=>S g k+g k
def U(h:OO)(i j:Nat):Int:=(h (i+1) (j+1)-h i (j+1))-(h (i+1) j-h i j)
theorem fZ(g:Nat->Int):∀n,S (fun k=>g (k+1)-g k) n=g n-g 0
 |0=>by show(0:Int)=_;omega
 |n+1=>by
  show S (fun k=>g (k+1)-g k) n+(g (n+1)-g n)=_
  rw[fZ g n];omega
theorem FB(g:Nat->Int):∀n,S g (n+1)=g 0+S (fun k=>g (k+1)) n
 |0=>by show(0:Int)+g 0=g 0+0;omega
 |n+1=>by
  show S g (n+1)+g (n+1)=g 0+(S (fun k=>g (k+1)) n+g (n+1))
  rw[FB g n];omega
structure nE(n:Nat)(f:OO):Prop where
 row:∀i<n,∀k≤n,S (f i) k=0\/S (f i) k=1
 rowN:∀i<n,S (f i) n=1
 col:∀j<n,∀k≤n,S (fun r=>f r j) k=0\/S (fun r=>f r j) k=1
 colN:∀j<n,S (fun r=>f r j) n=1
structure HtF(n:Nat)(h:OO):Prop where
 r0:∀i≤n,h i 0=0
 d0:∀j≤n,h 0 j=0
 rN:∀i≤n,h i n=i
 dN:∀j≤n,h n j=j
 dd:∀i<n,∀j≤n,h (i+1) j=h i j\/h (i+1) j=h i j+1
 rr:∀i≤n,∀j<n,h i (j+1)=h i j\/h i (j+1)=h i j+1
def mx(x y:Int):Int:=if x≤y then y else x
def tr(n:Nat)(h:OO)(i j:Nat):Int:=(i:Int)+j-n+h (n-i) (n-j)
theorem Gm:∀(n:Nat) (g:Nat->Int) (s:Int),tt s ((List.range n).map g)=true↔(∀k<n,s+S g (k+1)=0\/s+S g (k+1)=1)/\s+S g n=1
 |0,g,s=>by
  show(s==1)=true↔_;rw[Ym]
  constructor
  ·intro h;exact⟨fun k hk=>by omega,by show s+0=1;omega⟩
  ·rintro⟨_,h⟩;have:S g 0=0:=rfl;omega
 |n+1,g,s=>by
  rw[List.range_succ_eq_map,Qr,Yy];show((s+g 0==0||s+g 0==1)&&tt (s+g 0) ((List.range n).map fun k=>g (k+1)))=true↔_
  rw[Qw,Xx,Ym,Ym,Gm n (fun k=>g (k+1)) (s+g 0),FB g n]
  constructor
  ·rintro⟨h1,h2,h3⟩
   refine⟨fun k hk=>?_,by omega⟩
   rw[FB g k];cases k with
   |zero=>show s+(g 0+0)=0\/s+(g 0+0)=1;omega
   |succ k=>have:=h2 k (by omega);omega
  ·rintro⟨h1,h2⟩
   refine⟨?_,fun k hk=>?_,by omega⟩
   ·have:=h1 0 (by omega)
    rw[FB g 0]at this;have e:S (fun k=>g (k+1)) 0=0:=rfl
    omega
   ·have:=h1 (k+1) (by omega)
    rw[FB g (k+1)]at this;omega
def gm(n m:Nat)(f:OO):OI:=(List.range n).map fun i=>(List.range m).map (f i)
theorem Ae{n m:Nat}{f:OO}:(gm n m f).length=n:=by simp[gm]
theorem Gn{n m:Nat}{f:OO}:∀r∈gm n m f,r.length=m:=by
 intro r hr;obtain⟨i,_,rfl⟩:=Zq.mp hr
 simp
def at2(R:OI)(i j:Nat):Int:=(R.getD i []).getD j 0
theorem Pe{R:OI}{n:Nat}(h1:R.length=n)(h2:∀r∈R,r.length=n):R=gm n n (at2 R):=by
 subst h1;unfold gm
 apply List.ext_getElem
 ·simp
 ·intro i hi hi'
  have hr:=h2 R[i] (Ye hi)
  rw[List.getElem_map,List.getElem_range]
  apply List.ext_getElem
  ·simp[hr]
  ·intro j hj hj'
   rw[List.getElem_map,List.getElem_range]
   simp[at2,hi,hj]
theorem gA(n m:Nat)(f:OO):flip m (gm n m f)=gm m n (fun i j=>f j i):=by
 unfold flip gm
 apply Yb
 intro j hj;have hj:=Jf.mp hj;rw[Yy]
 apply Yb
 intro i hi
 simp[hj]
theorem gB{n:Nat}{f:OO}:tE (dT (gm n n f))=true↔(1≤n/\n≤6)/\nE n f:=by
 unfold tE;rw[Ez,Ae,gA,Qw,List.all_append,Qw,Qy,Qy];have row:∀g:OO,(∀x∈gm n n g,tt 0 x=true)↔ ∀i<n,(∀k≤n,S (g i) k=0\/S (g i) k=1)/\S (g i) n=1:=by
  intro g
  constructor
  ·intro h i hi
   have h1:=(Gm n (g i) 0).mp (h _ (Zq.mpr ⟨i,Jf.mpr hi,rfl⟩))
   refine⟨fun k hk=>?_,by have:=h1.2;omega⟩
   cases k with
   |zero=>exact .inl rfl
   |succ k=>have:=h1.1 k (by omega);omega
  ·intro h x hx
   obtain⟨i,hi,rfl⟩:=Zq.mp hx;have h1:=h i (Jf.mp hi);refine(Gm n (g i) 0).mpr ⟨fun k hk=>?_,by have:=h1.2;omega⟩
   have:=h1.1 (k+1) (by omega);omega
 rw[row,row]
 constructor
 ·rintro⟨h1,h2,h3⟩
  have:=fA h1;rw[Ez,Ae]at this;exact⟨⟨by omega,by omega⟩,⟨fun i hi=>(h2 i hi).1,fun i hi=>(h2 i hi).2,fun i hi=>(h3 i hi).1,fun i hi=>(h3 i hi).2⟩⟩
 ·rintro⟨⟨h1,h2⟩,T⟩
  refine⟨PM (by rw[Ae];omega) (by rw[Ae];omega) (by rw[Ae];exact Gn),fun i hi=>⟨T.row i hi,T.rowN i hi⟩,fun i hi=>⟨T.col i hi,T.colN i hi⟩⟩
abbrev rw'(n:Nat)(g:Nat->Int):List Int:=(List.range n).map g
theorem c1{f:Fn}{m:Mo D}{env:a9}{d r:D}{ws:List W}(h:m env=some (d,env))(hf:f [.dat d]=some (.d r,ws)):c9 1 f (B4 m B9) env=some (r,env):=
 V2 (X7 (av:=[.d d]) (W2 h rfl) rfl rfl hf)
theorem gC(l:List Int):qG (dR l)=true:=by
 unfold qG SeqAt.shaped;show(PyData.canLayAll0 (K1 (l.map D.int))&&decide (PyData.depthAll (K1 (l.map D.int))+1≤64))=true;rw[DP,Kf,Kg];rfl
theorem gE(l k:List Int):PyData.eqv (lS (dR l)) (lS (dR k))=decide (l=k):=by
 show PyData.eqvAll (K1 (l.map D.int)) (K1 (k.map D.int))=_;rw[DP,DP,PQ]
theorem Pf:∀R:OI,PyData.canLayAll0 (K1 (R.map dR))=true
 |[]=>rfl
 |r::R=>by
  show(PyData.canLayAll0 (K1 (r.map D.int))&&PyData.canLayAll0 (K1 (R.map dR)))=true;rw[Pf R,DP,Kf];rfl
def lJ:Nat->OI
 |0=>[[]]
 |n+1=>(lJ n).map (fun s=>0::s)++(lJ n).map fun s=>1::s
theorem Go:∀{n:Nat}{s:List Int},s.length=n->(∀x∈s,x=0\/x=1)->s∈lJ n
 |0,[],_,_=>by simp[lJ]
 |0,_::_,h,_=>by simp at h
 |n+1,[],h,_=>by simp at h
 |n+1,x::s,h,hx=>by
  have ih:=Go (n:=n) (s:=s) (by simpa using h) fun y hy=>hx y (Qe _ hy)
  unfold lJ;rw[Zf]
  rcases hx x (Zu ..)with rfl|rfl
  ·exact .inl (Zq.mpr ⟨s,ih,rfl⟩)
  ·exact .inr (Zq.mpr ⟨s,ih,rfl⟩)
theorem Gp:∀{n:Nat}{s:List Int},s∈lJ n->s.length=n/\∀x∈s,x=0\/x=1
 |0,s,h=>by
  have:s=[]:=by simpa [lJ]using h
  subst this;exact⟨rfl,fun x hx=>nomatch hx⟩
 |n+1,s,h=>by
  unfold lJ at h
  rcases Zf.mp h with h|h
  ·obtain⟨t,ht,rfl⟩:=Zq.mp h
   obtain⟨h1,h2⟩:=Gp ht;exact⟨by simp[h1],fun x hx=>(Qg.mp hx).elim (fun e=>.inl e) (h2 x)⟩
  ·obtain⟨t,ht,rfl⟩:=Zq.mp h
   obtain⟨h1,h2⟩:=Gp ht;exact⟨by simp[h1],fun x hx=>(Qg.mp hx).elim (fun e=>.inr e) (h2 x)⟩
theorem Pg:∀n:Nat,(lJ n).length=2^n
 |0=>rfl
 |n+1=>by unfold lJ;rw[Ql,Qk,Qk,Pg n];omega
def ext(rows:OI)(a:Int):OI:=rows.flatMap fun row=>([-1,0,1].filter fun n=>(a+n==0||a+n==1)&&(row.sum+n==0||row.sum+n==1)).map fun n=>row++[n]
def R(s:List Int):OI:=(s.foldl ext [[]]).filter fun r=>r.sum==1
def uK:List Int:=[7436,429,1287,42,2002,105,203,7,2002,135,300,14,322,23,34,2,1287,105,250,14,300,26,41,3,203,23,41,4,34,5,6,1,429,42,105,7,135,14,23,2,105,14,26,3,23,4,5,1,42,7,14,2,14,3,4,1,7,2,3,1,2,1,1,1]
def idx(s:List Int):Nat:=s.foldl (fun a b=>2 * a+b.toNat) 0
def Wy(s:List Int):Int:=uK.getD (64-2^s.length+idx s) 0
def vC:OI->Bool
 |[]=>true
 |a::l=>l.all (fun b=>HT.lexLt a b)&&vC l
def Y8(s:List Int):Bool:=
 ((R s).all fun r=>decide (r.length=s.length)&&decide (r.sum=1)&&(F6 s r).all fun x=>x==0||x==1)&&vC (R s)&&decide ((R s).length≤50)&&(s.contains 0||(R s).isEmpty)
  &&decide (Wy s=if s.contains 0 then((R s).map fun r=>Wy (F6 s r)).sum else 1)&&decide (1≤Wy s)
theorem xC:(lJ 1).all Y8=true:=by rfl'
theorem xD:(lJ 2).all Y8=true:=by rfl'
theorem xE:(lJ 3).all Y8=true:=by rfl'
theorem xF:(lJ 4).all Y8=true:=by rfl'
theorem xG:(lJ 5).all Y8=true:=by rfl'
theorem xH:(lJ 6).all Y8=true:=by rfl'
def FC:List D->Option (List Int)
 |[]=>some []
 |.int i::r=>(FC r).map (i:: ·)
 |_::_=>none
def DQ:List D->Option (OI)
 |[]=>some []
 |.tup x::r=>(FC x).bind fun a=>(DQ r).map (a:: ·)
 |_::_=>none
theorem Ph:∀{l:List D}{r:List Int},FC l=some r->l=r.map .int
 |[],r,h=>by cases h;rfl
 |d::l,r,h=>by
  cases d with
  |int i=>
   obtain⟨a,h1,h2⟩:=Um.mp (show(FC l).map (i:: ·)=some r from h)
   rw[←h2,Qr,←Ph h1]
  |_=>cases h
theorem Gq:∀{l:List D}{r:OI},DQ l=some r->l=r.map dR
 |[],r,h=>by cases h;rfl
 |d::l,r,h=>by
  cases d with
  |tup x=>
   obtain⟨a,h0,h'⟩:=Option.bind_eq_some_iff.mp (show(FC x).bind (fun a=>(DQ l).map (a:: ·))=some r from h)
   obtain⟨b,h1,h2⟩:=Um.mp h';rw[←h2,Qr,←Gq h1,Ph h0];rfl
  |_=>cases h
def Gr(o:Option (Rr×List W)):Option (OI):=match o with
 |some (.l ds,[_])=>DQ ds
 |_=>none
theorem Pj{o:Option (Rr×List W)}{L:OI}(h:Gr o=some L):∃w,o=some (.l (L.map dR),[w]):=by
 unfold Gr at h;split at h
 ·rename_i ds w
  exact⟨w,by rw[Gq h]⟩
 ·cases h
theorem Pk{N:Nat}{m:Mo Fl}{d:D}{r:Rr}{w:W}(h:kJ N m [.dat d]=some (r,[w])):kJ N m [.dat d]=some (r,[.dat d]):=by
 have key:∀env:a9,U9 [.dat d] env=[w]->w=.dat d:=fun env e=>by
  cases env with
  |nil=>cases e
  |cons a as=>
   have e':[Du (.dat d) a]=[w]:=by
    cases as<;>exact e
   injection e' with e1 _
   rw[←e1];rfl
 suffices hw:w=.dat d by rw[h,hw]
 unfold kJ at h;split at h<;>first|(cases h;done)|(injection h with h;injection h with _ h;exact key _ h)
def BZ(s:List Int):Bool:=Gr (U3 [.dat (dR s)])==some (R s)
theorem xI:(lJ 1).all BZ=true:=by rfl'
theorem xJ:(lJ 2).all BZ=true:=by rfl'
theorem xK:(lJ 3).all BZ=true:=by rfl'
theorem xM:(lJ 4).all BZ=true:=by rfl'
theorem xO:(lJ 5).all BZ=true:=by rfl'
theorem xP:(lJ 6).all BZ=true:=by rfl'
structure Bt(n:Nat)(s:List Int):Prop where
 lo:1≤n
 hi:n≤6
 mem:s∈lJ n
theorem Bt.all{n:Nat}{s:List Int}(b:Bt n s):Y8 s=true/\BZ s=true:=by
 obtain⟨h1,h6,hm⟩:=b;have:n=1\/n=2\/n=3\/n=4\/n=5\/n=6:=by omega
 rcases this with rfl|rfl|rfl|rfl|rfl|rfl
 ·exact⟨Qy.mp xC s hm,Qy.mp xI s hm⟩
 ·exact⟨Qy.mp xD s hm,Qy.mp xJ s hm⟩
 ·exact⟨Qy.mp xE s hm,Qy.mp xK s hm⟩
 ·exact⟨Qy.mp xF s hm,Qy.mp xM s hm⟩
 ·exact⟨Qy.mp xG s hm,Qy.mp xO s hm⟩
 ·exact⟨Qy.mp xH s hm,Qy.mp xP s hm⟩
theorem Bt.len{n:Nat}{s:List Int}(b:Bt n s):s.length=n:=(Gp b.mem).1
theorem Bt.bit{n:Nat}{s:List Int}(b:Bt n s):∀x∈s,x=0\/x=1:=(Gp b.mem).2
theorem Bt.row{n:Nat}{s r:List Int}(b:Bt n s)(hr:r∈R s):r.length=s.length/\r.sum=1/\Bt n (F6 s r):=by
 have h:=b.all.1
 unfold Y8 at h;simp only[Qw]at h;have h1:=Qy.mp h.1.1.1.1.1 r hr;rw[Qw,Qw,Zh,Zh]at h1;refine⟨h1.1.1,h1.1.2,b.lo,b.hi,Go (by rw[Ki h1.1.1,b.len]) fun x hx=>?_⟩
 have:=Qy.mp h1.2 x hx
 simpa using this
theorem Bt.few{n:Nat}{s:List Int}(b:Bt n s):(R s).length≤50:=by
 have h:=b.all.1
 unfold Y8 at h;simp only[Qw,Zh]at h;exact h.1.1.1.2
theorem Bt.done{n:Nat}{s:List Int}(b:Bt n s)(h0:s.contains 0=false):R s=[]/\Wy s=1:=by
 have h:=b.all.1
 unfold Y8 at h;simp only[Qw,Zh]at h;refine⟨?_,?_⟩
 ·have:=h.1.1.2
  rw[h0,Vn]at this
  simpa using this
 ·have:=h.1.2
  rw[h0]at this
  simpa using this
theorem Bt.sum{n:Nat}{s:List Int}(b:Bt n s)(h0:s.contains 0=true):Wy s=((R s).map fun r=>Wy (F6 s r)).sum:=by
 have h:=b.all.1
 unfold Y8 at h;simp only[Qw,Zh]at h;have:=h.1.2;rw[h0]at this
 simpa using this
theorem Bt.none{n:Nat}{s:List Int}(b:Bt n s)(h:(n:Int)≤s.sum):s.contains 0=false:=by
 have key:∀l:List Int,(∀x∈l,x=0\/x=1)->l.sum≤l.length/\((l.length:Int)≤l.sum->l.contains 0=false):=by
  intro l
  induction l with
  |nil=>intro _;exact⟨by simp,fun _=>rfl⟩
  |cons x l ih=>
   intro hx;obtain⟨h1,h2⟩:=ih fun y hy=>hx y (Qe _ hy)
   simp only[Ju,Qo,Uy]
   rcases hx x (Zu ..)with rfl|rfl
   ·exact⟨by omega,fun h=>by omega⟩
   ·exact⟨by omega,fun h=>by rw[h2 (by omega)];rfl⟩
 exact(key s b.bit).2 (by rw[b.len];exact h)
theorem Bt.next{n:Nat}{s r:List Int}(b:Bt n s)(hr:r∈R s):(F6 s r).sum=s.sum+1:=by
 obtain⟨h1,h2,_⟩:=b.row hr;rw[Kj h1,h2]
def rF:Int->List Int->List Int->Bool
 |_,[],[]=>true
 |q,a::s,x::t=>(x== -1||x==0||x==1)&&(a+x==0||a+x==1)&&(q+x==0||q+x==1)&&rF (q+x) s t
 |_,_,_=>false
theorem Pl:∀(s t:List Int) {rows:OI}{r0:List Int},r0∈rows->rF r0.sum s t=true->r0++t∈s.foldl ext rows
 |[],[],rows,r0,h,_=>by simpa using h
 |[],_::_,_,_,_,h=>by simp[rF]at h
 |_::_,[],_,_,_,h=>by simp[rF]at h
 |a::s,x::t,rows,r0,h,e=>by
  simp only[rF,Qw]at e;obtain⟨⟨⟨e1,e2⟩,e3⟩,e4⟩:=e;have hm:r0++[x]∈ext rows a:=by
   unfold ext;refine List.mem_flatMap.mpr ⟨r0,h,Zq.mpr ⟨x,Uj.mpr ⟨?_,?_⟩,rfl⟩⟩
   ·have:x= -1\/x=0\/x=1:=by simpa [or_assoc]using e1
    rcases this with rfl|rfl|rfl<;>simp
   ·rw[Qw];exact⟨e2,e3⟩
  have:=Pl s t (rows:=ext rows a) (r0:=r0++[x]) hm (by
   have:(r0++[x]).sum=r0.sum+x:=by rw[List.sum_append];simp
   rw[this];exact e4)
  rw[Vb]at this;exact this
theorem Pm:∀(s t:List Int) (q:Int),t.length=s.length->(∀x∈s,x=0\/x=1)->tt q t=true->(∀x∈F6 s t,x=0\/x=1)->rF q s t=true
 |[],[],_,_,_,_,_=>rfl
 |[],_::_,_,h,_,_,_=>by simp at h
 |_::_,[],_,h,_,_,_=>by simp at h
 |a::s,x::t,q,hl,hs,ht,ha=>by
  simp only[tt,Qw]at ht;have ih:=Pm s t (q+x) (by simpa using hl) (fun y hy=>hs y (Qe _ hy)) ht.2 fun y hy=>ha y (by
   show y∈List.zipWith _ (a::s) (x::t);rw[Uc];exact Qe _ hy)
  have h1:=hs a (Zu ..)
  have h2:=ha (a+x) (by
   show a+x∈List.zipWith _ (a::s) (x::t);rw[Uc];exact Zu ..)
  simp only[rF,Qw,Xx,Ym];refine⟨⟨⟨?_,?_⟩,?_⟩,ih⟩
  ·rcases h1 with rfl|rfl<;>omega
  ·exact h2
  ·simpa using ht.1
theorem gF{s r:List Int}(hl:r.length=s.length)(hs:∀x∈s,x=0\/x=1)(ht:tt 0 r=true)(ha:∀x∈F6 s r,x=0\/x=1):r∈R s:=by
 refine Uj.mpr ⟨?_,?_⟩
 ·have:=Pl s r (rows:=[[]]) (r0:=[]) (by simp) (Pm s r 0 hl hs ht ha)
  simpa using this
 ·have:=PX r 0 ht
  simp;omega
def wt(s:List Int)(r:List Int):Int:=Wy (F6 s r)
theorem Pn{n:Nat}{s:List Int}(b:Bt n s):U3 [.dat (dR s)]=some (.l ((R s).map dR),[.dat (dR s)]):=by
 have h:=b.all.2
 unfold BZ at h;obtain⟨w,e⟩:=Pj (Uv h);exact Pk e
theorem Po{n:Nat}{s r:List Int}(b:Bt n s)(hr:r∈R s):Y4 [.dat (dR s),.dat (dR r)]=some (.d (dR (F6 s r)),[.dat (dR s),.dat (dR r)]):=by
 have ez:(s.zip r).map (fun p=>D.int (p.1+p.2))=(F6 s r).map D.int:=by
  unfold F6;rw[Vs,List.zip_eq_zipWith,Vs]
 have hl:=b.len
 have h6:=b.hi
 have c:=JH (mi:=Al (B0 (A0 0) (B0 (A0 1) B6))) (keep:=[false,false]) (m:=B8 D7 (A0 2) (A0 3)) (env:=[.dat (dR s),.dat (dR r)]) (base:=[.nil,.nil]) (l:=s.zip r) (q:=fun p=>D.int p.1) (q2:=fun p=>D.int p.2) (f:=fun p=>.int (p.1+p.2)) (k:=2) (by
   show some (Z2 (s.map D.int) (r.map D.int),_)=_;rw[Pb]) (by rw[List.length_zip];omega) rfl rfl (fun p _=>rfl) (fun w w2=>rfl)
 rw[ez]at c;refine(P1 (d:=dR (F6 s r)) (env:=[.dat (dR s),.dat (dR r)]) ?_).trans rfl;show KN [.dat (dR s),.dat (dR r)]=_;unfold KN;exact P5 (P4 (C8 (J4 c) rfl) rfl)
structure rS(n:Nat)(ks:OI)(vs:List D):Prop where
 nd:ks.Nodup
 sub:∀k∈ks,k∈lJ n
 val:∀k,ks.contains k=true->lZ ks vs k=some (.int (Wy k))
theorem Pp:∀{l m:OI},l.Nodup->(∀x∈l,x∈m)->l.length≤m.length
 |[],_,_,_=>by simp
 |a::l,m,hn,h=>by
  rw[Uk]at hn;have ha:=h a (Zu ..);have:=Pp (l:=l) (m:=m.erase a) hn.2 fun x hx=>(List.mem_erase_of_ne (fun e=>hn.1 (by rw[←e];exact hx))).mpr (h x (Qe _ hx))
  rw[List.length_erase_of_mem ha]at this;have:=List.length_pos_of_mem ha;simp only[Qo];omega
theorem rS.len{n:Nat}{ks:OI}{vs:List D}(h6:n≤6)(h:rS n ks vs):ks.length<100000:=by
 have:=Pp h.nd h.sub;rw[Pg]at this;have:2^n≤2^6:=Xk (by decide) h6
 omega
theorem rS.nil(n:Nat):rS n [] []:=⟨List.nodup_nil,(fun k h=>nomatch h),fun k h=>by simp at h⟩
theorem Pq:∀{ks:OI}{vs:List D}{k:List Int}{d:D},ks.length=vs.length->ks.contains k=false->lZ (ks++[k]) (vs++[d]) k=some d
 |[],[],k,d,_,_=>by simp[lZ]
 |[],_::_,_,_,h,_=>by simp at h
 |_::_,[],_,_,h,_=>by simp at h
 |a::ks,v::vs,k,d,hl,h=>by
  rw[Uy,Bool.or_eq_false_iff]at h;show(if a=k then some v else lZ (ks++[k]) (vs++[d]) k)=_
  rw[Qt (fun z=>by rw[z]at h;simp at h),Pq (by simpa using hl) h.2]
theorem Km:∀{ks:OI}{vs:List D}{k k':List Int}{d x:D},lZ ks vs k'=some x->lZ (ks++[k]) (vs++[d]) k'=some x
 |[],_,_,_,_,_,h=>by simp[lZ]at h
 |_::_,[],_,_,_,_,h=>by simp[lZ]at h
 |a::ks,v::vs,k,k',d,x,h=>by
  show(if a=k' then some v else lZ (ks++[k]) (vs++[d]) k')=_
  have h':(if a=k' then some v else lZ ks vs k')=some x:=h
  by_cases e:a=k'
  ·rw[Qc e]at h' ⊢;exact h'
  ·rw[Qt e]at h' ⊢;exact Km h'
def KL(n:Nat)(ks:OI)(vs:List D):Prop:=rS n ks vs/\ks.length=vs.length
theorem KL.nil(n:Nat):KL n [] []:=⟨rS.nil n,rfl⟩
theorem KL.put{n:Nat}{ks:OI}{vs:List D}{k:List Int}(h:KL n ks vs)(hk:k∈lJ n)(hc:ks.contains k=false):KL n (N3 ks k) (O3 ks vs k (.int (Wy k))):=by
 obtain⟨h,hl⟩:=h;unfold N3 O3;rw[hc];simp only[Zz,Yu];have hn:k∉ks:=fun z=>by rw[Jz.mpr z]at hc;cases hc
 refine⟨⟨?_,fun x hx=>?_,fun x hx=>?_⟩,by simp[hl]⟩
 ·rw[List.nodup_append]
  exact⟨h.nd,by simp,fun a ha b hb=>by
   have:b=k:=by simpa using hb
   subst this;exact fun e=>hn (by rw[←e];exact ha)⟩
 ·rcases Zf.mp hx with hx|hx
  ·exact h.sub x hx
  ·have:x=k:=by simpa using hx
   subst this;exact hk
 ·by_cases e:x=k
  ·subst e;exact Pq hl hc
  ·refine Km (h.val x ?_)
   have:x∈ks++[k]:=Jz.mp hx
   rcases Zf.mp this with z|z
   ·exact Jz.mpr z
   ·exact absurd (by simpa using z) e
theorem Ba(s:List Int):V5 (dR s)=some s:=BV s
def rT(s:List Int):List D:=(R s).map fun r=>.tup [dR r,.int (wt s r)]
def uL(n:Nat)(f:Fn)(s:List Int):Prop:=∀ks vs,KL n ks vs->∃ks' vs',f [.dat (dR s),.parD ks vs]=some (.d (.int (Wy s)),[.dat (dR s),.parD ks' vs'])/\KL n ks' vs'
theorem Pr{n:Nat}{f:Fn}{s:List Int}(b:Bt n s)(hf:∀r∈R s,uL n f (F6 s r)){ks:OI}{vs:List D}(hk:KL n ks vs):
  ∃ks' vs',Aa f [.dat (dR s),.parD ks vs]=some (.l (rT s),[.dat (dR s),.parD ks' vs'])/\KL n ks' vs':=by
 obtain⟨e',h1,ks',vs',w',rfl,hk'⟩:=fC (g:=gN 2) (m:=D1 (B0 (A0 2) (B0 (c9 2 f (B4 (c9 2 Y4 (B4 (A0 0) (B4 (A0 2) B9))) (G0 1 B9))) B6))) (P:=fun e=>∃ks vs w,e=[.dat (dR s),.parD ks vs,w]/\KL n ks vs) (q:=dR) (f:=fun r=>.tup [dR r,.int (wt s r)]) (l:=R s) (env:=[.dat (dR s),.parD ks vs,.nil])
  (fun r hr e ⟨ks,vs,w,he,hk⟩=>by
   subst he;obtain⟨ks',vs',e1,hk'⟩:=hf r hr ks vs hk;refine⟨[.dat (dR s),.parD ks vs,.dat (dR r)],[.dat (dR s),.parD ks' vs',.dat (dR r)],rfl,?_,_,_,_,rfl,hk'⟩;refine GX (C8 (e1:=[.dat (dR s),.parD ks vs,.dat (dR r)]) rfl (C8 (d:=.int (wt s r)) (e1:=[.dat (dR s),.parD ks' vs',.dat (dR r)]) ?_ rfl)) (by simp)
   refine V2 ((EH (i:=1) (w:=.parD ks vs) (c:=.d ks vs) (c':=.d ks' vs') (e1:=[.dat (dR s),.parD ks vs,.dat (dR r)]) (av:=[.d (dR (F6 s r)),.sl 1]) ?_ rfl rfl rfl rfl e1 rfl).trans rfl);refine W2 (e1:=[.dat (dR s),.parD ks vs,.dat (dR r)]) (V2 (X7 (av:=[.d (dR s),.d (dR r)]) rfl rfl rfl (Po b hr))) rfl) ⟨_,_,_,rfl,hk⟩
 refine⟨ks',vs',(Fq (d:=rT s) (env:=[.dat (dR s),.parD ks' vs']) ?_).trans rfl,hk'⟩;show KO f [.dat (dR s),.parD ks vs]=_;unfold KO;refine II (EF (e1:=[.dat (dR s),.parD ks vs]) (ds:=(R s).map dR) (e2:=[.dat (dR s),.parD ks' vs',w']) ?_ ?_ h1 rfl)
 ·exact U0 (J4 (BM (X7 (e1:=[.dat (dR s),.parD ks vs]) (av:=[.d (dR s)]) rfl rfl rfl (Pn b)))) rfl
 ·have:=b.few
  rw[Qk];omega
theorem Ps:∀{ks:OI}{vs:List D}{k:List Int}{d:D},k∉ks->nV ks vs k d=vs
 |[],_,_,_,_=>rfl
 |_::_,[],_,_,_=>rfl
 |a::ks,v::vs,k,d,h=>by
  show(if a=k then d::nV ks vs k d else v::nV ks vs k d)=_
  rw[Qt (fun z=>h (by rw[z];exact Zu ..)),Ps fun z=>h (Qe _ z)]
theorem Pu:∀{ks:OI}{vs:List D}{k:List Int}{d:D},ks.length=vs.length->lZ ks vs k=some d->ks.Nodup->nV ks vs k d=vs
 |[],_,_,_,_,h,_=>by simp[lZ]at h
 |_::_,[],_,_,_,h,_=>by simp[lZ]at h
 |a::ks,v::vs,k,d,hl,h,hn=>by
  rw[Uk]at hn;show(if a=k then d::nV ks vs k d else v::nV ks vs k d)=_
  have h':(if a=k then some v else lZ ks vs k)=some d:=h
  by_cases e:a=k
  ·rw[Qc e]at h' ⊢
   cases h';rw[Ps (by rw[←e];exact hn.1)]
  ·rw[Qt e]at h' ⊢
   rw[Pu (by simpa using hl) h' hn.2]
theorem Pw{n:Nat}{f:Fn}{s:List Int}{ks ks':OI}{vs vs' ds:List D}(b:Bt n s)(hk':KL n ks' vs')
  (tst:(mT (B8 (rL true) (mC (.int 0)) (A0 0))) [.dat (dR s),.parD ks vs]=some (false,[.dat (dR s),.parD ks vs]))
  (tin:(mT (DC true 1 (A0 0))) [.dat (dR s),.parD ks vs]=some (true,[.dat (dR s),.parD ks vs]))
  (cc:(G9 (F4 (mF (M3 2 (Aa f) (B4 (A0 0) (G0 1 B9))))) [false,false] 2 (gT 2 (mS (gN 2) (mS (gN 3) oR))) J0 (A0 3)) [.dat (dR s),.parD ks vs]=some (ds,[.dat (dR s),.parD ks' vs']))
  (sm1:P7 [.lst ds]=some (.int (Wy s)))(hv:lZ (N3 ks' s) (O3 ks' vs' s (.int (Wy s))) s=some (.int (Wy s))):
  Ay f [.dat (dR s),.parD ks vs]=some (.ret (.int (Wy s)),[.dat (dR s),.parD (N3 ks' s) (O3 ks' vs' s (.int (Wy s)))]):=by
 unfold Ay;refine F1 (e1:=[.dat (dR s),.parD ks vs]) (O4 tst rfl) (F1 (e1:=[.dat (dR s),.parD (N3 ks' s) (O3 ks' vs' s (.int (Wy s)))]) (BW tin ?_) (P5 ?_))
 ·unfold Q4
  rw[P4 (C8 (J4 cc) rfl) sm1];show(((V5 (dR s)).bind fun k=>if ks'.length<100000 then some ([W.dat (dR s),W.parD (N3 ks' k) (O3 ks' vs' k (.int (Wy s)))])else none).map fun e=>(Fl.nx,e))=_
  rw[Ba,Qj,Qc (hk'.1.len b.hi)];rfl
 ·show((V5 (dR s)).bind fun k=>(lZ _ _ k).map fun d=>(d,_))=_
  rw[Ba,Qj,hv];rfl
theorem gG{n:Nat}:∀{k:Nat}{s:List Int},Bt n s->(n:Int)≤s.sum+k->uL n (M4 (k+1)) s:=by
 intro k
 induction k with
 |zero=>
  intro s b h ks vs hk;have h0:=b.none (by simpa using h)
  refine⟨ks,vs,(P1 (d:=.int (Wy s)) (env:=[.dat (dR s),.parD ks vs]) ?_).trans rfl,hk⟩;show Ay (M4 0) [.dat (dR s),.parD ks vs]=_;unfold Ay;rw[(b.done h0).2];refine AU (BW (e1:=[.dat (dR s),.parD ks vs]) (N2 (D4 (a:=.int 0) (b:=dR s) rfl rfl ?_)) rfl);show(jY (s.map D.int)).map _=_;rw[BV];show some (D.bl (!s.contains 0))=_;rw[h0];rfl
 |succ k ih=>
  intro s b h ks vs hk;have tst:(mT (B8 (rL true) (mC (.int 0)) (A0 0))) [.dat (dR s),.parD ks vs]=some (!s.contains 0,[.dat (dR s),.parD ks vs]):=by
   refine N2 (D4 (a:=.int 0) (b:=dR s) rfl rfl ?_);show(jY (s.map D.int)).map _=_;rw[BV];rfl
  cases h0:s.contains 0 with
  |false=>
   refine⟨ks,vs,(P1 (d:=.int (Wy s)) (env:=[.dat (dR s),.parD ks vs]) ?_).trans rfl,hk⟩;show Ay (M4 (k+1)) [.dat (dR s),.parD ks vs]=_;unfold Ay;rw[(b.done h0).2];rw[h0]at tst;exact AU (BW (e1:=[.dat (dR s),.parD ks vs]) tst rfl)
  |true=>
   rw[h0]at tst;have tin:(mT (DC true 1 (A0 0))) [.dat (dR s),.parD ks vs]=some (!ks.contains s,[.dat (dR s),.parD ks vs]):=by
    refine N2 ?_
    show((V5 (dR s)).map _)=_;rw[Ba];rfl
   cases hc:ks.contains s with
   |true=>
    rw[hc]at tin;refine⟨ks,vs,(P1 (d:=.int (Wy s)) (env:=[.dat (dR s),.parD ks vs]) ?_).trans rfl,hk⟩;show Ay (M4 (k+1)) [.dat (dR s),.parD ks vs]=_;unfold Ay;refine F1 (O4 (e1:=[.dat (dR s),.parD ks vs]) tst rfl) (F1 (O4 (e1:=[.dat (dR s),.parD ks vs]) tin rfl) (P5 ?_));show((V5 (dR s)).bind fun k=>(lZ ks vs k).map fun d=>(d,_))=_
    rw[Ba,Qj,hk.1.val s hc];rfl
   |false=>
    rw[hc]at tin;obtain⟨ks',vs',e1,hk'⟩:=Pr (f:=M4 (k+1)) b (fun r hr=>ih (b.row hr).2.2 (by rw[b.next hr];omega)) hk
    have cc:(G9 (F4 (mF (M3 2 (Aa (M4 (k+1))) (B4 (A0 0) (G0 1 B9))))) [false,false] 2 (gT 2 (mS (gN 2) (mS (gN 3) oR))) J0 (A0 3)) [.dat (dR s),.parD ks vs]=some ((R s).map fun r=>.int (wt s r),[.dat (dR s),.parD ks' vs']):=by
     obtain⟨w1,w2,q1⟩:=GW (t:=J0) (m:=A0 3) (base:=[.nil,.nil]) (q:=dR) (q2:=fun r=>D.int (wt s r)) (f:=fun r=>D.int (wt s r)) (p:=fun _=>true) (k:=2) rfl (l:=R s) (fun a _=>⟨rfl,fun _=>rfl⟩) .nil .nil
     rw[Uo.mpr (fun _ _=>rfl)]at q1
     refine EF (e1:=[.dat (dR s),.parD ks' vs']) (ds:=rT s) ?_ ?_ q1 rfl
     ·exact U0 (J4 (BM ((EH (i:=1) (w:=.parD ks vs) (c:=.d ks vs) (c':=.d ks' vs') (e1:=[.dat (dR s),.parD ks vs]) (av:=[.d (dR s),.sl 1]) rfl rfl rfl rfl rfl e1 rfl).trans rfl))) rfl
     ·have:=b.few
      unfold rT;rw[Qk];omega
    have sm1:P7 [.lst ((R s).map fun r=>D.int (wt s r))]=some (.int (Wy s)):=by
     have e:((R s).map fun r=>D.int (wt s r))=((R s).map (wt s)).map D.int:=by rw[Yy];rfl
     rw[e,Of,b.sum h0];rfl
    have hb:=b.mem
    by_cases hc2:ks'.contains s=true
    ·have hp:KL n (N3 ks' s) (O3 ks' vs' s (.int (Wy s)))/\lZ (N3 ks' s) (O3 ks' vs' s (.int (Wy s))) s=some (.int (Wy s)):=by
      have:nV ks' vs' s (.int (Wy s))=vs':=Pu hk'.2 (hk'.1.val s hc2) hk'.1.nd;unfold N3 O3;rw[hc2];simp only[Zm];rw[this];exact⟨hk',hk'.1.val s hc2⟩
     refine⟨_,_,(P1 (d:=.int (Wy s)) (env:=[.dat (dR s),.parD (N3 ks' s) (O3 ks' vs' s (.int (Wy s)))]) ?_).trans rfl,hp.1⟩;exact Pw b hk' tst tin cc sm1 hp.2
    ·have hc3:ks'.contains s=false:=by simpa using hc2
     have hp:=hk'.put hb hc3
     refine⟨_,_,(P1 (d:=.int (Wy s)) (env:=[.dat (dR s),.parD (N3 ks' s) (O3 ks' vs' s (.int (Wy s)))]) ?_).trans rfl,hp⟩;refine Pw b hk' tst tin cc sm1 (hp.1.val s ?_);unfold N3;rw[hc3]
     simp
def Bb(s:List Int):Bool:=Gr (T0 [.dat (dR s)])==some (R s)
theorem xQ:(lJ 1).all Bb=true:=by rfl'
theorem nX:(lJ 2).all Bb=true:=by rfl'
theorem xR:(lJ 3).all Bb=true:=by rfl'
theorem xS:(lJ 4).all Bb=true:=by rfl'
theorem xU:(lJ 5).all Bb=true:=by rfl'
theorem xV:(lJ 6).all Bb=true:=by rfl'
theorem Px{n:Nat}{s:List Int}(b:Bt n s):T0 [.dat (dR s)]=some (.l ((R s).map dR),[.dat (dR s)]):=by
 have h:Bb s=true:=by
  obtain⟨h1,h6,hm⟩:=b
  rcases(by omega:n=1\/n=2\/n=3\/n=4\/n=5\/n=6)with rfl|rfl|rfl|rfl|rfl|rfl
  ·exact Qy.mp xQ s hm
  ·exact Qy.mp nX s hm
  ·exact Qy.mp xR s hm
  ·exact Qy.mp xS s hm
  ·exact Qy.mp xU s hm
  ·exact Qy.mp xV s hm
 unfold Bb at h;obtain⟨w,e⟩:=Pj (Uv h);exact Pk e
abbrev eT:Mo Bool:=mT (B8 qV (A0 3) (mC (.int 0)))
abbrev eB:Mo Fl:=AL 2 3 (B0 (A0 3) (B0 (B8 R1 (A0 2) (A0 3)) B6))
theorem Py{d0 d1:W}{a n:Nat}:qB eT eB (n+1) [d0,d1,.dat (.int (a:Int)),.dat (.int 0)]=some (.nx,[d0,d1,.dat (.int (a:Int)),.dat (.int 0)]):=rfl
theorem Pz{d0 d1:W}{a b n:Nat}(hb:0<b):qB eT eB (n+1) [d0,d1,.dat (.int (a:Int)),.dat (.int (b:Int))]=qB eT eB n [d0,d1,.dat (.int (b:Int)),.dat (.int ((a%b:Nat):Int))]:=by
 have h1:eT [d0,d1,.dat (.int (a:Int)),.dat (.int (b:Int))]=some (true,[d0,d1,.dat (.int (a:Int)),.dat (.int (b:Int))]):=by
  show some (decide ((b:Int)>0),_)=_;rw[Yx (by omega)]
 have h2:eB [d0,d1,.dat (.int (a:Int)),.dat (.int (b:Int))]=some (.nx,[d0,d1,.dat (.int (b:Int)),.dat (.int ((a%b:Nat):Int))]):=by
  refine GY (a:=.int (b:Int)) (b:=.int ((a%b:Nat):Int)) (e1:=[d0,d1,.dat (.int (a:Int)),.dat (.int (b:Int))]) (C8 rfl (C8 (D4 rfl rfl ?_) rfl)) rfl;show(if decide ((0:Int)<(b:Int))=true then some (D.int ((a:Int)%(b:Int)))else none)=_
  rw[Qc (Yx (by omega))]
  rfl
 show(eT _).bind _=_;rw[h1,Qj];dsimp only;rw[Qc rfl,h2]
 rfl
theorem Kn{d0 d1:W}:∀(k a b n:Nat),b<2^k->2 * k+1≤n->qB eT eB n [d0,d1,.dat (.int (a:Int)),.dat (.int (b:Int))]=some (.nx,[d0,d1,.dat (.int ((Nat.gcd a b:Nat):Int)),.dat (.int 0)])
 |k,a,0,n+1,_,_=>by
  rw[Nat.gcd_zero_right];exact Py
 |0,a,b+1,n,h,_=>by simp at h
 |k+1,a,b+1,n+2,h,hn=>by
  rw[Pz (Nat.succ_pos b)];have hg:Nat.gcd a (b+1)=Nat.gcd (b+1) (a%(b+1)):=by
   rw[Xv a,Nat.gcd_rec,Xv]
  rcases Nat.eq_zero_or_pos (a%(b+1))with hz|hz
  ·rw[hg,hz,Nat.gcd_zero_right]
   exact Py
  ·rw[Pz hz,hg]
   have hg2:Nat.gcd (b+1) (a%(b+1))=Nat.gcd (a%(b+1)) ((b+1)%(a%(b+1))):=by
    rw[Xv (b+1),Nat.gcd_rec,Xv]
   rw[hg2];refine Kn k _ _ n ?_ (by omega)
   show(b+1)%(a%(b+1))<2^k;have h1:(b+1)%(a%(b+1))<a%(b+1):=Nat.mod_lt _ hz;have h2:a%(b+1)≤b+1:=Jx (Nat.mod_lt _ (Nat.succ_pos b));have h3:(b+1)%(a%(b+1))+(a%(b+1))≤b+1:=by
    have h4:=Nat.mod_add_div (b+1) (a%(b+1))
    have h5:1≤(b+1)/(a%(b+1)):=Nat.div_pos h2 hz
    have h6:=Nat.mul_le_mul_left (a%(b+1)) h5
    omega
   have hp:2^(k+1)=2 * 2^k:=by rw[Nat.pow_succ];omega
   omega
 |k+1,a,b+1,0,_,hn=>by omega
 |k+1,a,b+1,1,_,hn=>by omega
 |k,a,0,0,_,hn=>by omega
def pF(a b:Nat):D:=.tup [.int ((a:Int)/((Nat.gcd a b:Nat):Int)),.int ((b:Int)/((Nat.gcd a b:Nat):Int))]
theorem Gs{a g:Nat}(hg:0<g)(hs:g<2^29):CD (.int (a:Int)) (.int (g:Int))=some (.int ((a:Int)/(g:Int))):=by
 have h:Ec (a:Int) (g:Int)=true:=by
  unfold Ec;rw[Yx (by omega),PyProof.noPylong_small (by rw[Int.natAbs_natCast];omega)]
  rfl
 show(if Ec (a:Int) (g:Int)=true then some (D.int ((a:Int)/(g:Int)))else none)=_
 rw[Qc h]
theorem QA{a b:Nat}(ha:0<a)(hb:0<b)(ha2:a<2^29)(hb2:b<2^29):Ac [.dat (.int (a:Int)),.dat (.int (b:Int))]=some (.d (pF a b),[.dat (.int (a:Int)),.dat (.int (b:Int))]):=by
 have hg:0<Nat.gcd a b:=Nat.gcd_pos_of_pos_left _ ha
 have hg2:Nat.gcd a b<2^29:=Vj (Nat.gcd_le_left _ ha) ha2
 refine Y1 (env:=[.dat (.int (a:Int)),.dat (.int (b:Int)),.dat (.int ((Nat.gcd a b:Nat):Int)),.dat (.int 0)]) ?_ rfl;show KR [.dat (.int (a:Int)),.dat (.int (b:Int)),.nil,.nil]=_;unfold KR;refine F1 (GY (a:=.int (a:Int)) (b:=.int (b:Int)) (e1:=[.dat (.int (a:Int)),.dat (.int (b:Int)),.nil,.nil]) (e2:=[.dat (.int (a:Int)),.dat (.int (b:Int)),.dat (.int (a:Int)),.dat (.int (b:Int))]) rfl rfl) ?_
 refine F1 (Kn 29 a b 60 hb2 (by decide)) ?_
 exact P5 (GX (C8 (D4 rfl rfl (Gs hg hg2)) (C8 (D4 rfl rfl (Gs hg hg2)) rfl)) (by simp))
theorem gH{a b:Nat}(ha:0<a)(hb:0<b)(ha2:a<2^29)(hb2:b<2^29):DN [.dat (.int (a:Int)),.dat (.int (b:Int))]=some (.d (pF a b),[.dat (.int (a:Int)),.dat (.int (b:Int))]):=by
 have hg:0<Nat.gcd a b:=Nat.gcd_pos_of_pos_left _ ha
 have hg2:Nat.gcd a b<2^29:=Vj (Nat.gcd_le_left _ ha) ha2
 refine Y1 (env:=[.dat (.int (a:Int)),.dat (.int (b:Int)),.dat (.int ((Nat.gcd a b:Nat):Int)),.dat (.int 0)]) ?_ rfl;show Ke [.dat (.int (a:Int)),.dat (.int (b:Int)),.nil,.nil]=_;unfold Ke;have eu:=Kn (d0:=.dat (.int (a:Int))) (d1:=.dat (.int (b:Int))) 29 b a 60 ha2 (by decide)
 rw[Xv b a]at eu;refine F1 (GY (a:=.int (b:Int)) (b:=.int (a:Int)) (e1:=[.dat (.int (a:Int)),.dat (.int (b:Int)),.nil,.nil]) (e2:=[.dat (.int (a:Int)),.dat (.int (b:Int)),.dat (.int (b:Int)),.dat (.int (a:Int))]) rfl rfl) ?_
 refine F1 eu ?_
 exact P5 (GX (C8 (D4 rfl rfl (Gs hg hg2)) (C8 (D4 rfl rfl (Gs hg hg2)) rfl)) (by simp))
def lK:Nat->OI
 |0=>[[]]
 |k+1=>(lK k).map (fun s=>s++[0])++(lK k).map fun s=>s++[1]
def sl(n:Nat):OI:=(List.range (n+1)).reverse.flatMap fun(k:Nat)=>(lK n).filter fun s=>s.sum==(k:Int)
def CS(n:Nat):Bool:=(CL ((lK n).map dR)).bind DQ==some (sl n)
theorem xW:CS 1=true:=by rfl'
theorem xX:CS 2=true:=by rfl'
theorem xY:CS 3=true:=by rfl'
theorem xZ:CS 4=true:=by rfl'
theorem yA:CS 5=true:=by rfl'
def Z6:List Int:=[6,5,5,4,5,4,4,3,5,4,4,3,4,3,3,2,5,4,4,3,4,3,3,2,4,3,3,2,3,2,2,1,5,4,4,3,4,3,3,2,4,3,3,2,3,2,2,1,4,3,3,2,3,2,2,1,3,2,2,1,2,1,1,0]
def P6:List Nat:=[63,31,47,55,59,61,62,15,23,27,29,30,39,43,45,46,51,53,54,57,58,60,7,11,13,14,19,21,22,25,26,28,35,37,38,41,42,44,49,50,52,56,3,5,6,9,10,12,17,18,20,24,33,34,36,40,48,1,2,4,8,16,32,0]
theorem z6:((lK 6).map List.sum).reverse=Z6:=by rfl'
theorem s6:((GS 64 fun i j=>decide (Z6.getD i 0<Z6.getD j 0)).map (·.toList)==some P6)=true:=by rfl'
theorem p6:(((P6.mapM fun i=>((lK 6).map dR).reverse[i]?).map List.reverse).bind DQ==some (sl 6))=true:=by rfl'
theorem l6:(lK 6).length=64:=by rfl'
theorem QB:∀R:OI,oE (R.map dR)=some R
 |[]=>rfl
 |r::R=>by
  show(jY (r.map D.int)).bind (fun a=>(oE (R.map dR)).map fun l=>a::l)=_
  rw[BV,Qj,QB R]
  rfl
theorem gI{n:Nat}(h1:1≤n)(h6:n≤6):CL ((lK n).map dR)=some ((sl n).map dR):=by
 have key:∀n,CS n=true->CL ((lK n).map dR)=some ((sl n).map dR):=fun n h=>by
  unfold CS at h;obtain⟨ds,e1,e2⟩:=C7 (Uv h);rw[e1,Gq e2]
 rcases(by omega:n=1\/n=2\/n=3\/n=4\/n=5\/n=6)with rfl|rfl|rfl|rfl|rfl|rfl
 ·exact key 1 xW
 ·exact key 2 xX
 ·exact key 3 xY
 ·exact key 4 xZ
 ·exact key 5 yA
 ·obtain⟨p,e1,e2⟩:=Um.mp (Uv s6)
  obtain⟨ds,e3,e4⟩:=C7 (Uv p6);unfold CL;rw[QB,Qj,l6,Qc (by decide),z6,e1,Qj,e2,Qc (by decide),e3,Gq e4]
def tG(n:Nat):OI->OI->Bool
 |_,[]=>true
 |pre,h::r=>!pre.contains h&&(lJ n).contains h&&((R h).all fun q=>pre.contains (F6 h q))&&tG n (pre++[h]) r
def Bc(n:Nat):Bool:=tG n [] (sl n)&&(lJ n).all fun s=>(sl n).contains s
theorem yB:Bc 1=true:=by rfl'
theorem yC:Bc 2=true:=by rfl'
theorem yD:Bc 3=true:=by rfl'
theorem yE:Bc 4=true:=by rfl'
theorem yF:Bc 5=true:=by rfl'
theorem yG:Bc 6=true:=by rfl'
theorem gJ{n:Nat}(h1:1≤n)(h6:n≤6):Bc n=true:=by
 rcases(by omega:n=1\/n=2\/n=3\/n=4\/n=5\/n=6)with rfl|rfl|rfl|rfl|rfl|rfl
 ·exact yB
 ·exact yC
 ·exact yD
 ·exact yE
 ·exact yF
 ·exact yG
theorem QC:∀{ks:OI}{vs:List D}{k:List Int}{x d:D},ks.length=vs.length->k∉ks->nV (ks++[k]) (vs++[x]) k d=vs++[d]
 |[],[],k,x,d,_,_=>by
  show(if k=k then d::nV [] [] k d else _)=_
  rw[Qc rfl]
  rfl
 |[],_::_,_,_,_,h,_=>by simp at h
 |_::_,[],_,_,_,h,_=>by simp at h
 |a::ks,v::vs,k,x,d,hl,h=>by
  show(if a=k then d::nV (ks++[k]) (vs++[x]) k d else v::nV (ks++[k]) (vs++[x]) k d)=_
  rw[Qt (fun z=>h (by rw[z];exact Zu ..)),QC (by simpa using hl) fun z=>h (Qe _ z)]
  rfl
theorem QD:∀{l:List Int},(∀x∈l,x=0\/x=1)->l.contains 0=false->l.sum=l.length
 |[],_,_=>rfl
 |x::l,h,hc=>by
  rw[Uy,Bool.or_eq_false_iff]at hc;have h1:=QD (fun y hy=>h y (Qe _ hy)) hc.2
  have h2:x=1:=(h x Zu).resolve_left fun z=>by rw[z]at hc;simp at hc
  rw[Ju,h1,h2,Qo]
  omega
abbrev kB:Mo Fl:=(C6 (Q4 (i5 AR (B0 (B8 (j7 false) (i5 P7 (B0 (A0 4) B6)) (A0 0)) B6)) (qJ 3 (A0 4))) (F3 (mT (B8 rJ (i5 P7 (B0 (A0 4) B6)) (A0 0))) (Q4 (i5 P7 (B0 (mF (G9 (F4 (mF (M3 1 T0 (B4 (A0 4) B9)))) [false,false,false,true,true] 1 (gN 5) J0 (GC 3 (c9 2 W7 (B4 (A0 4) (B4 (A0 5) B9)))))) B6)) (qJ 3 (A0 4))) kO))
theorem QE(h:List Int):P7 [dR h]=some (.int h.sum):=by
 show(jY (h.map D.int)).map _=_;rw[BV]
 rfl
theorem gK{n:Nat}{ks:OI}{vs:List D}(hk:KL n ks vs){k h:List Int}{d:D}(hc:ks.contains k=true):lZ (ks++[h]) (vs++[d]) k=some (.int (Wy k)):=Km (hk.1.val k hc)
theorem gL{n:Nat}{h:List Int}{ks:OI}{vs:List D}{w1 w2:W}(b:Bt n h)(hk:KL n ks vs)(hn:ks.contains h=false)(hr:∀r∈R h,ks.contains (F6 h r)=true):
  kB [.dat (.int (n:Int)),w1,w2,.ownD ks vs,.dat (dR h)]=some (.nx,[.dat (.int (n:Int)),w1,w2,.ownD (ks++[h]) (vs++[.int (Wy h)]),.dat (dR h)]):=by
 have hlen:=hk.1.len b.hi
 have hnm:h∉ks:=fun z=>by rw[Jz.mpr z]at hn;cases hn
 have hlen2:(ks++[h]).length<100000:=by
  have:=(hk.put b.mem hn).1.len b.hi;unfold N3 at this;rw[hn]at this;exact this
 have hc2:(ks++[h]).contains h=true:=Jz.mpr (by simp)
 have st1:∀(m:Mo D) (d:D),m [.dat (.int (n:Int)),w1,w2,.ownD ks vs,.dat (dR h)]=some (d,[.dat (.int (n:Int)),w1,w2,.ownD ks vs,.dat (dR h)])->Q4 m (qJ 3 (A0 4)) [.dat (.int (n:Int)),w1,w2,.ownD ks vs,.dat (dR h)]=some (.nx,[.dat (.int (n:Int)),w1,w2,.ownD (ks++[h]) (vs++[d]),.dat (dR h)]):=fun m d e=>by
  unfold Q4;rw[e];show(((V5 (dR h)).bind fun k=>if ks.length<100000 then some ([W.dat (.int (n:Int)),w1,w2,W.ownD (N3 ks k) (O3 ks vs k d),W.dat (dR h)])else none).map fun e=>(Fl.nx,e))=_
  rw[Ba,Qj,Qc hlen];unfold N3 O3;rw[hn]
  rfl
 have st2:∀(m:Mo D) (x d:D),m [.dat (.int (n:Int)),w1,w2,.ownD (ks++[h]) (vs++[x]),.dat (dR h)]=some (d,[.dat (.int (n:Int)),w1,w2,.ownD (ks++[h]) (vs++[x]),.dat (dR h)])->Q4 m (qJ 3 (A0 4)) [.dat (.int (n:Int)),w1,w2,.ownD (ks++[h]) (vs++[x]),.dat (dR h)]=some (.nx,[.dat (.int (n:Int)),w1,w2,.ownD (ks++[h]) (vs++[d]),.dat (dR h)]):=fun m x d e=>by
  unfold Q4;rw[e];show(((V5 (dR h)).bind fun k=>if(ks++[h]).length<100000 then some ([W.dat (.int (n:Int)),w1,w2,W.ownD (N3 (ks++[h]) k) (O3 (ks++[h]) (vs++[x]) k d),W.dat (dR h)])else none).map fun e=>(Fl.nx,e))=_
  rw[Ba,Qj,Qc hlen2];unfold N3 O3;rw[hc2];simp only[Zm];rw[QC hk.2 hnm]
  rfl
 have hlt:∀vs',mT (B8 rJ (i5 P7 (B0 (A0 4) B6)) (A0 0)) [.dat (.int (n:Int)),w1,w2,.ownD (ks++[h]) vs',.dat (dR h)]=some (decide (h.sum<(n:Int)),[.dat (.int (n:Int)),w1,w2,.ownD (ks++[h]) vs',.dat (dR h)]):=fun vs'=>N2 (D4 (P4 (C8 rfl rfl) (QE h)) rfl rfl)
 have hfirst:i5 AR (B0 (B8 (j7 false) (i5 P7 (B0 (A0 4) B6)) (A0 0)) B6) [.dat (.int (n:Int)),w1,w2,.ownD ks vs,.dat (dR h)]=some (.int (if(h.sum==(n:Int))=true then 1 else 0),[.dat (.int (n:Int)),w1,w2,.ownD ks vs,.dat (dR h)]):=
  P4 (C8 (D4 (P4 (C8 rfl rfl) (QE h)) rfl rfl) rfl) rfl
 refine F1 (st1 _ _ hfirst) ?_
 cases h0:h.contains 0 with
 |true=>
  have hl:h.sum<(n:Int):=by
   rcases Int.lt_or_le h.sum n with z|z
   ·exact z
   ·rw[b.none z]at h0;cases h0
  refine BW ((hlt _).trans (by rw[Yx hl])) (st2 _ _ _ ?_)
  refine P4 (C8 (J4 (GV (α:=List Int) (l:=R h) (q:=dR) (f:=fun r=>.int (wt h r)) (base:=[.nil,.nil,.nil,.ownD (ks++[h]) (vs++[.int (if(h.sum==(n:Int))=true then 1 else 0)]),.dat (dR h)]) (U0 (J4 (BM (X7 (av:=[.d (dR h)]) rfl rfl rfl (Px b)))) rfl) (by have:=b.few;omega) rfl rfl (fun r hr'=>?_) (fun _=>rfl))) rfl) ?_
  ·obtain⟨ws',eh⟩:=Kl (h:=h) (r:=r) (b.row hr').1 (by rw[b.len];exact b.hi)
   have c:=K3 (n:=2) (as:=B4 (A0 4) (B4 (A0 5) B9)) (env:=[.nil,.nil,.nil,.ownD (ks++[h]) (vs++[.int (if(h.sum==(n:Int))=true then 1 else 0)]),.dat (dR h),.dat (dR r)]) (e1:=[.nil,.nil,.nil,.ownD (ks++[h]) (vs++[.int (if(h.sum==(n:Int))=true then 1 else 0)]),.dat (dR h),.dat (dR r)]) (av:=[.d (dR h),.d (dR r)]) rfl rfl rfl eh
   show(c9 2 W7 _ _).bind _=_;rw[show([.nil,.nil,.nil,.ownD (ks++[h]) (vs++[.int (if(h.sum==(n:Int))=true then 1 else 0)]),.dat (dR h)]++[.dat (dR r)]:a9)=[.nil,.nil,.nil,.ownD (ks++[h]) (vs++[.int (if(h.sum==(n:Int))=true then 1 else 0)]),.dat (dR h),.dat (dR r)]from rfl,c,Qj]
   show((V5 (dR (F6 h r))).bind fun k=>(lZ (ks++[h]) (vs++[.int (if(h.sum==(n:Int))=true then 1 else 0)]) k).map fun d=>(d,_))=_
   rw[Ba,Qj,gK hk (hr r hr')]
   rfl
  ·have e:((R h).map fun r=>D.int (wt h r))=((R h).map (wt h)).map D.int:=by rw[Yy];rfl
   rw[e,Of,b.sum h0];rfl
 |false=>
  have hs:=QD b.bit h0
  rw[b.len]at hs;refine O4 ((hlt _).trans (by rw[Zx (by omega)])) ?_
  rw[(b.done h0).2,hs]
  simp
  rfl
theorem QF{n:Nat}(h1:1≤n)(h6:n≤6){w1 w2:W}:∀(l pre:OI) (vs:List D) (w4:W),KL n pre vs->tG n pre l=true->∃vs' w4',loop (gN 4) kB (l.map dR) [.dat (.int (n:Int)),w1,w2,.ownD pre vs,w4]=some (.nx,[.dat (.int (n:Int)),w1,w2,.ownD (pre++l) vs',w4'])/\KL n (pre++l) vs'
 |[],pre,vs,w4,hk,_=>⟨vs,w4,by rw[Yg];rfl,by rw[Yg];exact hk⟩
 |h::l,pre,vs,w4,hk,hx=>by
  have hx':(!pre.contains h&&(lJ n).contains h&&((R h).all fun q=>pre.contains (F6 h q))&&tG n (pre++[h]) l)=true:=hx
  rw[Qw,Qw,Qw]at hx';obtain⟨⟨⟨x1,x2⟩,x3⟩,x4⟩:=hx';have hn:pre.contains h=false:=by simpa using x1
  have b:Bt n h:=⟨h1,h6,Jz.mp x2⟩
  have hp:=hk.put b.mem hn
  unfold N3 O3 at hp;rw[hn]at hp;simp only[Zz,Yu]at hp;obtain⟨vs',w4',e,hk'⟩:=QF h1 h6 l (pre++[h]) (vs++[.int (Wy h)]) (.dat (dR h)) hp x4;have t:=gL (w1:=w1) (w2:=w2) b hk hn fun r hr=>Qy.mp x3 r hr
  have ea:pre++[h]++l=pre++h::l:=by simp
  rw[ea]at e hk';refine⟨vs',w4',?_,hk'⟩;rw[Qr];unfold loop;show(some [W.dat (.int (n:Int)),w1,w2,.ownD pre vs,.dat (dR h)]).bind _=_;rw[Qj,t,Qj];exact e
theorem QG:∀n,(lK n).length=2^n
 |0=>rfl
 |n+1=>by
  show((lK n).map _++(lK n).map _).length=_;rw[Ql,Qk,Qk,QG n,Nat.pow_succ];omega
theorem Ko:∀n,∀s∈lK n,s.length=n
 |0,s,h=>by
  have:s=[]:=by simpa [lK]using h
  rw[this];rfl
 |n+1,s,h=>by
  rcases Zf.mp (show s∈(lK n).map (fun s=>s++[0])++(lK n).map (fun s=>s++[1])from h)with h|h
  ·obtain⟨t,ht,rfl⟩:=Zq.mp h
   rw[Ql,Ko n t ht];rfl
  ·obtain⟨t,ht,rfl⟩:=Zq.mp h
   rw[Ql,Ko n t ht];rfl
abbrev lB:Mo Fl:=(D0 1 (mF (Q5 (mF (G9 (F4 (A0 1)) [false,false,false,false,false] 1 (gN 5) J0 (B8 D7 (A0 5) (D1 (B0 (mC (.int 0)) B6))))) (mF (G9 (F4 (A0 1)) [false,false,false,false,false] 1 (gN 5) J0 (B8 D7 (A0 5) (D1 (B0 (mC (.int 1)) B6))))))))
theorem gM{s:List Int}{x:Int}(h:s.length≤1000):D7 (dR s) (.tup [.int x])=some (dR (s++[x])):=by
 have e:dR (s++[x])=.tup (s.map D.int++[.int x]):=by show D.tup _=_;rw[Yd];rfl
 rw[e];show(if(s.map D.int).length+[D.int x].length≤10000 then some (D.tup (s.map D.int++[.int x]))else none)=_
 rw[Qc (by rw[Qk];simp;omega)]
theorem gO{n i:Nat}{w0 w2:W}(hi:i<6):lB [w0,.dat (.lst ((lK i).map dR)),w2,.nil,.nil]=some (.nx,[w0,.dat (.lst ((lK (i+1)).map dR)),w2,.nil,.nil]):=by
 have hl:=QG i
 have h64:2^i≤32:=Xk (by decide) (show i≤5 by omega)
 have c:∀x:Int,G9 (F4 (A0 1)) [false,false,false,false,false] 1 (gN 5) J0 (B8 D7 (A0 5) (D1 (B0 (mC (.int x)) B6))) [w0,.dat (.lst ((lK i).map dR)),w2,.nil,.nil]=some ((lK i).map fun s=>dR (s++[x]),[w0,.dat (.lst ((lK i).map dR)),w2,.nil,.nil]):=fun x=>
  GV (α:=List Int) (l:=lK i) (q:=dR) (f:=fun s=>dR (s++[x])) (base:=[.nil,.nil,.nil,.nil,.nil]) (U0 rfl rfl) (by omega) rfl rfl (fun s hs=>D4 rfl rfl (gM (by rw[Ko i s hs];omega))) (fun _=>rfl)
 refine L7 (d:=.lst ((lK (i+1)).map dR)) (e1:=[w0,.dat (.lst ((lK i).map dR)),w2,.nil,.nil]) (J4 ?_) rfl;unfold Q5;rw[J4 (c 0),Qj,J4 (c 1),Qj];show(if((lK i).map fun s=>dR (s++[0])).length+((lK i).map fun s=>dR (s++[1])).length≤10000 then some (((lK i).map fun s=>dR (s++[0]))++((lK i).map fun s=>dR (s++[1])),_)else none)=_
 rw[Qc (by rw[Qk,Qk];omega)]
 show some (_,_)=some (((lK i).map (fun s=>s++[0])++(lK i).map fun s=>s++[1]).map dR,_)
 rw[Yd,Yy,Yy]
 rfl
theorem gP{n:Nat}(h1:1≤n)(h6:n≤6):∃vs ws,Ew [.dat (.int (n:Int))]=some (.d (.dct (sl n) vs),ws)/\∀s∈lJ n,lZ (sl n) vs s=some (.int (Wy s)):=by
 have hN:=gJ h1 h6
 unfold Bc at hN;rw[Qw]at hN;obtain⟨w2,hloop⟩:∃w2,loop (gN 2) lB ((List.range n).map fun(i:Nat)=>D.int (i:Int)) [.dat (.int (n:Int)),.dat (.lst [dR []]),.nil,.nil,.nil]=some (.nx,[.dat (.int (n:Int)),.dat (.lst ((lK n).map dR)),w2,.nil,.nil]):=by
  obtain⟨e,he,w2,rfl⟩:=Od (g:=gN 2) (b:=lB) (n:=n) (fun i e=>∃w2,e=[.dat (.int (n:Int)),.dat (.lst ((lK i).map dR)),w2,.nil,.nil]) (env:=[.dat (.int (n:Int)),.dat (.lst [dR []]),.nil,.nil,.nil]) (fun i hi e ⟨w2,he⟩=>by
   subst he;exact⟨_,_,rfl,gO (n:=n) (by omega),_,rfl⟩) ⟨_,rfl⟩
  exact⟨w2,he⟩
 obtain⟨vs,w4,hk,hKL⟩:=QF h1 h6 (w1:=.dat (.lst ((lK n).map dR))) (w2:=w2) (sl n) [] [] .nil (KL.nil n) hN.1;rw[Xz]at hk hKL;refine⟨vs,_,Y1 (env:=[.dat (.int (n:Int)),.dat (.lst ((lK n).map dR)),w2,.dat (.dct (sl n) vs),w4]) ?_ rfl,fun s hs=>hKL.1.val s (Qy.mp hN.2 s hs)⟩
 show Ka [.dat (.int (n:Int)),.nil,.nil,.nil,.nil]=_;unfold Ka;refine F1 (L7 (d:=.lst [dR []]) (e1:=[.dat (.int (n:Int)),.nil,.nil,.nil,.nil]) (e2:=[.dat (.int (n:Int)),.dat (.lst [dR []]),.nil,.nil,.nil]) rfl rfl) ?_
 refine F1 ((Z3 (OW (n:=n) rfl rfl (by omega))).trans hloop) ?_
 refine F1 (e1:=[.dat (.int (n:Int)),.dat (.lst ((lK n).map dR)),w2,.ownD [] [],.nil]) rfl ?_
 have hs:F4 (mF (JG (A0 1))) [.dat (.int (n:Int)),.dat (.lst ((lK n).map dR)),w2,.ownD [] [],.nil]=some ((sl n).map dR,[.dat (.int (n:Int)),.dat (.lst ((lK n).map dR)),w2,.ownD [] [],.nil]):=by
  refine U0 (ds:=(sl n).map dR) (J4 (ds:=(sl n).map dR) ?_) rfl;show(CL ((lK n).map dR)).map _=_;rw[gI h1 h6]
  rfl
 refine F1 ((Z3 hs).trans hk) ?_
 exact P5 rfl
abbrev zs(n:Nat):List Int:=List.replicate n 0
theorem QH{α:Type}(a b:α->Int):∀l:List α,List.zipWith (· + ·) (l.map a) (l.map b)=l.map fun x=>a x+b x
 |[]=>rfl
 |x::l=>by rw[Qr,Qr,Uc,QH a b l,Qr]
abbrev cS(f:OO)(i j:Nat):Int:=S (fun k=>f k j) i
def sI(n:Nat)(f:OO)(i:Nat):List Int:=rw' n (cS f i)
theorem yH(n:Nat)(f:OO):sI n f 0=zs n:=by
 show(List.range n).map (fun _=>(0:Int))=List.replicate n 0
 rw[List.map_const',List.length_range]
theorem QI(n:Nat)(f:OO)(i:Nat):F6 (sI n f i) (rw' n (f i))=sI n f (i+1):=QH _ _ _
theorem nE.bt{n:Nat}{f:OO}(h1:1≤n)(h6:n≤6)(F:nE n f){i:Nat}(hi:i≤n):Bt n (sI n f i):=by
 refine⟨h1,h6,Go (by unfold sI;simp) fun x hx=>?_⟩
 obtain⟨j,hj,rfl⟩:=Zq.mp hx;exact F.col j (Jf.mp hj) i hi
theorem nE.mem{n:Nat}{f:OO}(h1:1≤n)(h6:n≤6)(F:nE n f){i:Nat}(hi:i<n):rw' n (f i)∈R (sI n f i):=by
 refine gF (by unfold sI;simp) (F.bt h1 h6 (by omega)).bit ?_ ?_
 ·refine(Gm n (f i) 0).mpr ⟨fun k hk=>?_,?_⟩
  ·have:=F.row i hi (k+1) (by omega)
   omega
  ·have:=F.rowN i hi
   omega
 ·rw[QI]
  exact(F.bt h1 h6 (by omega)).bit
section
variable{n:Nat}{f:OO}
abbrev fst(n:Nat)(f:OO)(m:Nat):OI:=(List.range m).map fun i=>rw' n (f i)
theorem vD(h1:1≤n)(h6:n≤6):CM [.dat (.int (n:Int)),.dat (.int 1),.dat (.int 6),.dat (.str "side")]=some (.d .non,[.dat (.int (n:Int)),.dat (.int 1),.dat (.int 6),.dat (.str "side")]):=by
 rcases(by omega:n=1\/n=2\/n=3\/n=4\/n=5\/n=6)with rfl|rfl|rfl|rfl|rfl|rfl<;>rfl
end
theorem yI:(uK.all fun x=>decide (0≤x)&&decide (x≤7436))=true:=by rfl'
theorem QJ(s:List Int):0≤Wy s/\Wy s≤7436:=by
 unfold Wy;rw[Ut];cases h:uK[64-2^s.length+idx s]? with
 |none=>exact⟨by decide,by decide⟩
 |some x=>
  have:=Qy.mp yI x (Jk h)
  simpa using this
theorem QK{n:Nat}{s:List Int}(b:Bt n s):1≤Wy s:=by
 have h:=b.all.1
 unfold Y8 at h;simp only[Qw,Zh]at h;exact h.2
def Wn(s:List Int):Nat:=(Wy s).toNat
theorem Bd(s:List Int):((Wn s:Nat):Int)=Wy s:=Int.toNat_of_nonneg (QJ s).1
theorem DR{n:Nat}{s:List Int}(b:Bt n s):0<Wn s/\Wn s<2^29:=by
 have h1:=Bd s
 have h2:=QK b
 have h3:=(QJ s).2
 omega
def yJ(s:List Int):List D:=(R s).map fun r=>.tup [dR r,pF (Wn (F6 s r)) (Wn s)]
section
variable{n:Nat}{f:OO}
theorem QL:∀{l:List Int},(∀x∈l,x=0\/x=1)->0≤l.sum
 |[],_=>by simp
 |x::l,h=>by
  have:=QL fun y hy=>h y (Qe _ hy)
  have:=h x Zu;rw[Ju];omega
theorem Gu{s:List Int}(b:Bt n s):uL n (M4 8) s:=gG (k:=7) b (by have:=QL b.bit;have:=b.hi;omega)
end
theorem Kq(k:Nat)(i:Int):P9 (k+1) [.dat (.int i),.dat (.int i)]=some (.d (.bl true),[.dat (.int i),.dat (.int i)]):=by
 refine(P1 (d:=.bl true) (env:=[.dat (.int i),.dat (.int i)]) ?_).trans rfl;show Ex (P9 k) [.dat (.int i),.dat (.int i)]=_;unfold Ex;refine F1 (O4 rfl rfl) (P5 ?_);have e:(B8 (j7 false) (A0 0) (A0 1)) [.dat (.int i),.dat (.int i)]=some (.bl (i==i),[.dat (.int i),.dat (.int i)]):=rfl;rw[Tx]at e;exact JJ e rfl
theorem gQ{k:Nat}{es:List D}(hl:es.length≤1000)(h:∀x∈es,∃ws,P9 k [.dat x,.dat x]=some (.d (.bl true),ws)):∃ws,P9 (k+1) [.dat (.tup es),.dat (.tup es)]=some (.d (.bl true),ws):=by
 refine⟨_,(P1 (d:=.bl true) (env:=[.dat (.tup es),.dat (.tup es)]) ?_)⟩;show Ex (P9 k) [.dat (.tup es),.dat (.tup es)]=_;unfold Ex;refine AU (BW (e1:=[.dat (.tup es),.dat (.tup es)]) rfl (F1 (e1:=[.dat (.tup es),.dat (.tup es)]) (O4 (e1:=[.dat (.tup es),.dat (.tup es)]) rfl rfl) (P5 ?_)));have e1:(B8 (j7 false) (i5 J7 (B0 (A0 0) B6)) (i5 J7 (B0 (A0 1) B6))) [.dat (.tup es),.dat (.tup es)]=some (.bl ((es.length:Int)==(es.length:Int)),[.dat (.tup es),.dat (.tup es)]):=rfl;have c:=JH (mi:=Al (B0 (A0 0) (B0 (A0 1) B6))) (keep:=[false,false]) (m:=c9 2 (P9 k) (B4 (A0 2) (B4 (A0 3) B9))) (env:=[.dat (.tup es),.dat (.tup es)]) (base:=[.nil,.nil]) (l:=es) (q:=fun p=>p) (q2:=fun p=>p) (f:=fun p=>.bl true) (k:=2) (bN (a:=.tup es) (b:=.tup es) rfl (by show some es=some (es.map fun p=>p);simp) (by show some es=some (es.map fun p=>p);simp)) (by omega) rfl rfl (fun p hp=>by
   obtain⟨ws,q⟩:=h p hp;exact K3 (av:=[.d p,.d p]) rfl rfl rfl q) (fun w w2=>rfl)
 refine(JJ (e1.trans ?_) (P4 (d:=.bl true) (C8 (J4 c) rfl) ?_))
 ·rw[Tx]
 ·show(X5 _).map _=_
  rw[EE]
  simp
theorem gR(k a b:Nat):∃ws,P9 (k+2) [.dat (pF a b),.dat (pF a b)]=some (.d (.bl true),ws):=
 gQ (k:=k+1) (by show 2≤1000;omega) fun z hz=>by
  rcases Qg.mp hz with rfl|hz
  ·exact⟨_,Kq k _⟩
  ·rw[Vw.mp hz];exact⟨_,Kq k _⟩
theorem gU{n:Nat}{f:OO}{m:Nat}(hm:m≤n):(gm n n f).take m=fst n f m:=by
 unfold gm fst;rw[←List.map_take,List.take_range,Nat.min_eq_left hm]
theorem gW{n:Nat}{f:OO}{m:Nat}(hm:m≤n):J8 ((gm n n f).map dR) none (some (m:Int))=(fst n f m).map dR:=by
 have hl:((gm n n f).map dR).length=n:=by rw[Qk,Ae]
 have h:HT.j8 n n (some (m:Int))=m:=by
  rw[HT.p9];exact Nat.min_eq_left hm
 have h0:HT.j8 n 0 none=0:=rfl
 unfold J8;rw[hl,h,h0,←gU hm,List.map_take]
 rfl
def lM:List Int->OI->Option (List Int)
 |s,[]=>some s
 |s,r::T=>if r∈R s then lM (F6 s r) T else none
theorem nY{n:Nat}(h1:1≤n)(h6:n≤6):Bt n (zs n):=⟨h1,h6,Go (by simp) fun x hx=>.inl (List.eq_of_mem_replicate hx)⟩
theorem gX(n:Nat):(zs n).sum=0:=by
 induction n with
 |zero=>rfl
 |succ n ih=>rw[zs,Zi,Ju];simpa using ih
theorem Y9{n:Nat}:∀{T:OI}{s s':List Int},Bt n s->lM s T=some s'->Bt n s'/\(∀r∈T,r.length=n)/\s'.sum=s.sum+T.length
 |[],s,s',b,h=>by
  cases h;exact⟨b,(fun r hr=>nomatch hr),by simp⟩
 |r::T,s,s',b,h=>by
  unfold lM at h;split at h
  ·rename_i hr
   obtain⟨hl,_,b2⟩:=b.row hr;obtain⟨q1,q2,q3⟩:=Y9 b2 h;refine⟨q1,fun x hx=>?_,?_⟩
   ·rcases Qg.mp hx with rfl|hx
    ·rw[hl,b.len]
    ·exact q2 x hx
   ·rw[q3,b.next hr,Qo];omega
  ·cases h
theorem gY{l:List Int}(h:∀x∈l,x=0\/x=1):l.sum≤l.length:=by
 induction l with
 |nil=>simp
 |cons x l ih=>
  have:=ih fun y hy=>h y (Qe _ hy)
  have:=h x Zu;rw[Ju,Qo];omega
theorem Gv{n:Nat}{T:OI}{s':List Int}(h1:1≤n)(h6:n≤6)(h:lM (zs n) T=some s'):T.length≤n:=by
 obtain⟨b,_,hs⟩:=Y9 (nY h1 h6) h;have:=gY b.bit;rw[gX]at hs;rw[b.len]at this
 omega
theorem gZ{n:Nat}{f:OO}(h1:1≤n)(h6:n≤6)(F:nE n f):∀{m:Nat},m≤n->lM (zs n) (fst n f m)=some (sI n f m):=by
 have app:∀(T:OI) (s s1:List Int) (r:List Int),lM s T=some s1->r∈R s1->lM s (T++[r])=some (F6 s1 r):=by
  intro T
  induction T with
  |nil=>intro s s1 r h hr;cases h;show(if r∈R _ then _ else _)=_;rw[Qc hr];rfl
  |cons t T ih=>
   intro s s1 r h hr;unfold lM at h;split at h
   ·rename_i ht
    show(if t∈R s then lM (F6 s t) (T++[r])else none)=_
    rw[Qc ht];exact ih _ _ _ h hr
   ·cases h
 intro m
 induction m with
 |zero=>intro _;rw[yH];rfl
 |succ m ih=>
  intro hm;have:=app _ _ _ _ (ih (by omega)) (F.mem h1 h6 (i:=m) (by omega))
  rw[QI]at this;rw[←this];unfold fst;rw[List.range_succ,Yd]
  rfl
def oT(d:D):Prop:=∀es,d=.tup es->es.length≤1000
def Sz(d:D):Prop:=∀es,d=.tup es->es.length≤1000/\∀x∈es,oT x
def DS(d:D)(n:Nat):Bool:=match d with
 |.tup es=>es.all fun r=>oI r (n:Int)
 |_=>false
theorem QM{d:D}{n:Nat}(h6:n≤6)(hz:Sz d):BX [.dat d,.dat (.int (n:Int))]=some (.d (.bl (DS d n)),[.dat d,.dat (.int (n:Int))]):=by
 refine Y1 (env:=[.dat d,.dat (.int (n:Int))]) ?_ rfl;show KP [.dat d,.dat (.int (n:Int))]=_;unfold KP;refine P5 ?_
 cases d<;>first|exact bO rfl|skip
 rename_i es;obtain⟨hl,_⟩:=hz es rfl;have hg:=eY (.tup es) (es.length:Int) (n:Int) (by omega) (by omega)
 have:rR (.tup es) (es.length:Int) (n:Int)=DS (.tup es) n:=by
  show((es.length:Int)==(es.length:Int)&&_)=_;rw[Tx,Bool.true_and]
  rfl
 rw[this]at hg;exact JJ rfl (K3 (av:=[.d (.tup es),.d (.int (es.length:Int)),.d (.int (n:Int))]) (W2 rfl (W2 (P4 (C8 rfl rfl) rfl) rfl)) rfl rfl hg)
theorem hG{d:D}{n:Nat}(h:DS d n=true):∃T:OI,d=dT T/\∀r∈T,r.length=n:=by
 cases d<;>first|cases h|skip
 rename_i es;have h:∀x∈es,oI x (n:Int)=true:=Qy.mp h;refine⟨es.map oJ,?_,fun r hr=>?_⟩
 ·show D.tup es=D.tup ((es.map oJ).map dR)
  rw[Yy];refine Za D.tup ?_
  rw[Yb (f:=dR∘oJ) (g:=id) fun e he=>((Ey (h e he)).1).symm]
  simp
 ·obtain⟨x,hx,rfl⟩:=Zq.mp hr
  have:=(Ey (h x hx)).2
  omega
theorem QN{T:OI}{n:Nat}(h:∀r∈T,r.length=n):DS (dT T) n=true:=by
 show((T.map dR).all fun r=>oI r (n:Int))=true
 refine List.all_eq_true.mpr fun d hd=>?_
 obtain⟨r,hr,rfl⟩:=Zq.mp hd;have:=PL r;rwa [h r hr]at this
theorem QO{T:List Int}:∀{L:OI},((K1 (L.map dR)).any fun y=>PyData.eqv y (lS (dR T)))=decide (T∈L)
 |[]=>by simp[K1]
 |V::L=>by
  show(PyData.eqv (lS (dR V)) (lS (dR T))||(K1 (L.map dR)).any fun y=>PyData.eqv y (lS (dR T)))=_
  rw[QO (L:=L),gE]
  by_cases h:V=T
  ·simp[h]
  ·have h':¬ T=V:=fun z=>h z.symm
   simp[h,h']
theorem QP(r s:List Int):Y0 true (dR r) (.lst ((R s).map dR))=some (.bl (!decide (r∈R s))):=by
 show(if _ then _ else _)=_
 rw[gC,Pf,QO];have hd:(lS (dR r)).depth≤60:=by
  show PyData.depthAll (K1 (r.map D.int))+1≤60;rw[DP,Kg];omega
 rw[Yx hd]
 rfl
theorem DT{g:OZ}{b:Mo Fl}{d:D}{ds:List D}{e e1 e2:a9}{r:Option (Fl×a9)}(h1:g d e=some e1)(h2:b e1=some (.nx,e2))(h:loop g b ds e2=r):loop g b (d::ds) e=r:=by
 unfold loop;rw[h1,Qj,h2];exact h
theorem hJ{g:OZ}{b:Mo Fl}{d x:D}{ds:List D}{e e1 e2:a9}(h1:g d e=some e1)(h2:b e1=some (.ret x,e2)):loop g b (d::ds) e=some (.ret x,e2):=by
 unfold loop;rw[h1,Qj,h2]
 rfl
theorem iA{g:OZ}{x:Mx}{b:Mo Fl}{d:D}{ds:List D}{e e1 e2:a9}{r:Option Str}(h1:g d e=some e1)(hx:x e1=none)(h2:b e1=some (.nx,e2))(h:Z9 g x b ds e2=r):Z9 g x b (d::ds) e=r:=by
 unfold Z9;rw[h1,Qj,hx];dsimp only;rw[h2];exact h
theorem iB{g:OZ}{x:Mx}{b:Mo Fl}{d:D}{ds:List D}{e e1:a9}{c:Str}(h1:g d e=some e1)(hx:x e1=some c):Z9 g x b (d::ds) e=some c:=by
 unfold Z9;rw[h1,Qj,hx]
abbrev sB:Mo Fl:=(C6 (F3 (mT (B8 (Y0 true) (A0 3) (mF (M3 1 U3 (B4 (A0 2) B9))))) AJ kO) (D0 2 (c9 2 Y4 (B4 (A0 2) (B4 (A0 3) B9)))))
abbrev xT:Mo Bool:=mT (B8 (Y0 true) (A0 3) (mF (M3 1 U3 (B4 (A0 2) B9))))
abbrev xB:Mx:=(Q9 (pR xT (EN "NoRows" (B0 (mC (.str "no table of the side begins with these rows")) B6)) nO) (F3 xT AJ kO) nO)
section
variable{n:Nat}{w0 w1:W}
theorem Kr{r s:List Int}(b:Bt n s):xT [w0,w1,.dat (dR s),.dat (dR r)]=some (!decide (r∈R s),[w0,w1,.dat (dR s),.dat (dR r)]):=by
 have er:=Pn b
 have ei:=QP r s
 generalize dR s=A at *;exact N2 (D4 rfl (J4 (BM (X7 (av:=[.d A]) rfl rfl rfl er))) ei)
theorem QQ{r s:List Int}(b:Bt n s)(hr:r∈R s):sB [w0,w1,.dat (dR s),.dat (dR r)]=some (.nx,[w0,w1,.dat (dR (F6 s r)),.dat (dR r)]):=by
 have ht:=Kr (w0:=w0) (w1:=w1) (r:=r) b
 rw[Yx hr]at ht;have ea:=Po b hr;generalize dR s=A at *;exact F1 (O4 ht rfl) (L7 (d:=dR (F6 s r)) (e1:=[w0,w1,.dat A,.dat (dR r)]) (K3 (av:=[.d A,.d (dR r)]) rfl rfl rfl ea) rfl)
theorem iC{r s:List Int}(b:Bt n s)(hr:r∈R s):xB [w0,w1,.dat (dR s),.dat (dR r)]=none:=by
 have ht:=Kr (w0:=w0) (w1:=w1) (r:=r) b
 rw[Yx hr]at ht;unfold xB Q9 pR;rw[ht];dsimp only[Option.bind_some];rw[O4 ht rfl]
 rfl
theorem iD{r s:List Int}(b:Bt n s)(hr:r∉R s):xB [w0,w1,.dat (dR s),.dat (dR r)]=some "NoRows":=by
 have ht:=Kr (w0:=w0) (w1:=w1) (r:=r) b
 rw[Zx hr]at ht;unfold xB Q9 pR;rw[ht]
 rfl
theorem Ks:∀{T:OI}{s s':List Int}{w3:W},Bt n s->lM s T=some s'->∃w,loop (gN 3) sB (T.map dR) [w0,w1,.dat (dR s),w3]=some (.nx,[w0,w1,.dat (dR s'),w])
 |[],s,s',w3,b,h=>by
  cases h;exact⟨w3,rfl⟩
 |r::T,s,s',w3,b,h=>by
  unfold lM at h;split at h
  ·rename_i hr
   obtain⟨w,q⟩:=Ks (T:=T) (w3:=.dat (dR r)) (b.row hr).2.2 h;have hb:=QQ (w0:=w0) (w1:=w1) b hr;exact⟨w,DT (g:=gN 3) (e1:=[w0,w1,.dat (dR s),.dat (dR r)]) rfl hb q⟩
  ·cases h
theorem QR:∀{T:OI}{s:List Int}{w3:W},Bt n s->Z9 (gN 3) xB sB (T.map dR) [w0,w1,.dat (dR s),w3]=if(lM s T).isSome then none else some ("NoRows":Str)
 |[],s,w3,b=>rfl
 |r::T,s,w3,b=>by
  by_cases hr:r∈R s
  ·have q:=QR (T:=T) (w3:=.dat (dR r)) (b.row hr).2.2
   have hb:=QQ (w0:=w0) (w1:=w1) b hr
   have hx:=iC (w0:=w0) (w1:=w1) b hr
   refine iA (g:=gN 3) (e1:=[w0,w1,.dat (dR s),.dat (dR r)]) rfl hx hb ?_
   rw[q];show _=if(if r∈R s then lM (F6 s r) T else none).isSome=true then _ else _
   rw[Qc hr]
  ·have hx:=iD (w0:=w0) (w1:=w1) b hr
   refine(iB (g:=gN 3) (e1:=[w0,w1,.dat (dR s),.dat (dR r)]) rfl hx).trans ?_
   show _=if(if r∈R s then lM (F6 s r) T else none).isSome=true then _ else _
   rw[Qt hr]
   rfl
end
theorem Gw{n:Nat}(h1:1≤n)(h6:n≤6):M5 (.tup [.int 0]) (.int (n:Int))=some (dR (zs n)):=by
 rcases(by omega:n=1\/n=2\/n=3\/n=4\/n=5\/n=6)with rfl|rfl|rfl|rfl|rfl|rfl<;>rfl
theorem Kt{T:OI}{n:Nat}(hn:n≤6)(hl:T.length≤1000)(h:∀r∈T,r.length=n):Sz (dT T):=by
 intro es he;cases he;refine⟨by rw[Qk];exact hl,fun x hx fs hf=>?_⟩
 obtain⟨r,hr,rfl⟩:=Zq.mp hx;cases hf;rw[Qk,h r hr];omega
theorem Gx{n:Nat}(h1:1≤n)(h6:n≤6){T:OI}{s:List Int}(h:lM (zs n) T=some s):∃ws,Ab [.dat (.int (n:Int)),.dat (dT T)]=some (.d (dR s),ws):=by
 have hl:=Gv h1 h6 h
 obtain⟨b,hr,_⟩:=Y9 (nY h1 h6) h;have hi:=QM (d:=dT T) h6 (Kt h6 (by omega) hr)
 rw[QN hr]at hi;obtain⟨w,hlp⟩:=Ks (w0:=.dat (.int (n:Int))) (w1:=.dat (dT T)) (w3:=.nil) (nY h1 h6) h;have hz:=Gw h1 h6;have hit:(dT T).items=some (T.map dR):=rfl;generalize dT T=A at *;refine⟨_,Y1 (env:=[.dat (.int (n:Int)),.dat A,.dat (dR s),w]) ?_ rfl⟩;show KQ [.dat (.int (n:Int)),.dat A,.nil,.nil]=_;unfold KQ;refine F1 (Mn (K3 (av:=[.d (.int (n:Int)),.d (.int 1),.d (.int 6),.d (.str "side")]) rfl rfl rfl (vD h1 h6))) ?_
 refine F1 (O4 (Cr (b:=true) (N2 (K3 (av:=[.d A,.d (.int (n:Int))]) rfl rfl rfl hi))) rfl) ?_
 refine F1 (L7 (d:=dR (zs n)) (e1:=[.dat (.int (n:Int)),.dat A,.nil,.nil]) (e2:=[.dat (.int (n:Int)),.dat A,.dat (dR (zs n)),.nil]) (D4 rfl rfl hz) rfl) ?_
 exact F1 ((Z3 (U0 rfl hit)).trans hlp) (P5 rfl)
def Ku(n:Nat)(d:D):Prop:=∃T s,d=dT T/\lM (zs n) T=some s
theorem uM{n:Nat}(h1:1≤n)(h6:n≤6):DL [.dat (.int (n:Int)),.dat (.int 1),.dat (.int 6),.dat (.str "side")]=none:=by
 rcases(by omega:n=1\/n=2\/n=3\/n=4\/n=5\/n=6)with rfl|rfl|rfl|rfl|rfl|rfl<;>rfl
theorem Be{x y:Mx}{m:Mo Fl}{e e1:a9}{r:Option Str}(h:x e=none)(hm:m e=some (.nx,e1))(hy:y e1=r):Q9 x m y e=r:=by
 unfold Q9;rw[h];dsimp only;rw[hm];exact hy
theorem Gy{x y:Mx}{m:Mo Fl}{e:a9}{c:Str}(h:x e=some c):Q9 x m y e=some c:=by
 unfold Q9;rw[h]
theorem iE{t:Mo Bool}{x y:Mx}{e e1:a9}{r:Option Str}(h:t e=some (true,e1))(hx:x e1=r):pR t x y e=r:=by
 unfold pR;rw[h];exact hx
theorem iF{t:Mo Bool}{x y:Mx}{e e1:a9}{r:Option Str}(h:t e=some (false,e1))(hx:y e1=r):pR t x y e=r:=by
 unfold pR;rw[h];exact hx
theorem QS{n:Nat}(h1:1≤n)(h6:n≤6){d:D}(hz:Sz d):(Ku n d/\R9 [.dat (.int (n:Int)),.dat d]=none)\/(¬ Ku n d/\R9 [.dat (.int (n:Int)),.dat d]=some "NoRows"):=by
 have hi:=QM (d:=d) h6 hz
 have hm:=Gw h1 h6
 have e1:(Ao 4 DL (B4 (A0 0) (B4 (mC (.int 1)) (B4 (mC (.int 6)) (B4 (mC (.str "side")) B9))))) [.dat (.int (n:Int)),.dat d,.nil,.nil]=none:=AB (av:=[.d (.int (n:Int)),.d (.int 1),.d (.int 6),.d (.str "side")]) rfl rfl rfl (uM h1 h6)
 have e2:(Ct (c9 4 CM (B4 (A0 0) (B4 (mC (.int 1)) (B4 (mC (.int 6)) (B4 (mC (.str "side")) B9)))))) [.dat (.int (n:Int)),.dat d,.nil,.nil]=some (.nx,[.dat (.int (n:Int)),.dat d,.nil,.nil]):=Mn (K3 (av:=[.d (.int (n:Int)),.d (.int 1),.d (.int 6),.d (.str "side")]) rfl rfl rfl (vD h1 h6))
 have e3:(K0 (mT (c9 2 BX (B4 (A0 1) (B4 (A0 0) B9))))) [.dat (.int (n:Int)),.dat d,.nil,.nil]=some (!DS d n,[.dat (.int (n:Int)),.dat d,.nil,.nil]):=Cr (N2 (K3 (av:=[.d d,.d (.int (n:Int))]) rfl rfl rfl hi))
 cases hr:DS d n with
 |false=>
  rw[hr]at e3;refine .inr ⟨fun⟨T,s,hd,hg⟩=>?_,?_⟩
  ·subst hd
   rw[QN (Y9 (nY h1 h6) hg).2.1]at hr;cases hr
  ·show CN [.dat (.int (n:Int)),.dat d,.nil,.nil]=_
   unfold CN;exact Be e1 e2 (Gy (iE e3 rfl))
 |true=>
  rw[hr]at e3;obtain⟨T,rfl,hT⟩:=hG hr;have hx:=QR (w0:=.dat (.int (n:Int))) (w1:=.dat (dT T)) (w3:=.nil) (T:=T) (nY h1 h6);have hg:R9 [.dat (.int (n:Int)),.dat (dT T)]=if(lM (zs n) T).isSome then none else some ("NoRows":Str):=by
   have hit:(dT T).items=some (T.map dR):=rfl
   have hlp:=fun s hs=>Ks (w0:=.dat (.int (n:Int))) (w1:=.dat (dT T)) (w3:=.nil) (T:=T) (s':=s) (nY h1 h6) hs
   generalize dT T=A at *;show CN [.dat (.int (n:Int)),.dat A,.nil,.nil]=_;unfold CN;refine Be e1 e2 (Be (iF e3 rfl) (O4 e3 rfl) (Be rfl (L7 (d:=dR (zs n)) (e1:=[.dat (.int (n:Int)),.dat A,.nil,.nil]) (e2:=[.dat (.int (n:Int)),.dat A,.dat (dR (zs n)),.nil]) (D4 rfl rfl hm) rfl) ?_));have hf:(GU (F4 (A0 1)) (gN 3) xB sB) [.dat (.int (n:Int)),.dat A,.dat (dR (zs n)),.nil]=if(lM (zs n) T).isSome then none else some ("NoRows":Str):=by
    unfold GU;rw[U0 (m:=A0 1) rfl hit,Qj];exact hx
   cases hgo:lM (zs n) T with
   |none=>
    rw[hgo]at hf;exact Gy hf
   |some s=>
    rw[hgo]at hf;obtain⟨w,q⟩:=hlp s hgo;exact Be hf ((Z3 (U0 rfl hit)).trans q) rfl
  rw[hg];cases hgo:lM (zs n) T with
  |none=>
   refine .inr ⟨?_,rfl⟩;rintro⟨T',s,hd,hg'⟩;have:T=T':=by
    have:=Za pA hd;rwa [Ez,Ez]at this
   subst this;rw[hgo]at hg';cases hg'
  |some s=>exact .inl ⟨⟨T,s,rfl,hgo⟩,rfl⟩
section
variable{n:Nat}{T:OI}{s:List Int}
theorem iG{f:Fn}{m:Mo D}{e:a9}{d r:D}{ws:List W}(hm:m e=some (d,e))(hf:f [.dat d,.parD [] []]=some (.d r,ws)):GF 2 f (B0 m B6) e=some (r,e):=by
 unfold GF Ik;rw[C8 hm rfl,Qj];show((if 1+1=2 then(f [.dat d,.parD [] []]).map _ else none).bind sC)=_
 rw[Qc rfl,hf]
 rfl
theorem FD(h1:1≤n)(h6:n≤6)(h:lM (zs n) T=some s):O1 [.dat (.int (n:Int)),.dat (dT T)]=some (.d (.int (Wy s)),[.dat (.int (n:Int)),.dat (dT T)]):=by
 obtain⟨ws,hb⟩:=Gx h1 h6 h;obtain⟨ks,vs,e1,_⟩:=Gu (Y9 (nY h1 h6) h).1 [] [] (KL.nil n);generalize dT T=A at *;refine Y1 (env:=[.dat (.int (n:Int)),.dat A]) ?_ rfl;show KS [.dat (.int (n:Int)),.dat A]=_;unfold KS;exact P5 (iG (K3 (av:=[.d (.int (n:Int)),.d A]) rfl rfl rfl hb) e1)
def Bf(o:Option (Rr×List W))(k:Int):Bool:=match o with
 |some (.d (.int i),_)=>i==k
 |_=>false
theorem DU{o:Option (Rr×List W)}{k:Int}(h:Bf o k=true):∃ws,o=some (.d (.int k),ws):=by
 unfold Bf at h;split at h
 ·rw[Ym]at h;subst h;exact⟨_,rfl⟩
 ·cases h
theorem yK:Bf (Y3 [.dat (.int 1)]) (Wy (zs 1))=true:=by rfl'
theorem yL:Bf (Y3 [.dat (.int 2)]) (Wy (zs 2))=true:=by rfl'
theorem yM:Bf (Y3 [.dat (.int 3)]) (Wy (zs 3))=true:=by rfl'
theorem yN:Bf (Y3 [.dat (.int 4)]) (Wy (zs 4))=true:=by rfl'
theorem yO:Bf (Y3 [.dat (.int 5)]) (Wy (zs 5))=true:=by rfl'
theorem yP:Bf (Y3 [.dat (.int 6)]) (Wy (zs 6))=true:=by rfl'
theorem QT(h1:1≤n)(h6:n≤6):∃ws,Y3 [.dat (.int (n:Int))]=some (.d (.int (Wy (zs n))),ws):=by
 rcases(by omega:n=1\/n=2\/n=3\/n=4\/n=5\/n=6)with rfl|rfl|rfl|rfl|rfl|rfl
 ·exact DU yK
 ·exact DU yL
 ·exact DU yM
 ·exact DU yN
 ·exact DU yO
 ·exact DU yP
theorem Gz(h1:1≤n)(h6:n≤6)(h:lM (zs n) T=some s):P8 [.dat (.int (n:Int)),.dat (dT T)]=some (.d (pF (Wn s) (Wn (zs n))),[.dat (.int (n:Int)),.dat (dT T)]):=by
 have hb:=FD h1 h6 h
 obtain⟨wc,hc⟩:=QT h1 h6;have hW:=DR (Y9 (nY h1 h6) h).1;have hW0:=DR (nY h1 h6);have hf:=QA hW.1 hW0.1 hW.2 hW0.2;rw[Bd,Bd]at hf;generalize dT T=A at *;refine Y1 (env:=[.dat (.int (n:Int)),.dat A]) ?_ rfl;show KU [.dat (.int (n:Int)),.dat A]=_;unfold KU;exact P5 (K3 (av:=[.d (.int (Wy s)),.d (.int (Wy (zs n)))]) (W2 (K3 (av:=[.d (.int (n:Int)),.d A]) rfl rfl rfl hb) (W2 (K3 (av:=[.d (.int (n:Int))]) rfl rfl rfl hc) rfl)) rfl rfl hf)
theorem QU{x y:Mx}{m:Mo D}{e:a9}{c:Str}(h:x e=some c):AV x m y e=some c:=by
 unfold AV;rw[h]
theorem Kv{x y:Mx}{m:Mo D}{e e1:a9}{d:D}{r:Option Str}(h:x e=none)(hm:m e=some (d,e1))(hy:y e1=r):AV x m y e=r:=by
 unfold AV;rw[h];dsimp only;rw[hm];exact hy
end
section
variable{a d:D}
theorem QV{c:Str}(h:R9 [.dat a,.dat d]=some c):V6 [.dat a,.dat d]=some c:=by
 show El [.dat a,.dat d]=_;unfold El;exact QU (AB (av:=[.d a,.d d]) rfl rfl rfl h)
theorem iH{c:Str}(h:R9 [.dat a,.dat d]=some c):Y5 [.dat a,.dat d]=some c:=by
 show Em [.dat a,.dat d]=_;unfold Em;exact QU (AB (av:=[.d a,.d d]) rfl rfl rfl (QV h))
theorem iI{c:Str}(h:R9 [.dat a,.dat d]=some c):Y6 [.dat a,.dat d]=some c:=by
 show En [.dat a,.dat d,.nil,.nil,.nil]=_;unfold En;exact Gy (AB (av:=[.d a,.d d]) rfl rfl rfl h)
end
section
variable{n:Nat}{T:OI}{s:List Int}
theorem QW(h1:1≤n)(h6:n≤6)(h:lM (zs n) T=some s):R9 [.dat (.int (n:Int)),.dat (dT T)]=none:=by
 have hl:=Gv h1 h6 h
 rcases QS h1 h6 (Kt h6 (by omega) (Y9 (nY h1 h6) h).2.1)with⟨_,q⟩|⟨q,_⟩
 ·exact q
 ·exact absurd ⟨T,s,rfl,h⟩ q
theorem QX(h1:1≤n)(h6:n≤6)(h:lM (zs n) T=some s):V6 [.dat (.int (n:Int)),.dat (dT T)]=none:=by
 have hg:=QW h1 h6 h
 obtain⟨ws,hb⟩:=Gx h1 h6 h;generalize dT T=A at *;show El [.dat (.int (n:Int)),.dat A]=_;unfold El;exact Kv (AB (av:=[.d (.int (n:Int)),.d A]) rfl rfl rfl hg) (K3 (av:=[.d (.int (n:Int)),.d A]) rfl rfl rfl hb) rfl
theorem iJ(h1:1≤n)(h6:n≤6)(h:lM (zs n) T=some s):Y5 [.dat (.int (n:Int)),.dat (dT T)]=none:=by
 have hg:=QX h1 h6 h
 have hb:=FD h1 h6 h
 obtain⟨wc,hc⟩:=QT h1 h6;generalize dT T=A at *;show Em [.dat (.int (n:Int)),.dat A]=_;unfold Em;exact Kv (AB (av:=[.d (.int (n:Int)),.d A]) rfl rfl rfl hg) (K3 (av:=[.d (.int (n:Int)),.d A]) rfl rfl rfl hb) (Kv rfl (K3 (av:=[.d (.int (n:Int))]) rfl rfl rfl hc) rfl)
theorem iK(h1:1≤n)(h6:n≤6)(h:lM (zs n) T=some s):Y6 [.dat (.int (n:Int)),.dat (dT T)]=none:=by
 have hg:=QW h1 h6 h
 obtain⟨ws,hb⟩:=Gx h1 h6 h;obtain⟨ks,vs,e1,_⟩:=Gu (Y9 (nY h1 h6) h).1 [] [] (KL.nil n);generalize dT T=A at *;show En [.dat (.int (n:Int)),.dat A,.nil,.nil,.nil]=_;unfold En;refine Be (e1:=[.dat (.int (n:Int)),.dat A,.dat (dR s),.nil,.nil]) (AB (av:=[.d (.int (n:Int)),.d A]) rfl rfl rfl hg) (L7 (d:=dR s) (e1:=[.dat (.int (n:Int)),.dat A,.nil,.nil,.nil]) (K3 (av:=[.d (.int (n:Int)),.d A]) rfl rfl rfl hb) rfl) ?_
 refine Be (e1:=[.dat (.int (n:Int)),.dat A,.dat (dR s),.ownD [] [],.nil]) rfl rfl ?_
 exact Be (e1:=[.dat (.int (n:Int)),.dat A,.dat (dR s),.ownD ks vs,.dat (.int (Wy s))]) rfl (L7 (d:=.int (Wy s)) (e1:=[.dat (.int (n:Int)),.dat A,.dat (dR s),.ownD ks vs,.nil]) (V2 ((EH (i:=3) (w:=.ownD [] []) (c:=.d [] []) (c':=.d ks vs) (e1:=[.dat (.int (n:Int)),.dat A,.dat (dR s),.ownD [] [],.nil]) (av:=[.d (dR s),.sl 3]) rfl rfl rfl rfl rfl e1 rfl).trans rfl)) rfl) rfl
end
section
variable{n:Nat}
theorem iL(h1:1≤n)(h6:n≤6){T:OI}{s:List Int}(h:lM (zs n) T=some s):∃ws,AD [.dat (.int (n:Int)),.dat (dT T)]=some (.l (yJ s),ws):=by
 obtain⟨wb,hb⟩:=Gx h1 h6 h;have b:=(Y9 (nY h1 h6) h).1;generalize dT T=A at *;obtain⟨ks,vs,e1,hk⟩:=Gu b [] [] (KL.nil n);obtain⟨ks2,vs2,e2,hk2⟩:=Pr (f:=M4 8) b (fun r hr=>Gu (b.row hr).2.2) hk
 have hW:=DR b
 have hWs:=Bd s
 refine⟨_,bQ (env:=[.dat (.int (n:Int)),.dat A,.dat (dR s),.ownD ks2 vs2,.dat (.int (Wy s))]) ?_ rfl⟩;show KW [.dat (.int (n:Int)),.dat A,.nil,.nil,.nil]=_;unfold KW;refine F1 (L7 (d:=dR s) (e1:=[.dat (.int (n:Int)),.dat A,.nil,.nil,.nil]) (e2:=[.dat (.int (n:Int)),.dat A,.dat (dR s),.nil,.nil]) (K3 (av:=[.d (.int (n:Int)),.d A]) rfl rfl rfl hb) rfl) ?_
 refine F1 (e1:=[.dat (.int (n:Int)),.dat A,.dat (dR s),.ownD [] [],.nil]) rfl ?_
 refine F1 (L7 (d:=.int (Wy s)) (e1:=[.dat (.int (n:Int)),.dat A,.dat (dR s),.ownD ks vs,.nil]) (e2:=[.dat (.int (n:Int)),.dat A,.dat (dR s),.ownD ks vs,.dat (.int (Wy s))]) (V2 ((EH (i:=3) (w:=.ownD [] []) (c:=.d [] []) (c':=.d ks vs) (e1:=[.dat (.int (n:Int)),.dat A,.dat (dR s),.ownD [] [],.nil]) (av:=[.d (dR s),.sl 3]) rfl rfl rfl rfl rfl e1 rfl).trans rfl)) rfl) ?_
 refine II ?_
 have hel:∀r∈R s,D1 (B0 (A0 5) (B0 (c9 2 Ac (B4 (A0 6) (B4 (A0 4) B9))) B6)) ([.nil,.nil,.nil,.nil,.dat (.int (Wy s))]++[.dat (dR r),.dat (.int (wt s r))])=some (.tup [dR r,pF (Wn (F6 s r)) (Wn s)],[.nil,.nil,.nil,.nil,.dat (.int (Wy s))]++[.dat (dR r),.dat (.int (wt s r))]):=fun r hr=>by
  have b2:=(b.row hr).2.2
  have hW2:=DR b2
  have ef:=QA hW2.1 hW.1 hW2.2 hW.2
  rw[Bd,Bd]at ef;exact GX (C8 rfl (C8 (K3 (av:=[.d (.int (wt s r)),.d (.int (Wy s))]) rfl rfl rfl ef) rfl)) (by simp)
 obtain⟨w1,w2,q1⟩:=GW (t:=J0) (m:=D1 (B0 (A0 5) (B0 (c9 2 Ac (B4 (A0 6) (B4 (A0 4) B9))) B6))) (base:=[.nil,.nil,.nil,.nil,.dat (.int (Wy s))]) (q:=dR) (q2:=fun r=>D.int (wt s r)) (f:=fun r=>.tup [dR r,pF (Wn (F6 s r)) (Wn s)]) (p:=fun _=>true) (k:=5) rfl (l:=R s) (fun r hr=>⟨rfl,fun _=>hel r hr⟩) .nil .nil
 rw[Uo.mpr (fun _ _=>rfl)]at q1
 refine EF (e1:=[.dat (.int (n:Int)),.dat A,.dat (dR s),.ownD ks2 vs2,.dat (.int (Wy s))]) (ds:=rT s) ?_ ?_ q1 rfl
 ·exact U0 (J4 (BM ((EH (i:=3) (w:=.ownD ks vs) (c:=.d ks vs) (c':=.d ks2 vs2) (e1:=[.dat (.int (n:Int)),.dat A,.dat (dR s),.ownD ks vs,.dat (.int (Wy s))]) (av:=[.d (dR s),.sl 3]) rfl rfl rfl rfl rfl e2 rfl).trans rfl))) rfl
 ·have:=b.few
  unfold rT;rw[Qk];omega
def nZ:List Int->List D->Option (List Int)
 |s,[]=>some s
 |s,.tup fs::ds=>if fs.all nJ=true/\fs.map mU∈R s then nZ (F6 s (fs.map mU)) ds else none
 |_,_=>none
theorem QY:∀{ds:List D}{s s':List Int},nZ s ds=some s'->∃T,ds=T.map dR/\lM s T=some s'
 |[],s,s',h=>⟨[],rfl,by unfold nZ at h;exact h⟩
 |x::ds,s,s',h=>by
  cases x<;>first|(unfold nZ at h;cases h;done)|skip
  rename_i fs;unfold nZ at h;split at h
  ·rename_i hc
   obtain⟨T,rfl,hT⟩:=QY h;refine⟨fs.map mU::T,?_,?_⟩
   ·rw[Qr]
    have:=Gj hc.1;show D.tup fs::_=D.tup ((fs.map mU).map D.int)::_;rw[←this]
   ·show(if fs.map mU∈R s then _ else _)=_
    rw[Qc hc.2];exact hT
  ·cases h
abbrev tH:Mo Fl:=(C6 (F3 (L4 (K0 (mT (nB "tuple" (A0 4)))) (L4 (K0 (mT (i5 AQ (B0 (mF (G9 (F4 (A0 4)) [false,false,false,false,false] 1 (gN 5) J0 (c9 1 CP (B4 (A0 5) B9)))) B6)))) (mT (B8 (Y0 true) (A0 4) (mF (M3 1 T0 (B4 (A0 3) B9))))))) (E2 (mC (.int 0))) kO) (D0 3 (c9 2 W7 (B4 (A0 3) (B4 (A0 4) B9)))))
abbrev vE:Mo Bool:=(L4 (K0 (mT (nB "tuple" (A0 4)))) (L4 (K0 (mT (i5 AQ (B0 (mF (G9 (F4 (A0 4)) [false,false,false,false,false] 1 (gN 5) J0 (c9 1 CP (B4 (A0 5) B9)))) B6)))) (mT (B8 (Y0 true) (A0 4) (mF (M3 1 T0 (B4 (A0 3) B9)))))))
theorem iM{w0 w1 w2 w3:W}{fs:List D}(hl:fs.length≤1000):(i5 AQ (B0 (mF (G9 (F4 (A0 4)) [false,false,false,false,false] 1 (gN 5) J0 (c9 1 CP (B4 (A0 5) B9)))) B6)) [w0,w1,w2,w3,.dat (.tup fs)]=some (.bl (fs.all nJ),[w0,w1,w2,w3,.dat (.tup fs)]):=by
 refine P4 (C8 (J4 (GV (α:=D) (l:=fs) (q:=fun y=>y) (f:=fun y=>.bl (nJ y)) (base:=[.nil,.nil,.nil,.nil,.nil]) (k:=5) (U0 rfl (by show some fs=_;simp)) (by omega) rfl rfl (fun y _=>K3 (av:=[.d y]) rfl rfl rfl (fE y)) (fun _=>rfl))) rfl) ?_
 show(X5 _).map _=_;rw[EE]
 rfl
def sK(s:List Int):D->Bool
 |.tup fs=>decide (fs.all nJ=true/\fs.map mU∈R s)
 |_=>false
theorem iN{w0 w1 w2:W}{s:List Int}(b:Bt n s){x:D}(hz:oT x):vE [w0,w1,w2,.dat (dR s),.dat x]=some (!sK s x,[w0,w1,w2,.dat (dR s),.dat x]):=by
 have er:=Px b
 cases x<;>first|exact JI rfl|skip
 rename_i fs;have hl:=hz fs rfl;have hw:=iM (w0:=w0) (w1:=w1) (w2:=w2) (w3:=.dat (dR s)) hl;refine Ei rfl ?_
 cases ha:fs.all nJ with
 |false=>
  rw[ha]at hw;have hk:sK s (.tup fs)=false:=Zx (by rw[ha];rintro⟨z,_⟩;cases z)
  rw[hk];exact JI (Cr (b:=false) (N2 hw))
 |true=>
  rw[ha]at hw;refine Ei (Cr (b:=true) (N2 hw)) ?_
  have hk:sK s (.tup fs)=decide (fs.map mU∈R s):=by
   show decide (fs.all nJ=true/\fs.map mU∈R s)=_;rw[ha]
   simp
  rw[hk];have hf:=Gj ha;have ei:=QP (fs.map mU) s;have hd:dR (fs.map mU)=.tup fs:=by
   show D.tup ((fs.map mU).map D.int)=_;rw[←hf]
  rw[hd]at ei;generalize dR s=A at *;exact N2 (D4 rfl (J4 (BM (X7 (av:=[.d A]) rfl rfl rfl er))) ei)
theorem QZ{w0 w1 w2:W}:∀{ds:List D}{s:List Int}{w4:W},Bt n s->(∀x∈ds,oT x)->(∀s',nZ s ds=some s'->∃w,loop (gN 4) tH ds [w0,w1,w2,.dat (dR s),w4]=some (.nx,[w0,w1,w2,.dat (dR s'),w]))/\(nZ s ds=none->∃e,loop (gN 4) tH ds [w0,w1,w2,.dat (dR s),w4]=some (.ret (.int 0),e))
 |[],s,w4,b,hz=>⟨(fun s' h=>by
   unfold nZ at h;cases h;exact⟨w4,rfl⟩),fun h=>by unfold nZ at h;cases h⟩
 |x::ds,s,w4,b,hz=>by
  have ht:=iN (w0:=w0) (w1:=w1) (w2:=w2) b (hz x Zu)
  have bad:vE [w0,w1,w2,.dat (dR s),.dat x]=some (true,[w0,w1,w2,.dat (dR s),.dat x])->∃e,loop (gN 4) tH (x::ds) [w0,w1,w2,.dat (dR s),w4]=some (.ret (.int 0),e):=fun q=>
   ⟨_,hJ (g:=gN 4) (e1:=[w0,w1,w2,.dat (dR s),.dat x]) rfl (AU (BW q rfl))⟩
  cases x<;>first|exact⟨(fun s' h=>by unfold nZ at h;cases h),fun _=>bad ht⟩|skip
  rename_i fs
  by_cases hc:fs.all nJ=true/\fs.map mU∈R s
  ·have hd:D.tup fs=dR (fs.map mU):=by
    show _=D.tup ((fs.map mU).map D.int);rw[←Gj hc.1]
   obtain⟨hlr,_,b2⟩:=b.row hc.2;obtain⟨q1,q2⟩:=QZ (w0:=w0) (w1:=w1) (w2:=w2) (ds:=ds) (w4:=.dat (.tup fs)) b2 fun y hy=>hz y (Qe _ hy)
   obtain⟨ws,eh⟩:=Kl hlr (by have:=b.len;have:=b.hi;omega)
   rw[←hd]at eh;have hstep:tH [w0,w1,w2,.dat (dR s),.dat (.tup fs)]=some (.nx,[w0,w1,w2,.dat (dR (F6 s (fs.map mU))),.dat (.tup fs)]):=by
    have hk:sK s (.tup fs)=true:=Yx hc
    rw[hk]at ht;generalize dR s=A at *;exact F1 (O4 ht rfl) (L7 (d:=dR (F6 s (fs.map mU))) (e1:=[w0,w1,w2,.dat A,.dat (.tup fs)]) (K3 (av:=[.d A,.d (.tup fs)]) rfl rfl rfl eh) rfl)
   have hg:nZ s (.tup fs::ds)=nZ (F6 s (fs.map mU)) ds:=by
    show(if _ then _ else _)=_
    rw[Qc hc]
   rw[hg];refine⟨fun s' h=>?_,fun h=>?_⟩
   ·obtain⟨w,q⟩:=q1 s' h
    exact⟨w,DT (g:=gN 4) (e1:=[w0,w1,w2,.dat (dR s),.dat (.tup fs)]) rfl hstep q⟩
   ·obtain⟨e,q⟩:=q2 h
    exact⟨e,DT (g:=gN 4) (e1:=[w0,w1,w2,.dat (dR s),.dat (.tup fs)]) rfl hstep q⟩
  ·have hg:nZ s (.tup fs::ds)=none:=by
    show(if _ then _ else _)=_
    rw[Qt hc]
   rw[hg];have hk:sK s (.tup fs)=false:=Zx hc;rw[hk]at ht;exact⟨(fun s' h=>by cases h),fun _=>bad ht⟩
end
theorem Af{i:Nat}{e:a9}{w:W}{a k:Int}{b:Bool}{M:Mo D}(hw:e[i]? =some w)(hm:w.mutL=some [.int a,.bl b])(hM:M e=some (.int k,e))(ha:0≤a)(h1:1≤k)(h2:k<1073741824):
  ∃v a',c9 2 K5 (G0 i (B4 M B9)) e=some (.int v,e.set i (w.put [.int a',.bl b]))/\0≤v/\v<k/\0≤a':=by
 obtain⟨v,a',et,v0,v1,a0⟩:=Kh (a:=a) (m:=k) (b:=b) ha h1 h2;refine⟨v,a',V2 (Cs (av:=[.sl i,.d (.int k)]) (c:=[.int a,.bl b]) ?_ rfl rfl hw hm et rfl),v0,v1,a0⟩;unfold G0;rw[hw];simp only[Qj];have hm':∃m,w.mut=some m:=by
  cases w<;>first|cases hm;done|exact⟨_,rfl⟩
 obtain⟨m,hm'⟩:=hm';rw[hm'];simp only[Qj];rw[W2 hM rfl];rfl
theorem DV{ds:List D}{v:Int}(h0:0≤v)(h1:v<ds.length):∃d,d∈ds/\lP (.lst ds) (.int v)=some d:=by
 have hv:v.toNat<ds.length:=by omega
 refine⟨ds[v.toNat],Ye hv,?_⟩;have:((v.toNat:Nat):Int)=v:=by omega
 have h:=DO (Zv hv)
 rw[this]at h;exact h
theorem RA{L:List Int}{v:Int}(h0:0≤v)(h1:v<L.length):∃j,j∈L/\lP (.lst (L.map .int)) (.int v)=some (.int j):=by
 obtain⟨d,hd,e⟩:=DV (ds:=L.map .int) h0 (by rw[Qk];exact h1)
 obtain⟨j,hj,rfl⟩:=Zq.mp hd;exact⟨j,hj,e⟩
theorem HA(xs:List D)(lo hi:Option Int):(J8 xs lo hi).length≤xs.length:=by
 unfold J8;rw[Yi,Xo];omega
theorem V7{m:Mo D}{ml mh:Mo (Option Int)}{e:a9}{xs:List D}{lo hi:Option Int}(h:m e=some (.tup xs,e))(h1:ml e=some (lo,e))(h2:mh e=some (hi,e)):kZ m ml mh e=some (.tup (J8 xs lo hi),e):=by
 unfold kZ;rw[h];simp only[Qj];rw[h1];simp only[Qj];rw[h2];rfl
theorem W9{ms:Mo (List D)}{e e1:a9}{ds:List D}(h:ms e=some (ds,e1))(hl:ds.length≤1000):F7 ms e=some (ds,e1):=by
 unfold F7;rw[h];exact Qc hl
theorem HC{ma mb:Mo D}{e e1 e2:a9}{xs ys:List D}(h1:ma e=some (.lst xs,e1))(h2:mb e1=some (.lst ys,e2))(hl:xs.length+ys.length≤10000):Q5 ma mb e=some (xs++ys,e2):=by
 unfold Q5;rw[h1];simp only[Qj];rw[h2];exact Qc hl
theorem RB{xs:List D}{lo hi:Option Int}{x:D}(h:x∈J8 xs lo hi):x∈xs:=by
 unfold J8 at h;exact List.mem_of_mem_drop (List.mem_of_mem_take h)
theorem Bg{es:List D}(h:es.length≤1000):oT (.tup es):=fun fs e=>by cases e;exact h
theorem Bi{es:List D}(h:es.length≤1000)(h2:∀x∈es,oT x):Sz (.tup es):=fun fs e=>by cases e;exact⟨h,h2⟩
theorem Kw{xs ys:List D}{y:D}(h1:∀x∈xs,oT x)(h2:oT y)(h3:∀x∈ys,oT x):∀x∈xs++[y]++ys,oT x:=fun x hx=>by
 rcases Zf.mp hx with h|h
 ·rcases Zf.mp h with h|h
  ·exact h1 x h
  ·rw[Vw.mp h];exact h2
 ·exact h3 x h
def vF:D->Bool
 |.tup es=>decide (es.length≤1000)&&es.all fun x=>match x with
  |.tup fs=>decide (fs.length≤1000)
  |_=>true
 |_=>true
theorem iO{d:D}(h:vF d=true):Sz d:=by
 intro es he;subst he;simp only[vF,Qw,Zh,Qy]at h;refine⟨h.1,fun x hx fs hf=>?_⟩
 subst hf
 simpa using h.2 _ hx
theorem Kx:U6 (.int 10) (.int 29)=some (.int 100000000000000000000000000000):=PR (by rfl') (by rfl')
theorem RC{R:OI}{n:Nat}{a:Int}{b:Bool}(h1:1≤n)(h6:n≤6)(hl:R.length=n)(hr:∀r∈R,r.length=n)(ha:0≤a):∃d a',Az [.par [.int a,.bl b],.dat (dT R)]=some (.d d,[.par [.int a',.bl b],.dat (dT R)])/\0≤a'/\Sz d:=by
 obtain⟨v1,a1,t1,p1,q1,a10⟩:=Af (i:=0) (e:=[.par [.int a,.bl b],.dat (dT R),.nil,.nil,.nil,.nil,.nil,.nil,.nil,.nil]) (w:=.par [.int a,.bl b]) (k:=(n:Int)) (M:=i5 J7 (B0 (A0 1) B6)) rfl rfl (by show some (D.int ((R.map dR).length:Nat),_)=_;rw[Qk,hl]) ha (by omega) (by omega)
 change c9 2 _ _ _=some (_,[.par [.int a1,.bl b],.dat (dT R),.nil,.nil,.nil,.nil,.nil,.nil,.nil,.nil])at t1;obtain⟨v2,a2,t2,p2,q2,a20⟩:=Af (i:=0) (e:=[.par [.int a1,.bl b],.dat (dT R),.nil,.nil,.nil,.nil,.nil,.nil,.nil,.nil]) (w:=.par [.int a1,.bl b]) (k:=(n:Int)) (M:=i5 J7 (B0 (A0 1) B6)) rfl rfl (by show some (D.int ((R.map dR).length:Nat),_)=_;rw[Qk,hl]) a10 (by omega) (by omega)
 change c9 2 _ _ _=some (_,[.par [.int a2,.bl b],.dat (dT R),.nil,.nil,.nil,.nil,.nil,.nil,.nil,.nil])at t2;have s1:(AL 8 9 (B0 (c9 2 K5 (G0 0 (B4 (i5 J7 (B0 (A0 1) B6)) B9))) (B0 (c9 2 K5 (G0 0 (B4 (i5 J7 (B0 (A0 1) B6)) B9))) B6))) [.par [.int a,.bl b],.dat (dT R),.nil,.nil,.nil,.nil,.nil,.nil,.nil,.nil]=some (.nx,[.par [.int a2,.bl b],.dat (dT R),.nil,.nil,.nil,.nil,.nil,.nil,.dat (.int v1),.dat (.int v2)]):=GY (e1:=[.par [.int a2,.bl b],.dat (dT R),.nil,.nil,.nil,.nil,.nil,.nil,.nil,.nil]) (C8 t1 (C8 t2 rfl)) rfl;have hv1:v1.toNat<R.length:=by omega
 have hv1':((v1.toNat:Nat):Int)=v1:=by omega
 generalize hrr:R[v1.toNat]=r;have hrl:r.length=n:=by rw[←hrr];exact hr _ (Ye hv1)
 have ixr:lP (dT R) (.int v1)=some (dR r):=by
  rw[←hv1'];exact DO (xs:=R.map dR) (by rw[Zy,Zv hv1,hrr];rfl)
 have s2':(D0 2 (B8 lP (A0 1) (A0 8))) [.par [.int a2,.bl b],.dat (dT R),.nil,.nil,.nil,.nil,.nil,.nil,.dat (.int v1),.dat (.int v2)]=some (.nx,[.par [.int a2,.bl b],.dat (dT R),.dat (dR r),.nil,.nil,.nil,.nil,.nil,.dat (.int v1),.dat (.int v2)]):=L7 (e1:=[.par [.int a2,.bl b],.dat (dT R),.nil,.nil,.nil,.nil,.nil,.nil,.dat (.int v1),.dat (.int v2)]) (D4 rfl rfl ixr) rfl
 obtain⟨v3,a3,t3,p3,q3,a30⟩:=Af (i:=0) (e:=[.par [.int a2,.bl b],.dat (dT R),.dat (dR r),.nil,.nil,.nil,.nil,.nil,.dat (.int v1),.dat (.int v2)]) (w:=.par [.int a2,.bl b]) (k:=12) (M:=mC (.int 12)) rfl rfl rfl a20 (by omega) (by omega)
 change c9 2 _ _ _=some (_,[.par [.int a3,.bl b],.dat (dT R),.dat (dR r),.nil,.nil,.nil,.nil,.nil,.dat (.int v1),.dat (.int v2)])at t3;have hv2:v2.toNat<r.length:=by omega
 have hv2':((v2.toNat:Nat):Int)=v2:=by omega
 obtain⟨xk,ixk⟩:∃x,lP (dR r) (.int v2)=some (.int x):=by
  rw[←hv2'];exact⟨_,DO (xs:=r.map D.int) (by rw[Zy,Zv hv2];rfl)⟩
 obtain⟨odd,_,hodd⟩:=DV (ds:=[.int 0,.int 1,.int (-1),.int 2,.int (-2),.bl true,.bl false,.non,.str "1",.tup [.int 1],.int 100000000000000000000000000000,.int (-xk)]) p3 q3;have ng:T2 (B8 lP (A0 2) (A0 9)) [.par [.int a2,.bl b],.dat (dT R),.dat (dR r),.nil,.nil,.nil,.nil,.nil,.dat (.int v1),.dat (.int v2)]=some (.int (-xk),[.par [.int a2,.bl b],.dat (dT R),.dat (dR r),.nil,.nil,.nil,.nil,.nil,.dat (.int v1),.dat (.int v2)]):=by
  unfold T2;rw[D4 (e1:=[.par [.int a2,.bl b],.dat (dT R),.dat (dR r),.nil,.nil,.nil,.nil,.nil,.dat (.int v1),.dat (.int v2)]) (e2:=[.par [.int a2,.bl b],.dat (dT R),.dat (dR r),.nil,.nil,.nil,.nil,.nil,.dat (.int v1),.dat (.int v2)]) rfl rfl ixk]
  rfl
 have s3':(D0 3 (B8 lP (mF (F7 (B0 (mC (.int 0)) (B0 (mC (.int 1)) (B0 (T2 (mC (.int 1))) (B0 (mC (.int 2)) (B0 (T2 (mC (.int 2))) (B0 (mC (.bl true)) (B0 (mC (.bl false)) (B0 (mC .non) (B0 (mC (.str "1")) (B0 (D1 (B0 (mC (.int 1)) B6)) (B0 (B8 U6 (mC (.int 10)) (mC (.int 29))) (B0 (T2 (B8 lP (A0 2) (A0 9))) B6)))))))))))))) (c9 2 K5 (G0 0 (B4 (mC (.int 12)) B9))))) [.par [.int a2,.bl b],.dat (dT R),.dat (dR r),.nil,.nil,.nil,.nil,.nil,.dat (.int v1),.dat (.int v2)]=some (.nx,[.par [.int a3,.bl b],.dat (dT R),.dat (dR r),.dat odd,.nil,.nil,.nil,.nil,.dat (.int v1),.dat (.int v2)]):=L7 (e1:=[.par [.int a3,.bl b],.dat (dT R),.dat (dR r),.nil,.nil,.nil,.nil,.nil,.dat (.int v1),.dat (.int v2)]) (D4 (J4 (W9 (C8 rfl (C8 rfl (C8 rfl (C8 rfl (C8 rfl (C8 rfl (C8 rfl (C8 rfl (C8 rfl (C8 rfl (C8 (D4 rfl rfl Kx) (C8 ng rfl)))))))))))) (by simp))) t3 hodd) rfl
 have cl:∀lo hi,(J8 (r.map D.int) lo hi).length≤6:=fun lo hi=>Zs (HA _ _ _) (by rw[Qk];omega)
 have nX:∀lo hi,(J8 (R.map dR) lo hi).length≤6:=fun lo hi=>Zs (HA _ _ _) (by rw[Qk];omega)
 obtain⟨rw4,hrw4,z4,s4'⟩:∃rw4:List D,rw4.length=4/\(∀x∈rw4,oT x)/\(D0 4 (mF (F7 (B0 (B8 D7 (B8 D7 (kZ (A0 2) J3 (J2 (A0 9))) (D1 (B0 (A0 3) B6))) (kZ (A0 2) (J2 (B8 D7 (A0 9) (mC (.int 1)))) J3)) (B0 (B8 D7 (B8 D7 (kZ (A0 2) J3 (J2 (A0 9))) (D1 (B0 (A0 3) B6))) (kZ (A0 2) (J2 (A0 9)) J3)) (B0 (B8 D7 (kZ (A0 2) J3 (J2 (A0 9))) (kZ (A0 2) (J2 (B8 D7 (A0 9) (mC (.int 1)))) J3)) (B0 (mF (pU Bs (B0 (A0 2) B6))) B6))))))) [.par [.int a3,.bl b],.dat (dT R),.dat (dR r),.dat odd,.nil,.nil,.nil,.nil,.dat (.int v1),.dat (.int v2)]=some (.nx,[.par [.int a3,.bl b],.dat (dT R),.dat (dR r),.dat odd,.dat (.lst rw4),.nil,.nil,.nil,.dat (.int v1),.dat (.int v2)]):=by
  refine⟨[_,_,_,_],?_,?_,L7 (e1:=[.par [.int a3,.bl b],.dat (dT R),.dat (dR r),.dat odd,.nil,.nil,.nil,.nil,.dat (.int v1),.dat (.int v2)]) (J4 (W9 (C8
   (D4 (D4 (V7 rfl rfl rfl) rfl (Y2 ?_)) (V7 rfl rfl rfl) (Y2 ?_)) (C8
   (D4 (D4 (V7 rfl rfl rfl) rfl (Y2 ?_)) (V7 rfl rfl rfl) (Y2 ?_)) (C8
   (D4 (V7 rfl rfl rfl) (V7 rfl rfl rfl) (Y2 ?_)) (C8 rfl rfl)))) (by simp))) rfl⟩
  ·rfl
  ·intro x hx
   have c1:=cl none (some v2)
   have c2:=cl (some (v2+1)) none
   have c3:=cl (some v2) none
   simp only[Qg,Qa,Ze]at hx
   rcases hx with rfl|rfl|rfl|rfl
   ·exact Bg (by simp only[Ql,Qo,Yc];omega)
   ·exact Bg (by simp only[Ql,Qo,Yc];omega)
   ·exact Bg (by simp only[Ql,Qo,Yc];omega)
   ·intro es he;cases he
  ·have:=cl none (some v2);simp;omega
  ·have:=cl none (some v2);have:=cl (some (v2+1)) none;simp;omega
  ·have:=cl none (some v2);simp;omega
  ·have:=cl none (some v2);have:=cl (some v2) none;simp;omega
  ·have:=cl none (some v2);have:=cl (some (v2+1)) none;omega
 obtain⟨v4,a4,t4,p4,q4,a40⟩:=Af (i:=0) (e:=[.par [.int a3,.bl b],.dat (dT R),.dat (dR r),.dat odd,.dat (.lst rw4),.nil,.nil,.nil,.dat (.int v1),.dat (.int v2)]) (w:=.par [.int a3,.bl b]) (k:=10) (M:=mC (.int 10)) rfl rfl rfl a30 (by omega) (by omega)
 change c9 2 _ _ _=some (_,[.par [.int a4,.bl b],.dat (dT R),.dat (dR r),.dat odd,.dat (.lst rw4),.nil,.nil,.nil,.dat (.int v1),.dat (.int v2)])at t4;obtain⟨j4,hj4,ej4⟩:=RA (L:=[0,0,0,0,0,1,2,3,4,5]) p4 q4;obtain⟨one,mone,hone⟩:=DV (ds:=rw4++[dR r.reverse,.non]) (v:=j4) (by simp at hj4;omega) (by simp at hj4;simp[hrw4];omega)
 have zone:oT one:=by
  rcases Zf.mp mone with h|h
  ·exact z4 one h
  ·simp only[Qg,Qa,Ze]at h
   rcases h with rfl|rfl
   ·exact Bg (by simp;omega)
   ·intro es he;cases he
 have rv:Cp (A0 2) [.par [.int a3,.bl b],.dat (dT R),.dat (dR r),.dat odd,.dat (.lst rw4),.nil,.nil,.nil,.dat (.int v1),.dat (.int v2)]=some (dR r.reverse,[.par [.int a3,.bl b],.dat (dT R),.dat (dR r),.dat odd,.dat (.lst rw4),.nil,.nil,.nil,.dat (.int v1),.dat (.int v2)]):=by
  show some (D.tup (r.map D.int).reverse,_)=_;rw[←List.map_reverse]
  rfl
 have s5:(D0 5 (B8 lP (mF (Q5 (A0 4) (mF (F7 (B0 (Cp (A0 2)) (B0 (mC .non) B6)))))) (B8 lP (mF (F7 (B0 (mC (.int 0)) (B0 (mC (.int 0)) (B0 (mC (.int 0)) (B0 (mC (.int 0)) (B0 (mC (.int 0)) (B0 (mC (.int 1)) (B0 (mC (.int 2)) (B0 (mC (.int 3)) (B0 (mC (.int 4)) (B0 (mC (.int 5)) B6)))))))))))) (c9 2 K5 (G0 0 (B4 (mC (.int 10)) B9)))))) [.par [.int a3,.bl b],.dat (dT R),.dat (dR r),.dat odd,.dat (.lst rw4),.nil,.nil,.nil,.dat (.int v1),.dat (.int v2)]=some (.nx,[.par [.int a4,.bl b],.dat (dT R),.dat (dR r),.dat odd,.dat (.lst rw4),.dat one,.nil,.nil,.dat (.int v1),.dat (.int v2)]):=L7 (e1:=[.par [.int a4,.bl b],.dat (dT R),.dat (dR r),.dat odd,.dat (.lst rw4),.nil,.nil,.nil,.dat (.int v1),.dat (.int v2)]) (D4 (J4 (HC (e1:=[.par [.int a3,.bl b],.dat (dT R),.dat (dR r),.dat odd,.dat (.lst rw4),.nil,.nil,.nil,.dat (.int v1),.dat (.int v2)]) (e2:=[.par [.int a3,.bl b],.dat (dT R),.dat (dR r),.dat odd,.dat (.lst rw4),.nil,.nil,.nil,.dat (.int v1),.dat (.int v2)]) rfl (J4 (W9 (C8 rv (C8 rfl rfl)) (by simp))) (by simp[hrw4]))) (D4 rfl t4 ej4) hone) rfl
 obtain⟨v5,a5,t5,p5,q5,a50⟩:=Af (i:=0) (e:=[.par [.int a4,.bl b],.dat (dT R),.dat (dR r),.dat odd,.dat (.lst rw4),.dat one,.nil,.nil,.dat (.int v1),.dat (.int v2)]) (w:=.par [.int a4,.bl b]) (k:=(n:Int)) (M:=i5 J7 (B0 (A0 1) B6)) rfl rfl (by show some (D.int ((R.map dR).length:Nat),_)=_;rw[Qk,hl]) a40 (by omega) (by omega)
 change c9 2 _ _ _=some (_,[.par [.int a5,.bl b],.dat (dT R),.dat (dR r),.dat odd,.dat (.lst rw4),.dat one,.nil,.nil,.dat (.int v1),.dat (.int v2)])at t5;have hv5:v5.toNat<R.length:=by omega
 have hv5':((v5.toNat:Nat):Int)=v5:=by omega
 have zrow:∀r∈R,oT (dR r):=fun r h=>Bg (by have:=hr r h;simp;omega)
 have zr:oT (dR r):=Bg (by simp;omega)
 have zcut:∀lo hi,∀x∈J8 (R.map dR) lo hi,oT x:=fun lo hi x hx=>by
  obtain⟨r,h,rfl⟩:=Zq.mp (RB hx);exact zrow r h
 obtain⟨oth,zoth,hoth⟩:∃oth,oT oth/\lP (dT R) (.int v5)=some oth:=by
  rw[←hv5'];exact⟨_,zrow _ (Ye hv5),DO (xs:=R.map dR) (by rw[Zy,Zv hv5];rfl)⟩
 have s6:(D0 6 (B8 lP (A0 1) (c9 2 K5 (G0 0 (B4 (i5 J7 (B0 (A0 1) B6)) B9))))) [.par [.int a4,.bl b],.dat (dT R),.dat (dR r),.dat odd,.dat (.lst rw4),.dat one,.nil,.nil,.dat (.int v1),.dat (.int v2)]=some (.nx,[.par [.int a5,.bl b],.dat (dT R),.dat (dR r),.dat odd,.dat (.lst rw4),.dat one,.dat oth,.nil,.dat (.int v1),.dat (.int v2)]):=L7 (e1:=[.par [.int a5,.bl b],.dat (dT R),.dat (dR r),.dat odd,.dat (.lst rw4),.dat one,.nil,.nil,.dat (.int v1),.dat (.int v2)]) (D4 rfl t5 hoth) rfl
 obtain⟨s2,hs2,z2,s7⟩:∃s2:List D,s2.length=2/\(∀x∈s2,Sz x)/\(D0 7 (mF (F7 (B0 (B8 D7 (B8 D7 (kZ (A0 1) J3 (J2 (A0 8))) (D1 (B0 (A0 5) B6))) (kZ (A0 1) (J2 (B8 D7 (A0 8) (mC (.int 1)))) J3)) (B0 (B8 D7 (B8 D7 (kZ (A0 1) J3 (J2 (A0 8))) (D1 (B0 (A0 6) B6))) (kZ (A0 1) (J2 (B8 D7 (A0 8) (mC (.int 1)))) J3)) B6))))) [.par [.int a5,.bl b],.dat (dT R),.dat (dR r),.dat odd,.dat (.lst rw4),.dat one,.dat oth,.nil,.dat (.int v1),.dat (.int v2)]=some (.nx,[.par [.int a5,.bl b],.dat (dT R),.dat (dR r),.dat odd,.dat (.lst rw4),.dat one,.dat oth,.dat (.lst s2),.dat (.int v1),.dat (.int v2)]):=by
  refine⟨[_,_],?_,?_,L7 (e1:=[.par [.int a5,.bl b],.dat (dT R),.dat (dR r),.dat odd,.dat (.lst rw4),.dat one,.dat oth,.nil,.dat (.int v1),.dat (.int v2)]) (J4 (W9 (C8
   (D4 (D4 (V7 rfl rfl rfl) rfl (Y2 ?_)) (V7 rfl rfl rfl) (Y2 ?_)) (C8
   (D4 (D4 (V7 rfl rfl rfl) rfl (Y2 ?_)) (V7 rfl rfl rfl) (Y2 ?_)) rfl)) (by simp))) rfl⟩
  ·rfl
  ·intro x hx
   have c1:=nX none (some v1)
   have c2:=nX (some (v1+1)) none
   simp only[Qg,Qa,Ze]at hx
   rcases hx with rfl|rfl
   ·exact Bi (by simp only[Ql,Qo,Yc];omega) (Kw (zcut _ _) zone (zcut _ _))
   ·exact Bi (by simp only[Ql,Qo,Yc];omega) (Kw (zcut _ _) zoth (zcut _ _))
  ·have:=nX none (some v1);simp;omega
  ·have:=nX none (some v1);have:=nX (some (v1+1)) none;simp;omega
  ·have:=nX none (some v1);simp;omega
  ·have:=nX none (some v1);have:=nX (some (v1+1)) none;simp;omega
 obtain⟨s4,hs4,z4',s8⟩:∃s4:List D,s4.length=4/\(∀x∈s4,Sz x)/\(D0 7 (mF (Q5 (A0 7) (mF (F7 (B0 (B8 D7 (kZ (A0 1) J3 (J2 (A0 8))) (kZ (A0 1) (J2 (B8 D7 (A0 8) (mC (.int 1)))) J3)) (B0 (B8 D7 (B8 D7 (kZ (A0 1) J3 (J2 (A0 8))) (D1 (B0 (A0 2) B6))) (kZ (A0 1) (J2 (A0 8)) J3)) (B0 (mF (pU Bs (B0 (A0 1) B6))) (B0 (Cp (A0 1)) B6))))))))) [.par [.int a5,.bl b],.dat (dT R),.dat (dR r),.dat odd,.dat (.lst rw4),.dat one,.dat oth,.dat (.lst s2),.dat (.int v1),.dat (.int v2)]=some (.nx,[.par [.int a5,.bl b],.dat (dT R),.dat (dR r),.dat odd,.dat (.lst rw4),.dat one,.dat oth,.dat (.lst (s2++s4)),.dat (.int v1),.dat (.int v2)]):=by
  refine⟨[_,_,_,_],?_,?_,L7 (e1:=[.par [.int a5,.bl b],.dat (dT R),.dat (dR r),.dat odd,.dat (.lst rw4),.dat one,.dat oth,.dat (.lst s2),.dat (.int v1),.dat (.int v2)]) (J4 (HC (e1:=[.par [.int a5,.bl b],.dat (dT R),.dat (dR r),.dat odd,.dat (.lst rw4),.dat one,.dat oth,.dat (.lst s2),.dat (.int v1),.dat (.int v2)]) (e2:=[.par [.int a5,.bl b],.dat (dT R),.dat (dR r),.dat odd,.dat (.lst rw4),.dat one,.dat oth,.dat (.lst s2),.dat (.int v1),.dat (.int v2)]) rfl (J4 (W9 (C8
   (D4 (V7 rfl rfl rfl) (V7 rfl rfl rfl) (Y2 ?_)) (C8
   (D4 (D4 (V7 rfl rfl rfl) rfl (Y2 ?_)) (V7 rfl rfl rfl) (Y2 ?_)) (C8 rfl (C8 rfl rfl)))) (by simp))) (by simp[hs2]))) rfl⟩
  ·rfl
  ·intro x hx
   have c1:=nX none (some v1)
   have c2:=nX (some (v1+1)) none
   have c3:=nX (some v1) none
   simp only[Qg,Qa,Ze]at hx
   rcases hx with rfl|rfl|rfl|rfl
   ·exact Bi (by simp only[Ql];omega) fun x hx=>(Zf.mp hx).elim (zcut _ _ x) (zcut _ _ x)
   ·exact Bi (by simp only[Ql,Qo,Yc];omega) (Kw (zcut _ _) zr (zcut _ _))
   ·intro es he;cases he
   ·exact Bi (by simp;omega) fun x hx=>by
     obtain⟨r,h,rfl⟩:=Zq.mp (List.mem_reverse.mp hx);exact zrow r h
  ·have:=nX none (some v1);have:=nX (some (v1+1)) none;omega
  ·have:=nX none (some v1);simp;omega
  ·have:=nX none (some v1);have:=nX (some v1) none;simp;omega
 obtain⟨s3,hs3,z3,s9⟩:∃s3:List D,s3.length=3/\(∀x∈s3,Sz x)/\(D0 7 (mF (Q5 (A0 7) (mF (F7 (B0 (D1 (B0 (A0 1) B6)) (B0 (mC .non) (B0 (A0 2) B6)))))))) [.par [.int a5,.bl b],.dat (dT R),.dat (dR r),.dat odd,.dat (.lst rw4),.dat one,.dat oth,.dat (.lst (s2++s4)),.dat (.int v1),.dat (.int v2)]=some (.nx,[.par [.int a5,.bl b],.dat (dT R),.dat (dR r),.dat odd,.dat (.lst rw4),.dat one,.dat oth,.dat (.lst (s2++s4++s3)),.dat (.int v1),.dat (.int v2)]):=
  ⟨[.tup [dT R],.non,dR r],rfl,(by
   intro x hx;simp only[Qg,Qa,Ze]at hx
   rcases hx with rfl|rfl|rfl
   ·exact Bi (by simp) fun x hx=>by
     simp only[Qg,Qa,Ze]at hx;subst hx;exact Bg (by simp;omega)
   ·intro es he;cases he
   ·exact Bi (by simp;omega) fun x hx=>by
     obtain⟨i,_,rfl⟩:=Zq.mp hx;intro es he;cases he),L7 (e1:=[.par [.int a5,.bl b],.dat (dT R),.dat (dR r),.dat odd,.dat (.lst rw4),.dat one,.dat oth,.dat (.lst (s2++s4)),.dat (.int v1),.dat (.int v2)]) (J4 (HC (e1:=[.par [.int a5,.bl b],.dat (dT R),.dat (dR r),.dat odd,.dat (.lst rw4),.dat one,.dat oth,.dat (.lst (s2++s4)),.dat (.int v1),.dat (.int v2)]) (e2:=[.par [.int a5,.bl b],.dat (dT R),.dat (dR r),.dat odd,.dat (.lst rw4),.dat one,.dat oth,.dat (.lst (s2++s4)),.dat (.int v1),.dat (.int v2)]) rfl (J4 (W9 (C8 rfl (C8 rfl (C8 rfl rfl))) (by simp))) (by simp[hs2,hs4]))) rfl⟩
 obtain⟨v6,a6,t6,p6,q6,a60⟩:=Af (i:=0) (e:=[.par [.int a5,.bl b],.dat (dT R),.dat (dR r),.dat odd,.dat (.lst rw4),.dat one,.dat oth,.dat (.lst (s2++s4++s3)),.dat (.int v1),.dat (.int v2)]) (w:=.par [.int a5,.bl b]) (k:=13) (M:=mC (.int 13)) rfl rfl rfl a50 (by omega) (by omega)
 change c9 2 _ _ _=some (_,[.par [.int a6,.bl b],.dat (dT R),.dat (dR r),.dat odd,.dat (.lst rw4),.dat one,.dat oth,.dat (.lst (s2++s4++s3)),.dat (.int v1),.dat (.int v2)])at t6;obtain⟨j6,hj6,ej6⟩:=RA (L:=[0,0,0,0,1,1,2,3,4,5,6,7,8]) p6 q6;obtain⟨d,md,hd⟩:=DV (ds:=s2++s4++s3) (v:=j6) (by simp at hj6;omega) (by simp at hj6;simp[hs2,hs4,hs3];omega)
 refine⟨d,a6,Y1 (env:=[.par [.int a6,.bl b],.dat (dT R),.dat (dR r),.dat odd,.dat (.lst rw4),.dat one,.dat oth,.dat (.lst (s2++s4++s3)),.dat (.int v1),.dat (.int v2)]) ?_ rfl,a60,?_⟩
 rotate_left
 ·rcases Zf.mp md with h|h
  ·rcases Zf.mp h with h|h
   ·exact z2 d h
   ·exact z4' d h
  ·exact z3 d h
 show Kc [.par [.int a,.bl b],.dat (dT R),.nil,.nil,.nil,.nil,.nil,.nil,.nil,.nil]=_;unfold Kc;exact F1 s1 (F1 s2' (F1 s3' (F1 s4' (F1 s5 (F1 s6 (F1 s7 (F1 s8 (F1 s9 (P5 (D4 rfl (D4 rfl t6 ej6) hd))))))))))
theorem iP{a:Int}{b:Bool}(ha:0≤a):∃d a',DM [.par [.int a,.bl b]]=some (.d d,[.par [.int a',.bl b]])/\0≤a'/\Sz d:=by
 obtain⟨v,a1,t,p,q,a10⟩:=Af (i:=0) (e:=[.par [.int a,.bl b],.dat (.lst [.non,.bl true,.bl false,.int (-1),.int 0,.int 1,.str "",.str "+",.tup [],.lst [],.tup [.bl true],.lst [.tup [.int 1]],.emp,.tup [.non],.tup [.tup [.bl true]]])]) (w:=.par [.int a,.bl b]) (k:=20) (M:=mC (.int 20)) rfl rfl rfl ha (by omega) (by omega)
 change c9 2 _ _ _=some (_,[.par [.int a1,.bl b],.dat (.lst [.non,.bl true,.bl false,.int (-1),.int 0,.int 1,.str "",.str "+",.tup [],.lst [],.tup [.bl true],.lst [.tup [.int 1]],.emp,.tup [.non],.tup [.tup [.bl true]]])])at t;obtain⟨d,hd,ed⟩:=DV (ds:=[.non,.bl true,.bl false,.int (-1),.int 0,.int 1,.str "",.str "+",.tup [],.lst [],.tup [.bl true],.lst [.tup [.int 1]],.emp,.tup [.non],.tup [.tup [.bl true]],.int 100000000000000000000000000000,.tup [.tup []],.tup [.tup [.int 0]],.tup [.tup [.int 1],.tup [.int 1]],.tup [.tup [.tup [.int 1]]]]) p q;refine⟨d,a1,Y1 (d:=d) (env:=[.par [.int a1,.bl b],.dat (.lst [.non,.bl true,.bl false,.int (-1),.int 0,.int 1,.str "",.str "+",.tup [],.lst [],.tup [.bl true],.lst [.tup [.int 1]],.emp,.tup [.non],.tup [.tup [.bl true]]])]) ?_ rfl,a10,?_⟩
 rotate_left
 ·simp only[Qg,Qa,Ze]at hd
  rcases hd with rfl|rfl|rfl|rfl|rfl|rfl|rfl|rfl|rfl|rfl|rfl|rfl|rfl|rfl|rfl|rfl|rfl|rfl|rfl|rfl<;>first|exact iO (by decide)|(intro es he;cases he;done)
 show Kb [.par [.int a,.bl b],.nil]=_;unfold Kb;refine F1 (e1:=[.par [.int a,.bl b],.dat (.lst [.non,.bl true,.bl false,.int (-1),.int 0,.int 1,.str "",.str "+",.tup [],.lst [],.tup [.bl true],.lst [.tup [.int 1]],.emp,.tup [.non],.tup [.tup [.bl true]]])]) rfl (P5 (D4 (J4 (HC rfl (J4 (W9 (C8 (D4 rfl rfl Kx) (C8 rfl (C8 rfl (C8 rfl (C8 rfl rfl))))) (by simp))) (by simp))) t ed))
section
variable{n:Nat}{s:List Int}
theorem RD{ks:OI}{vs:List D}(hv:∀s∈lJ n,lZ ks vs s=some (.int (Wy s)))(b:Bt n s):CC (.dct ks vs) (dR s)=some (.int (Wy s)):=by
 show(V5 (dR s)).bind _=_;rw[Ba,Qj];exact hv s b.mem
theorem RE:∀{T:OI}{s s':List Int},lM s T=some s'->nZ s (T.map dR)=some s'
 |[],s,s',h=>by unfold lM at h;exact h
 |r::T,s,s',h=>by
  unfold lM at h;split at h
  ·rename_i hr
   show(if((r.map D.int).all nJ=true/\(r.map D.int).map mU∈R s)then nZ (F6 s ((r.map D.int).map mU)) (T.map dR)else none)=_
   rw[PK];rw[Qc ⟨by simp[nJ],hr⟩]
   exact RE h
  ·cases h
theorem RF{ks:OI}{vs:List D}(hv:∀s∈lJ n,lZ ks vs s=some (.int (Wy s)))(h1:1≤n)(h6:n≤6){d:D}(hz:Sz d):
  (∀T s,d=dT T->lM (zs n) T=some s->∃ws,Y7 [.dat (.int (n:Int)),.dat d,.dat (.dct ks vs)]=some (.d (.int (Wy s)),ws))/\(¬ Ku n d->∃ws,Y7 [.dat (.int (n:Int)),.dat d,.dat (.dct ks vs)]=some (.d (.int 0),ws)):=by
 have hg:=fun s b=>RD (n:=n) (s:=s) hv b
 generalize D.dct ks vs=C at *;have early:(L4 (K0 (mT (nB "tuple" (A0 1)))) (mT (B8 qV (i5 J7 (B0 (A0 1) B6)) (A0 0)))) [.dat (.int (n:Int)),.dat d,.dat C,.nil,.nil]=some (true,[.dat (.int (n:Int)),.dat d,.dat C,.nil,.nil])->∃ws,Y7 [.dat (.int (n:Int)),.dat d,.dat C]=some (.d (.int 0),ws):=fun q=>
  ⟨_,Y1 (env:=[.dat (.int (n:Int)),.dat d,.dat C,.nil,.nil]) (by
   show CQ [.dat (.int (n:Int)),.dat d,.dat C,.nil,.nil]=_;unfold CQ;exact AU (BW q rfl)) rfl⟩
 cases d<;>first|exact⟨(fun T s e=>by cases e),fun _=>early (JI rfl)⟩|skip
 rename_i es;obtain⟨hl,hzs⟩:=hz es rfl;have ht:(L4 (K0 (mT (nB "tuple" (A0 1)))) (mT (B8 qV (i5 J7 (B0 (A0 1) B6)) (A0 0)))) [.dat (.int (n:Int)),.dat (.tup es),.dat C,.nil,.nil]=some (decide ((n:Int)<(es.length:Int)),[.dat (.int (n:Int)),.dat (.tup es),.dat C,.nil,.nil]):=Ei rfl (N2 (D4 rfl rfl rfl))
 by_cases hlen:(n:Int)<(es.length:Int)
 ·rw[Yx hlen]at ht
  refine⟨fun T s e hgo=>?_,fun _=>early ht⟩
  have:=Gv h1 h6 hgo;cases e;rw[Qk]at hlen
  omega
 ·rw[Zx hlen]at ht
  obtain⟨q1,q2⟩:=QZ (n:=n) (w0:=.dat (.int (n:Int))) (w1:=.dat (.tup es)) (w2:=.dat C) (ds:=es) (w4:=.nil) (nY h1 h6) hzs;have hz0:=Gw h1 h6;refine⟨fun T s e hgo=>?_,fun hb=>?_⟩
  ·have hD:nZ (zs n) es=some s:=by
    cases e;exact RE hgo
   obtain⟨w,q⟩:=q1 s hD;have hgs:=hg s (Y9 (nY h1 h6) hgo).1;refine⟨_,Y1 (env:=[.dat (.int (n:Int)),.dat (.tup es),.dat C,.dat (dR s),w]) ?_ rfl⟩;show CQ [.dat (.int (n:Int)),.dat (.tup es),.dat C,.nil,.nil]=_;unfold CQ;refine F1 (O4 ht rfl) (F1 (e1:=[.dat (.int (n:Int)),.dat (.tup es),.dat C,.dat (dR (zs n)),.nil]) (L7 (e1:=[.dat (.int (n:Int)),.dat (.tup es),.dat C,.nil,.nil]) (d:=dR (zs n)) (D4 rfl rfl hz0) rfl) (F1 ((Z3 (U0 rfl rfl)).trans q) (P5 (D4 rfl rfl hgs))))
  ·have hD:nZ (zs n) es=none:=by
    cases hq:nZ (zs n) es with
    |none=>rfl
    |some s=>
     obtain⟨T,rfl,hT⟩:=QY hq;exact absurd ⟨T,s,rfl,hT⟩ hb
   obtain⟨e,q⟩:=q2 hD;refine⟨_,Y1 (env:=e) ?_ rfl⟩;show CQ [.dat (.int (n:Int)),.dat (.tup es),.dat C,.nil,.nil]=_;unfold CQ;exact F1 (O4 ht rfl) (F1 (e1:=[.dat (.int (n:Int)),.dat (.tup es),.dat C,.dat (dR (zs n)),.nil]) (L7 (e1:=[.dat (.int (n:Int)),.dat (.tup es),.dat C,.nil,.nil]) (d:=dR (zs n)) (D4 rfl rfl hz0) rfl) (AU ((Z3 (U0 rfl rfl)).trans q)))
end
def Ky(o:Option Str):Bool:=match o with
 |some c=>decide (c="NoNumber")
 |none=>false
theorem iQ{o:Option Str}(h:Ky o=true):o=some ("NoNumber":Str):=by
 unfold Ky at h;split at h
 ·rw[Xr h]
 ·cases h
abbrev pB:List D:=[.int 0,.int 7,.int (-1),.bl true,.bl false,.non,.str "2",.tup [.int 2],.int 100000000000000000000000000000,.lst [.int 1]]
theorem iR:(pB.all fun o=>Ky (DL [.dat o,.dat (.int 1),.dat (.int 6),.dat (.str "side")]))=true:=by rfl'
theorem iS{o d:D}(h:o∈pB):R9 [.dat o,.dat d]=some ("NoNumber":Str):=by
 have q:=iQ (Qy.mp iR o h)
 show CN [.dat o,.dat d,.nil,.nil]=_;unfold CN;exact Gy (AB (av:=[.d o,.d (.int 1),.d (.int 6),.d (.str "side")]) rfl rfl rfl q)
def RG(o:Option D)(x:Str):Bool:=match o with
 |some (.str y)=>decide (y=x)
 |_=>false
theorem RH{o:Option D}{x:Str}(h:RG o x=true):o=some (.str x):=by
 unfold RG at h;split at h
 ·rw[Xr h]
 ·cases h
def RI(o:Option D):Bool:=match o with
 |some .non=>true
 |_=>false
theorem iT{o:Option D}(h:RI o=true):o=some .non:=by
 unfold RI at h;split at h
 ·rfl
 ·cases h
def RJ(o:Option D):Bool:=match o with
 |some (.bl false)=>true
 |_=>false
theorem Kz{o:Option D}(h:RJ o=true):o=some (.bl false):=by
 unfold RJ at h;split at h
 ·rfl
 ·cases h
theorem iU:j7 true (.str "rows") (.str "rows")=some (.bl false):=Kz (by rfl')
theorem iV:j7 true (.str "number") (.str "number")=some (.bl false):=Kz (by rfl')
theorem iW:j7 true .non .non=some (.bl false):=Kz (by rfl')
theorem iX:U4 (some ("NoRows":Str))=some (.str "rows"):=RH (by rfl')
theorem iY:U4 (some ("NoNumber":Str))=some (.str "number"):=RH (by rfl')
theorem iZ:U4 none=some .non:=iT (by rfl')
abbrev DW:List (Str×(List W->Option Str)):=[("many_so",V6),("share_so",Y5),("next_rows",Y6)]
abbrev FE:List (Str×Fn):=[("many_so",O1),("share_so",P8),("next_rows",AD)]
def Ag(n:Nat)(nm:Str):Prop:=∃g fn,DW.lookup nm=some g/\FE.lookup nm=some fn/\(∀a d (c:Str),R9 [.dat a,.dat d]=some c->g [.dat a,.dat d]=some c)/\(∀T s,lM (zs n) T=some s->g [.dat (.int (n:Int)),.dat (dT T)]=none/\∃r ws,fn [.dat (.int (n:Int)),.dat (dT T)]=some (r,ws))
section
variable{n:Nat}
theorem jA(h1:1≤n)(h6:n≤6):Ag n "many_so":=⟨V6,O1,by rfl,by rfl,fun a d c h=>QV h,fun T s h=>⟨QX h1 h6 h,_,_,FD h1 h6 h⟩⟩
theorem jB(h1:1≤n)(h6:n≤6):Ag n "share_so":=⟨Y5,P8,by rfl,by rfl,fun a d c h=>iH h,fun T s h=>⟨iJ h1 h6 h,_,_,Gz h1 h6 h⟩⟩
theorem jC(h1:1≤n)(h6:n≤6):Ag n "next_rows":=⟨Y6,AD,by rfl,by rfl,fun a d c h=>iI h,fun T s h=>⟨iK h1 h6 h,_,iL h1 h6 h⟩⟩
abbrev F5(w0 w1 w2 w3 w4 w5 w6 w7 w8 w9 w10 w11 w12:W):a9:=[w0,w1,w2,w3,w4,w5,w6,w7,w8,w9,w10,w11,w12]
abbrev rV:Mo D:=W3 xN [false,false,false,true,false,false,false,false,false,true,false,false,true] (AA 2 12 FE (B4 (A0 3) (B4 (A0 9) B9))) (pY 2 12 DW (B4 (A0 3) (B4 (A0 9) B9))) U4
abbrev vG:Mo D:=W3 xN [false,false,false,false,false,false,false,true,false,true,false,false,true] (AA 2 12 FE (B4 (A0 7) (B4 (A0 9) B9))) (pY 2 12 DW (B4 (A0 7) (B4 (A0 9) B9))) U4
variable{w0 w1 w2 w3 w4 w5 w6 w7 w8 w9 w10 w11:W}{nm:Str}{d o:D}
theorem jD{c:Str}{r:D}(t:Ag n nm)(hg:R9 [.dat (.int (n:Int)),.dat d]=some c)(hn:xN.contains c=true)(hf:U4 (some c)=some r):rV (F5 w0 w1 w2 (.dat (.int (n:Int))) w4 w5 w6 w7 w8 (.dat d) w10 w11 (.dat (.obj (.fn nm))))=some (r,F5 w0 w1 w2 (.dat (.int (n:Int))) w4 w5 w6 w7 w8 (.dat d) w10 w11 (.dat (.obj (.fn nm)))):=by
 obtain⟨g,fn,k1,k2,k3,k4⟩:=t;refine Oe (lw:=[.nil,.nil,.nil,.dat (.int (n:Int)),.nil,.nil,.nil,.nil,.nil,.dat d,.nil,.nil,.dat (.obj (.fn nm))]) rfl ?_ hn hf;show(DW.lookup nm).bind _=_;rw[k1,Qj];exact AB (av:=[.d (.int (n:Int)),.d d]) rfl rfl rfl (k3 _ _ _ hg)
theorem jE{c:Str}{r:D}(t:Ag n nm)(hg:R9 [.dat o,.dat d]=some c)(hn:xN.contains c=true)(hf:U4 (some c)=some r):vG (F5 w0 w1 w2 w3 w4 w5 w6 (.dat o) w8 (.dat d) w10 w11 (.dat (.obj (.fn nm))))=some (r,F5 w0 w1 w2 w3 w4 w5 w6 (.dat o) w8 (.dat d) w10 w11 (.dat (.obj (.fn nm)))):=by
 obtain⟨g,fn,k1,k2,k3,k4⟩:=t;refine Oe (lw:=[.nil,.nil,.nil,.nil,.nil,.nil,.nil,.dat o,.nil,.dat d,.nil,.nil,.dat (.obj (.fn nm))]) rfl ?_ hn hf;show(DW.lookup nm).bind _=_;rw[k1,Qj];exact AB (av:=[.d o,.d d]) rfl rfl rfl (k3 _ _ _ hg)
theorem jF{T:OI}{s:List Int}(t:Ag n nm)(hg:lM (zs n) T=some s):rV (F5 w0 w1 w2 (.dat (.int (n:Int))) w4 w5 w6 w7 w8 (.dat (dT T)) w10 w11 (.dat (.obj (.fn nm))))=some (.non,F5 w0 w1 w2 (.dat (.int (n:Int))) w4 w5 w6 w7 w8 (.dat (dT T)) w10 w11 (.dat (.obj (.fn nm)))):=by
 obtain⟨g,fn,k1,k2,k3,k4⟩:=t;obtain⟨q1,r,ws,q2⟩:=k4 T s hg;generalize dT T=A at *;have hc:AA 2 12 FE (B4 (A0 3) (B4 (A0 9) B9)) [.nil,.nil,.nil,.dat (.int (n:Int)),.nil,.nil,.nil,.nil,.nil,.dat A,.nil,.nil,.dat (.obj (.fn nm))]=tD (r,[.nil,.nil,.nil,.dat (.int (n:Int)),.nil,.nil,.nil,.nil,.nil,.dat A,.nil,.nil,.dat (.obj (.fn nm))]):=by
  show(FE.lookup nm).bind _=_;rw[k2,Qj];have hcall:V0 2 fn (B4 (A0 3) (B4 (A0 9) B9)) [.nil,.nil,.nil,.dat (.int (n:Int)),.nil,.nil,.nil,.nil,.nil,.dat A,.nil,.nil,.dat (.obj (.fn nm))]=some (r,[.nil,.nil,.nil,.dat (.int (n:Int)),.nil,.nil,.nil,.nil,.nil,.dat A,.nil,.nil,.dat (.obj (.fn nm))]):=X7 (av:=[.d (.int (n:Int)),.d A]) rfl rfl rfl q2;show(V0 2 fn _ _).bind tD=_;rw[hcall,Qj]
 obtain⟨p,hp⟩:∃p,tD (r,[.nil,.nil,.nil,.dat (.int (n:Int)),.nil,.nil,.nil,.nil,.nil,.dat A,.nil,.nil,.dat (.obj (.fn nm))])=some p:=by cases r<;>exact⟨_,rfl⟩
 rw[hp]at hc;refine bK (lw:=[.nil,.nil,.nil,.dat (.int (n:Int)),.nil,.nil,.nil,.nil,.nil,.dat A,.nil,.nil,.dat (.obj (.fn nm))]) rfl ?_ hc iZ;show(DW.lookup nm).bind _=_;rw[k1,Qj];exact AB (av:=[.d (.int (n:Int)),.d A]) rfl rfl rfl q1
abbrev b3:Mo Fl:=C6 (F3 (mT (B8 (j7 true) rV (A0 11))) (E2 (mC (.bl false))) kO) (F3 (mT (B8 (j7 true) vG (mC (.str "number")))) (E2 (mC (.bl false))) kO)
theorem jG{wd:D}(t:Ag n nm)(ho:o∈pB)(hw:j7 true wd wd=some (.bl false))(h1:rV (F5 w0 w1 w2 (.dat (.int (n:Int))) w4 w5 w6 (.dat o) w8 (.dat d) w10 (.dat wd) (.dat (.obj (.fn nm))))=some (wd,F5 w0 w1 w2 (.dat (.int (n:Int))) w4 w5 w6 (.dat o) w8 (.dat d) w10 (.dat wd) (.dat (.obj (.fn nm))))):
  b3 (F5 w0 w1 w2 (.dat (.int (n:Int))) w4 w5 w6 (.dat o) w8 (.dat d) w10 (.dat wd) (.dat (.obj (.fn nm))))=some (.nx,F5 w0 w1 w2 (.dat (.int (n:Int))) w4 w5 w6 (.dat o) w8 (.dat d) w10 (.dat wd) (.dat (.obj (.fn nm)))):=by
 have h2:=jE (n:=n) (w0:=w0) (w1:=w1) (w2:=w2) (w3:=.dat (.int (n:Int))) (w4:=w4) (w5:=w5) (w6:=w6) (w8:=w8) (w10:=w10) (w11:=.dat wd) (d:=d) t (iS ho) (by rfl') iY
 exact F1 (O4 (N2 (D4 h1 rfl hw)) rfl) (O4 (N2 (D4 h2 rfl iV)) rfl)
abbrev fns:List D:=[.obj (.fn "many_so"),.obj (.fn "share_so"),.obj (.fn "next_rows")]
theorem jH{wd:D}(h1:1≤n)(h6:n≤6)(ho:o∈pB)(hw:j7 true wd wd=some (.bl false))(hr:∀nm,Ag n nm->rV (F5 w0 w1 w2 (.dat (.int (n:Int))) w4 w5 w6 (.dat o) w8 (.dat d) w10 (.dat wd) (.dat (.obj (.fn nm))))=some (wd,F5 w0 w1 w2 (.dat (.int (n:Int))) w4 w5 w6 (.dat o) w8 (.dat d) w10 (.dat wd) (.dat (.obj (.fn nm)))))(w12:W):
  ∃x12,loop (gN 12) b3 fns (F5 w0 w1 w2 (.dat (.int (n:Int))) w4 w5 w6 (.dat o) w8 (.dat d) w10 (.dat wd) w12)=some (.nx,F5 w0 w1 w2 (.dat (.int (n:Int))) w4 w5 w6 (.dat o) w8 (.dat d) w10 (.dat wd) x12):=by
 have q:∀nm,Ag n nm->b3 (F5 w0 w1 w2 (.dat (.int (n:Int))) w4 w5 w6 (.dat o) w8 (.dat d) w10 (.dat wd) (.dat (.obj (.fn nm))))=some (.nx,F5 w0 w1 w2 (.dat (.int (n:Int))) w4 w5 w6 (.dat o) w8 (.dat d) w10 (.dat wd) (.dat (.obj (.fn nm)))):=fun nm t=>jG t ho hw (hr nm t)
 exact⟨_,DT rfl (q _ (jA h1 h6)) (DT rfl (q _ (jB h1 h6)) (DT rfl (q _ (jC h1 h6)) rfl))⟩
abbrev jI:Mo Fl:=D0 11 (B8 lP (mF (F7 (B0 (mC .non) (B0 (mC (.str "rows")) B6)))) (i5 AR (B0 (B8 (j7 false) (c9 3 Y7 (B4 (A0 3) (B4 (A0 9) (B4 (A0 4) B9)))) (mC (.int 0))) B6)))
abbrev b2:Mo Fl:=(C6 (D0 11 (B8 lP (mF (F7 (B0 (mC .non) (B0 (mC (.str "rows")) B6)))) (i5 AR (B0 (B8 (j7 false) (c9 3 Y7 (B4 (A0 3) (B4 (A0 9) (B4 (A0 4) B9)))) (mC (.int 0))) B6)))) (M6 (F4 (mF (F7 (B0 (mC (.obj (.fn "many_so"))) (B0 (mC (.obj (.fn "share_so"))) (B0 (mC (.obj (.fn "next_rows"))) B6)))))) (gN 12) (C6 (F3 (mT (B8 (j7 true) (W3 xN [false,false,false,true,false,false,false,false,false,true,false,false,true] (AA 2 12 [("many_so",O1),("share_so",P8),("next_rows",AD)] (B4 (A0 3) (B4 (A0 9) B9))) (pY 2 12 [("many_so",V6),("share_so",Y5),("next_rows",Y6)] (B4 (A0 3) (B4 (A0 9) B9))) U4) (A0 11))) (E2 (mC (.bl false))) kO) (F3 (mT (B8 (j7 true) (W3 xN [false,false,false,false,false,false,false,true,false,true,false,false,true] (AA 2 12 [("many_so",O1),("share_so",P8),("next_rows",AD)] (B4 (A0 7) (B4 (A0 9) B9))) (pY 2 12 [("many_so",V6),("share_so",Y5),("next_rows",Y6)] (B4 (A0 7) (B4 (A0 9) B9))) U4) (mC (.str "number")))) (E2 (mC (.bl false))) kO))))
theorem jJ{ks:OI}{vs:List D}(hv:∀s∈lJ n,lZ ks vs s=some (.int (Wy s)))(h1:1≤n)(h6:n≤6)(ho:o∈pB)(hz:Sz d)(w12:W):
  ∃x11 x12,b2 (F5 w0 w1 w2 (.dat (.int (n:Int))) (.dat (.dct ks vs)) w5 w6 (.dat o) w8 (.dat d) w10 w11 w12)=some (.nx,F5 w0 w1 w2 (.dat (.int (n:Int))) (.dat (.dct ks vs)) w5 w6 (.dat o) w8 (.dat d) w10 x11 x12):=by
 obtain⟨q1,q2⟩:=RF hv h1 h6 hz;obtain⟨wd,hset,hw,hr⟩:∃wd,jI (F5 w0 w1 w2 (.dat (.int (n:Int))) (.dat (.dct ks vs)) w5 w6 (.dat o) w8 (.dat d) w10 w11 w12)=some (.nx,F5 w0 w1 w2 (.dat (.int (n:Int))) (.dat (.dct ks vs)) w5 w6 (.dat o) w8 (.dat d) w10 (.dat wd) w12)/\j7 true wd wd=some (.bl false)/\∀nm,Ag n nm->rV (F5 w0 w1 w2 (.dat (.int (n:Int))) (.dat (.dct ks vs)) w5 w6 (.dat o) w8 (.dat d) w10 (.dat wd) (.dat (.obj (.fn nm))))=some (wd,F5 w0 w1 w2 (.dat (.int (n:Int))) (.dat (.dct ks vs)) w5 w6 (.dat o) w8 (.dat d) w10 (.dat wd) (.dat (.obj (.fn nm)))):=by
  generalize D.dct ks vs=C at *
  rcases QS h1 h6 hz with⟨⟨T,s,rfl,hgo⟩,hg⟩|⟨hb,hg⟩
  ·obtain⟨ws,e⟩:=q1 T s rfl hgo
   have hp:=QK (Y9 (nY h1 h6) hgo).1
   have hne:j7 false (.int (Wy s)) (.int 0)=some (.bl false):=by
    rw[Ml];have:(Wy s==0)=false:=by rw[beq_eq_false_iff_ne];omega
    simp[this]
   generalize hA:dT T=A at *;refine⟨.non,L7 (e1:=F5 w0 w1 w2 (.dat (.int (n:Int))) (.dat C) w5 w6 (.dat o) w8 (.dat A) w10 w11 w12) (d:=.non) (D4 (J4 (W9 (C8 rfl (C8 rfl rfl)) (by simp))) (P4 (d:=.int 0) (C8 (D4 (K3 (av:=[.d (.int (n:Int)),.d A,.d C]) rfl rfl rfl e) rfl hne) rfl) rfl) rfl) rfl,iW,fun nm t=>?_⟩
   rw[←hA];exact jF t hgo
  ·obtain⟨ws,e⟩:=q2 hb
   have hne:j7 false (.int 0) (.int 0)=some (.bl true):=rfl
   refine⟨.str "rows",L7 (e1:=F5 w0 w1 w2 (.dat (.int (n:Int))) (.dat C) w5 w6 (.dat o) w8 (.dat d) w10 w11 w12) (d:=.str "rows") (D4 (J4 (W9 (C8 rfl (C8 rfl rfl)) (by simp))) (P4 (d:=.int 1) (C8 (D4 (K3 (av:=[.d (.int (n:Int)),.d d,.d C]) rfl rfl rfl e) rfl hne) rfl) rfl) rfl) rfl,iU,fun nm t=>jD t hg (by rfl') iX⟩
 obtain⟨x12,hl⟩:=jH (w0:=w0) (w1:=w1) (w2:=w2) (w4:=.dat (.dct ks vs)) (w5:=w5) (w6:=w6) (w8:=w8) (w10:=w10) h1 h6 ho hw hr w12;exact⟨_,_,F1 hset ((Z3 (U0 (J4 (W9 (C8 rfl (C8 rfl (C8 rfl rfl))) (by simp))) rfl)).trans hl)⟩
abbrev b1:Mo Fl:=(C6 (D0 10 (c9 3 Y7 (B4 (A0 3) (B4 (A0 6) (B4 (A0 4) B9))))) (C6 (F3 (K0 (mT (c9 2 (P9 6) (B4 (c9 2 O1 (B4 (A0 3) (B4 (A0 6) B9))) (B4 (A0 10) B9))))) (E2 (mC (.bl false))) kO) (F3 (K0 (mT (c9 2 (P9 6) (B4 (c9 2 P8 (B4 (A0 3) (B4 (A0 6) B9))) (B4 (c9 2 DN (B4 (A0 10) (B4 (B8 CC (A0 4) (B8 M5 (D1 (B0 (mC (.int 0)) B6)) (A0 3))) B9))) B9))))) (E2 (mC (.bl false))) kO)))
theorem jK{ks:OI}{vs:List D}(hv:∀s∈lJ n,lZ ks vs s=some (.int (Wy s)))(h1:1≤n)(h6:n≤6){T:OI}{s:List Int}(hgo:lM (zs n) T=some s)(w12:W):
  b1 (F5 w0 w1 w2 (.dat (.int (n:Int))) (.dat (.dct ks vs)) w5 (.dat (dT T)) w7 w8 w9 w10 w11 w12)=some (.nx,F5 w0 w1 w2 (.dat (.int (n:Int))) (.dat (.dct ks vs)) w5 (.dat (dT T)) w7 w8 w9 (.dat (.int (Wy s))) w11 w12):=by
 have hl:=Gv h1 h6 hgo
 have hb:=(Y9 (nY h1 h6) hgo)
 obtain⟨ws,e⟩:=(RF hv h1 h6 (Kt h6 (by omega) hb.2.1)).1 T s rfl hgo
 have em:=FD h1 h6 hgo
 have es:=Gz h1 h6 hgo
 have hW:=DR hb.1
 have hW0:=DR (nY h1 h6)
 have ec:=gH hW.1 hW0.1 hW.2 hW0.2
 rw[Bd,Bd]at ec;have hget:=RD hv (nY h1 h6);have hz:=Gw h1 h6;obtain⟨wf,sf⟩:=gR 4 (Wn s) (Wn (zs n));have si:=Kq 5 (Wy s);generalize dT T=A at *;generalize D.dct ks vs=C at *;refine F1 (L7 (d:=.int (Wy s)) (e1:=F5 w0 w1 w2 (.dat (.int (n:Int))) (.dat C) w5 (.dat A) w7 w8 w9 w10 w11 w12) (K3 (av:=[.d (.int (n:Int)),.d A,.d C]) rfl rfl rfl e) rfl) ?_
 refine F1 (e1:=F5 w0 w1 w2 (.dat (.int (n:Int))) (.dat C) w5 (.dat A) w7 w8 w9 (.dat (.int (Wy s))) w11 w12) (O4 (Cr (b:=true) (N2 (K3 (av:=[.d (.int (Wy s)),.d (.int (Wy s))]) (W2 (K3 (av:=[.d (.int (n:Int)),.d A]) rfl rfl rfl em) (W2 rfl rfl)) rfl rfl si))) rfl) ?_
 refine O4 (Cr (b:=true) (N2 (K3 (av:=[.d (pF (Wn s) (Wn (zs n))),.d (pF (Wn s) (Wn (zs n)))]) (W2 (K3 (av:=[.d (.int (n:Int)),.d A]) rfl rfl rfl es) (W2 (K3 (av:=[.d (.int (Wy s)),.d (.int (Wy (zs n)))]) (W2 rfl (W2 (D4 rfl (D4 rfl rfl hz) hget) rfl)) rfl rfl ec) rfl)) rfl rfl sf))) rfl
end
abbrev t0:Mo Fl:=(F3 (L4 (mT (B8 (j7 true) (c9 2 O1 (B4 (mC (.int 3)) (B4 (D1 (B0 (D1 (B0 (mC (.int 0)) (B0 (mC (.int 1)) (B0 (mC (.int 0)) B6)))) B6)) B9))) (mC (.int 3)))) (L4 (mT (B8 (j7 true) (c9 2 P8 (B4 (mC (.int 3)) (B4 (D1 (B0 (D1 (B0 (mC (.int 0)) (B0 (mC (.int 1)) (B0 (mC (.int 0)) B6)))) B6)) B9))) (D1 (B0 (mC (.int 3)) (B0 (mC (.int 7)) B6))))) (mT (B8 (j7 true) (c9 2 P8 (B4 (mC (.int 1)) (B4 (D1 B6) B9))) (D1 (B0 (mC (.int 1)) (B0 (mC (.int 1)) B6))))))) (E2 (mC (.bl false))) kO)
theorem RK:lM (zs 3) [[0,1,0]]=some [0,1,0]:=by rfl'
theorem jL:lM (zs 1) []=some [0]:=rfl
theorem jM:pF (Wn [0,1,0]) (Wn (zs 3))=.tup [.int 3,.int 7]:=by rfl
theorem jN:pF (Wn [0]) (Wn (zs 1))=.tup [.int 1,.int 1]:=by rfl
theorem w3:Wy [0,1,0]=3:=by rfl'
theorem jO:j7 true (.tup [.int 3,.int 7]) (.tup [.int 3,.int 7])=some (.bl false):=by rfl
theorem jP:j7 true (.tup [.int 1,.int 1]) (.tup [.int 1,.int 1])=some (.bl false):=by rfl
theorem jQ(e:a9):t0 e=some (.nx,e):=by
 have e1:=FD (n:=3) (by decide) (by decide) RK
 have e2:=Gz (n:=3) (by decide) (by decide) RK
 have e3:=Gz (n:=1) (by decide) (by decide) jL
 rw[w3]at e1;rw[jM]at e2;rw[jN]at e3;refine O4 (Ei (N2 (D4 (K3 (av:=[.d (.int 3),.d (.tup [.tup [.int 0,.int 1,.int 0]])]) rfl rfl rfl e1) rfl rfl)) (Ei (N2 (D4 (K3 (av:=[.d (.int 3),.d (.tup [.tup [.int 0,.int 1,.int 0]])]) rfl rfl rfl e2) rfl jO)) (N2 (D4 (K3 (av:=[.d (.int 1),.d (.tup [])]) rfl rfl rfl e3) rfl jP)))) rfl
theorem Tab.fn{T:OI}{n:Nat}(t:Tab T)(hn:T.length=n):∃f,T=gm n n f/\nE n f:=by
 subst hn;refine⟨at2 T,Pe rfl t.len,?_⟩;have h:=t.ok;rw[Pe rfl t.len]at h;exact(gB.mp h).2
theorem HD{m:Mo D}{ml mh:Mo (Option Int)}{e e2:a9}{xs:List D}{lo hi:Option Int}(h:m e=some (.tup xs,e))(h1:ml e=some (lo,e))(h2:mh e=some (hi,e2)):kZ m ml mh e=some (.tup (J8 xs lo hi),e2):=by
 unfold kZ;rw[h];simp only[Qj];rw[h1];simp only[Qj];rw[h2];rfl
theorem HE{m:Mo D}{e e1:a9}{i:Int}(h:m e=some (.int i,e1)):J2 m e=some (some i,e1):=by
 unfold J2;rw[h];rfl
section
variable{n:Nat}{f:OO}
theorem RL{m:Nat}{i:Int}(hi:i=(m:Int))(hm:m≤n):D.tup (J8 ((gm n n f).map dR) none (some i))=dT (fst n f m):=by
 subst hi;rw[gW hm];rfl
theorem jR(h6:n≤6){lo hi:Option Int}:Sz (.tup (J8 ((gm n n f).map dR) lo hi)):=by
 refine Bi ?_ fun x hx=>?_
 ·have:=HA ((gm n n f).map dR) lo hi
  rw[Qk,Ae]at this
  omega
 ·obtain⟨r,hr,rfl⟩:=Zq.mp (RB hx)
  exact Bg (by have:=Gn r hr;simp;omega)
end
abbrev lw:Mo Fl:=(C6 (O7 2 (M3 2 Es (B4 (A0 0) (B4 (A0 1) B9)))) (C6 (D0 3 (B8 D7 (mC (.int 1)) (c9 2 K5 (G0 2 (B4 (mC (.int 6)) B9))))) (C6 (D0 4 (c9 1 Ew (B4 (A0 3) B9))) (C6 (D0 5 (c9 2 Eu (G0 2 (B4 (A0 3) B9)))) (C6 (M6 (F4 (mF (F7 (B0 (kZ (A0 5) J3 (J2 (c9 2 K5 (G0 2 (B4 (B8 D7 (A0 3) (mC (.int 1))) B9))))) (B0 (D1 B6) (B0 (A0 5) (B0 (kZ (A0 5) J3 (J2 (mC (.int 1)))) B6))))))) (gN 6) (C6 (D0 10 (c9 3 Y7 (B4 (A0 3) (B4 (A0 6) (B4 (A0 4) B9))))) (C6 (F3 (K0 (mT (c9 2 (P9 6) (B4 (c9 2 O1 (B4 (A0 3) (B4 (A0 6) B9))) (B4 (A0 10) B9))))) (E2 (mC (.bl false))) kO) (F3 (K0 (mT (c9 2 (P9 6) (B4 (c9 2 P8 (B4 (A0 3) (B4 (A0 6) B9))) (B4 (c9 2 DN (B4 (A0 10) (B4 (B8 CC (A0 4) (B8 M5 (D1 (B0 (mC (.int 0)) B6)) (A0 3))) B9))) B9))))) (E2 (mC (.bl false))) kO)))) (C6 (D0 7 (B8 lP (mF (F7 (B0 (mC (.int 0)) (B0 (mC (.int 7)) (B0 (T2 (mC (.int 1))) (B0 (mC (.bl true)) (B0 (mC (.bl false)) (B0 (mC .non) (B0 (mC (.str "2")) (B0 (D1 (B0 (mC (.int 2)) B6)) (B0 (B8 U6 (mC (.int 10)) (mC (.int 29))) (B0 (mF (F7 (B0 (mC (.int 1)) B6))) B6)))))))))))) (c9 2 K5 (G0 2 (B4 (mC (.int 10)) B9))))) (C6 (D0 8 (mF (F7 (B0 (c9 2 Az (G0 2 (B4 (A0 5) B9))) (B0 (c9 2 Az (G0 2 (B4 (A0 5) B9))) (B0 (kZ (A0 5) (J2 (mC (.int 1))) J3) (B0 (mF (pU Bs (B0 (kZ (A0 5) J3 (J2 (mC (.int 1)))) B6))) (B0 (c9 1 DM (G0 2 B9)) B6)))))))) (M6 (F4 (A0 8)) (gN 9) (C6 (D0 11 (B8 lP (mF (F7 (B0 (mC .non) (B0 (mC (.str "rows")) B6)))) (i5 AR (B0 (B8 (j7 false) (c9 3 Y7 (B4 (A0 3) (B4 (A0 9) (B4 (A0 4) B9)))) (mC (.int 0))) B6)))) (M6 (F4 (mF (F7 (B0 (mC (.obj (.fn "many_so"))) (B0 (mC (.obj (.fn "share_so"))) (B0 (mC (.obj (.fn "next_rows"))) B6)))))) (gN 12) (C6 (F3 (mT (B8 (j7 true) (W3 xN [false,false,false,true,false,false,false,false,false,true,false,false,true] (AA 2 12 [("many_so",O1),("share_so",P8),("next_rows",AD)] (B4 (A0 3) (B4 (A0 9) B9))) (pY 2 12 [("many_so",V6),("share_so",Y5),("next_rows",Y6)] (B4 (A0 3) (B4 (A0 9) B9))) U4) (A0 11))) (E2 (mC (.bl false))) kO) (F3 (mT (B8 (j7 true) (W3 xN [false,false,false,false,false,false,false,true,false,true,false,false,true] (AA 2 12 [("many_so",O1),("share_so",P8),("next_rows",AD)] (B4 (A0 7) (B4 (A0 9) B9))) (pY 2 12 [("many_so",V6),("share_so",Y5),("next_rows",Y6)] (B4 (A0 7) (B4 (A0 9) B9))) U4) (mC (.str "number")))) (E2 (mC (.bl false))) kO))))))))))))
theorem jS(ns:List Int)(k:Nat)(hk:k<1000)(w2 w3 w4 w5 w6 w7 w8 w9 w10 w11 w12:W):∃ws':List W,ws'.length=12/\lw (F5 (.dat (.lst (ns.map .int))) (.dat (.int k)) w2 w3 w4 w5 w6 w7 w8 w9 w10 w11 w12)=some (.nx,.dat (.lst (ns.map .int))::ws'):=by
 obtain⟨a,b,a0,est⟩:=fG ns k hk;generalize D.lst (ns.map .int)=Z at *;obtain⟨v,a1,et,v0,v1,a10⟩:=Af (i:=2) (e:=F5 (.dat Z) (.dat (.int k)) (.own [.int a,.bl b]) w3 w4 w5 w6 w7 w8 w9 w10 w11 w12) (w:=.own [.int a,.bl b]) (a:=a) (k:=6) (b:=b) (M:=mC (.int 6)) rfl rfl rfl a0 (by decide) (by decide)
 obtain⟨n,hn⟩:∃n:Nat,(1:Int)+v=(n:Int):=⟨(1+v).toNat,by omega⟩
 have h1:1≤n:=by omega
 have h6:n≤6:=by omega
 obtain⟨vs,wsC,eC,hv⟩:=gP h1 h6;obtain⟨T,a2,eT,a20,t1,l1⟩:=fY (a:=a1) (b:=b) a10 h1 h6;obtain⟨f,rfl,F⟩:=t1.fn l1;obtain⟨v3,a3,et3,v30,v31,a30⟩:=Af (i:=2) (e:=F5 (.dat Z) (.dat (.int k)) (.own [.int a2,.bl b]) (.dat (.int (n:Int))) (.dat (.dct (sl n) vs)) (.dat (dT (gm n n f))) w6 w7 w8 w9 w10 w11 w12) (w:=.own [.int a2,.bl b]) (a:=a2) (k:=(n:Int)+1) (b:=b) (M:=B8 D7 (A0 3) (mC (.int 1))) rfl rfl rfl a20 (by omega) (by omega)
 obtain⟨m3,qD⟩:∃m:Nat,v3=(m:Int):=⟨v3.toNat,by omega⟩
 obtain⟨e',he,x6,x10,rfl⟩:=IH (g:=gN 6) (b:=b1) (P:=fun e=>∃x6 x10,e=F5 (.dat Z) (.dat (.int k)) (.own [.int a3,.bl b]) (.dat (.int (n:Int))) (.dat (.dct (sl n) vs)) (.dat (dT (gm n n f))) x6 w7 w8 w9 x10 w11 w12) (ds:=[.tup (J8 ((gm n n f).map dR) none (some v3)),.tup [],dT (gm n n f),.tup (J8 ((gm n n f).map dR) none (some 1))]) (env:=F5 (.dat Z) (.dat (.int k)) (.own [.int a3,.bl b]) (.dat (.int (n:Int))) (.dat (.dct (sl n) vs)) (.dat (dT (gm n n f))) w6 w7 w8 w9 w10 w11 w12) (fun d hd e ⟨x6,x10,he⟩=>by
  subst he;obtain⟨m,hm,rfl⟩:∃m:Nat,m≤n/\d=dT (fst n f m):=by
   simp only[Qg,Qa,Ze]at hd
   rcases hd with rfl|rfl|rfl|rfl
   ·exact⟨m3,by omega,RL qD (by omega)⟩
   ·exact⟨0,by omega,rfl⟩
   ·exact⟨n,by omega,rfl⟩
   ·exact⟨1,by omega,RL rfl (by omega)⟩
  exact⟨_,_,rfl,jK hv h1 h6 (gZ h1 h6 F hm) w12,_,_,rfl⟩) ⟨_,_,rfl⟩
 obtain⟨v4,a4,et4,v40,v41,a40⟩:=Af (i:=2) (e:=F5 (.dat Z) (.dat (.int k)) (.own [.int a3,.bl b]) (.dat (.int (n:Int))) (.dat (.dct (sl n) vs)) (.dat (dT (gm n n f))) x6 w7 w8 w9 x10 w11 w12) (w:=.own [.int a3,.bl b]) (a:=a3) (k:=10) (b:=b) (M:=mC (.int 10)) rfl rfl rfl a30 (by decide) (by decide)
 obtain⟨o,ho,eo⟩:=DV (ds:=pB) v40 v41;obtain⟨d1,a5,eb1,a50,z1⟩:=RC (a:=a4) (b:=b) h1 h6 (Ae (n:=n) (m:=n) (f:=f)) Gn a40;obtain⟨d2,a6,eb2,a60,z2⟩:=RC (a:=a5) (b:=b) h1 h6 (Ae (n:=n) (m:=n) (f:=f)) Gn a50;obtain⟨d5,a7,eb5,a70,z5⟩:=iP (a:=a6) (b:=b) a60;have z3:=jR (f:=f) h6 (lo:=some 1) (hi:=none);obtain⟨e8,he8,x9,x11,x12,rfl⟩:=IH (g:=gN 9) (b:=b2) (P:=fun e=>∃x9 x11 x12,e=F5 (.dat Z) (.dat (.int k)) (.own [.int a7,.bl b]) (.dat (.int (n:Int))) (.dat (.dct (sl n) vs)) (.dat (dT (gm n n f))) x6 (.dat o) (.dat (.lst [d1,d2,.tup (J8 ((gm n n f).map dR) (some 1) none),.lst (J8 ((gm n n f).map dR) none (some 1)),d5])) x9 x10 x11 x12) (ds:=[d1,d2,.tup (J8 ((gm n n f).map dR) (some 1) none),.lst (J8 ((gm n n f).map dR) none (some 1)),d5]) (env:=F5 (.dat Z) (.dat (.int k)) (.own [.int a7,.bl b]) (.dat (.int (n:Int))) (.dat (.dct (sl n) vs)) (.dat (dT (gm n n f))) x6 (.dat o) (.dat (.lst [d1,d2,.tup (J8 ((gm n n f).map dR) (some 1) none),.lst (J8 ((gm n n f).map dR) none (some 1)),d5])) w9 x10 w11 w12) (fun d hd e ⟨x9,x11,x12,he⟩=>by
  subst he;have hz:Sz d:=by
   simp only[Qg,Qa,Ze]at hd
   rcases hd with rfl|rfl|rfl|rfl|rfl
   ·exact z1
   ·exact z2
   ·exact z3
   ·intro es he;cases he
   ·exact z5
  obtain⟨y11,y12,q⟩:=jJ (w0:=.dat Z) (w1:=.dat (.int k)) (w2:=.own [.int a7,.bl b]) (w5:=.dat (dT (gm n n f))) (w6:=x6) (w8:=.dat (.lst [d1,d2,.tup (J8 ((gm n n f).map dR) (some 1) none),.lst (J8 ((gm n n f).map dR) none (some 1)),d5])) (w10:=x10) (w11:=x11) hv h1 h6 ho hz x12;exact⟨_,_,rfl,q,_,_,_,rfl⟩) ⟨_,_,_,rfl⟩
 refine⟨[.dat (.int k),.own [.int a7,.bl b],.dat (.int (n:Int)),.dat (.dct (sl n) vs),.dat (dT (gm n n f)),x6,.dat o,.dat (.lst [d1,d2,.tup (J8 ((gm n n f).map dR) (some 1) none),.lst (J8 ((gm n n f).map dR) none (some 1)),d5]),x9,x10,x11,x12],rfl,?_⟩
 ·have hT:dT (gm n n f)=.tup ((gm n n f).map dR):=rfl
  have hcl:(J8 ((gm n n f).map dR) none (some 1)).length≤6:=by
   have:=HA ((gm n n f).map dR) none (some 1);rw[Qk,Ae]at this
   omega
  generalize D.dct (sl n) vs=C at *;unfold dT at eT et3 et4 eb1 eb2 he he8 ⊢;generalize (gm n n f).map dR=G at *;refine F1 (bP (e1:=F5 (.dat Z) (.dat (.int k)) w2 w3 w4 w5 w6 w7 w8 w9 w10 w11 w12) (e2:=F5 (.dat Z) (.dat (.int k)) (.own [.int a,.bl b]) w3 w4 w5 w6 w7 w8 w9 w10 w11 w12) (BM (X7 (av:=[.d Z,.d (.int k)]) rfl rfl rfl est)) rfl) ?_
  refine F1 (e1:=F5 (.dat Z) (.dat (.int k)) (.own [.int a1,.bl b]) (.dat (.int (n:Int))) w4 w5 w6 w7 w8 w9 w10 w11 w12) (L7 (d:=.int (n:Int)) (D4 (e1:=F5 (.dat Z) (.dat (.int k)) (.own [.int a,.bl b]) w3 w4 w5 w6 w7 w8 w9 w10 w11 w12) rfl et (by show some (D.int (1+v))=_;rw[hn])) rfl) ?_
  refine F1 (e1:=F5 (.dat Z) (.dat (.int k)) (.own [.int a1,.bl b]) (.dat (.int (n:Int))) (.dat C) w5 w6 w7 w8 w9 w10 w11 w12) (L7 (e1:=F5 (.dat Z) (.dat (.int k)) (.own [.int a1,.bl b]) (.dat (.int (n:Int))) w4 w5 w6 w7 w8 w9 w10 w11 w12) (d:=C) (K3 (av:=[.d (.int (n:Int))]) rfl rfl rfl eC) rfl) ?_
  refine F1 (e1:=F5 (.dat Z) (.dat (.int k)) (.own [.int a2,.bl b]) (.dat (.int (n:Int))) (.dat C) (.dat (.tup G)) w6 w7 w8 w9 w10 w11 w12) (L7 (e1:=F5 (.dat Z) (.dat (.int k)) (.own [.int a2,.bl b]) (.dat (.int (n:Int))) (.dat C) w5 w6 w7 w8 w9 w10 w11 w12) (d:=.tup G) (V2 ((Cs (e1:=F5 (.dat Z) (.dat (.int k)) (.own [.int a1,.bl b]) (.dat (.int (n:Int))) (.dat C) w5 w6 w7 w8 w9 w10 w11 w12) (w:=.own [.int a1,.bl b]) (av:=[.sl 2,.d (.int (n:Int))]) (i:=2) (c:=[.int a1,.bl b]) (c':=[.int a2,.bl b]) rfl rfl rfl rfl rfl eT rfl).trans rfl)) rfl) ?_
  refine F1 ((Z3 (U0 (J4 (W9 (C8 (HD rfl rfl (HE et3)) (C8 rfl (C8 rfl (C8 (HD rfl rfl (HE rfl)) rfl)))) (by simp))) rfl)).trans he) ?_
  refine F1 (e1:=F5 (.dat Z) (.dat (.int k)) (.own [.int a4,.bl b]) (.dat (.int (n:Int))) (.dat C) (.dat (.tup G)) x6 (.dat o) w8 w9 x10 w11 w12) (L7 (e1:=F5 (.dat Z) (.dat (.int k)) (.own [.int a4,.bl b]) (.dat (.int (n:Int))) (.dat C) (.dat (.tup G)) x6 w7 w8 w9 x10 w11 w12) (d:=o) (D4 (J4 (W9 (C8 rfl (C8 rfl (C8 rfl (C8 rfl (C8 rfl (C8 rfl (C8 rfl (C8 rfl (C8 (D4 rfl rfl Kx) (C8 rfl rfl)))))))))) (by simp))) et4 eo) rfl) ?_
  have call2:∀(p q:Int) (r:D) (x8:W),Az [.par [.int p,.bl b],.dat (.tup G)]=some (.d r,[.par [.int q,.bl b],.dat (.tup G)])->(c9 2 Az (G0 2 (B4 (A0 5) B9))) (F5 (.dat Z) (.dat (.int k)) (.own [.int p,.bl b]) (.dat (.int (n:Int))) (.dat C) (.dat (.tup G)) x6 (.dat o) x8 w9 x10 w11 w12)=some (r,F5 (.dat Z) (.dat (.int k)) (.own [.int q,.bl b]) (.dat (.int (n:Int))) (.dat C) (.dat (.tup G)) x6 (.dat o) x8 w9 x10 w11 w12):=fun p q r x8 h=>
   V2 ((Cs (e1:=F5 (.dat Z) (.dat (.int k)) (.own [.int p,.bl b]) (.dat (.int (n:Int))) (.dat C) (.dat (.tup G)) x6 (.dat o) x8 w9 x10 w11 w12) (w:=.own [.int p,.bl b]) (av:=[.sl 2,.d (.tup G)]) (i:=2) (c:=[.int p,.bl b]) (c':=[.int q,.bl b]) rfl rfl rfl rfl rfl h rfl).trans rfl)
  have call3:(c9 1 DM (G0 2 B9)) (F5 (.dat Z) (.dat (.int k)) (.own [.int a6,.bl b]) (.dat (.int (n:Int))) (.dat C) (.dat (.tup G)) x6 (.dat o) w8 w9 x10 w11 w12)=some (d5,F5 (.dat Z) (.dat (.int k)) (.own [.int a7,.bl b]) (.dat (.int (n:Int))) (.dat C) (.dat (.tup G)) x6 (.dat o) w8 w9 x10 w11 w12):=
   V2 ((Cs (e1:=F5 (.dat Z) (.dat (.int k)) (.own [.int a6,.bl b]) (.dat (.int (n:Int))) (.dat C) (.dat (.tup G)) x6 (.dat o) w8 w9 x10 w11 w12) (w:=.own [.int a6,.bl b]) (av:=[.sl 2]) (i:=2) (c:=[.int a6,.bl b]) (c':=[.int a7,.bl b]) rfl rfl rfl rfl rfl eb5 rfl).trans rfl)
  refine F1 (e1:=F5 (.dat Z) (.dat (.int k)) (.own [.int a7,.bl b]) (.dat (.int (n:Int))) (.dat C) (.dat (.tup G)) x6 (.dat o) (.dat (.lst [d1,d2,.tup (J8 G (some 1) none),.lst (J8 G none (some 1)),d5])) w9 x10 w11 w12) (L7 (e1:=F5 (.dat Z) (.dat (.int k)) (.own [.int a7,.bl b]) (.dat (.int (n:Int))) (.dat C) (.dat (.tup G)) x6 (.dat o) w8 w9 x10 w11 w12) (J4 (W9 (C8 (call2 _ _ _ _ eb1) (C8 (call2 _ _ _ _ eb2) (C8 (HD rfl (HE rfl) rfl) (C8 (J4 (Ww (C8 (HD rfl rfl (HE rfl)) rfl) rfl)) (C8 call3 rfl))))) (by simp))) rfl) ?_
  exact(Z3 (U0 rfl rfl)).trans he8
theorem jT:∀ns:List Int,ns.length≤63->∃ws',Gi [.dat (.lst (ns.map D.int))]=some (.d (.bl true),ws'):=by
 intro ns hns;obtain⟨ws',h⟩:=bL (C:=6) (N:=11) (ns:=ns) (body:=lw) (last:=E2 (mC (.bl true))) (by decide) (by decide) (fun k hk ws hw=>by
  match ws,hw with
  |[w2,w3,w4,w5,w6,w7,w8,w9,w10,w11,w12],_=>exact jS ns k hk w2 w3 w4 w5 w6 w7 w8 w9 w10 w11 w12) fun ws hw=>⟨_,rfl⟩
 refine⟨ws',?_⟩;rw[←h];show kJ 13 (C6 t0 _) _=_;unfold kJ;rw[Q6 (jQ _)]
 rfl
end K81
namespace K81
open L2 L2.Mir PySem
abbrev tI:Value:=.str "turnsigns.grids" 415
abbrev rG:Value:=.str "turnsigns.counts" 447
abbrev rW:Value:=.str "turnsigns.shares" 502
abbrev oU:Value:=.str "law_turnsigns_k81_first_rows_and_shares" 554
theorem jU{P:Program}(w:World)(mg:OU)(fa:Addr)(h:Heap)(X:(hK w.params).In h)(G:h.Ns mainGlobals mg)(hfa:mg "law"=some (.ref fa)):
 ∃fd:FuncData,(∀(s:Shared) (v:Value),BindsTo s fd ⟨[v],[]⟩ [("_law_script",v)])/\PySem.W.noTabs (hK w.params)=true/\(∀p∈[384],∃c,PySem.W.codeHdIn (hK w.params) c p=true)/\∀base:Heap,(hK w.params).In base->base.Ns mainGlobals mg->Ap mg base->f6 P w (hK w.params) mg base kF 22 fa fd ["_law_script"] (rB (hK w.params) [384] 1 Gi):=by
 obtain⟨A1,A2,A3,A4,A5,A6,A7,A8,A9,A10,A11,A12,A13,A14,A15,A16,A17,A18,A19,A20,A21,A22,A23,A24,A25,A26,A27,A28,A29,A30,A31,A32⟩:i7 (hK w.params) "is_whole" JK 190 tI 189/\i7 (hK w.params) "is_within" JL 197 tI 196/\i7 (hK w.params) "is_row" JM 202 tI 201/\i7 (hK w.params) "is_grid" JN 207 tI 206/\i7 (hK w.params) "must_be_within" GZ 214 rG 213/\i7 (hK w.params) "factorial" JO 221 rG 220/\i7 (hK w.params) "counted" JP 228 rG 227/\i7 (hK w.params) "rows_on" JQ 233 rG 232/\i7 (hK w.params) "added" JR 238 rG 237/\i7 (hK w.params) "choices_on" Ga 243 rG 242/\i7 (hK w.params) "ways_on" JS 248 rG 247/\i7 (hK w.params) "is_rows" JT 255 rW 254/\i7 (hK w.params) "sums_behind" Gb 262 rW 261/\i7 (hK w.params) "fraction" JU 269 rW 268/\i7 (hK w.params) "many_so" Gd 276 rW 275/\i7 (hK w.params) "share_so" Ge 283 rW 282/\i7 (hK w.params) "next_rows" Gf 288 rW 287/\i7 (hK w.params) "_law_cell_at" JV 295 oU 294/\i7 (hK w.params) "_law_state" JW 302 oU 301/\i7 (hK w.params) "_law_take" JX 309 oU 308/\i7 (hK w.params) "_law_rows" JY 314 oU 313/\i7 (hK w.params) "_law_held" JZ 319 oU 318/\i7 (hK w.params) "_law_table" KA 324 oU 323/\i7 (hK w.params) "_law_counts" KB 329 oU 328/\i7 (hK w.params) "_law_whole" KC 336 oU 335/\i7 (hK w.params) "_law_odd" KD 353 oU 352/\i7 (hK w.params) "_law_bent" KE 360 oU 359/\i7 (hK w.params) "_law_same" KG 365 oU 364/\i7 (hK w.params) "_law_refused" KH 370 oU 369/\i7 (hK w.params) "_law_many" KI 375 oU 374/\i7 (hK w.params) "_law_cut" KJ 382 oU 381/\i7 (hK w.params) "law" DK 389 oU 388:=by refine⟨?_,?_,?_,?_,?_,?_,?_,?_,?_,?_,?_,?_,?_,?_,?_,?_,?_,?_,?_,?_,?_,?_,?_,?_,?_,?_,?_,?_,?_,?_,?_,?_⟩<;>constructor<;>kernel_rfl
 have e:=hfa.symm.trans (Xc X G A32.a)
 cases e;have T:Txt (hK w.params) mg:=⟨by kernel_rfl,Zb X G (by kernel_rfl),Zb X G (by kernel_rfl),Zb X G (by kernel_rfl),Zb X G (by kernel_rfl),Zb X G (by kernel_rfl),Zb X G (by kernel_rfl),Zb X G (by kernel_rfl),Zb X G (by kernel_rfl),Zb X G (by kernel_rfl),Zb X G (by kernel_rfl),Zb X G (by kernel_rfl),Zb X G (by kernel_rfl),Zb X G (by kernel_rfl),Zb X G (by kernel_rfl),⟨_,A17.a,A17.g X G,Iu (by kernel_rfl)⟩,⟨_,A16.a,A16.g X G,Iu (by kernel_rfl)⟩,⟨_,A15.a,A15.g X G,Iu (by kernel_rfl)⟩,⟨445,Xc X G (by kernel_rfl)⟩⟩
 have b1:=A1.f.binds (ps:=["thing"]) fun _ _ _ _ _ _=>pZ fun _=>rfl
 have b2:=A2.f.binds (ps:=["thing","least","greatest"]) fun _ _ _ _ _ _=>uE fun _ _ _=>rfl
 have b3:=A3.f.binds (ps:=["thing","width"]) fun _ _ _ _ _ _=>nW fun _ _=>rfl
 have b4:=A4.f.binds (ps:=["thing","many","width"]) fun _ _ _ _ _ _=>uE fun _ _ _=>rfl
 have b5:=A5.f.binds (ps:=["thing","least","greatest","name"]) fun _ _ _ _ _ _=>wM fun _ _ _ _=>rfl
 have b6:=A6.f.binds (ps:=["number"]) fun _ _ _ _ _ _=>pZ fun _=>rfl
 have b7:=A7.f.binds (ps:=["side"]) fun _ _ _ _ _ _=>pZ fun _=>rfl
 have b8:=A8.f.binds (ps:=["sums"]) fun _ _ _ _ _ _=>pZ fun _=>rfl
 have b9:=A9.f.binds (ps:=["sums","row"]) fun _ _ _ _ _ _=>nW fun _ _=>rfl
 have b10:=A10.f.binds (ps:=["sums","known"]) fun _ _ _ _ _ _=>nW fun _ _=>rfl
 have b11:=A11.f.binds (ps:=["sums","known"]) fun _ _ _ _ _ _=>nW fun _ _=>rfl
 have b12:=A12.f.binds (ps:=["thing","width"]) fun _ _ _ _ _ _=>nW fun _ _=>rfl
 have b13:=A13.f.binds (ps:=["side","rows"]) fun _ _ _ _ _ _=>nW fun _ _=>rfl
 have b14:=A14.f.binds (ps:=["top","bottom"]) fun _ _ _ _ _ _=>nW fun _ _=>rfl
 have b15:=A15.f.binds (ps:=["side","rows"]) fun _ _ _ _ _ _=>nW fun _ _=>rfl
 have b16:=A16.f.binds (ps:=["side","rows"]) fun _ _ _ _ _ _=>nW fun _ _=>rfl
 have b17:=A17.f.binds (ps:=["side","rows"]) fun _ _ _ _ _ _=>nW fun _ _=>rfl
 have b18:=A18.f.binds (ps:=["_law_script","_law_k"]) fun _ _ _ _ _ _=>nW fun _ _=>rfl
 have b19:=A19.f.binds (ps:=["_law_script","_law_k"]) fun _ _ _ _ _ _=>nW fun _ _=>rfl
 have b20:=A20.f.binds (ps:=["_law_state_here","_law_many_here"]) fun _ _ _ _ _ _=>nW fun _ _=>rfl
 have b21:=A21.f.binds (ps:=["_law_held_here"]) fun _ _ _ _ _ _=>pZ fun _=>rfl
 have b22:=A22.f.binds (ps:=["_law_held_here","_law_row"]) fun _ _ _ _ _ _=>nW fun _ _=>rfl
 have b23:=A23.f.binds (ps:=["_law_state_here","_law_side"]) fun _ _ _ _ _ _=>nW fun _ _=>rfl
 have b24:=A24.f.binds (ps:=["_law_side"]) fun _ _ _ _ _ _=>pZ fun _=>rfl
 have b25:=A25.f.binds (ps:=["_law_thing"]) fun _ _ _ _ _ _=>pZ fun _=>rfl
 have b26:=A26.f.binds (ps:=["_law_state_here"]) fun _ _ _ _ _ _=>pZ fun _=>rfl
 have b27:=A27.f.binds (ps:=["_law_state_here","_law_table_here"]) fun _ _ _ _ _ _=>nW fun _ _=>rfl
 have b28:=A28.f.binds (ps:=["_law_found","_law_due"]) fun _ _ _ _ _ _=>nW fun _ _=>rfl
 have b29:=A29.f.binds (ps:=["_law_call"]) fun _ _ _ _ _ _=>pZ fun _=>rfl
 have b30:=A30.f.binds (ps:=["_law_side","_law_rows_here","_law_ways"]) fun _ _ _ _ _ _=>uE fun _ _ _=>rfl
 have b31:=A31.f.binds (ps:=["_law_top","_law_bottom"]) fun _ _ _ _ _ _=>nW fun _ _=>rfl
 have b32:=A32.f.binds (ps:=["_law_script"]) fun _ _ _ _ _ _=>pZ fun _=>rfl
 have tc_law:Fx (hK w.params) (.ref 388) 384=true:=by kernel_rfl
 refine⟨PySem.W.fnOf "law" "law" (Bn DK) (X1 DK) (E8 DK) .none .none .none (.str "law_turnsigns_k81_first_rows_and_shares" 554) none (.ref 388) .none,fun s v=>.of_eq rfl,by kernel_rfl,fun p hp=>?_,fun base _ _ hBm=>?_⟩
 ·obtain rfl:=Vw.mp hp
  obtain⟨c,_,hc⟩:=NJ tc_law;exact⟨c,hc⟩
 have lF:=dM P w base (bU A1.f T ) A1 X G b1
 have kR:=dM P w base (bY A2.f T lF) A2 X G b2
 have oF:=dM P w base (cA A3.f T lF) A3 X G b3
 have nI:=dM P w base (cC A4.f T oF) A4 X G b4
 have i6:=dM P w base (cE A5.f T kR) A5 X G b5
 have kC:=dX P w base (cG A5.f T kR ) A5 X G b5
 have mX:=dM P w base (cI A6.f T ) A6 X G b6
 have lT:=dM P w base (cK A7.f T mX) A7 X G b7
 have g6:=dM P w base (cM A8.f T ) A8 X G b8
 have j0:=dM P w base (cO A9.f T ) A9 X G b9
 have i3:Def P w (hK w.params) mg base "ways_on" 17 2 (M4 8):=⟨_,_,_,Om A11.f A10.f T g6 j0 (A11.g X G) A11.k b11 (A10.g X G) A10.k b10 8,rfl,A11.g X G,A11.k,b11⟩
 have kA:Def P w (hK w.params) mg base "choices_on" 18 2 (Aa (M4 8)):=⟨_,_,_,Ol A10.f T g6 j0 (by decide) i3,rfl,A10.g X G,A10.k,b10⟩
 have kN:=dM P w base (cT A12.f T nI) A12 X G b12
 have g0:=dM P w base (cU A13.f T i6 kN j0 g6) A13 X G b13
 have i9:=dX P w base (cV A13.f T i6 kN j0 g6 kC) A13 X G b13
 have jX:=dM P w base (cW A14.f T ) A14 X G b14
 have i8:=dM P w base (cX A15.f T i3 g0) A15 X G b15
 have kE:=dX P w base (cY A15.f T i3 g0 i9) A15 X G b15
 have j1:=dM P w base (cZ A16.f T jX i8 lT) A16 X G b16
 have kX:=dX P w base (dA A16.f T jX i8 lT kE) A16 X G b16
 have kW:=dM P w base (dB A17.f T g0 i3 jX kA) A17 X G b17
 have kL:=dX P w base (dC A17.f T g0 i3 jX kA i9) A17 X G b17
 have lR:=dM P w base (dE A18.f T ) A18 X G b18
 have lG:=dM P w base (dF A19.f T lR) A19 X G b19
 have c8:=dM P w base (dG A20.f T ) A20 X G b20
 have j2:=dM P w base (dI A21.f T ) A21 X G b21
 have j3:=dM P w base (dP A22.f T ) A22 X G b22
 have lI:=dM P w base (dU A23.f T c8 j2 j3) A23 X G b23
 have k6:=dM P w base (eA A24.f T j3 j2) A24 X G b24
 have mQ:=dM P w base (eF A25.f T ) A25 X G b25
 have mG:=dM P w base (eG A26.f T c8) A26 X G b26
 have kU:=dM P w base (eI A27.f T c8) A27 X G b27
 have kI:Def P w (hK w.params) mg base "_law_same" 7 2 (P9 6):=⟨_,_,_,PB A28.f T (A28.g X G) A28.k b28 6,rfl,A28.g X G,A28.k,b28⟩
 have kD:=eP (P:=P) (w:=w) (mg:=mg) (base:=base) A29.f T (A29.g X G) b29
 have kT:=dM P w base (eR A30.f T j3 j2 mQ) A30 X G b30
 have mH:=dM P w base (eU A31.f T ) A31 X G b31
 exact eV A32.f rfl T (ZC tc_law A32.c (by kernel_rfl) hBm) lG k6 lI i8 j1 c8 kT kU mG kI mH kD kW kE kX kL
end K81
theorem PySem.Challenge.cw_turnsigns_k81_first_rows_and_shares_holds : PySem.Challenge.rw_turnsigns_k81_first_rows_and_shares.Holds :=
 K81.Ri (L2.Mir.ZB (l:=PySem.Challenge.rw_turnsigns_k81_first_rows_and_shares) (k:=22) (x := "_law_script") (fn:=K81.Gi) rfl rfl ⟨rfl,by decide,by decide⟩ (fun w h Y=>⟨PySem.W.km_in_of Y,PySem.W.km_tabs_of Y⟩) K81.jU K81.jT)
