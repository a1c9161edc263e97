import PyProof.Rows.All
import Wide.All
import OpenK.AllK
import Wide.FinOn
import Lean
import PyProof.EqAt
import PyProof.EqKinds
import PyProof.TupleCall
import PySem.Challenge.RW_turnsigns_k52_own_turns_and_least_ones
set_option Elab.async false
set_option linter.all false
set_option maxRecDepth 100000
set_option maxHeartbeats 0
local macro_rules | `(tactic|rfl')=>`(tactic|decide +kernel)
abbrev Qq:=@PySem.wpAny_bind
abbrev Qz:=PySem.W.Frag
abbrev Qj:=@Option.bind_some
abbrev Qx:=@PySem.Heap.get?_push_of_some
abbrev Qk:=@List.length_map
abbrev Qv:=@PySem.wpAny_pure
abbrev Qw:=@List.all_eq_true
abbrev Qy:=@Bool.and_eq_true
abbrev Qu:=@PySem.Heap.lt_size
abbrev Qp:=@Nat.le_refl
abbrev Qb:=@List.mem_cons
abbrev Qg:=@List.getElem?_eq_some_iff
abbrev Qh:=@List.map_cons
abbrev Qm:=@List.size_toArray
abbrev Qn:=@if_pos
abbrev Qc:=@List.getElem?_set_ne
abbrev Ql:=@if_neg
abbrev Qd:=@PySem.Heap.get?_push_size
abbrev Qr:=@Nat.lt_of_lt_of_le
abbrev Qs:=@Nat.ne_of_lt
abbrev Qi:=@PySem.wpAny_mono
abbrev Qt:=@decide_eq_false
abbrev Qa:=@List.length_append
abbrev Qe:=@List.mem_append_right
abbrev Qo:=@List.not_mem_nil
abbrev Zq:=@List.mem_map
abbrev Zz:=@PySem.mem_of_lookup
abbrev Zj:=@List.length_cons
abbrev Zx:=@Bool.false_eq_true
abbrev Zk:=@List.map_map
abbrev Zv:=@PyProof.Rows.slot_tuple_getitem
abbrev Zw:=@List.getElem?_map
abbrev Zy:=@PySem.W.mg_none_of
abbrev Zu:=@PySem.W.kia_one
abbrev Zp:=@Nat.le_trans
abbrev Zb:=@beq_eq_false_iff_ne
abbrev Zg:=@Ne.symm
abbrev Zf:=@List.getElem?_eq_getElem
abbrev Zh:=@decide_eq_true_eq
abbrev Zm:=@List.length_set
abbrev Zn:=@if_true
abbrev Zc:=@Option.some.injEq
abbrev Zl:=@List.mem_cons_self
abbrev Zd:=@PySem.wpAny_newObj_type
abbrev Zr:=@List.getElem?_set_self
abbrev Zs:=@Bool.false_ne_true
abbrev Zi:=@PySem.wpAny_field
abbrev Zt:=@Option.some.inj
abbrev Za:=@beq_iff_eq
abbrev Ze:=@List.length_replicate
abbrev Zo:=@List.mem_range
abbrev Yq:=@PySem.Heap.size_push
abbrev Yz:=@PySem.W.mg_of
abbrev Yj:=@PySem.wpAny_loadPart'
abbrev Yx:=@PySem.W.kia_tup
abbrev Yk:=@List.replicate_succ
abbrev Yv:=@List.map_congr_left
abbrev Yw:=@PySem.wpAny_truthy_bool
abbrev Yy:=@Nat.lt_irrefl
abbrev Yu:=@congrArg
abbrev Yp:=@Option.isSome_iff_exists
abbrev Yb:=@or_false
abbrev Yg:=@List.append_nil
abbrev Yh:=@PySem.wpAny_callSpecial?_slot
abbrev Ym:=@List.mem_cons_of_mem
abbrev Yn:=@Bool.true_and
abbrev Yc:=@PySem.wpAny_seqItems
abbrev Yl:=@PySem.F.plain_min_loop
abbrev Yd:=@List.length_zipWith
abbrev Yr:=@beq_self_eq_true
abbrev Ys:=@if_false
abbrev Yi:=@PySem.wpAny_holding
abbrev Yt:=@PySem.W.Fast.te14364793385576792824
abbrev Ye:=@decide_eq_true
abbrev Yo:=@PySem.W.kitx_dict
abbrev Jq:=@Int.toNat_natCast
abbrev Jz:=@List.length_nil
abbrev Jj:=@Nat.le_of_lt
abbrev Jx:=@List.length_take
abbrev Jk:=@PySem.wpAny_call_entry
abbrev Jv:=@PySem.F.slot_tuple_iterator_next
abbrev Jw:=@List.getElem_mem
abbrev Jy:=@PySem.wpAny_Call_Name_kw
abbrev Ju:=@List.getElem?_zipWith
abbrev Jp:=@List.getElem?_append_left
abbrev Jb:=@List.mem_of_getElem?
abbrev Jg:=@List.find?_cons
abbrev Jf:=@List.map_append
abbrev Jh:=@Nat.lt_succ_of_lt
abbrev Jm:=@List.getElem?_replicate
abbrev Jn:=@List.filterMap_cons
abbrev Jc:=@PySem.W.hideAll_get
abbrev Jl:=@List.mem_filterMap
abbrev Jd:=@PyProof.Rows.callWith_type1
abbrev Jr:=@PySem.wpAny_setField_rec
abbrev Js:=@PySem.wpAny_passesOwn
abbrev Ji:=@congrFun
abbrev Jt:=@Nat.le_of_succ_le
abbrev Ja:=@Classical.byContradiction
abbrev Je:=@PySem.sizeLine_eq
abbrev Jo:=@Nat.zero_le
abbrev Uq:=@Bool.false_and
abbrev Uz:=@Prod.ext
abbrev Uj:=@Array.length_toList
abbrev Ux:=@List.filter_cons_of_neg
abbrev Uk:=@List.filter_cons_of_pos
abbrev Uv:=@PySem.wpAny_execs_nil
abbrev Uw:=@List.zip_cons_cons
abbrev Uy:=@PySem.wpAny_ite_false
abbrev Uu:=@List.pairwise_cons
abbrev Up:=@Int.emod_nonneg
abbrev Ub:=@PySem.W.cellsFrom_some
abbrev Ug:=@PySem.SeqAt.canLay_of_shaped
abbrev Uh:=@Option.map_eq_some_iff
abbrev Um:=@List.flatten_cons
abbrev Uc:=@List.append_assoc
abbrev Ul:=@PySem.wpAny_pyIter_list
abbrev Ud:=@List.map_nil
abbrev Ur:=@PySem.Heap.get?_update_self
abbrev Us:=@Nat.lt_trans
abbrev Ui:=@PySem.F.slot_zip_next
abbrev Ut:=@List.length_filter_le
abbrev Ua:=@List.ext_getElem
abbrev Ue:=@PySem.codeAny_call_builtin
abbrev Uo:=@PySem.wpAny_standAt
abbrev Vq:=@List.all_cons
abbrev Vz:=@PySem.wpAny_letGo
abbrev Vj:=@PySem.pairTrees_cons_walk
abbrev Vx:=@PySem.codeAny_builtin
abbrev Vk:=@List.all_append
abbrev Vv:=@List.contains_cons
abbrev Vw:=@PySem.F.args_tuple_add_2
abbrev Vy:=@PySem.tupleKind_room_in1
abbrev Vu:=@Int.emod_lt_of_pos
abbrev Vp:=@PySem.F.entry_tuple_add
abbrev Vb:=@PySem.W.kitx_list
abbrev Vg:=@PySem.F.args_tuple_iterator_next_1
abbrev Vf:=@PySem.Heap.get?_update_other
abbrev Vh:=@PySem.F.slot_tuple_add
abbrev Vm:=@PySem.F.entry_tuple_iterator_next
abbrev Vn:=@PySem.F.entry_min_loop
abbrev Vc:=@PySem.wpAny_onRaise
abbrev Vl:=@PySem.F.slot_tuple_mul
abbrev Vd:=@Nat.le_add_right
abbrev Vr:=@List.map_zipWith
abbrev Vs:=@List.mem_filter
abbrev Vi:=@PySem.codeAny_mono
abbrev Vt:=@List.nodup_cons
abbrev Va:=@List.of_mem_zip
abbrev Ve:=@List.cons.injEq
abbrev Vo:=@PySem.pushCells_keeps
abbrev Xq:=@PySem.wpAny_rule
abbrev Xz:=@PySem.wpAny_updateSeq_pair
abbrev Xj:=@PySem.Around.under_plainId
abbrev Xx:=@PySem.Heap.get?_update_ne
abbrev Xk:=@PySem.wpAny_tryCatch
abbrev Xv:=@List.map_id
abbrev Xw:=@PySem.W.kitx_tuple
abbrev Xy:=@PySem.SeqAt.EqAt.int_int
abbrev Xu:=@LawfulBEq.eq_of_beq
abbrev Xp:=@PySem.wpAny_pyIter_tuple
abbrev Xb:=@List.any_cons
abbrev Xg:=@Bool.false_or
abbrev Xf:=@PySem.plainId_quiet
abbrev Xh:=@List.sum_cons
abbrev Xm:=@List.reverse_cons
abbrev Xn:=@Option.isSome_map
abbrev Xc:=@of_decide_eq_true
abbrev Xl:=@Bool.not_eq_true'
abbrev Xd:=@PySem.call_meets
abbrev Xr:=@Nat.ne_of_gt
abbrev Xs:=@List.length_drop
abbrev Xi:=@List.lookup_cons
abbrev Xa:=@Nat.lt_succ_self
abbrev Xe:=@Option.map_some
abbrev Xo:=@List.mem_append
abbrev Tq:=@List.nil_append
abbrev Tz:=@Bool.or_eq_true
abbrev OO:=Nat->Nat->Int
abbrev OI:=List (List Int)
abbrev OU:=PySem.Str->Option PySem.Value
abbrev OE:=PySem.Value->PySem.Shared->Prop
abbrev OA:=PySem.Addr->Prop
abbrev OX:=List (PySem.Addr×PySem.Obj)
namespace HG
open PySem PySem.W PySem.Calls PyProof.Rows
noncomputable def vF {α:Type}(l:List α) (i:Nat) (d:α):α:=@List.rec α (fun _=>Nat->α) (fun _=>d) (fun a _ ih i=>@Nat.rec (fun _=>α) a (fun j _=>ih j) i) l i
def vG(s:Stmt):Str:=match s with
 |.FunctionDef n ..=>n
 |.ClassDef n ..=>n
 |_=>Str.empty
def hsA(s:Stmt):Arguments:=match s with
 |.FunctionDef _ a ..=>a
 |_=>default
def hsB(s:Stmt):List Stmt:=match s with
 |.FunctionDef _ _ b ..=>b
 |.ClassDef _ _ _ b ..=>b
 |_=>[]
def hsS(s:Stmt):Scope:=match s with
 |.FunctionDef _ _ _ _ _ _ c ..=>c
 |_=>default
def hsP(s:Stmt):Pos:=match s with
 |.FunctionDef _ _ _ _ _ _ _ _ _ p=>p
 |_=>⟨0,0,0,0⟩
def uP{α:Sort u}(_:α):Bool:=true
def hE(P:Params)(x:Str)(t:Tok)(v:Value):DictEntry:=⟨PyData.keyHash P x,.str x t,v⟩
def hZ:Obj:=⟨.type "tuple",none,.seq ⟨[]⟩ 0,⟨[]⟩⟩
def hU(l:List Value):Obj:=⟨.type "tuple",none,.seq ⟨l⟩ 0,⟨[]⟩⟩
def hN:Obj:=⟨.none,none,.fields ⟨[]⟩,⟨[]⟩⟩
def hC(n:Str)(t t2:Nat)(ln na fl:Int)(a:Addr)(g:Bool)(b:Addr)(v1 v2 v3 v4:Value):Obj:=
 ⟨.type "code",none,.fields ⟨[.str n t,.str n (Nat.add t 1),.str "/claim/cut.py" (Nat.add t 2),.int ln 0,.int na 0,.int 0 0,.int 0 0,.int fl 0,.ref a,.bool g,.int 181 0,.ref b,v1,v2,v3,v4,.int (Int.ofNat t2) 0,.int ln 0,.str "/claim/cut.py" (Nat.add t2 1)]⟩,⟨[]⟩⟩
def hX(s:Stmt)(q:Str)(g:Addr)(cl:List (Str×Addr))(d k dc m:Value)(an:Option Addr)(c ct:Value)(b:Addr):FuncData:=
 ⟨vG s,q,hsA s,.stmts (hsB s),hsS s,g,cl,d,k,dc,m,an,c,ct,b⟩
def hR(s:Stmt):Obj:=⟨.none,none,.func (hX s (vG s) 0 [] .none .none .none .none none .none .none 0),⟨[]⟩⟩
def hF(s:Stmt)(m c:Value):Obj:=⟨.type "function",none,.func (hX s (vG s) 3 [] .none .none .none m none c .none 0),⟨[]⟩⟩
def sR(s:Stmt)(a t:Nat)(ln na:Int)(m:Value):List Obj:=[hZ,hN,hR s,hC (vG s) t (Nat.add t 3) ln na 3 a true (Nat.add a 1) .none .none .none (.ref (Nat.add a 2)),hF s m (.ref (Nat.add a 3))]
noncomputable def zU (l:List Str) (t:Nat):List Value:=@List.rec Str (fun _=>Nat->List Value) (fun _=>[]) (fun x _ ih t=>.str x t::ih (Nat.succ t)) l t
noncomputable def rL (s:Stmt) (a t:Nat) (ln na:Int) (m:Value) (l:List Str):List Obj:=[hZ,hN,hU (zU l (Nat.add t 3)),hZ,hR s,hC (vG s) t (Nat.add (Nat.add t 3) l.length) ln na 3 a true (Nat.add a 1) .none (.ref (Nat.add a 2)) (.ref (Nat.add a 3)) (.ref (Nat.add a 4)),hF s m (.ref (Nat.add a 5))]
def uQ(P:Params)(s:Stmt)(a t:Nat)(ln:Int)(m:Value):List Obj:=
 [⟨.type "builtin_function_or_method",none,.fields ⟨[.builtin "type.__prepare__",.type "type"]⟩,⟨[]⟩⟩,
  ⟨.type "dict",none,.dict ⟨[hE P "__module__" (Nat.add t 7) m,hE P "__qualname__" (Nat.add t 9) (.str (vG s) (Nat.add t 8)),hE P "__firstlineno__" (Nat.add t 11) (.int ln (Nat.add t 10)),hE P "__static_attributes__" (Nat.add t 12) (.ref (Nat.add a 6))]⟩ 4,⟨[]⟩⟩,
  hZ,hN,hC (vG s) (Nat.add t 2) (Nat.add t 5) ln 0 0 (Nat.add a 2) false (Nat.add a 3) .none .none .none .none,
  ⟨.type "frame",none,.plain,⟨[some (.ref (Nat.add a 4)),some (.ref 3),some (.ref (Nat.add a 1)),none,some m,none,some (.ref 0)]⟩⟩,hZ,
  ⟨.type "dict",none,.dict ⟨[hE P "__module__" (Nat.add t 7) m,hE P "__firstlineno__" (Nat.add t 11) (.int ln (Nat.add t 10)),hE P "__static_attributes__" (Nat.add t 12) (.ref (Nat.add a 6)),hE P "__doc__" (Nat.add t 13) .none]⟩ 2,⟨[]⟩⟩,
  ⟨.type "type",none,.cls ⟨vG s,[.ref 24],[.ref (Nat.add a 8),.ref 24,.type "ValueError",.type "Exception",.type "BaseException",.type "object"],Nat.add a 7,vG s,true,[],[],false,none,false⟩,⟨[some (.ref (Nat.sub a 1)),none,some (.str (vG s) t),some (.str (vG s) (Nat.add t 8)),some (.builtin "ValueError.__new__"),some (.bool true)]⟩⟩,
  ⟨.type "super",none,.fields ⟨[.ref (Nat.add a 8),.ref (Nat.add a 8),.ref (Nat.add a 8)]⟩,⟨[]⟩⟩,
  ⟨.type "builtin_function_or_method",none,.fields ⟨[.builtin "object.__init_subclass__",.ref (Nat.add a 8)]⟩,⟨[]⟩⟩]
noncomputable def hfd (l:List (Nat×List Obj)) (b:Nat):Obj:=@List.rec (Nat×List Obj) (fun _=>Nat->Obj) (fun _=>hZ) (fun x _ ih b=>@Bool.rec (fun _=>Obj) (ih (Nat.sub b x.1)) (vF x.2 b hZ) (Nat.blt b x.1)) l b
def hL3(l:List (Int×Addr)):List Value:=l.flatMap fun x=>[.int x.1 0,.int 0 0,.ref x.2]
noncomputable def hmk (f:Nat->Obj) (n:Nat) (fuel:Nat):Nat->Nat->BT:=
 @Nat.rec (fun _=>Nat->Nat->BT) (fun _ _=>.nil) (fun _ ih a b=>@Bool.rec (fun _=>BT) .nil (.node (f b) (ih (Nat.mul 2 a) (Nat.add a b)) (ih (Nat.mul 2 a) (Nat.add (Nat.mul 2 a) b))) (Nat.blt b n)) fuel
def zV(p:Program)(c:Value)(f:Addr):Env:={scope:=p.main.scope,locals:=mainNs,globals:=mainNs,cells:=[],code:=c,frame:=some f}
def hVw(p:Program)(l:List Nat):Program:={p with main:={p.main with body:=l.map fun i=>p.main.body.getD i (.Pass ⟨0,0,0,0⟩)}}
abbrev uH(tr:Nat->Params->BT)(k n t:Nat)(w:World)(os:OsState):SharedT:=⟨tr k w.params,n,{},⟨[]⟩,{},t,os⟩
abbrev uB(p:Program)(ev:Env):Code:=.body (behindTheImports p) ev
def xC(m0:Nat)(ann:Option Value)(n n0 t0:Nat)(q q0:Pos)(tg:(String->Option Builtin)->Program->World->Nat->Option Value->Nat->Shared->Thread->Option (Shared×Thread))(dn:(String->Option Builtin)->Code->Sem Fin)(tb:String->Option Builtin)(p:Program)(tr:Nat->Params->BT)(ev:Env):Prop:=
 ∀w:World,(fun os=>tg tb p w m0 ann n ⟨boot_heap w.params,⟨[]⟩,boot_drawn,boot_toks,os⟩ (topStub p))=fun os=>some ((uH tr 0 n0 t0 w os).abs,Thread.mk (dn tb (uB p ev)) (uB p ev) q0 [topFrame q])
def xD(m0:Nat)(ann:Option Value)(n n0 t0:Nat)(q q0 q1:Pos)(sr:(String->Option Builtin)->Program->World->Nat->Option Value->Nat->Nat->Shared->Thread->Option (Flow×Shared×Code×Pos))(tb:String->Option Builtin)(p:Program)(tr:Nat->Params->BT)(ev:Env):Prop:=
 ∀w:World,(fun os=>sr tb p w m0 ann 1 n (uH tr 0 n0 t0 w os).abs (blockOf (behindTheImports p) ev (uB p ev) q0 [topFrame q]))=fun os=>some (.next,(uH tr 0 n0 t0 w os).abs,uB p ev,q1)
def r8(m0:Nat)(ann:Option Value)(n i j k n0 t0 n1 t1:Nat)(q q0 q1:Pos)(sr:(String->Option Builtin)->Program->World->Nat->Option Value->Nat->Nat->SharedT->Thread->Option (Flow×SharedT×Code×Pos))(tb:String->Option Builtin)(p:Program)(tr:Nat->Params->BT)(ev:Env):Prop:=
 ∀w:World,(fun os=>sr tb p w m0 ann 1 n (uH tr k n0 t0 w os) (piecesOf (((behindTheImports p).drop i).take j) ev (uB p ev) q0 [topFrame q]))=fun os=>some (.next,uH tr (Nat.succ k) n1 t1 w os,uB p ev,q1)
def xE(m0:Nat)(ann:Option Value)(n k n0 t0:Nat)(q q0:Pos)(sr:(String->Option Builtin)->Program->World->Nat->Option Value->Nat->Shared->Thread->Option Shared)(tb:String->Option Builtin)(p:Program)(tr:Nat->Params->BT)(ev:Env):Prop:=
 ∀w:World,(fun os=>sr tb p w m0 ann n (uH tr k n0 t0 w os).abs (Thread.mk (doneF .next) (uB p ev) q0 [topFrame q]))=fun os=>some (uH tr k n0 t0 w os).abs
variable{m0:Nat}{ann:Option Value}{q q0 q1:Pos}{tb:String->Option Builtin}{p:Program}{tr:Nat->Params->BT}{ev:Env}{n N i j k n0 t0 n1 t1:Nat}{r:Shared}
theorem hgo(h:xC m0 ann n n0 t0 q q0 topGo denote tb p tr ev)(w:World)(os:OsState)(g:topRun tb p w m0 ann N (uH tr 0 n0 t0 w os).abs (Thread.mk (denote tb (uB p ev)) (uB p ev) q0 [topFrame q])=some r):
  topRun tb p w m0 ann (Nat.add n N) ⟨boot_heap w.params,⟨[]⟩,boot_drawn,boot_toks,os⟩ (topStub p)=some r:=go_top (Ji (h w) os) g
theorem yQ(h:xD m0 ann n n0 t0 q q0 q1 segRun tb p tr ev)(w:World)(os:OsState)(g:topRun tb p w m0 ann N (uH tr 0 n0 t0 w os).abs (restOf ((behindTheImports p).drop 0) ev (uB p ev) q1 [topFrame q])=some r):
  topRun tb p w m0 ann (Nat.add n N) (uH tr 0 n0 t0 w os).abs (Thread.mk (denote tb (uB p ev)) (uB p ev) q0 [topFrame q])=some r:=piece_block (Ji (h w) os) g
theorem pS(h:r8 m0 ann n i j k n0 t0 n1 t1 q q0 q1 segRunT tb p tr ev)(w:World)(os:OsState)(g:topRun tb p w m0 ann N (uH tr (Nat.succ k) n1 t1 w os).abs (restOf ((behindTheImports p).drop (Nat.add i j)) ev (uB p ev) q1 [topFrame q])=some r):
  topRun tb p w m0 ann (Nat.add n N) (uH tr k n0 t0 w os).abs (restOf ((behindTheImports p).drop i) ev (uB p ev) q0 [topFrame q])=some r:=by
 have a:=piece_app (segRun_of (Ji (h w) os)) g
 have e:((behindTheImports p).drop i).take j++(behindTheImports p).drop (Nat.add i j)=(behindTheImports p).drop i:=by
  have:=List.take_append_drop j ((behindTheImports p).drop i);rw[List.drop_drop]at this;exact this
 rw[e]at a;exact a
theorem yR(e:(behindTheImports p).drop i=[])(h:xE m0 ann n k n0 t0 q q0 topRun tb p tr ev)(w:World)(os:OsState):
  topRun tb p w m0 ann n (uH tr k n0 t0 w os).abs (restOf ((behindTheImports p).drop i) ev (uB p ev) q0 [topFrame q])=some (uH tr k n0 t0 w os).abs:=by
 rw[e];exact Ji (h w) os
abbrev uR(H:Params->Heap)(t:Nat)(w:World)(os:OsState):Shared:=⟨H w.params,⟨[]⟩,{},t,os⟩
structure zW(p v:Program)(H:Params->Heap)(K:Params->Frag)(as ts:List Addr)(t:Nat)(ls:List Str:=[]):Prop where
 l1:∀w:World,(fun os=>staticsOk (PySem.W.Fast.tw5923862056798008813 p.main.body) (boot_heap w.params) (H w.params)&&namesBound p (H w.params)&&gensDone (uR H t w os)&&laidKept (boot_heap w.params) (H w.params))=fun _=>true
 l2:∀w:World,(fun os=>PySem.W.Fast.tw5160383126252970620 (PySem.W.R.mapR (fun x=>x.name) (PySem.W.Fast.tw3399658132070893891 v)) (PySem.W.Fast.tw5991557255702980513 v) [] (uR H t w os))=fun _=>expectedOf v
 l3:∀w:World,(H w.params).bltView=bltViewBooted
 l4:∀w:World,(fun os=>PySem.W.Fast.tw10880121769531294198 (H w.params) (PySem.W.Fast.tw821141287760084731 v ls) (PySem.W.R.mapR (fun x=>x.name) (PySem.W.Fast.tw3399658132070893891 v)) (PySem.W.R.mapR (fun x=>x.1) (PySem.W.Fast.tw7409074990110511671 v)) (PySem.W.R.mapR (fun x=>x.name) (PySem.W.Fast.tw13664370479719496447 v (PySem.W.Fast.tw821141287760084731 v ls)))&&PySem.W.Fast.tw14722251495701143533 (H w.params) (PySem.W.Fast.tw5923862056798008813 p.main.body)&&(H w.params).isNs mainGlobals&&(H w.params).isNs builtinsNs&&PySem.W.Fast.tw10994771534591457954 v (H w.params)&&(xlAt v [] (uR H t w os)&&recOk [] (uR H t w os))&&(if true then(uR H t w os).gens.size==0 else !leftWithCleanup (uR H t w os).gens))=fun _=>true
 l5:∀w:World,(fun os=>PySem.W.Fast.tw479339242167458305 v (uR H t w os))=fun _=>true
 l6:∀w:World,(fun os=>PySem.W.Fast.tw16090120013241838585 v (PySem.W.Fast.tw3247288618530077131 v) (uR H t w os))=fun _=>pinGoodD (PySem.W.Fast.tw3247288618530077131 v)
 l7:∀w:World,(fun os=>PySem.W.Fast.tw2386780881361962483 v (PySem.W.Fast.tw821141287760084731 v ls) (uR H t w os))=fun _=>plainGoodE v (PySem.W.Fast.tw821141287760084731 v ls)
 l8:∀w:World,(fun os=>PySem.W.Fast.tw11698064438423848299 v ls (uR H t w os))=fun _=>plainGoodD v ls
 l9:∀w:World,(fun os=>PySem.W.Fast.tw7317090234206586261 v (uR H t w os))=fun _=>wideGood v
 l10:∀w:World,(fun os=>PySem.W.Fast.tw7369524293546568484 v ls (uR H t w os))=fun _=>clsGoodW v ls
 l11:∀w:World,PySem.W.R.mapR (H w.params).get? as=PySem.W.R.mapR (fun p=>some p.2) (K w.params)
 l12:∀w:World,PySem.W.R.mapR (H w.params).get? ts=PySem.W.R.mapR (fun _=>some (tabObj #[])) ts
def uC(w:World)(x:String)(b:Bool):World:={w with params:={w.params with followText:=fun s=>bif s==x then b else w.params.followText s}}
theorem uS(w:World)(x:String):uC w x (w.params.followText x)=w:=by
 have e:(fun s=>bif s==x then w.params.followText x else w.params.followText s)=w.params.followText:=by
  funext s
  by_cases h:s=x
  ·subst h
   rw[Yr]
   rfl
  ·have:(s==x)=false:=by rw[Zb];exact h
   rw[this]
   rfl
 unfold uC;rw[e]
theorem xF{Pr:World->Prop}(x:String)(h:∀(b:Bool) (w:World),Pr (uC w x b))(w:World):Pr w:=by
 have:=h (w.params.followText x) w;rwa [uS]at this
theorem hsize(w:World):((boot_heap w.params).isNs mainGlobals&&(Array.mk []:Array GenState).size==0,(boot_heap w.params).objs.size,(boot_heap w.params).nsMap mainGlobals "__annotations__")=(true,11,some (.ref 6)):=by
 rw[PySem.W.Fast.te8920871248978507458,show("__annotations__":Str)=⟨⟨[95,95,97,110,110,111,116,97,116,105,111,110,115,95,95]⟩⟩from PySem.W.Fast.ofString_ofList ['_','_','a','n','n','o','t','a','t','i','o','n','s','_','_']]
 kernel_rfl
theorem hleft{v:Program}{H:Params->Heap}{K:Params->Frag}{as ts:List Addr}{t M:Nat}(e:∀P,as=(K P).map (·.1))(eo:opening p=plainProg p.main.scope.names)(hf:∀s,fenceModules? p s=some s)(hN:Nat.ble 600 N=true)(le:Nat.ble M N=true)
  (run:∀(w:World) (os:OsState),topRun treeTable p w 11 (some (.ref 6)) M ⟨boot_heap w.params,⟨[]⟩,boot_drawn,boot_toks,os⟩ (topStub p)=some (uR H t w os)){ls:List Str}(L:zW p v H K as ts t ls):
  LeftO p v ls (fun s=>xlAt v [] s&&recOk [] s) (Hook.obs (kmHook K as e ts)) (Hook.val (kmHook K as e ts)) N:=by
 refine LeftO.of_pieces (boot_open eo hN hf) hsize run le fun w=>?_
 have q1:=L.l1 w;have q2:=L.l2 w;have q3:=L.l3 w;have q4:=L.l4 w;have q5:=L.l5 w;have q6:=L.l6 w;have q7:=L.l7 w;have q8:=L.l8 w;have q9:=L.l9 w;have q10:=L.l10 w;have q11:=L.l11 w;have q12:=L.l12 w
 simp only[←PySem.W.Fast.te5923862056798008813,←PySem.W.Fast.te5160383126252970620,←PySem.W.R.mapR_eq,←PySem.W.Fast.te3399658132070893891,←PySem.W.Fast.te5991557255702980513,←PySem.W.Fast.te10880121769531294198,←PySem.W.Fast.te821141287760084731,←PySem.W.Fast.te7409074990110511671,←PySem.W.Fast.te13664370479719496447,←PySem.W.Fast.te14722251495701143533,←PySem.W.Fast.te10994771534591457954,←PySem.W.Fast.te479339242167458305,←PySem.W.Fast.te16090120013241838585,←PySem.W.Fast.te3247288618530077131,←PySem.W.Fast.te2386780881361962483,←PySem.W.Fast.te11698064438423848299,←PySem.W.Fast.te7317090234206586261,←PySem.W.Fast.te7369524293546568484]at q1 q2 q4 q5 q6 q7 q8 q9 q10 q11 q12
 funext os
 unfold openSeen openGood;refine Uz (Ji q1 os) (Uz (Uz (Ji q2 os) (Uz q3 (Uz (Ji q4 os) (Uz (Ji q5 os) (Uz (Ji q6 os) (Uz (Ji q7 os) (Uz (Ji q8 os) (Uz (Ji q9 os) (Ji q10 os))))))))) (Uz q11 q12))
end HG
namespace K52
noncomputable section
open PySem PySem.W PySem.Calls PyProof.Rows HG PySem.W.Fast PySem.Challenge
def hS(i:Nat):Stmt:=pw_turnsigns_k52_own_turns_and_least_ones.main.body.getD i (.Pass ⟨0,0,0,0⟩)
def hm0:Value:=(.str "turnsigns.errors" 187)
def hm1:Value:=(.str "turnsigns.grids" 415)
def hm2:Value:=(.str "turnsigns.tables" 460)
def v7:Value:=(.str "turnsigns.counts" 486)
def uI:Value:=(.str "turnsigns.turned" 570)
def tO:Value:=(.str "law_turnsigns_k52_own_turns_and_least_ones" 685)
def hc0(P:Params):List (Nat×List Obj):=[(15,[boot_o_0 P,boot_o_1 P,boot_o_2 P,hZ,boot_o_4 P,boot_o_5 P,boot_o_6 P,boot_o_7 P,boot_o_8 P,boot_o_9 P,boot_o_10 P,hZ,hZ,hC "<module>" 182 185 1 0 0 11 false 12 .none .none .none .none,⟨(.type "frame"),none,.plain,⟨[(some (.ref 13)),(some (.ref 3)),(some (.ref 3)),none,(some (.str "__main__" 164)),none,(some (.ref 0))]⟩⟩]),(13,[hU [(.type "ValueError")],⟨(.type "builtin_function_or_method"),none,.fields ⟨[(.builtin "type.__prepare__"),(.type "type")]⟩,⟨[]⟩⟩,⟨(.type "dict"),none,.dict ⟨[hE P "__module__" 196 (.str "turnsigns.errors" 187),hE P "__qualname__" 198 (.str "SignError" 197),hE P "__firstlineno__" 200 (.int 2 199),hE P "__static_attributes__" 201 (.ref 22)]⟩ 4,⟨[]⟩⟩,hZ,hN,hC "SignError" 191 194 2 0 0 18 false 19 .none .none .none .none,⟨(.type "frame"),none,.plain,⟨[(some (.ref 20)),(some (.ref 3)),(some (.ref 17)),none,(some (.str "turnsigns.errors" 187)),none,(some (.ref 0))]⟩⟩,hZ,⟨(.type "dict"),none,.dict ⟨[hE P "__module__" 196 (.str "turnsigns.errors" 187),hE P "__firstlineno__" 200 (.int 2 199),hE P "__static_attributes__" 201 (.ref 22),hE P "__weakref__" 203 (.ref 25),hE P "__doc__" 204 .none]⟩ 3,⟨[]⟩⟩,hZ,⟨(.type "getset_descriptor"),none,.fields ⟨[(.str "__weakref__" 202),(.ref 24),(.builtin "ExceptionGroup.__weakref__"),.none]⟩,⟨[]⟩⟩,⟨(.type "super"),none,.fields ⟨[(.ref 24),(.ref 24),(.ref 24)]⟩,⟨[]⟩⟩,⟨(.type "builtin_function_or_method"),none,.fields ⟨[(.builtin "object.__init_subclass__"),(.ref 24)]⟩,⟨[]⟩⟩]),(1,[hU [.ref 24]]),(11,uQ P (hS 2) 29 207 4 hm0),(1,[hU [.ref 24]]),(11,uQ P (hS 3) 41 223 6 hm0),(1,[hU [.ref 24]]),(11,uQ P (hS 4) 53 239 8 hm0),(1,[hU [.ref 24]]),(11,uQ P (hS 5) 65 255 10 hm0)]
def hc1(P:Params):List (Nat×List Obj):=[(1,[hU [.ref 24]]),(11,uQ P (hS 6) 77 271 12 hm0),(1,[hU [.ref 24]]),(11,uQ P (hS 7) 89 287 14 hm0),(1,[hU [.ref 24]]),(11,uQ P (hS 8) 101 303 16 hm0),(1,[hU [.ref 24]]),(11,uQ P (hS 9) 113 319 18 hm0),(1,[hU [.ref 24]]),(11,uQ P (hS 10) 125 335 20 hm0)]
def hc2(P:Params):List (Nat×List Obj):=[(1,[hU [.ref 24]]),(11,uQ P (hS 11) 137 351 22 hm0),(1,[hU [.ref 24]]),(11,uQ P (hS 12) 149 367 24 hm0),(1,[hU [.ref 24]]),(11,uQ P (hS 13) 161 383 26 hm0),(1,[hU [.ref 24]]),(11,uQ P (hS 14) 173 399 28 hm0),(7,rL (hS 16) 184 417 31 1 hm1 ["thing"]),(7,rL (hS 17) 191 424 33 3 hm1 ["thing","least","greatest"])]
def hc3(P:Params):List (Nat×List Obj):=[(5,sR (hS 18) 198 433 35 2 hm1),(5,sR (hS 19) 203 439 39 3 hm1),(7,rL (hS 20) 208 445 43 3 hm1 ["thing","least","greatest"]),(5,sR (hS 21) 215 454 47 1 hm1),(7,rL (hS 24) 220 464 51 1 hm2 ["line","total","number"]),(5,sR (hS 25) 227 473 58 1 hm2),(7,rL (hS 26) 232 479 62 1 hm2 ["thing"]),(7,rL (hS 29) 239 490 67 4 v7 ["thing","least","greatest","name"]),(7,rL (hS 30) 246 500 70 1 v7 ["number","product","factor"]),(7,rL (hS 31) 253 509 75 1 v7 ["side","top","bottom","at"])]
def hc4(P:Params):List (Nat×List Obj):=[(5,sR (hS 32) 260 519 82 1 v7),(5,sR (hS 33) 265 525 87 2 v7),(5,sR (hS 34) 270 531 89 2 v7),(5,sR (hS 35) 275 537 91 2 v7),(7,rL (hS 36) 280 543 97 2 v7 ["choices","number","at"]),(7,rL (hS 37) 287 552 103 3 v7 ["side","number","known","rows","sums","row"]),(5,sR (hS 38) 294 564 111 1 v7),(7,rL (hS 40) 299 572 116 1 uI ["table"]),(7,rL (hS 41) 306 579 118 1 uI ["table"]),(7,rL (hS 42) 313 586 120 1 uI ["table"])]
def hc5(P:Params):List (Nat×List Obj):=[(7,rL (hS 43) 320 593 122 1 uI ["table"]),(5,sR (hS 44) 327 600 124 1 uI),(7,rL (hS 45) 332 606 126 1 uI ["table"]),(7,rL (hS 46) 339 613 128 1 uI ["table"]),(7,rL (hS 47) 346 620 130 1 uI ["table"]),(1,[⟨(.type "dict"),none,.dict ⟨[hE P "stay" 627 (.ref 305),hE P "left" 628 (.ref 312),hE P "half" 629 (.ref 319),hE P "right" 630 (.ref 326),hE P "upright" 631 (.ref 331),hE P "flat" 632 (.ref 338),hE P "slant" 633 (.ref 345),hE P "other" 634 (.ref 352)]⟩ 8,⟨[]⟩⟩]),(7,rL (hS 49) 354 644 133 1 uI ["thing"]),(7,rL (hS 50) 361 651 135 1 uI ["thing"]),(7,rL (hS 51) 368 658 138 2 uI ["table","turn","deed"]),(5,sR (hS 52) 375 667 141 1 uI)]
def hc6(P:Params):List (Nat×List Obj):=[(5,sR (hS 53) 380 673 144 1 uI),(5,sR (hS 54) 385 679 147 2 uI),(7,rL (hS 56) 390 687 152 2 tO ["_law_script","_law_k"]),(7,rL (hS 57) 397 695 156 2 tO ["_law_script","_law_k","_law_cell"]),(7,rL (hS 58) 404 704 161 2 tO ["_law_state_here","_law_many","_law_found","_law_mixed"]),(5,sR (hS 59) 411 714 170 1 tO),(5,sR (hS 60) 416 720 186 1 tO),(5,sR (hS 61) 421 726 196 3 tO),(7,rL (hS 62) 426 732 206 3 tO ["_law_thing","_law_least","_law_most"]),(5,sR (hS 63) 433 741 208 1 tO)]
def hc7(P:Params):List (Nat×List Obj):=[(5,sR (hS 64) 438 747 211 1 tO),(7,rL (hS 65) 443 753 223 2 tO ["_law_state_here","_law_table_here","_law_at","_law_row","_law_k","_law_odd","_law_to","_law_rows","_law_one","_law_some","_law_swapped"]),(7,rL (hS 66) 450 770 236 1 tO ["_law_state_here","_law_turn","_law_thing"]),(7,rL (hS 67) 457 779 242 2 tO ["_law_table_here","_law_turn","_law_n","_law_found","_law_r","_law_line","_law_c","_law_at","_law_more","_law_row","_law_column"]),(7,rL (hS 68) 464 796 254 0 tO []),(5,sR (hS 69) 471 802 256 1 tO),(5,sR (hS 70) 476 808 265 2 tO),(5,sR (hS 71) 481 814 271 2 tO),(5,sR (hS 72) 486 820 282 1 tO)]
def hB(P:Params):Nat->Obj:=hfd (hc0 P++hc1 P++hc2 P++hc3 P++hc4 P++hc5 P++hc6 P++hc7 P)
def Rw(P:Params)(v:Value):List DictEntry:=[hE P "__name__" 165 v,hE P "__doc__" 166 .none,hE P "__package__" 167 .none,hE P "__loader__" 168 (.builtin "__main__.__loader__#opaque"),hE P "__spec__" 169 .none,hE P "__annotations__" 170 (.ref 6),hE P "__builtins__" 171 (.ref 4),hE P "__file__" 173 (.str "/claim/cut.py" 172),hE P "__cached__" 174 .none,hE P "SignError" 206 (.ref 24),hE P "NoTable" 222 (.ref 37),hE P "NoHeights" 238 (.ref 49),hE P "NoNet" 254 (.ref 61),hE P "NoPlace" 270 (.ref 73),hE P "NoTriangle" 286 (.ref 85),hE P "NoRow" 302 (.ref 97)]
def Rx(P:Params)(v:Value):List DictEntry:=[hE P "NoNumber" 318 (.ref 109),hE P "NoTurn" 334 (.ref 121),hE P "NotAlike" 350 (.ref 133),hE P "NoStep" 366 (.ref 145),hE P "NoRows" 382 (.ref 157),hE P "TooMany" 398 (.ref 169),hE P "BadNote" 414 (.ref 181),hE P "is_whole" 423 (.ref 190),hE P "is_within" 432 (.ref 197),hE P "is_row" 438 (.ref 202),hE P "is_grid" 444 (.ref 207),hE P "is_square" 453 (.ref 214),hE P "flipped" 459 (.ref 219),hE P "GREATEST_SIDE" 463 (.int 6 462),hE P "takes_turns" 472 (.ref 226),hE P "is_table" 478 (.ref 231)]
def Ry(P:Params)(v:Value):List DictEntry:=[hE P "must_be_table" 485 (.ref 238),hE P "GREATEST_TOLD" 489 (.int 4 488),hE P "must_be_within" 499 (.ref 245),hE P "factorial" 508 (.ref 252),hE P "counted" 518 (.ref 259),hE P "rows_on" 524 (.ref 264),hE P "added" 530 (.ref 269),hE P "choices_on" 536 (.ref 274),hE P "ways_on" 542 (.ref 279),hE P "chosen" 551 (.ref 286),hE P "laid" 563 (.ref 293),hE P "all_tables" 569 (.ref 298),hE P "stayed" 578 (.ref 305),hE P "turned_left" 585 (.ref 312),hE P "turned_half" 592 (.ref 319),hE P "turned_right" 599 (.ref 326)]
def Rz(P:Params)(v:Value):List DictEntry:=[hE P "told_upright" 605 (.ref 331),hE P "told_flat" 612 (.ref 338),hE P "told_slant" 619 (.ref 345),hE P "told_other" 626 (.ref 352),hE P "TURNS" 643 (.ref 353),hE P "is_turn" 650 (.ref 360),hE P "must_be_turn" 657 (.ref 367),hE P "brought" 666 (.ref 374),hE P "own_turns" 672 (.ref 379),hE P "least_turned" 678 (.ref 384),hE P "left_so" 684 (.ref 389),hE P "_law_cell_at" 694 (.ref 396),hE P "_law_state" 703 (.ref 403),hE P "_law_take" 713 (.ref 410),hE P "_law_refused" 719 (.ref 415),hE P "_law_lines" 725 (.ref 420)]
def SA(P:Params)(v:Value):List DictEntry:=[hE P "_law_table" 731 (.ref 425),hE P "_law_whole" 740 (.ref 432),hE P "_law_turns" 746 (.ref 437),hE P "_law_is_table" 752 (.ref 442),hE P "_law_bent" 769 (.ref 449),hE P "_law_no_table" 778 (.ref 456),hE P "_law_turned" 795 (.ref 463),hE P "_law_turn_words" 801 (.ref 470),hE P "_law_all" 807 (.ref 475),hE P "_law_same" 813 (.ref 480),hE P "_law_even" 819 (.ref 485),hE P "law" 825 (.ref 490)]
def he3(P:Params)(v:Value):List DictEntry:=Rw P v++Rx P v++Ry P v++Rz P v++SA P v
def zX(k:Nat):Nat×Nat×Value:=vF [(9,9,(.str "__main__" 164)),(10,10,(.str "turnsigns.errors" 187)),(11,11,(.str "turnsigns.errors" 187)),(12,12,(.str "turnsigns.errors" 187)),(13,13,(.str "turnsigns.errors" 187)),(14,14,(.str "turnsigns.errors" 187)),(15,15,(.str "turnsigns.errors" 187)),(16,16,(.str "turnsigns.errors" 187)),(17,17,(.str "turnsigns.errors" 187)),(18,18,(.str "turnsigns.errors" 187)),(19,19,(.str "turnsigns.errors" 187)),(20,20,(.str "turnsigns.errors" 187)),(21,21,(.str "turnsigns.errors" 187)),(22,22,(.str "turnsigns.errors" 187)),(29,29,(.str "turnsigns.tables" 460)),(43,43,(.str "turnsigns.counts" 486)),(52,52,(.str "turnsigns.turned" 570)),(61,61,(.str "law_turnsigns_k52_own_turns_and_least_ones" 685)),(74,74,(.str "law_turnsigns_k52_own_turns_and_least_ones" 685)),(76,76,(.str "law_turnsigns_k52_own_turns_and_least_ones" 685))] k (0,0,.none)
def hx3(P:Params)(k:Nat):Obj:=⟨(.type "dict"),none,.dict ⟨(he3 P (zX k).2.2).take (zX k).1⟩ (zX k).2.1,⟨[]⟩⟩
def SD:List Value:=hL3 [(2,20),(4,33),(6,45),(8,57),(10,69),(12,81),(14,93),(16,105),(18,117),(20,129),(22,141),(24,153),(26,165),(28,177),(31,189),(33,196),(35,201),(39,206),(43,213),(47,218),(51,225),(58,230),(62,237),(67,244),(70,251),(75,258),(82,263),(87,268),(89,273),(91,278),(97,285),(103,292),(111,297),(116,304),(118,311),(120,318),(122,325),(124,330),(126,337),(128,344),(130,351),(133,359),(135,366),(138,373),(141,378),(144,383),(147,388),(152,395),(156,402),(161,409),(170,414),(186,419),(196,424),(206,431),(208,436),(211,441),(223,448),(236,455),(242,462),(254,469),(256,474),(265,479),(271,484),(282,489)]
def SE(_:Params)(k:Nat):Obj:=⟨.none,none,.fields ⟨SD.take (vF [0,3,6,9,12,15,18,21,24,27,30,33,36,39,60,96,123,147,186,192] k 0)⟩,⟨[]⟩⟩
def SF:List Value:=[(.ref 37),(.ref 49),(.ref 61),(.ref 73),(.ref 85),(.ref 97),(.ref 109),(.ref 121),(.ref 133),(.ref 145),(.ref 157),(.ref 169),(.ref 181)]
def SG(_:Params)(k:Nat):Obj:=⟨(.type "type"),none,.cls ⟨"SignError",[(.type "ValueError")],[(.ref 24),(.type "ValueError"),(.type "Exception"),(.type "BaseException"),(.type "object")],23,"SignError",true,[],SF.take (vF [0,0,1,2,3,4,5,6,7,8,9,10,11,12,13,13,13,13,13,13] k 0),false,none,false⟩,⟨[(some (.ref 15)),none,(some (.str "SignError" 189)),(some (.str "SignError" 197)),(some (.builtin "ValueError.__new__")),(some (.bool true))]⟩⟩
def hO(P:Params)(k b:Nat):Obj:=match Nat.beq b 3 with|true=>hx3 P k|false=>match Nat.beq b 12 with|true=>SE P k|false=>match Nat.beq b 24 with|true=>SG P k|false=>hB P b
def hn(k:Nat):Nat:=vF [15,28,40,52,64,76,88,100,112,124,136,148,160,172,220,294,353,404,481,491] k 0
noncomputable def hT (k:Nat) (P:Params):BT:=hmk (hO P k) (hn k) 12 1 0
def hV:Env:=zV pw_turnsigns_k52_own_turns_and_least_ones (.ref 13) 14
def hQ:Program:=hVw pw_turnsigns_k52_own_turns_and_least_ones [1,2,3,4,5,6,7,8,9,10,11,12,13,14,16,17,18,19,20,21,23,24,25,26,28,29,30,31,32,33,34,35,36,37,38,40,41,42,43,44,45,46,47,48,49,50,51,52,53,54,56,57,58,59,60,61,62,63,64,65,66,67,68,69,70,71,72]
def hA:List Nat:=[2,3,15,22,23,24,25,28,35,36,37,40,47,48,49,52,59,60,61,64,71,72,73,76,83,84,85,88,95,96,97,100,107,108,109,112,119,120,121,124,131,132,133,136,143,144,145,148,155,156,157,160,167,168,169,172,179,180,181,184,186,187,189,190,191,193,194,196,197,198,201,202,203,206,207,208,210,211,213,214,215,218,219,220,222,223,225,226,227,230,231,232,234,235,237,238,239,241,242,244,245,246,248,249,251,252,253,255,256,258,259,260,263,264,265,268,269,270,273,274,275,278,279,280,282,283,285,286,287,289,290,292,293,294,297,298,299,301,302,304,305,306,308,309,311,312,313,315,316,318,319,320,322,323,325,326,327,330,331,332,334,335,337,338,339,341,342,344,345,346,348,349,351,352,353,354,356,357,359,360,361,363,364,366,367,368,370,371,373,374,375,378,379,380,383,384,385,388,389,390,392,393,395,396,397,399,400,402,403,404,406,407,409,410,411,414,415,416,419,420,421,424,425,426,428,429,431,432,433,436,437,438,441,442,443,445,446,448,449,450,452,453,455,456,457,459,460,462,463,464,466,467,469,470,471,474,475,476,479,480,481,484,485,486,489,490]
def hK(P:Params):Frag:=hA.map fun a=>(a,hO P 19 a)
def hH(P:Params):Heap:=absHeap (hT 19 P) 491 {}
theorem htw:(uP hT&&uP hH&&uP hV&&uP hQ&&uP hK&&uP pw_turnsigns_k52_own_turns_and_least_ones)=true:=by k_qdec
abbrev tE:=pw_turnsigns_k52_own_turns_and_least_ones
noncomputable abbrev fb:=tw14364793385576792824
noncomputable abbrev fp:=tw13064959648884072352
noncomputable abbrev ft:=tw2951422497969602816
noncomputable abbrev fv:=tw13331532159558996000
theorem SH:xC 11 (some (.ref 6)) 12 15 187 ⟨0,0,0,0⟩ ⟨0,0,0,0⟩ tw15667345088766844465 tw11892475500146522536 fb fp ft fv:=fun w=>by kernel_rfl
theorem hpre:xC 11 (some (.ref 6)) 12 15 187 ⟨0,0,0,0⟩ ⟨0,0,0,0⟩ topGo denote treeTable pw_turnsigns_k52_own_turns_and_least_ones hT hV:=by rw[te15667345088766844465,te11892475500146522536,Yt,te13064959648884072352,te2951422497969602816,te13331532159558996000];exact SH
theorem SI:xD 11 (some (.ref 6)) 1 15 187 ⟨0,0,0,0⟩ ⟨0,0,0,0⟩ ⟨0,0,0,0⟩ tw14374325043358763698 fb fp ft fv:=fun w=>by kernel_rfl
theorem zY:xD 11 (some (.ref 6)) 1 15 187 ⟨0,0,0,0⟩ ⟨0,0,0,0⟩ ⟨0,0,0,0⟩ segRun treeTable pw_turnsigns_k52_own_turns_and_least_ones hT hV:=by rw[te14374325043358763698,Yt,te13064959648884072352,te2951422497969602816,te13331532159558996000];exact SI
theorem sS{m0:Nat}{ann:Option Value}{n i j k n0 t0 n1 t1:Nat}{q q0 q1:Pos}(h:r8 m0 ann n i j k n0 t0 n1 t1 q q0 q1 tw10110043849684766642 fb fp ft fv):r8 m0 ann n i j k n0 t0 n1 t1 q q0 q1 segRunT treeTable pw_turnsigns_k52_own_turns_and_least_ones hT hV:=by rw[te10110043849684766642,Yt,te13064959648884072352,te2951422497969602816,te13331532159558996000];exact h
theorem hp0:r8 11 (some (.ref 6)) 196 0 2 0 15 187 28 207 ⟨0,0,0,0⟩ ⟨0,0,0,0⟩ ⟨2,0,3,8⟩ segRunT treeTable tE hT hV:=sS fun w=>by kernel_rfl
theorem hp1:r8 11 (some (.ref 6)) 214 2 1 1 28 207 40 223 ⟨0,0,0,0⟩ ⟨2,0,3,8⟩ ⟨4,0,5,8⟩ segRunT treeTable tE hT hV:=sS fun w=>by kernel_rfl
theorem hp2:r8 11 (some (.ref 6)) 214 3 1 2 40 223 52 239 ⟨0,0,0,0⟩ ⟨4,0,5,8⟩ ⟨6,0,7,8⟩ segRunT treeTable tE hT hV:=sS fun w=>by kernel_rfl
theorem hp3:r8 11 (some (.ref 6)) 214 4 1 3 52 239 64 255 ⟨0,0,0,0⟩ ⟨6,0,7,8⟩ ⟨8,0,9,8⟩ segRunT treeTable tE hT hV:=sS fun w=>by kernel_rfl
theorem hp4:r8 11 (some (.ref 6)) 214 5 1 4 64 255 76 271 ⟨0,0,0,0⟩ ⟨8,0,9,8⟩ ⟨10,0,11,8⟩ segRunT treeTable tE hT hV:=sS fun w=>by kernel_rfl
theorem zG:r8 11 (some (.ref 6)) 214 6 1 5 76 271 88 287 ⟨0,0,0,0⟩ ⟨10,0,11,8⟩ ⟨12,0,13,8⟩ segRunT treeTable tE hT hV:=sS fun w=>by kernel_rfl
theorem hp6:r8 11 (some (.ref 6)) 214 7 1 6 88 287 100 303 ⟨0,0,0,0⟩ ⟨12,0,13,8⟩ ⟨14,0,15,8⟩ segRunT treeTable tE hT hV:=sS fun w=>by kernel_rfl
theorem hp7:r8 11 (some (.ref 6)) 214 8 1 7 100 303 112 319 ⟨0,0,0,0⟩ ⟨14,0,15,8⟩ ⟨16,0,17,8⟩ segRunT treeTable tE hT hV:=sS fun w=>by kernel_rfl
theorem hp8:r8 11 (some (.ref 6)) 214 9 1 8 112 319 124 335 ⟨0,0,0,0⟩ ⟨16,0,17,8⟩ ⟨18,0,19,8⟩ segRunT treeTable tE hT hV:=sS fun w=>by kernel_rfl
theorem hp9:r8 11 (some (.ref 6)) 214 10 1 9 124 335 136 351 ⟨0,0,0,0⟩ ⟨18,0,19,8⟩ ⟨20,0,21,8⟩ segRunT treeTable tE hT hV:=sS fun w=>by kernel_rfl
theorem SJ:r8 11 (some (.ref 6)) 214 11 1 10 136 351 148 367 ⟨0,0,0,0⟩ ⟨20,0,21,8⟩ ⟨22,0,23,8⟩ segRunT treeTable tE hT hV:=sS fun w=>by kernel_rfl
theorem SK:r8 11 (some (.ref 6)) 214 12 1 11 148 367 160 383 ⟨0,0,0,0⟩ ⟨22,0,23,8⟩ ⟨24,0,25,8⟩ segRunT treeTable tE hT hV:=sS fun w=>by kernel_rfl
theorem SL:r8 11 (some (.ref 6)) 214 13 1 12 160 383 172 399 ⟨0,0,0,0⟩ ⟨24,0,25,8⟩ ⟨26,0,27,8⟩ segRunT treeTable tE hT hV:=sS fun w=>by kernel_rfl
theorem SM:r8 11 (some (.ref 6)) 401 14 9 13 172 399 220 462 ⟨0,0,0,0⟩ ⟨26,0,27,8⟩ ⟨49,0,49,8⟩ segRunT treeTable tE hT hV:=sS fun w=>by kernel_rfl
theorem SN:r8 11 (some (.ref 6)) 378 23 15 14 220 462 294 564 ⟨0,0,0,0⟩ ⟨49,0,49,8⟩ ⟨103,0,110,22⟩ segRunT treeTable tE hT hV:=sS fun w=>by kernel_rfl
theorem SO:r8 11 (some (.ref 6)) 265 38 10 15 294 564 353 627 ⟨0,0,0,0⟩ ⟨103,0,110,22⟩ ⟨130,0,131,41⟩ segRunT treeTable tE hT hV:=sS fun w=>by kernel_rfl
theorem SQ:r8 11 (some (.ref 6)) 376 48 10 16 353 627 404 704 ⟨0,0,0,0⟩ ⟨130,0,131,41⟩ ⟨156,0,160,42⟩ segRunT treeTable tE hT hV:=sS (by unfold r8;refine xF "special-get-raises" fun b w=>?_;cases b<;>kernel_rfl)
theorem SR:r8 11 (some (.ref 6)) 383 58 13 17 404 704 481 814 ⟨0,0,0,0⟩ ⟨156,0,160,42⟩ ⟨265,0,270,96⟩ segRunT treeTable tE hT hV:=sS fun w=>by kernel_rfl
theorem SS:r8 11 (some (.ref 6)) 53 71 2 18 481 814 491 826 ⟨0,0,0,0⟩ ⟨265,0,270,96⟩ ⟨282,0,313,103⟩ segRunT treeTable tE hT hV:=sS fun w=>by kernel_rfl
theorem SU:xE 11 (some (.ref 6)) 2 19 491 826 ⟨0,0,0,0⟩ ⟨282,0,313,103⟩ tw14082659384304107361 fb fp ft fv:=fun w=>by kernel_rfl
theorem zZ:xE 11 (some (.ref 6)) 2 19 491 826 ⟨0,0,0,0⟩ ⟨282,0,313,103⟩ topRun treeTable pw_turnsigns_k52_own_turns_and_least_ones hT hV:=by rw[te14082659384304107361,Yt,te13064959648884072352,te2951422497969602816,te13331532159558996000];exact SU
theorem xG(w:World)(os:OsState):topRun treeTable pw_turnsigns_k52_own_turns_and_least_ones w 11 (some (.ref 6)) (Nat.add 12 (Nat.add 1 (Nat.add 196 (Nat.add 214 (Nat.add 214 (Nat.add 214 (Nat.add 214 (Nat.add 214 (Nat.add 214 (Nat.add 214 (Nat.add 214 (Nat.add 214 (Nat.add 214 (Nat.add 214 (Nat.add 214 (Nat.add 401 (Nat.add 378 (Nat.add 265 (Nat.add 376 (Nat.add 383 (Nat.add 53 (2)))))))))))))))))))))) ⟨boot_heap w.params,⟨[]⟩,boot_drawn,boot_toks,os⟩ (topStub pw_turnsigns_k52_own_turns_and_least_ones)=some (SharedT.abs ⟨hT 19 w.params,491,{},⟨[]⟩,{},826,os⟩):=hgo hpre w os (yQ zY w os (pS hp0 w os (pS hp1 w os (pS hp2 w os (pS hp3 w os (pS hp4 w os (pS zG w os (pS hp6 w os (pS hp7 w os (pS hp8 w os (pS hp9 w os (pS SJ w os (pS SK w os (pS SL w os (pS SM w os (pS SN w os (pS SO w os (pS SQ w os (pS SR w os (pS SS w os (yR (by kernel_rfl) zZ w os)))))))))))))))))))))
theorem SV:zW tw13064959648884072352 tw2868902913832183676 tw17792431944770499357 tw10087818738708739623 hA [487] 826 ["TURNS"]:=⟨fun _=>by kernel_rfl,fun _=>by kernel_rfl,fun _=>by kernel_rfl,fun _=>by kernel_rfl,fun _=>by kernel_rfl,fun _=>by kernel_rfl,fun _=>by kernel_rfl,fun _=>by kernel_rfl,fun _=>by kernel_rfl,fun _=>by kernel_rfl,fun _=>by kernel_rfl,fun _=>by kernel_rfl⟩
theorem hlk:zW pw_turnsigns_k52_own_turns_and_least_ones hQ hH hK hA [487] 826 ["TURNS"]:=by rw[te13064959648884072352,te2868902913832183676,te17792431944770499357,te10087818738708739623];exact SV
abbrev xH:Hook:=kmHook hK hA (fun _=>by kernel_rfl) [487]
theorem hlf:LeftO pw_turnsigns_k52_own_turns_and_least_ones hQ ["TURNS"] (fun s=>xlAt hQ [] s&&recOk [] s) (Hook.obs xH) (Hook.val xH) 9328:=hleft (fun _=>by kernel_rfl) (by kernel_rfl) (fun _=>by kernel_rfl) (by decide) (by decide) xG hlk
abbrev hDr:DefRec:=⟨"law",hsA (hS 72),hsB (hS 72),hsS (hS 72),hsP (hS 72)⟩
end
end K52
namespace K52
open PySem PySem.W PyProof.Rows
theorem SW(hc:WalkO hQ ["TURNS"] (XL hQ []) (Hook.says xH) PySem.Challenge.rw_turnsigns_k52_own_turns_and_least_ones.row.toRowW hDr [] fun f vs=>call f vs):PySem.Challenge.rw_turnsigns_k52_own_turns_and_least_ones.Holds:=by
 o_law
 exact holds_open (Xt:=fun s=>xlAt hQ [] s&&recOk [] s) (Yf:=Hook.obs xH) (Ya:=Hook.val xH) (N:=9328) hlf (Hook.of xH) (Hook.keeps xH) (fun s e=>xl_of s (Bool.and_eq_true_iff.mp e).1) XL.keeps (by kernel_rfl) (by kernel_rfl) (by kernel_rfl) (fun s e=>recFacts_of (Bool.and_eq_true_iff.mp e).2) rfl (by assumption) (by rfl') ⟨rfl,rfl,rfl,rfl,rfl,by rfl'⟩ ⟨[.list []],by rfl',by rfl'⟩ hc
end K52
namespace L2
open PySem PySem.Spec PyProof.Rows
variable{A:Around}{C L a b dx it:Addr}{E Q:OE}{K:Qz}{M:Model}{N ps:List Str}{P:Program}{base h h':Heap}{body:List Stmt}{c e tg:Expr}{ch fp:List Addr}{d':Drawn}{es:List Expr}{fd:FuncData}{g':Array GenState}{i j k n t':Nat}{mA mg:OU}{op op':CmpOp}{p pos':Pos}{pins:OX}{qual x:Str}{s s':Shared}{scope:Scope}{u:Value}{us:List Value}{w:World}{α:Type}
abbrev Key:=Sum Int Str
def Bb:Key->Value->Bool
 |.inl k,v=>Value.isInt k v
 |.inr x,v=>Value.isStrOf x v
def SX(w:World):Key->Int
 |.inl k=>hashInt k
 |.inr x=>hashStr w x
theorem Z8:∀{k:Key}{v:Value},Bb k v=true->(∃i t,k=Sum.inl i/\v=Value.int i t)\/(∃x t,k=Sum.inr x/\v=Value.str x t)
 |.inl i,v,h=>by
  obtain⟨t,e⟩:=Value.isInt_shape (k:=i) (v:=v) h;exact .inl ⟨i,t,rfl,e⟩
 |.inr x,v,h=>by
  obtain⟨t,e⟩:=Value.isStrOf_shape (x:=x) (v:=v) h;exact .inr ⟨x,t,rfl,e⟩
theorem SY(i:Int)(t:Tok):Bb (.inl i) (.int i t)=true:=by simp[Bb,Value.isInt]
theorem SZ(x:Str)(t:Tok):Bb (.inr x) (.str x t)=true:=by simp[Bb,Value.isStrOf]
theorem Sa(a b:Int):decide ((Sum.inl a:Key)=Sum.inl b)=(a==b):=by
 by_cases e:a=b
 ·subst e;simp
 ·have h:¬ (Sum.inl a:Key)=Sum.inl b:=fun q=>e (Sum.inl.inj q)
  rw[Qt h];exact(Zb.mpr e).symm
theorem Sb(a b:Str):decide ((Sum.inr a:Key)=Sum.inr b)=decide (a=b):=by
 by_cases e:a=b
 ·subst e;simp
 ·have h:¬ (Sum.inr a:Key)=Sum.inr b:=fun q=>e (Sum.inr.inj q)
  rw[Qt h,Qt e]
theorem Se(a:Int)(b:Str):decide ((Sum.inl a:Key)=Sum.inr b)=false:=Qt (fun q=>nomatch q)
theorem Sf(a:Str)(b:Int):decide ((Sum.inr a:Key)=Sum.inl b)=false:=Qt (fun q=>nomatch q)
def L5(prog:Program)(w:World):PySem.KeyKind prog w Key where
 is:=Bb
 hash:=SX w
 inj:=fun v a b ha hb=>by
  rcases Z8 ha with⟨i,t,rfl,rfl⟩|⟨x,t,rfl,rfl⟩
  ·rcases Z8 hb with⟨j,u,rfl,e⟩|⟨y,u,rfl,e⟩
   ·injection e with e1 _;rw[e1]
   ·exact nomatch e
  ·rcases Z8 hb with⟨j,u,rfl,e⟩|⟨y,u,rfl,e⟩
   ·exact nomatch e
   ·injection e with e1 _;rw[e1]
 byValue:=fun k v h=>by
  rcases Z8 h with⟨i,t,rfl,rfl⟩|⟨x,t,rfl,rfl⟩<;>rfl
 pyHash:=fun hv h=>by
  rcases Z8 hv with⟨i,t,rfl,rfl⟩|⟨x,t,rfl,rfl⟩
  ·exact wpAny_pyHash_int h
  ·exact wpAny_pyHash_str h
 eqBool:=fun hu hv h=>by
  rcases Z8 hu with⟨i,t,rfl,rfl⟩|⟨x,t,rfl,rfl⟩
  ·rcases Z8 hv with⟨j,u,rfl,rfl⟩|⟨y,u,rfl,rfl⟩
   ·rw[Sa]at h;exact wpAny_eqBool_int h
   ·rw[Se]at h;exact SeqAt.EqAt.int_str i t y u _ _ _ _ h
  ·rcases Z8 hv with⟨j,u,rfl,rfl⟩|⟨y,u,rfl,rfl⟩
   ·rw[Sf]at h;exact SeqAt.EqAt.str_int x t j u _ _ _ _ h
   ·rw[Sb]at h;exact wpAny_eqBool_str h
 «strs»:=fun k x t v h=>by
  rcases Z8 h with⟨i,u,rfl,e⟩|⟨y,u,rfl,e⟩
  ·exact nomatch e
  ·injection e with e1 _
   subst e1;cases v<;>rfl
theorem Sg(prog:Program)(w:World)(i:Int)(t:Tok):(L5 prog w).is (.inl i) (.int i t)=true:=SY i t
theorem Sh(prog:Program)(w:World)(x:Str)(t:Tok):(L5 prog w).is (.inr x) (.str x t)=true:=SZ x t
inductive V where
 |non|bl (b:Bool)|int (i:Int)|str (x:Str)|byt (b:Array UInt8)|flt (b:UInt64)|ref (a:Addr)|ty (n:String)
 deriving DecidableEq
variable{v y:V}{vs:List V}
def E2:V->Value->Prop
 |.non,u=>u=Value.none
 |.bl b,u=>u=Value.bool b
 |.int i,u=>∃t,u=Value.int i t
 |.str x,u=>∃t,u=Value.str x t
 |.byt b,u=>∃t,u=Value.bytes b t
 |.flt b,u=>∃t,u=Value.float b t
 |.ref a,u=>u=Value.ref a
 |.ty n,u=>u=Value.type n
abbrev D2:List V->List Value->Prop:=Paired E2
theorem D2.length{xs:List V}(r:D2 xs us):xs.length=us.length:=Paired.length r
theorem D2.get:∀{xs:List V}{us:List Value}{i:Nat}{x:V},D2 xs us->xs[i]? =some x->∃u,us[i]? =some u/\E2 x u
 |_,_,_,_,.nil,e=>by simp at e
 |_,_,0,_,.cons r _,e=>by simp at e;subst e;exact⟨_,rfl,r⟩
 |_,_,i+1,x,.cons _ t,e=>by
  obtain⟨u,h1,h2⟩:=D2.get (i:=i) (x:=x) t (by simpa using e)
  exact⟨u,by simpa using h1,h2⟩
theorem D2.set{x:V}{u:Value}(r:E2 x u):∀{xs:List V}{us:List Value}(i:Nat),D2 xs us->D2 (xs.set i x) (us.set i u)
 |_,_,_,.nil=>.nil
 |_,_,0,.cons _ t=>.cons r t
 |_,_,i+1,.cons q t=>.cons q (D2.set r i t)
theorem D2.append:∀{xs ys:List V}{us ws:List Value},D2 xs us->D2 ys ws->D2 (xs++ys) (us++ws)
 |_,_,_,_,.nil,s=>s
 |_,_,_,_,.cons r t,s=>.cons r (D2.append t s)
theorem D2.take:∀{xs:List V}{us:List Value}(n:Nat),D2 xs us->D2 (xs.take n) (us.take n)
 |_,_,0,_=>.nil
 |_,_,_+1,.nil=>.nil
 |_,_,n+1,.cons r t=>.cons r (D2.take n t)
theorem D2.drop:∀{xs:List V}{us:List Value}(n:Nat),D2 xs us->D2 (xs.drop n) (us.drop n)
 |_,_,0,r=>r
 |_,_,_+1,.nil=>.nil
 |_,_,n+1,.cons _ t=>D2.drop n t
def W0:Option V->Option Value->Prop
 |some v,some u=>E2 v u
 |none,none=>True
 |_,_=>False
def KV{κ:Type}:List (κ×V)->List (κ×Value)->Prop:=Paired fun(p:κ×V) (q:κ×Value)=>p.1=q.1/\E2 p.2 q.2
def kV:Key->V
 |.inl i=>.int i
 |.inr x=>.str x
inductive HO where
 |lst (xs:List V)
 |tup (xs:List V)
 |dK (kvs:List (Key×V))|dT (C:Addr->List Key->Prop) (kvs:List (List Key×V))
 |set (S:Int->Bool) (n:Nat)
 |ins (C dx:Addr) (fs:List (Str×V))
 |own (x:Addr)
 |xd (fs:List (Str×V))
 |met (f x:Addr)
 |rng (lo hi:Int)
 |frz (o:Obj) (u:HO)
 |tbl (ps:Array Value)
 |ext (φ:Heap->Prop)
variable{o:HO}
abbrev Hp:=Addr->Option HO
variable{H H':Hp}{R:V->V->Hp->Prop}
def upd(H:Hp)(a:Addr)(o:HO):Hp:=fun b=>if b=a then some o else H b
theorem G7:upd H a o a=some o:=by unfold upd;rw[Qn rfl]
theorem D3(h:b≠a):upd H a o b=H b:=by unfold upd;rw[Ql h]
theorem LK{u:HO}:upd (upd H a o) a u=upd H a u:=by
 funext b;unfold upd;split<;>rfl
theorem Si{u:HO}(h:H a=some o)(h':H b=some u)(d:o≠u):a≠b:=by
 intro e;subst e;rw[h]at h';exact d (Zt h')
theorem O4(h:H a=some o)(h':H b=none):a≠b:=by
 intro e;subst e;rw[h]at h';cases h'
def U8(h:Heap)(a:Addr)(items:Array Value):Prop:=∃o,h.get? a=some o/\o.cls=.type "tuple"/\o.dict=none/\∃n,o.data=.seq items n
theorem U8.tup{items:Array Value}:U8 h a items->IsTup h a items:=fun⟨o,e,c,_,d⟩=>⟨o,e,c,d⟩
theorem U8.lt{items:Array Value}(p:U8 h a items):a<h.objs.size:=p.tup.lt
theorem U8.new(h:Heap)(items:Array Value):U8 (h.push {cls:=.type "tuple",data:=.seq items}) h.objs.size items:=⟨_,Qd _ rfl,rfl,rfl,_,rfl⟩
section
variable(P:Program)(w:World)
def K1(H:Hp)(h:Heap)(a:Addr):HO->Prop
 |.lst xs=>xs.length≤sizeLine/\∃(its:List Value) (n:Nat),D2 xs its/\h.get? a=some {cls:=.type "list",data:=.seq its.toArray n}
 |.tup xs=>xs.length≤sizeLine/\∃its:List Value,D2 xs its/\U8 h a its.toArray
 |.dK kvs=>kvs.length≤sizeLine/\(a==sysModules)=false/\∃vs,KV kvs vs/\h.DictOf (L5 P w) a vs
 |.dT C kvs=>kvs.length≤sizeLine/\(a==sysModules)=false/\∃xs:List (List Key×Addr×Value),
   Paired (fun(p:List Key×V) (q:List Key×Addr×Value)=>p.1=q.1/\(H q.2.1=some (.tup (p.1.map kV))\/C q.2.1 p.1)/\E2 p.2 q.2.2) kvs xs/\
   ∃o es ep,h.get? a=some o/\o.ExactDict/\o.data=.dict es ep/\es.toList=xs.map (entryOfKey (tupleKind (L5 P w)))/\(xs.map (·.1)).Nodup
 |.set S n=>h.SetOf (intKind P w) a S n
 |.ins C dx fs=>H dx=some (.own a)/\fs.length≤1000/\dx≠a/\h.get? a=some (PySem.W.instObj C dx)/\
   ∃mA,h.Ns1 dx mA/\(∀f,W0 (fs.lookup f) (mA f))/\PySem.Within mA (fs.map (·.1))
 |.own _=>∃o,h.get? a=some o
 |.xd fs=>∃mA,h.Ns1 a mA/\∀f,W0 (fs.lookup f) (mA f)
 |.rng lo hi=>∃t u v,h.get? a=some {cls:=.type "range",data:=.fields #[.int lo t,.int hi u,.int 1 v]}
 |.frz o u=>h.get? a=some o/\K1 H h a u
 |.tbl ps=>h.get? a=some {cls:=.none,data:=.fields ps}
 |.met f x=>h.get? a=some (PySem.W.methodObj (.ref f) (.ref x))
 |.ext φ=>φ h/\(∃o,h.get? a=some o)/\∀h1 h2:Heap,φ h1->(∀o,h1.get? a=some o->h2.get? a=some o)->φ h2
def qV(H:Hp)(h:Heap):Prop:=∀a o,H a=some o->K1 P w H h a o
end
theorem K1.lt(x:K1 P w H h a o):a<h.objs.size:=by
 cases o with
 |lst xs=>obtain⟨_,_,_,_,e⟩:=x;exact Qu e
 |tup xs=>obtain⟨_,_,_,p⟩:=x;exact p.lt
 |dK kvs=>obtain⟨_,_,_,_,o,_,_,e,_⟩:=x;exact Qu e
 |dT C kvs=>obtain⟨_,_,_,_,o,_,_,e,_⟩:=x;exact Qu e
 |set S n=>obtain⟨o,_,_,_,e,_⟩:=x;exact Qu e
 |ins C dx fs=>obtain⟨_,_,_,e,_⟩:=x;exact Qu e
 |own y=>obtain⟨_,e⟩:=x;exact Qu e
 |xd fs=>obtain⟨_,⟨_,_,_,e,_⟩,_⟩:=x;exact Qu e
 |rng lo hi=>obtain⟨_,_,_,e⟩:=x;exact Qu e
 |frz ob u=>obtain⟨e,_⟩:=x;exact Qu e
 |tbl ps=>exact Qu (show h.get? a=some _ from x)
 |met f y=>exact Qu (show h.get? a=some _ from x)
 |ext φ=>obtain⟨_,⟨_,e⟩,_⟩:=x;exact Qu e
theorem Paired.mapP{α β:Type}{F G:α->β->Prop}:∀{l₁:List α}{l₂:List β},Paired F l₁ l₂->(∀a b,F a b->G a b)->Paired G l₁ l₂
 |_,_,.nil,_=>.nil
 |_,_,.cons r t,f=>.cons (f _ _ r) (Paired.mapP t f)
theorem K1.stay(x:K1 P w H h a o)(k:∀b u,(b=a\/H b=some (.own a))->h.get? b=some u->h'.get? b=some u)
  (ho:∀b,H b=some (.own a)->H' b=some (.own a))(ht:∀b xs,H b=some (.tup xs)->H' b=some (.tup xs)):K1 P w H' h' a o:=by
 induction o with
 |lst xs=>obtain⟨z,its,n,r,e⟩:=x;exact⟨z,its,n,r,k _ _ (.inl rfl) e⟩
 |tup xs=>obtain⟨z,its,r,ob,e,c⟩:=x;exact⟨z,its,r,ob,k _ _ (.inl rfl) e,c⟩
 |dK kvs=>obtain⟨z,y,vs,r,ob,es,ep,e,c⟩:=x;exact⟨z,y,vs,r,ob,es,ep,k _ _ (.inl rfl) e,c⟩
 |dT C kvs=>
  obtain⟨z,y,xs,r,ob,es,ep,e,c⟩:=x;exact⟨z,y,xs,Paired.mapP r fun p q z=>⟨z.1,z.2.1.imp (ht _ _) id,z.2.2⟩,ob,es,ep,k _ _ (.inl rfl) e,c⟩
 |set S n=>obtain⟨ob,es,ep,t,e,c⟩:=x;exact⟨ob,es,ep,t,k _ _ (.inl rfl) e,c⟩
 |ins C dx fs=>
  obtain⟨d,z,ne,e,mA,⟨od,es,ep,e2,c⟩,r⟩:=x;exact⟨ho _ d,z,ne,k _ _ (.inl rfl) e,mA,⟨od,es,ep,k _ _ (.inr d) e2,c⟩,r⟩
 |own y=>obtain⟨ob,e⟩:=x;exact⟨ob,k _ _ (.inl rfl) e⟩
 |xd fs=>obtain⟨mA,⟨od,es,ep,e,c⟩,r⟩:=x;exact⟨mA,⟨od,es,ep,k _ _ (.inl rfl) e,c⟩,r⟩
 |rng lo hi=>obtain⟨t,u,v,e⟩:=x;exact⟨t,u,v,k _ _ (.inl rfl) e⟩
 |frz ob u ih=>obtain⟨e,q⟩:=x;exact⟨k _ _ (.inl rfl) e,ih q⟩
 |tbl ps=>
  have e:h.get? a=some {cls:=.none,data:=.fields ps}:=x
  show h'.get? a=some {cls:=.none,data:=.fields ps};exact k a _ (.inl rfl) e
 |met f y=>
  have e:h.get? a=some (PySem.W.methodObj (.ref f) (.ref y)):=x
  show h'.get? a=some (PySem.W.methodObj (.ref f) (.ref y));exact k a _ (.inl rfl) e
 |ext φ=>obtain⟨p,⟨o,e⟩,st⟩:=x;exact⟨st _ _ p fun o q=>k _ _ (.inl rfl) q,⟨o,k _ _ (.inl rfl) e⟩,st⟩
theorem qV.lt(x:qV P w H h)(e:H a=some o):a<h.objs.size:=(x a o e).lt
theorem qV.fresh(x:qV P w H h)(e:h.objs.size≤a):H a=none:=by
 cases q:H a with
 |none=>rfl
 |some u=>exact absurd (Qr (x.lt q) e) (Yy _)
theorem qV.kept(x:qV P w H h)(k:∀b u,h.get? b=some u->h'.get? b=some u):qV P w H h':=fun a o e=>
 (x a o e).stay (fun b u _ q=>k b u q) (fun _ q=>q) fun _ _ q=>q
theorem qV.laid(x:qV P w H h)(k:∀b u,h.get? b=some u->h'.get? b=some u)(hp:h.objs.size≤a)(new:K1 P w (upd H a o) h' a o):qV P w (upd H a o) h':=fun b u e=>by
 have hn:=x.fresh hp
 by_cases hb:b=a
 ·subst hb;rw[G7]at e;cases e;exact new
 ·rw[D3 hb]at e
  exact(x b u e).stay (fun c v _ q=>k c v q) (fun c q=>by rw[D3 (O4 q hn)];exact q) fun c xs q=>by rw[D3 (O4 q hn)];exact q
def Rd(H:Hp)(a:Addr)(u:HO):Prop:=H a=some u\/ ∃o,H a=some (.frz o u)
theorem Rd.ok{u:HO}(r:Rd H a u)(x:qV P w H h):K1 P w H h a u:=by
 rcases r with r|⟨o,r⟩
 ·exact x a u r
 ·obtain⟨_,q⟩:=x a _ r
  exact q
def yS:Option HO->Prop
 |some (.lst _)=>True
 |some (.dK _)=>True
 |some (.dT _ _)=>True
 |some (.set _ _)=>True
 |some (.ins _ _ _)=>True
 |some (.ext _)=>True
 |_=>False
section
variable{x e:Addr}{o':HO}
theorem qV.write(ok:qV P w H h)(mu:yS (H x))(he:e=x\/H e=some (.own x))(k:∀b u,b≠e->h.get? b=some u->h'.get? b=some u)(heo:∃u,h'.get? e=some u)
  (new:K1 P w (upd H x o') h' x o'):qV P w (upd H x o') h':=fun b u q=>by
 have nown:∀c y,H c=some (.own y)->c≠x:=fun c y r z=>by subst z;rw[r]at mu;exact mu
 have ntup:∀c xs,H c=some (.tup xs)->c≠x:=fun c xs r z=>by subst z;rw[r]at mu;exact mu
 by_cases hb:b=x
 ·subst hb;rw[G7]at q;cases q;exact new
 ·rw[D3 hb]at q
  by_cases hbe:b=e
  ·have q':H b=some (.own x):=by
    rcases he with z|z
    ·exact absurd (hbe.trans z) hb
    ·rw[hbe];exact z
   rw[q]at q';cases q';obtain⟨v,hv⟩:=heo;exact⟨v,by rw[hbe];exact hv⟩
  ·refine(ok b u q).stay (fun c v hc r=>k c v ?_ r) (fun c r=>by rw[D3 (nown c b r)];exact r) fun c xs r=>by rw[D3 (ntup c xs r)];exact r
   rcases hc with rfl|hc
   ·exact hbe
   ·rintro rfl
    rcases he with z|z
    ·exact nown c b hc z
    ·rw[hc]at z;cases z;exact hb rfl
end
structure Un(fs ex:List Addr)(H H':Hp)(h h':Heap):Prop where
 keep:∀b o,h.get? b=some o->H b=none->b∉fs->b∉ex->h'.get? b=some o
 slot:∀b o,h.get? b=some o->H b=none->b∈fs->b∉ex->∃sl,h'.get? b=some {o with slots:=sl}
 free:∀b o,h.get? b=some o->H b=none->b∉ex->H' b=none
 there:∀b o,h.get? b=some o->b∉ex->∃o',h'.get? b=some o'
 tups:∀b xs,H b=some (.tup xs)->H' b=some (.tup xs)
 frzs:∀b o u,H b=some (.frz o u)->H' b=some (.frz o u)
 tbls:∀b ps,H b=some (.tbl ps)->∃more,H' b=some (.tbl (ps++more))
section
variable{fs fs' ex ex':List Addr}{H1 H2:Hp}{h1 h2:Heap}{x e:Addr}
theorem Un.any(u:Un fs ex H H1 h h1){ob:Obj}(q:h.get? b=some ob)(n:H b=none)(hx:b∉ex):∃sl,h1.get? b=some {ob with slots:=sl}:=by
 by_cases hb:b∈fs
 ·exact u.slot b ob q n hb hx
 ·exact⟨ob.slots,u.keep b ob q n hb hx⟩
theorem Un.kept(k:∀b u,h.get? b=some u->h'.get? b=some u):Un fs ex H H h h':=
 ⟨fun b ob q _ _ _=>k b ob q,fun b ob q _ _ _=>⟨ob.slots,k b ob q⟩,fun _ _ _ n _=>n,fun b ob q _=>⟨ob,k b ob q⟩,fun _ _ q=>q,fun _ _ _ q=>q,fun _ ps q=>⟨#[],by rw[q];simp⟩⟩
theorem Un.refl:Un fs ex H H h h:=Un.kept fun _ _ q=>q
theorem Un.laid(k:∀b u,h.get? b=some u->h'.get? b=some u)(hp:h.objs.size≤a)(hn:H a=none):Un fs ex H (upd H a o) h h' where
 keep:=fun b u q _ _ _=>k b u q
 slot:=fun b u q _ _ _=>⟨u.slots,k b u q⟩
 free:=fun b u q n _=>by rw[D3 (Qs (Qr (Qu q) hp))];exact n
 there:=fun b u q _=>⟨u,k b u q⟩
 tups:=fun b xs q=>by rw[D3 (O4 q hn)];exact q
 frzs:=fun b u xs q=>by rw[D3 (O4 q hn)];exact q
 tbls:=fun b ps q=>⟨#[],by rw[D3 (O4 q hn),q];simp⟩
theorem Un.write(mu:yS (H x))(he:e=x\/H e=some (.own x))(k:∀b u,b≠e->h.get? b=some u->h'.get? b=some u)(heo:∃u,h'.get? e=some u):Un fs ex H (upd H x o) h h':=by
 have hx:∀b,H b=none->b≠x:=fun b n z=>by subst z;rw[n]at mu;exact mu
 have hb:∀b,H b=none->b≠e:=fun b n z=>by
  subst z
  rcases he with r|r
  ·exact hx b n r
  ·rw[n]at r;cases r
 have hm:∀b u,H b=some u-> ¬ yS (some u)->b≠x:=fun b u q nm z=>by subst z;rw[q]at mu;exact nm mu
 refine⟨fun b u q n _ _=>k b u (hb b n) q,fun b u q n _ _=>⟨u.slots,k b u (hb b n) q⟩,fun b u q n _=>by rw[D3 (hx b n)];exact n,fun b u q _=>?_,
  fun b xs q=>by rw[D3 (hm b _ q fun z=>z)];exact q,fun b u xs q=>by rw[D3 (hm b _ q fun z=>z)];exact q,fun b ps q=>⟨#[],by rw[D3 (hm b _ q fun z=>z),q];simp⟩⟩
 by_cases hbe:b=e
 ·subst hbe;exact heo
 ·exact⟨u,k b u hbe q⟩
end
def zH(h:Heap)(H:Hp):List Addr:=(List.range h.objs.size).filter fun a=>(H a).isSome
def Z9(h:Heap)(H:Hp):Heap:=PySem.W.hideAll h (zH h H)
theorem Sj(h:Heap)(H:Hp):(Z9 h H).objs.size=h.objs.size:=PySem.W.hideAll_size _ _
theorem Sk{o:Obj}(e:h.get? b=some o)(n:H b=none):(Z9 h H).get? b=some o:=
 Jc _ e fun hm=>by
  have q:(H b).isSome=true:=(Vs.mp hm).2
  rw[n]at q;simp at q
theorem Sl{o:Obj}(e:(Z9 h H).get? b=some o):h.get? b=some o/\H b=none:=by
 have e':h.get? b=some o:=PySem.W.of_hideAll (zH h H) e
 refine⟨e',?_⟩;cases q:H b with
 |none=>rfl
 |some x=>
  have hm:b∈zH h H:=List.mem_filter.mpr ⟨Zo.mpr (Qu e'),by simp[q]⟩
  have z:(Z9 h H).get? b=none:=PySem.W.hideAll_none (zH h H) hm
  rw[z]at e;cases e
def CO(g h:Heap)(L:Addr):OX:=(List.range h.objs.size).filterMap fun a=>if a=L\/(g.get? a).isSome=true then none else(h.get? a).map fun o=>(a,o)
theorem En{g:Heap}{o:Obj}(h1:a≠L)(h2:g.get? a=none)(h3:h.get? a=some o):(a,o)∈CO g h L:=
 Jl.mpr ⟨a,Zo.mpr (Qu h3),by simp[h1,h2,h3]⟩
theorem Sm{g:Heap}{p:Addr×Obj}(hp:p∈CO g h L):p.1≠L/\g.get? p.1=none/\h.get? p.1=some p.2:=by
 obtain⟨b,_,e⟩:=Jl.mp hp;split at e
 ·cases e
 ·rename_i hn
  cases q:h.get? b with
  |none=>rw[q]at e;simp at e
  |some u=>
   rw[q]at e;simp only[Xe,Zc]at e;subst e;refine⟨fun z=>hn (.inl z),?_,q⟩
   show g.get? b=none;cases r:g.get? b with
   |none=>rfl
   |some v=>exact(hn (.inr (by simp[r]))).elim
def rest(g h:Heap)(L d:Addr):OX:=(CO g h L).filter fun p=>decide (p.1≠d)
theorem Eo{g:Heap}:News g L h (CO g h L):=fun p hp=>let ⟨a,b,c⟩:=Sm hp;⟨c,a,b⟩
structure Mod(K:Qz)(mg:OU)(base:Heap):Prop where
 kin:K.In base
 glob:base.Ns mainGlobals mg
 blt:∃mb,base.Ns builtinsNs mb/\∀x:Str,x≠"__name__"->mb x=bootBuiltins x
 nolimit:base.NoLimit
structure Cx where
 prog:Program
 w:World
 K:Qz
 mg:OU
 base:Heap
 A:Around
 N:List Str
 s₀:Shared
 H₀:Hp
 env:Env
 outer:List Env
 stack:List Env
 ex:List Addr
 fn:Str->Bool
 calm:Bool
 pn:OX
 xe:OE
variable{X:Cx}
def qA(l:List Env):List Addr:=l.filterMap (·.frame)
abbrev Cx.fs(X:Cx):List Addr:=qA X.outer
def wD(sc:Scope)(x:Str):Prop:=sc.names.lookup x=some .local\/sc.names.lookup x=some .cell\/sc.names.lookup x=some .free
def Loc(sc:Scope)(x:Str):Prop:=sc.names.lookup x=some .local\/sc.names.lookup x=some .cell
def LM(env:Env)(h:Heap)(m:OU)(x:Str)(u:Value):Prop:=
 (env.kindOf x=some .local/\m x=some u)\/((env.kindOf x=some .cell\/env.kindOf x=some .free)/\∃c,env.cells.lookup x=some c/\h.IsCell c (some u))
structure Cx.Ok(X:Cx):Prop where
 mod:Mod X.K X.mg X.base
 kind:X.env.scope.kind=.function
 glob:X.env.globals=mainGlobals
 blt:X.env.builtins=builtinsNs
 above:X.s₀.heap.objs.size≤X.env.locals
 inj:∀x y c,X.env.cells.lookup x=some c->X.env.cells.lookup y=some c->x=y
 has:∀x,(X.env.kindOf x=some .cell\/X.env.kindOf x=some .free)->∃c,X.env.cells.lookup x=some c
 cab:∀x c,X.fn x=true->X.env.cells.lookup x=some c->X.s₀.heap.objs.size≤c
 hd:X.calm=true->X.A.handled=none
 frames:X.A.frames=some X.stack
 stk:X.stack=X.outer\/(X.stack=X.env::X.outer/\X.env.frame=some X.env.locals)
 exf:∀b∈X.ex,b≠X.env.locals/\∀x c,X.env.cells.lookup x=some c->c≠b
 bs:∀b o,X.base.get? b=some o->X.s₀.heap.get? b=some o/\X.H₀ b=none
 bsz:X.base.objs.size≤X.s₀.heap.objs.size
 noex:∀b o,X.base.get? b=some o->b∉X.ex
 exfs:∀b∈X.ex,b∉X.fs
 funs:X.s₀.heap.FunFrames X.base X.outer
 frf:∀b∈X.fs,X.H₀ b=none
structure Inv(X:Cx)(pins:OX)(σ:List (Option V))(H:Hp)(s:Shared):Prop where
 ok:X.Ok
 os:s.os=X.s₀.os
 bare:AllBare s.gens
 base:Un X.fs X.ex X.H₀ H X.s₀.heap s.heap
 loc:∃m,s.heap.Ns X.env.locals m/\∀(i:Nat) (x:Str) (v:V),X.N[i]? =some x->σ[i]? =some (some v)->wD X.env.scope x->∃u,E2 v u/\LM X.env s.heap m x u
 cell:∀x c,X.env.cells.lookup x=some c->∃v,s.heap.IsCell c v
 free:H X.env.locals=none
 freeC:∀x c,X.env.cells.lookup x=some c->H c=none
 pin:∀p∈X.pn++pins,s.heap.get? p.1=some p.2/\H p.1=none/\p.1≠X.env.locals/\p.1∉X.fs/\∀v,p.2.data≠.cell v
 hok:qV X.prog X.w H s.heap
 len:σ.length=X.N.length
section
variable{σ:List (Option V)}
theorem Cx.Ok.nofr(ok:X.Ok){o:Obj}(e:X.base.get? b=some o):b∉X.fs:=fun hb=>by
 have:=(ok.funs.mem hb).1;rw[e]at this;cases this
theorem Inv.bs(I:Inv X pins σ H s):∀b o,X.base.get? b=some o->s.heap.get? b=some o/\H b=none:=fun b o e=>
 ⟨I.base.keep b o (I.ok.bs b o e).1 (I.ok.bs b o e).2 (I.ok.nofr e) (I.ok.noex b o e),I.base.free b o (I.ok.bs b o e).1 (I.ok.bs b o e).2 (I.ok.noex b o e)⟩
theorem Inv.bk(I:Inv X pins σ H s):∀b o,X.base.get? b=some o->s.heap.get? b=some o:=fun b o e=>(I.bs b o e).1
theorem Inv.mod(I:Inv X pins σ H s):Mod X.K X.mg X.base:=I.ok.mod
theorem Inv.kIn(I:Inv X pins σ H s):X.K.In s.heap:=I.ok.mod.kin.keeps I.bk
theorem Inv.fr(I:Inv X pins σ H s):∃m,Fr X.base X.env.locals s.heap m:=
 let ⟨m,hn,_⟩:=I.loc
 ⟨m,hn,I.bk,Zp I.ok.bsz I.ok.above⟩
theorem Inv.lt(I:Inv X pins σ H s):X.env.locals<s.heap.objs.size:=let ⟨_,hn,_⟩:=I.loc;hn.lt
theorem Inv.sz(I:Inv X pins σ H s):X.s₀.heap.objs.size≤s.heap.objs.size:=Zp I.ok.above (Jj I.lt)
theorem Inv.nofs(I:Inv X pins σ H s)(h:s.heap.objs.size≤a):a∉X.fs:=fun hb=>by
 obtain⟨_,o,ho,_⟩:=I.ok.funs.mem hb;exact absurd (Qr (Qu ho) (Zp I.sz h)) (Yy _)
theorem Inv.cne(I:Inv X pins σ H s):∀x c,X.env.cells.lookup x=some c->c≠X.env.locals:=fun x c e z=>by
 obtain⟨v,o,ho,hd⟩:=I.cell x c e;obtain⟨m,⟨o',es,ep,ho',hd',_⟩,_⟩:=I.loc;rw[z,ho']at ho;cases ho;rw[hd']at hd;cases hd
theorem Inv.funs(I:Inv X pins σ H s):s.heap.FunFrames X.base X.outer:=by
 have all:∀(l:List Env),(∀b∈qA l,b∈X.fs)->X.s₀.heap.FunFrames X.base l->s.heap.FunFrames X.base l:=by
  intro l
  induction l with
  |nil=>intro _ _;trivial
  |cons env r ih=>
   intro hs hl;obtain⟨hk,⟨L,o,hf,hn,ho,hd⟩,hr⟩:=hl;have hL:L∈X.fs:=hs L (by unfold qA;rw[Jn,hf];exact Zl)
   obtain⟨sl,e⟩:=I.base.slot L o ho (I.ok.frf L hL) hL fun z=>I.ok.exfs L z hL
   exact⟨hk,⟨L,_,hf,hn,e,hd⟩,ih (fun b hb=>hs b (by unfold qA;rw[Jn,hf];exact Ym _ hb)) hr⟩
 exact all X.outer (fun _ hb=>hb) I.ok.funs
theorem Inv.stack(I:Inv X pins σ H s):s.heap.FunFrames X.base X.stack:=by
 rcases I.ok.stk with e|⟨e,hf⟩
 ·rw[e];exact I.funs
 ·rw[e]
  obtain⟨m,hn,_⟩:=I.loc;refine .cons (by rw[I.ok.kind];decide) hf hn ?_ I.funs
  exact Heap.get?_none_of_le (Zp I.ok.bsz I.ok.above)
theorem Inv.stkSub(I:Inv X pins σ H s):∀b∈qA X.stack,b∈X.env.locals::X.fs:=fun b hb=>by
 rcases I.ok.stk with e|⟨e,hf⟩
 ·rw[e]at hb;exact Ym _ hb
 ·rw[e]at hb
  unfold qA at hb;rw[Jn,hf]at hb;exact hb
theorem Inv.stkFree(I:Inv X pins σ H s):∀b∈qA X.stack,H b=none:=fun b hb=>by
 rcases Qb.mp (I.stkSub b hb)with e|hb
 ·rw[e];exact I.free
 ·obtain⟨_,o,ho,_⟩:=I.ok.funs.mem hb
  exact I.base.free b o ho (I.ok.frf b hb) fun z=>I.ok.exfs b z hb
theorem Inv.step(I:Inv X pins σ H s)
  (hch:∀b∈ch,(b∈X.ex\/X.s₀.heap.objs.size≤b)/\b≠X.env.locals/\(∀x c,X.env.cells.lookup x=some c->c≠b)/\∀p∈X.pn++pins,p.1≠b)
  (keep:∀b o,b≠X.env.locals->b∉X.fs->b∉ch->s.heap.get? b=some o->H b=none->h'.get? b=some o)
  (slot:∀b o,b≠X.env.locals->b∈X.fs->b∉ch->s.heap.get? b=some o->H b=none->∃sl,h'.get? b=some {o with slots:=sl})(free:∀b o,b∉ch->s.heap.get? b=some o->H b=none->H' b=none)
  (there:∀b o,b∉ch->s.heap.get? b=some o->∃o',h'.get? b=some o')
  (tups:∀b xs,H b=some (.tup xs)->H' b=some (.tup xs))(frzs:∀b o u,H b=some (.frz o u)->H' b=some (.frz o u))(tbls:∀b ps,H b=some (.tbl ps)->∃more,H' b=some (.tbl (ps++more)))
  (ns:∀m,s.heap.Ns X.env.locals m->h'.Ns X.env.locals m)(hok:qV X.prog X.w H' h')(hg:AllBare g'):
  Inv X pins σ H' {s with heap:=h',gens:=g',drawn:=d',toks:=t'}:=by
 have neL:∀b o,X.s₀.heap.get? b=some o->b≠X.env.locals:=fun b o e=>Qs (Qr (Qu e) I.ok.above)
 have neC:∀b o,X.s₀.heap.get? b=some o->b∉X.ex->b∉ch:=fun b o e hx hb=>by
  rcases(hch b hb).1 with z|z
  ·exact hx z
  ·exact absurd (Qr (Qu e) z) (Yy _)
 have cellK:∀x c,X.env.cells.lookup x=some c->∀v,s.heap.IsCell c v->h'.IsCell c v:=fun x c e v ⟨o,ho,hd⟩=>by
  have nch:c∉ch:=fun z=>(hch c z).2.2.1 x c e rfl
  by_cases hc:c∈X.fs
  ·obtain⟨sl,q⟩:=slot c o (I.cne x c e) hc nch ho (I.freeC x c e)
   exact⟨_,q,hd⟩
  ·exact⟨o,keep c o (I.cne x c e) hc nch ho (I.freeC x c e),hd⟩
 refine⟨I.ok,I.os,hg,⟨fun b o e n hb hx=>?_,fun b o e n hb hx=>?_,fun b o e n hx=>?_,fun b o e hx=>?_,fun b xs e=>tups b xs (I.base.tups b xs e),fun b o xs e=>frzs b o xs (I.base.frzs b o xs e),fun b ps e=>?_⟩,?_,fun x c e=>?_,?_,fun x c e=>?_,fun p hp=>?_,hok,I.len⟩
 ·exact keep b o (neL b o e) hb (neC b o e hx) (I.base.keep b o e n hb hx) (I.base.free b o e n hx)
 ·obtain⟨sl,e1⟩:=I.base.slot b o e n hb hx
  obtain⟨sl',e2⟩:=slot b _ (neL b o e) hb (neC b o e hx) e1 (I.base.free b o e n hx);exact⟨sl',e2⟩
 ·obtain⟨o',e1⟩:=I.base.there b o e hx
  exact free b o' (neC b o e hx) e1 (I.base.free b o e n hx)
 ·obtain⟨o',e1⟩:=I.base.there b o e hx
  exact there b o' (neC b o e hx) e1
 ·obtain⟨m1,e1⟩:=I.base.tbls b ps e
  obtain⟨m2,e2⟩:=tbls b _ e1;exact⟨m1++m2,by rw[e2,Array.append_assoc]⟩
 ·obtain⟨m,hn,hl⟩:=I.loc
  refine⟨m,ns m hn,fun i x v e1 e2 e3=>?_⟩
  obtain⟨u,r,l⟩:=hl i x v e1 e2 e3;refine⟨u,r,?_⟩
  rcases l with l|⟨k,c,e,z⟩
  ·exact .inl l
  ·exact .inr ⟨k,c,e,cellK x c e _ z⟩
 ·obtain⟨v,z⟩:=I.cell x c e
  exact⟨v,cellK x c e v z⟩
 ·obtain⟨m,⟨o,_,_,ho,_⟩,_⟩:=I.loc
  exact free _ o (fun z=>(hch _ z).2.1 rfl) ho I.free
 ·obtain⟨v,o,ho,hd⟩:=I.cell x c e
  exact free c o (fun z=>(hch c z).2.2.1 x c e rfl) ho (I.freeC x c e)
 ·obtain⟨e,n,ne,nf,d⟩:=I.pin p hp
  have nch:p.1∉ch:=fun z=>(hch p.1 z).2.2.2 p hp rfl
  exact⟨keep p.1 p.2 ne nf nch e n,free p.1 p.2 nch e n,ne,nf,d⟩
theorem Inv.un(I:Inv X pins σ H s)(u:Un X.fs [] H H' s.heap h')(hok:qV X.prog X.w H' h'):Inv X pins σ H' {s with heap:=h',toks:=t'}:=by
 obtain⟨m,⟨o,es,ep,ho,r⟩,_⟩:=id I.loc;obtain⟨sl,hL⟩:=u.any ho I.free (by simp)
 exact I.step (g':=s.gens) (d':=s.drawn) (ch:=[]) (fun _ z=>nomatch z) (fun b o _ hb _ e n=>u.keep b o e n hb (by simp)) (fun b o _ hb _ e n=>u.slot b o e n hb (by simp)) (fun b o _ e n=>u.free b o e n (by simp)) (fun b o _ e=>u.there b o e (by simp)) u.tups u.frzs u.tbls (fun m' hm=>by
  obtain⟨o',es',ep',ho',r'⟩:=hm;rw[ho]at ho';cases ho';exact⟨_,es',ep',hL,r'⟩) hok I.bare
theorem Inv.call(I:Inv X pins σ H s)(u:Un (qA X.stack) ch H H' s.heap h')(hok:qV X.prog X.w H' h')(hg:AllBare g')
  (hch:∀b∈ch,(b∈X.ex\/X.s₀.heap.objs.size≤b)/\b≠X.env.locals/\(∀x c,X.env.cells.lookup x=some c->c≠b)/\∀p∈X.pn++pins,p.1≠b):
  Inv X pins σ H' {s with heap:=h',gens:=g',drawn:=d',toks:=t'}:=by
 obtain⟨m,⟨o,es,ep,ho,r⟩,_⟩:=id I.loc;obtain⟨sl,hL⟩:=u.any ho I.free fun z=>(hch _ z).2.1 rfl
 exact I.step (ch:=ch) hch (fun b o hL hb hc e n=>u.keep b o e n (fun z=>(Qb.mp (I.stkSub b z)).elim hL hb) hc) (fun b o _ _ hc e n=>u.any e n hc) (fun b o hc e n=>u.free b o e n hc) (fun b o hc e=>u.there b o e hc) u.tups u.frzs u.tbls (fun m' hm=>by
  obtain⟨o',es',ep',ho',r'⟩:=hm;rw[ho]at ho';cases ho';exact⟨_,es',ep',hL,r'⟩) hok hg
theorem Inv.turned(I:Inv X pins σ H s)(k:∀b o,b≠it->s.heap.get? b=some o->h'.get? b=some o)(hn:H it=none)(hL:it≠X.env.locals)
  (h1:it∈X.ex\/X.s₀.heap.objs.size≤it)(h2:∀x c,X.env.cells.lookup x=some c->c≠it)(h3:∀p∈X.pn++pins,p.1≠it):Inv X pins σ H {s with heap:=h',toks:=t'}:=by
 have nit:∀b u,H b=some u->b≠it:=fun b u e z=>by rw[z,hn]at e;cases e
 refine I.step (g':=s.gens) (d':=s.drawn) (ch:=[it]) (fun b hb=>?_) (fun b o _ _ hc e _=>k b o (fun z=>hc (by simp[z])) e) (fun b o _ _ hc e _=>⟨o.slots,k b o (fun z=>hc (by simp[z])) e⟩) (fun _ _ _ _ n=>n)
  (fun b o hc e=>⟨o,k b o (fun z=>hc (by simp[z])) e⟩) (fun _ _ e=>e) (fun _ _ _ e=>e) (fun b ps e=>⟨#[],by rw[e];simp⟩) (fun m hm=>?_) (fun b u e=>?_) I.bare
 ·have e:b=it:=by simpa using hb
  subst e;exact⟨h1,hL,h2,h3⟩
 ·obtain⟨o,es,ep,ho,r⟩:=hm
  exact⟨o,es,ep,k _ o (Zg hL) ho,r⟩
 ·refine(I.hok b u e).stay (fun c v hc q=>k c v ?_ q) (fun _ q=>q) fun _ _ q=>q
  rcases hc with z|z
  ·rw[z];exact nit b u e
  ·exact nit c _ z
theorem Inv.tok(I:Inv X pins σ H s)(t:Nat):Inv X pins σ H {s with toks:=t}:=I.un (h':=s.heap) (t':=t) Un.refl I.hok
theorem Inv.kept(I:Inv X pins σ H s)(k:∀b u,s.heap.get? b=some u->h'.get? b=some u):Inv X pins σ H {s with heap:=h',toks:=t'}:=I.un (Un.kept k) (I.hok.kept k)
theorem Inv.laid(I:Inv X pins σ H s)(k:∀b u,s.heap.get? b=some u->h'.get? b=some u)(hp:s.heap.objs.size≤a)(new:K1 X.prog X.w (upd H a o) h' a o):
  Inv X pins σ (upd H a o) {s with heap:=h',toks:=t'}:=I.un (Un.laid k hp (I.hok.fresh hp)) (I.hok.laid k hp new)
theorem Inv.write{x e:Addr}(I:Inv X pins σ H s)(mu:yS (H x))(he:e=x\/H e=some (.own x))(k:∀b u,b≠e->s.heap.get? b=some u->h'.get? b=some u)(heo:∃u,h'.get? e=some u)
  (new:K1 X.prog X.w (upd H x o) h' x o):Inv X pins σ (upd H x o) {s with heap:=h',toks:=t'}:=I.un (Un.write mu he k heo) (I.hok.write mu he k heo new)
theorem Inv.pins_of{pins':OX}(I:Inv X pins σ H s)(h:∀p∈pins',s.heap.get? p.1=some p.2/\H p.1=none/\p.1≠X.env.locals/\p.1∉X.fs/\∀v,p.2.data≠.cell v):Inv X pins' σ H s:=
 ⟨I.ok,I.os,I.bare,I.base,I.loc,I.cell,I.free,I.freeC,fun p hp=>(Xo.mp hp).elim (fun z=>I.pin p (List.mem_append_left _ z)) (h p),I.hok,I.len⟩
theorem Gh(hN:N.Nodup)(a:N[i]? =some x)(b:N[j]? =some x):i=j:=by
 obtain⟨h1,e1⟩:=Qg.mp a;obtain⟨h2,e2⟩:=Qg.mp b;exact(List.getElem_inj hN).mp (e1.trans e2.symm)
theorem LN{Q:Unit->Shared->Prop}(I:Inv X pins σ H s)(hN:X.N.Nodup)(hi:X.N[i]? =some x)(hx:Loc X.env.scope x)(r:E2 v u)
  (h:∀s',Inv X pins (σ.set i (some v)) H s'->(∃a,Heap.SameBut a s.heap s'.heap/\(a=X.env.locals\/X.env.cells.lookup x=some a))->Q () s')(hf:X.fn x=true\/X.env.scope.names.lookup x=some .local:=by first|exact .inl rfl|exact .inr rfl|assumption):wpAny M A (storeName X.env x u) Q E s:=by
 obtain⟨m,hn,hl⟩:=id I.loc;have hcls:(X.env.scope.kind==.class||(X.env.scope.kind==.module&&X.env.locals !=X.env.globals))=false:=by rw[I.ok.kind];rfl
 have hiσ:i<σ.length:=by rw[I.len];exact(Qg.mp hi).1
 have cne:=I.cne
 have tracked:∀{a:Addr}{h':Heap},(∃o,s.heap.get? a=some o/\H a=none)->Heap.SameBut a s.heap h'->qV X.prog X.w H h':=fun{a h'} ha hs b ob e=>by
  obtain⟨_,_,hfree⟩:=ha;refine(I.hok b ob e).stay (fun c w' hc q=>(hs.2 c ?_).trans q) (fun _ q=>q) fun _ _ q=>q
  rintro rfl
  rcases hc with rfl|hc
  ·rw[hfree]at e;cases e
  ·rw[hfree]at hc;cases hc
 rcases hx with hk|hk
 ·refine wpAny_storeName_local hk hn (fun h' hn' hs=>?_) hcls
  obtain⟨oL,_,_,hoL,_⟩:=id hn;refine h _ ⟨I.ok,I.os,I.bare,⟨fun b o e n hb hx=>?_,fun b o e n hb hx=>?_,I.base.free,fun b o e hx=>?_,I.base.tups,I.base.frzs,I.base.tbls⟩,⟨_,hn',fun j y v' e1 e2 e3=>?_⟩,fun y c e=>?_,I.free,I.freeC,fun p hp=>?_,tracked ⟨oL,hoL,I.free⟩ hs,by simpa using I.len⟩ ⟨_,hs,.inl rfl⟩
  ·exact(hs.2 b (Qs (Qr (Qu e) I.ok.above))).trans (I.base.keep b o e n hb hx)
  ·obtain⟨sl,e1⟩:=I.base.slot b o e n hb hx
   exact⟨sl,(hs.2 b (Qs (Qr (Qu e) I.ok.above))).trans e1⟩
  ·obtain⟨o',e1⟩:=I.base.there b o e hx
   exact⟨o',(hs.2 b (Qs (Qr (Qu e) I.ok.above))).trans e1⟩
  ·by_cases hj:j=i
   ·subst hj
    rw[hi]at e1;cases e1;rw[Zr hiσ]at e2;cases e2;exact⟨u,r,.inl ⟨hk,by simp⟩⟩
   ·rw[Qc (Zg hj)]at e2
    obtain⟨u',r',q⟩:=hl j y v' e1 e2 e3;refine⟨u',r',?_⟩
    rcases q with⟨k,e⟩|⟨k,c,e,z⟩
    ·refine .inl ⟨k,?_⟩
     have:y≠x:=fun e=>hj (Gh hN e1 (e ▸ hi))
     simp[this,e]
    ·exact .inr ⟨k,c,e,z.sameBut hs (cne y c e)⟩
  ·obtain⟨w',z⟩:=I.cell y c e
   exact⟨w',z.sameBut hs (cne y c e)⟩
  ·obtain⟨e,n,ne,nf,d⟩:=I.pin p hp
   exact⟨(hs.2 p.1 ne).trans e,n,ne,nf,d⟩
 ·have hfn:X.fn x=true:=by
   rcases hf with z|z
   ·exact z
   ·rw[z]at hk;cases hk
  obtain⟨c,hc⟩:=I.ok.has x (.inl hk);obtain⟨w',z⟩:=I.cell x c hc;refine wpAny_storeName_cell I.ok.kind hk hc z (fun h' hc' hs=>?_)
  obtain⟨oc,hoc,hocd⟩:=id z;refine h {s with heap:=h'} ⟨I.ok,I.os,I.bare,⟨fun b o e n hb hx=>?_,fun b o e n hb hx=>?_,I.base.free,fun b o e hx=>?_,I.base.tups,I.base.frzs,I.base.tbls⟩,⟨m,hn.sameBut hs (Zg (cne x c hc)),fun j y v' e1 e2 e3=>?_⟩,fun y c' e=>?_,I.free,I.freeC,fun p hp=>?_,tracked ⟨oc,hoc,I.freeC x c hc⟩ hs,by simpa using I.len⟩ ⟨c,hs,.inr hc⟩
  ·exact(hs.2 b (Qs (Qr (Qu e) (I.ok.cab x c hfn hc)))).trans (I.base.keep b o e n hb hx)
  ·obtain⟨sl,e1⟩:=I.base.slot b o e n hb hx
   exact⟨sl,(hs.2 b (Qs (Qr (Qu e) (I.ok.cab x c hfn hc)))).trans e1⟩
  ·obtain⟨o',e1⟩:=I.base.there b o e hx
   exact⟨o',(hs.2 b (Qs (Qr (Qu e) (I.ok.cab x c hfn hc)))).trans e1⟩
  ·by_cases hj:j=i
   ·subst hj
    rw[hi]at e1;cases e1;rw[Zr hiσ]at e2;cases e2;exact⟨u,r,.inr ⟨.inl hk,c,hc,hc'⟩⟩
   ·rw[Qc (Zg hj)]at e2
    obtain⟨u',r',q⟩:=hl j y v' e1 e2 e3;refine⟨u',r',?_⟩
    rcases q with q|⟨k,c',e,z'⟩
    ·exact .inl q
    ·refine .inr ⟨k,c',e,z'.sameBut hs ?_⟩
     rintro rfl;exact hj (Gh hN e1 (I.ok.inj _ _ _ e hc ▸ hi))
  ·by_cases hcc:c'=c
   ·subst hcc;exact⟨_,hc'⟩
   ·obtain⟨w2,z2⟩:=I.cell y c' e
    exact⟨w2,z2.sameBut hs hcc⟩
  ·obtain⟨e,n,ne,nf,d⟩:=I.pin p hp
   refine⟨(hs.2 p.1 ?_).trans e,n,ne,nf,d⟩;intro q;rw[q,hoc]at e;have q':oc=p.2:=Zt e;exact d w' (by rw[←q'];exact hocd)
theorem DQ{Q:Unit->Shared->Prop}(I:Inv X pins σ H s)(hN:X.N.Nodup)(hi:X.N[i]? =some x)(hx:Loc X.env.scope x)(r:E2 v u)
  (h:∀s',Inv X pins (σ.set i (some v)) H s'->Q () s')(hf:X.fn x=true\/X.env.scope.names.lookup x=some .local:=by first|exact .inl rfl|exact .inr rfl|assumption):wpAny M A (storeName X.env x u) Q E s:=
 LN I hN hi hx r (fun s' I' _=>h s' I') hf
theorem Inv.call'(I:Inv X pins σ H s)(ho:s'.os=s.os)(u:Un (qA X.stack) ch H H' s.heap s'.heap)(hok:qV X.prog X.w H' s'.heap)(hg:AllBare s'.gens)
  (hch:∀b∈ch,(b∈X.ex\/X.s₀.heap.objs.size≤b)/\b≠X.env.locals/\(∀x c,X.env.cells.lookup x=some c->c≠b)/\∀p∈X.pn++pins,p.1≠b):Inv X pins σ H' s':=by
 obtain⟨h',g',d',t',o'⟩:=s';have e:o'=s.os:=ho;subst e;exact I.call (g':=g') (t':=t') (d':=d') u hok hg hch
end
abbrev XK:=Value->Option Addr->Hp->Prop
abbrev St:=List (Option V)
variable{σ:St}
abbrev VK:=V->Hp->Prop
abbrev TE:=St->Hp->VK->Prop
variable{ta tb te:TE}
abbrev TT:=St->Hp->(Bool->Hp->Prop)->Prop
variable{tc:TT}
abbrev TA:=St->Hp->(List V->Hp->Prop)->Prop
structure Ends where
 nx:St->Hp->Prop
 rt:VK
 bk:St->Hp->Prop:=fun _ _=>False
 ct:St->Hp->Prop:=fun _ _=>False
abbrev TS:=Ends->St->Hp->Prop
def EP(X:Cx)(pins:OX)(σ:St)(Q:VK)(u:Value)(s':Shared):Prop:=∃v H',Inv X pins σ H' s'/\E2 v u/\Q v H'
def TP(X:Cx)(pins:OX)(σ:St)(Q:Bool->Hp->Prop)(b:Bool)(s':Shared):Prop:=∃H',Inv X pins σ H' s'/\Q b H'
def AP(X:Cx)(pins:OX)(σ:St)(Q:List V->Hp->Prop)(us:List Value)(s':Shared):Prop:=∃vs H',Inv X pins σ H' s'/\D2 vs us/\Q vs H'
def SP(X:Cx)(pins:OX)(D:Ends)(f:Flow)(s':Shared):Prop:=
 match f with
 |.next=>∃σ' H',Inv X pins σ' H' s'/\D.nx σ' H'
 |.brk=>∃σ' H',Inv X pins σ' H' s'/\D.bk σ' H'
 |.cont=>∃σ' H',Inv X pins σ' H' s'/\D.ct σ' H'
 |.ret u=>∃v σ' H',Inv X pins σ' H' s'/\E2 v u/\D.rt v H'
def PE(X:Cx)(e:Expr)(t:TE):Prop:=
 ∀(pins:OX) (s:Shared) (σ:St) (H:Hp) (Q:VK),Inv X pins σ H s->t σ H Q->wpAny (model X.prog X.w) X.A (eval e X.env) (EP X pins σ Q) X.xe s
def PT(X:Cx)(e:Expr)(t:TT):Prop:=
 ∀(pins:OX) (s:Shared) (σ:St) (H:Hp) (Q:Bool->Hp->Prop),Inv X pins σ H s->t σ H Q->wpAny (model X.prog X.w) X.A (isTrue e X.env (eval e X.env)) (TP X pins σ Q) X.xe s
def PW(X:Cx)(e:Expr)(t:TT):Prop:=
 ∀(whole:Sem Value) (pins:OX) (s:Shared) (σ:St) (H:Hp) (Q:Bool->Hp->Prop),Inv X pins σ H s->t σ H Q->wpAny (model X.prog X.w) X.A (isTrue e X.env whole) (TP X pins σ Q) X.xe s
theorem PW.pt{t:TT}(h:PW X e t):PT X e t:=h _
def PA(X:Cx)(es:List Expr)(t:TA):Prop:=
 ∀(pos:Pos) (pins:OX) (s:Shared) (σ:St) (H:Hp) (Q:List V->Hp->Prop),Inv X pins σ H s->t σ H Q->wpAny (model X.prog X.w) X.A (spliced (backTo pos (starEach es X.env))) (AP X pins σ Q) X.xe s
def PS(X:Cx)(st:Stmt)(t:TS):Prop:=
 ∀(pins:OX) (s:Shared) (σ:St) (H:Hp) (D:Ends),Inv X pins σ H s->t D σ H->wpAny (model X.prog X.w) X.A (exec st X.env) (SP X pins D) X.xe s
def sT(X:Cx)(st:List Stmt)(t:TS):Prop:=
 ∀(pins:OX) (s:Shared) (σ:St) (H:Hp) (D:Ends),Inv X pins σ H s->t D σ H->wpAny (model X.prog X.w) X.A (execs st X.env) (SP X pins D) X.xe s
theorem i6{t:Sem α}{Q Q':α->Shared->Prop}(h:wpAny M A t Q E s)(hQ:∀a s,Q a s->Q' a s):wpAny M A t Q' E s:=Qi h hQ fun _ _ x=>x
section
theorem bin{a b:Expr}(ha:PE X a ta)(hb:PE X b tb)(I:Inv X pins σ H s)(h:ta σ H fun x H1=>tb σ H1 fun y H2=>R x y H2)
  {Q:α->Shared->Prop}{f:Value->Value->Sem α}
  (hf:∀v u s2 x y H2,Inv X pins σ H2 s2->E2 x v->E2 y u->R x y H2->wpAny (model X.prog X.w) X.A (f v u) Q X.xe s2):
  wpAny (model X.prog X.w) X.A (eval a X.env) (fun v s₁=>wpAny (model X.prog X.w) X.A (eval b X.env) (fun u s₂=>wpAny (model X.prog X.w) X.A (f v u) Q X.xe s₂) X.xe s₁) X.xe s:=by
 refine i6 (ha pins s σ H _ I h) fun v s1 ⟨x,H1,I1,r1,q1⟩=>?_
 refine i6 (hb pins s1 σ H1 _ I1 q1) fun u s2 ⟨y,H2,I2,r2,q2⟩=>?_
 exact hf v u s2 x y H2 I2 r1 r2 q2
def Q4(i:Nat):TE:=fun σ H Q=>∃v,σ[i]? =some (some v)/\Q v H
def tC(v:V):TE:=fun _ H Q=>Q v H
theorem Gi{pos:Pos}(hN:X.N[i]? =some x)(hv:wD X.env.scope x)(hd:(x==("__debug__":Str))=false:=by decide)(hcd:(x==("__classdict__":Str))=false:=by decide):PE X (.Name x pos) (Q4 i):=by
 intro pins s σ H Q I h;obtain⟨v,e,h⟩:=h;obtain⟨m,hn,hl⟩:=I.loc;obtain⟨u,r,l⟩:=hl i x v hN e hv;have fin:EP X pins σ Q u s:=⟨v,H,I,r,h⟩
 rcases l with⟨hk,hm⟩|⟨hk,c,hc,hcell⟩
 ·exact wpAny_Name (wpAny_loadName_local I.ok.kind hk hn hm fin) hd
 ·rcases hk with hk|hk
  ·exact wpAny_Name (wpAny_loadName_cell I.ok.kind hk hc hcell fin) hd
  ·exact wpAny_Name (wpAny_loadName_free I.ok.kind hk hc hcell fin hcd) hd
theorem LO{i j pos}:PE X (.Constant (.int i) j pos) (tC (.int i)):=fun _ _ _ H _ I h=>wpAny_Constant_int ⟨.int i,H,I.tok _,⟨_,rfl⟩,h⟩
theorem Sn{b j pos}:PE X (.Constant (.bool b) j pos) (tC (.bl b)):=fun _ _ _ H _ I h=>Constant_bool ⟨.bl b,H,I,rfl,h⟩
theorem LP{j pos}:PE X (.Constant .none j pos) (tC .non):=fun _ _ _ H _ I h=>Constant_none ⟨.non,H,I,rfl,h⟩
theorem X8{x j pos}:PE X (.Constant (.str x) j pos) (tC (.str x)):=fun _ _ _ H _ I h=>Calls.Constant_str ⟨.str x,H,I.tok _,⟨_,rfl⟩,h⟩
def Gl(X:Cx)(x:Str):Prop:=X.env.kindOf x=some .globalImplicit
theorem CP{pos:Pos}(I:Inv X pins σ H s)(hg:Gl X x)(hm:X.mg x=some u)(h:Q u s)
  (hd:(x==("__debug__":Str))=false:=by decide):wpAny (model X.prog X.w) X.A (eval (.Name x pos) X.env) Q E s:=
 Calls.Name_function_global I.ok.kind hg (Calls.loadGlobal_global (by rw[I.ok.glob];exact I.mod.glob.keeps I.bk) hm h) hd
theorem CQ{pos:Pos}(I:Inv X pins σ H s)(hg:Gl X x)(hm:X.mg x=none)(hv:bootBuiltins x=some u)(h:Q u s)
  (hn:x≠"__name__":=by decide)(hd:(x==("__debug__":Str))=false:=by decide):wpAny (model X.prog X.w) X.A (eval (.Name x pos) X.env) Q E s:=by
 obtain⟨mb,h1,h2⟩:=I.mod.blt;exact Calls.Name_function_global I.ok.kind hg (Calls.loadGlobal_builtin (by rw[I.ok.glob];exact I.mod.glob.keeps I.bk) hm (by rw[I.ok.blt];exact h1.keeps I.bk) ((h2 x hn).trans hv) h) hd
theorem CS{pos:Pos}(hg:Gl X x)(hm:X.mg x=some u)(r:E2 v u)(hd:(x==("__debug__":Str))=false:=by decide):PE X (.Name x pos) (tC v):=
 fun _ _ _ H _ I h=>CP I hg hm ⟨v,H,I,r,h⟩ hd
theorem Ep{pos:Pos}(hg:Gl X x)(hm:X.mg x=none)(hv:bootBuiltins x=some u)(r:E2 v u)(hn:x≠"__name__":=by decide)(hd:(x==("__debug__":Str))=false:=by decide):PE X (.Name x pos) (tC v):=
 fun _ _ _ H _ I h=>CQ I hg hm hv ⟨v,H,I,r,h⟩ hn hd
variable{a b:Expr}{pos:Pos}
def PC(X:Cx)(op:CmpOp)(a b:Expr)(t:TE):Prop:=
 ∀(pins:OX) (s:Shared) (σ:St) (H:Hp) (Q:VK),Inv X pins σ H s->t σ H Q->
  wpAny (model X.prog X.w) X.A (eval a X.env) (fun v s₁=>wpAny (model X.prog X.w) X.A (eval b X.env) (fun u s₂=>wpAny (model X.prog X.w) X.A (compareOp op v u) (EP X pins σ Q) X.xe s₂) X.xe s₁) X.xe s
theorem tP(b:Expr)(h:op≠.In)(h2:op≠.NotIn):behindInMarks op b=false:=by
 have e1:(op==CmpOp.In)=false:=by cases op<;>first|rfl|exact absurd rfl h
 have e2:(op==CmpOp.NotIn)=false:=by cases op<;>first|rfl|exact absurd rfl h2
 cases b<;>simp[behindInMarks,e1,e2]
def tB(t:TE):TT:=fun σ H Q=>t σ H fun x H1=>∃c,x=.bl c/\Q c H1
theorem So{t:TE}(h:PC X op a b t)(h1:behindInMarks op b=false:=by first|exact tP _ (by decide) (by decide)|rfl):PE X (.Compare a [op] [b] pos) t:=fun pins s σ H Q I hw=>wpAny_Compare1 (h pins s σ H Q I hw) h1
theorem Sq{t:TE}(h:PC X op a b t)(h1:behindInMarks op b=false:=by first|exact tP _ (by decide) (by decide)|rfl):PT X (.Compare a [op] [b] pos) (tB t):=by
 intro pins s σ H Q I hw;refine wpAny_isTrue_Compare1 (i6 (h pins s σ H _ I hw) fun v s1 h1=>i6 h1 fun u s2 h2=>i6 h2 fun c s3 ⟨x,H1,I1,r1,q1⟩=>?_) h1
 obtain⟨d,rfl,q⟩:=q1;cases r1;exact Yw ⟨H1,I1,q⟩
theorem Sr{t:TE}(h:PE X e t)(he:∀whole,isTrue e X.env whole=(do let v←whole;standAt e.pos;holding [v] (truthy v)):=by intro _;rfl):PT X e (tB t):=by
 intro pins s σ H Q I hw;refine isTrue_plain (i6 (h pins s σ H _ I hw) fun v s1 ⟨x,H1,I1,r1,q1⟩=>?_) (he _)
 obtain⟨d,rfl,q⟩:=q1;cases r1;exact Yw ⟨H1,I1,q⟩
variable{tA tB':TT}{rest:List Expr}
def LQ(t u:TT):TT:=fun σ H Q=>t σ H fun c H1=>if c=true then u σ H1 Q else Q false H1
def tOr(t u:TT):TT:=fun σ H Q=>t σ H fun c H1=>if c=true then Q true H1 else u σ H1 Q
def Ss(t:TT):TT:=fun σ H Q=>t σ H fun c H1=>Q (!c) H1
theorem Su(ha:PT X a tA):PW X (.BoolOp .And [a] pos) tA:=by
 intro wh pins s σ H Q I h;refine isTrue_and (i6 (ha pins s σ H Q I h) fun c s1 e=>?_)
 cases c with
 |true=>exact isTrue_and_nil e
 |false=>exact e
theorem Sv(ha:PT X a tA):PW X (.BoolOp .Or [a] pos) tA:=by
 intro wh pins s σ H Q I h;refine isTrue_or (i6 (ha pins s σ H Q I h) fun c s1 e=>?_)
 cases c with
 |false=>exact isTrue_or_nil e
 |true=>exact e
theorem Sw(ha:PT X a tA)(hb:PW X (.BoolOp .And (b::rest) pos) tB'):PW X (.BoolOp .And (a::b::rest) pos) (LQ tA tB'):=by
 intro wh pins s σ H Q I h;refine isTrue_and (i6 (ha pins s σ H _ I h) fun c s1 ⟨H1,I1,q1⟩=>?_)
 cases c with
 |true=>exact hb wh pins s1 σ H1 Q I1 q1
 |false=>exact⟨H1,I1,q1⟩
theorem Sx(ha:PT X a tA)(hb:PW X (.BoolOp .Or (b::rest) pos) tB'):PW X (.BoolOp .Or (a::b::rest) pos) (tOr tA tB'):=by
 intro wh pins s σ H Q I h;refine isTrue_or (i6 (ha pins s σ H _ I h) fun c s1 ⟨H1,I1,q1⟩=>?_)
 cases c with
 |true=>exact⟨H1,I1,q1⟩
 |false=>exact hb wh pins s1 σ H1 Q I1 q1
theorem Sy(ha:PT X a tA):PT X (.UnaryOp .Not a pos) (Ss tA):=by
 intro pins s σ H Q I h;exact isTrue_not (ha pins s σ H (fun c H1=>Q (!c) H1) I h)
def Sz(ta tb:TE):TE:=fun σ H Q=>ta σ H fun x H1=>∃c,x=.bl c/\if c=true then tb σ H1 Q else Q (.bl false) H1
def TB(ta:TE):TE:=fun σ H Q=>ta σ H fun x H1=>∃c,x=.bl c/\Q (.bl (!c)) H1
theorem TC{op}{t:TE}(h:PE X a t):PE X (.BoolOp op [a] pos) t:=fun pins s σ H Q I hw=>BoolOp_one (h pins s σ H Q I hw)
theorem TJ(ha:PE X a ta)(hb:PE X (.BoolOp .And (b::rest) pos) tb):PE X (.BoolOp .And (a::b::rest) pos) (Sz ta tb):=by
 intro pins s σ H Q I h;refine BoolOp_and (i6 (ha pins s σ H _ I h) fun v s1 ⟨x,H1,I1,r1,q1⟩=>?_)
 obtain⟨c,rfl,q1⟩:=q1;cases r1;refine Yw ?_
 cases c with
 |true=>exact hb pins s1 σ H1 Q I1 q1
 |false=>exact⟨.bl false,H1,I1,rfl,q1⟩
theorem TK(ha:PE X a ta):PE X (.UnaryOp .Not a pos) (TB ta):=by
 intro pins s σ H Q I h;refine UnaryOp_ (i6 (ha pins s σ H _ I h) fun v s1 ⟨x,H1,I1,r1,q1⟩=>?_)
 obtain⟨c,rfl,q1⟩:=q1;cases r1;exact not_of (Yw ⟨.bl (!c),H1,I1,rfl,q1⟩)
end
def qK(K:Qz)(H:Hp)(a:Addr)(xs:List V):Prop:=
 Rd H a (.lst xs)\/
  ∃(o:Obj) (its:Array Value) (n:Nat),K.lookup a=some o/\o.cls=.type "list"/\o.dict=none/\o.data=.seq its n/\its.size≤sizeLine/\D2 xs its.toList
def qW(K:Qz)(H:Hp)(a:Addr)(xs:List V):Prop:=
 Rd H a (.tup xs)\/
  ∃(o:Obj) (its:Array Value) (n:Nat),K.lookup a=some o/\o.cls=.type "tuple"/\o.dict=none/\o.data=.seq its n/\its.size≤sizeLine/\D2 xs its.toList
def TM:Value->Option V
 |.none=>some .non
 |.bool b=>some (.bl b)
 |.int i _=>some (.int i)
 |.str x _=>some (.str x)
 |.bytes b _=>some (.byt b)
 |.float b _=>some (.flt b)
 |.ref a=>some (.ref a)
 |.type n=>some (.ty n)
 |_=>none
theorem E2.abs{x:V}(r:E2 x u):TM u=some x:=by
 cases x with
 |non=>cases r;rfl
 |bl _=>cases r;rfl
 |int _=>obtain⟨t,rfl⟩:=r;rfl
 |str _=>obtain⟨t,rfl⟩:=r;rfl
 |byt _=>obtain⟨t,rfl⟩:=r;rfl
 |flt _=>obtain⟨t,rfl⟩:=r;rfl
 |ref _=>cases r;rfl
 |ty _=>cases r;rfl
theorem E2.inj{x:V}(r:E2 x u)(q:E2 y u):x=y:=Zt (r.abs.symm.trans q.abs)
theorem D2.inj:∀{xs ys:List V}{us:List Value},D2 xs us->D2 ys us->xs=ys
 |_,_,_,.nil,.nil=>rfl
 |_,_,_,.cons r t,.cons r' t'=>by rw[r.inj r',D2.inj t t']
section
variable{xs ys:List V}
theorem Inv.list(I:Inv X pins σ H s)(h:qK X.K H a xs):∃its:List Value,D2 xs its/\PlainL s.heap a its.toArray/\xs.length≤sizeLine:=by
 rcases h with h|⟨o,its,n,hk,hc,hd,hs,hz,r⟩
 ·obtain⟨z,its,n,r,e⟩:=h.ok I.hok
  exact⟨its,r,⟨_,n,e,rfl,rfl,rfl⟩,z⟩
 ·refine⟨its.toList,r,⟨o,n,I.kIn a o hk,hc,hd,by simpa using hs⟩,?_⟩
  have e:=r.length
  simp only[Uj]at e
  omega
theorem Inv.tupleD(I:Inv X pins σ H s)(h:qW X.K H a xs):∃its:List Value,D2 xs its/\U8 s.heap a its.toArray/\xs.length≤sizeLine:=by
 rcases h with h|⟨o,its,n,hk,hc,hd,hs,hz,r⟩
 ·obtain⟨z,its,r,p⟩:=h.ok I.hok
  exact⟨its,r,p,z⟩
 ·refine⟨its.toList,r,⟨o,I.kIn a o hk,hc,hd,n,by simpa using hs⟩,?_⟩
  have e:=r.length
  simp only[Uj]at e
  omega
theorem Inv.tuple(I:Inv X pins σ H s)(h:qW X.K H a xs):∃its:List Value,D2 xs its/\IsTup s.heap a its.toArray/\xs.length≤sizeLine:=
 let ⟨its,r,p,z⟩:=I.tupleD h
 ⟨its,r,p.tup,z⟩
theorem Inv.list_inj(I:Inv X pins σ H s)(h:qK X.K H a xs)(h':qK X.K H a ys):xs=ys:=by
 obtain⟨its,r,⟨o,n,e,_,_,d⟩,_⟩:=I.list h;obtain⟨its',r',⟨o',n',e',_,_,d'⟩,_⟩:=I.list h';rw[e]at e';cases e';rw[d]at d';injection d' with d1 _
 have:its=its':=by simpa using Yu Array.toList d1
 subst this;exact r.inj r'
theorem Inv.tuple_inj(I:Inv X pins σ H s)(h:qW X.K H a xs)(h':qW X.K H a ys):xs=ys:=by
 obtain⟨its,r,⟨o,e,_,n,d⟩,_⟩:=I.tuple h;obtain⟨its',r',⟨o',e',_,n',d'⟩,_⟩:=I.tuple h';rw[e]at e';cases e';rw[d]at d';injection d' with d1 _
 have:its=its':=by simpa using Yu Array.toList d1
 subst this;exact r.inj r'
end
abbrev Cx.wish(X:Cx)(E:OE):Cx:={X with xe:=E}
abbrev Cx.nox(X:Cx):Cx:=X.wish fun _ _=>False
theorem Cx.Ok.wish(ok:X.Ok)(E:OE):(X.wish E).Ok:=
 ⟨ok.mod,ok.kind,ok.glob,ok.blt,ok.above,ok.inj,ok.has,ok.cab,ok.hd,ok.frames,ok.stk,ok.exf,ok.bs,ok.bsz,ok.noex,ok.exfs,ok.funs,ok.frf⟩
theorem Cx.Ok.unwish(ok:(X.wish E).Ok):X.Ok:=
 ⟨ok.mod,ok.kind,ok.glob,ok.blt,ok.above,ok.inj,ok.has,ok.cab,ok.hd,ok.frames,ok.stk,ok.exf,ok.bs,ok.bsz,ok.noex,ok.exfs,ok.funs,ok.frf⟩
theorem Inv.wish(I:Inv X pins σ H s)(E:OE):Inv (X.wish E) pins σ H s:=⟨I.ok.wish E,I.os,I.bare,I.base,I.loc,I.cell,I.free,I.freeC,I.pin,I.hok,I.len⟩
theorem Inv.unwish(I:Inv (X.wish E) pins σ H s):Inv X pins σ H s:=⟨I.ok.unwish,I.os,I.bare,I.base,I.loc,I.cell,I.free,I.freeC,I.pin,I.hok,I.len⟩
theorem SP.unwish{D:Ends}{f:Flow}(h:SP (X.wish E) pins D f s'):SP X pins D f s':=by
 cases f with
 |next=>obtain⟨σ',H',I,q⟩:=h;exact⟨σ',H',I.unwish,q⟩
 |brk=>obtain⟨σ',H',I,q⟩:=h;exact⟨σ',H',I.unwish,q⟩
 |cont=>obtain⟨σ',H',I,q⟩:=h;exact⟨σ',H',I.unwish,q⟩
 |ret u=>obtain⟨v,σ',H',I,r,q⟩:=h;exact⟨v,σ',H',I.unwish,r,q⟩
theorem PE.nox{t:TE}(h:PE X.nox e t):PE X e t:=fun pins s σ H Q I hw=>
 Qi (h pins s σ H Q (I.wish _) hw) (fun _ _ ⟨v,H',I',r,q⟩=>⟨v,H',I'.unwish,r,q⟩) fun _ _ z=>False.elim z
theorem PT.nox{t:TT}(h:PT X.nox e t):PT X e t:=fun pins s σ H Q I hw=>
 Qi (h pins s σ H Q (I.wish _) hw) (fun _ _ ⟨H',I',q⟩=>⟨H',I'.unwish,q⟩) fun _ _ z=>False.elim z
theorem sT.nox{st:List Stmt}{t:TS}(h:sT X.nox st t):sT X st t:=fun pins s σ H D I hw=>
 Qi (h pins s σ H D (I.wish _) hw) (fun _ _ q=>q.unwish) fun _ _ z=>False.elim z
section
variable{st:Stmt}{rest:List Stmt}{t u:TS}{pos:Pos}
def TQ:TS:=fun D σ H=>D.nx σ H
def TU(t u:TS):TS:=fun D σ H=>t {D with nx:=u D} σ H
theorem TV:sT X [] TQ:=fun _ _ σ H _ I h=>Uv ⟨σ,H,I,h⟩
theorem CT(h1:PS X st t)(h2:sT X rest u):sT X (st::rest) (TU t u):=by
 intro pins s σ H D I h;refine wpAny_execs_cons (i6 (h1 pins s σ H {D with nx:=u D} I h) fun f s1 q=>?_)
 cases f with
 |next=>
  obtain⟨σ',H',I',q⟩:=q;exact h2 pins s1 σ' H' D I' q
 |ret v=>exact q
 |brk=>exact q
 |cont=>exact q
theorem LR(h1:PS X st t):sT X [st] t:=by
 intro pins s σ H D I h;refine wpAny_execs_cons (i6 (h1 pins s σ H D I h) fun f s1 q=>?_)
 cases f with
 |next=>exact Uv q
 |ret v=>exact q
 |brk=>exact q
 |cont=>exact q
theorem Inv.quiet(I:Inv X pins σ H s):interactive X.env=false:=by simp[interactive,I.ok.kind]
def TY(te:TE):TS:=fun D σ H=>te σ H fun _ H1=>D.nx σ H1
theorem Gj(he:PE X e te)(hs:swapsWith e none pos.line X.env=pure false:=by rfl):PS X (.Expr e pos) (TY te):=by
 intro pins s σ H D I h;exact wpAny_Expr_any (i6 (he pins s σ H _ I h) fun v s1 ⟨x,H1,I1,r1,q1⟩=>⟨σ,H1,I1,q1⟩) I.quiet hs
def TZ(te:TE):TS:=fun D σ H=>te σ H D.rt
theorem LS(he:PE X e te):PS X (.Return (some e) pos) (TZ te):=by
 intro pins s σ H D I h;exact wpAny_Return_some (i6 (he pins s σ H _ I h) fun v s1 ⟨x,H1,I1,r1,q1⟩=>⟨x,σ,H1,I1,r1,q1⟩)
def Ta(c:TT)(t u:TS):TS:=fun D σ H=>c σ H fun b H1=>if b=true then t D σ H1 else u D σ H1
theorem LU{a b:List Stmt}(hc:PT X c tc)(ha:sT X a t)(hb:sT X b u):PS X (.If c a b pos) (Ta tc t u):=by
 intro pins s σ H D I h;refine wpAny_If (i6 (hc pins s σ H _ I h) fun d s1 ⟨H1,I1,q1⟩=>?_)
 cases d with
 |true=>exact ha pins s1 σ H1 D I1 q1
 |false=>exact hb pins s1 σ H1 D I1 q1
def LV:TS:=fun _ _ _=>False
theorem Tc:PS X st LV:=fun _ _ _ _ _ _ h=>h.elim
theorem LW{sts:List Stmt}:sT X sts LV:=fun _ _ _ _ _ _ h=>h.elim
end
abbrev TG:=V->St->Hp->(St->Hp->Prop)->Prop
abbrev wF:=List V->St->Hp->(St->Hp->Prop)->Prop
def PG(X:Cx)(target:Expr)(t:TG):Prop:=
 ∀(pins:OX) (s:Shared) (σ:St) (H:Hp) (v:V) (u:Value) (Q:St->Hp->Prop),Inv X pins σ H s->E2 v u->t v σ H Q->
  wpAny (model X.prog X.w) X.A (assign target X.env u) (fun _ s'=>∃σ' H',Inv X pins σ' H' s'/\Q σ' H') X.xe s
def wM(X:Cx)(ts:List Expr)(t:wF):Prop:=
 ∀(pins:OX) (s:Shared) (σ:St) (H:Hp) (vs:List V) (us:List Value) (Q:St->Hp->Prop),Inv X pins σ H s->D2 vs us->t vs σ H Q->
  wpAny (model X.prog X.w) X.A (assignInOrder ((assignEach ts X.env).map (·.2)) us) (fun _ s'=>∃σ' H',Inv X pins σ' H' s'/\Q σ' H') X.xe s
abbrev Er:=V->V->V->Hp->(Hp->Prop)->Prop
def Gk(X:Cx)(t:Er):Prop:=
 ∀(pins:OX) (s:Shared) (σ:St) (H:Hp) (o i v:V) (ov iv u:Value) (Q:Hp->Prop),Inv X pins σ H s->E2 o ov->E2 i iv->E2 v u->t o i v H Q->
  wpAny (model X.prog X.w) X.A (setItem ov iv u) (fun _ s'=>∃H',Inv X pins σ H' s'/\Q H') X.xe s
abbrev z9:=V->V->Hp->VK->Prop
def PIp(X:Cx)(op:Operator)(t:z9):Prop:=
 ∀(pins:OX) (s:Shared) (σ:St) (H:Hp) (x y:V) (v u:Value) (Q:VK),Inv X pins σ H s->E2 x v->E2 y u->t x y H Q->
  wpAny (model X.prog X.w) X.A (inplaceOp op v u) (EP X pins σ Q) X.xe s
section
variable{pos:Pos}
def Gm(i:Nat):TG:=fun v σ H Q=>Q (σ.set i (some v)) H
theorem Td(hN:X.N.Nodup)(hi:X.N[i]? =some x)(hx:Loc X.env.scope x)(hf:X.fn x=true\/X.env.scope.names.lookup x=some .local:=by first|exact .inl rfl|exact .inr rfl|assumption):PG X (.Name x pos) (Gm i):=by
 intro pins s σ H v u Q I r h;exact wpAny_assign_Name (DQ I hN hi hx r (fun s' I'=>⟨_,H,I',h⟩) hf)
def Te:wF:=fun vs σ H Q=>vs=[]/\Q σ H
def Tf(t:TG)(u:wF):wF:=fun vs σ H Q=>∃v r,vs=v::r/\t v σ H fun σ' H'=>u r σ' H' Q
theorem Tg:wM X [] Te:=by
 intro pins s σ H vs us Q I r h;obtain⟨e,h⟩:=h;subst e;cases r;exact assignInOrder_nil ⟨σ,H,I,h⟩
theorem Th{t:TG}{u:wF}(h1:PG X e t)(h2:wM X es u)
  (hs:(assignEach (e::es) X.env).map (·.2)=assign e X.env::(assignEach es X.env).map (·.2):=by rfl):wM X (e::es) (Tf t u):=by
 intro pins s σ H vs us Q I r h;obtain⟨v,vr,e1,h⟩:=h;subst e1;cases r with
 |cons r rr=>
  rw[hs];refine assignInOrder_cons (i6 (h1 pins s σ H _ _ _ I r h) fun _ s1 ⟨σ1,H1,I1,q1⟩=>?_)
  exact h2 pins s1 σ1 H1 _ _ Q I1 rr q1
def Ti(K:Qz)(n:Nat)(t:wF):TG:=fun v σ H Q=>∃a xs,v=.ref a/\qW K H a xs/\xs.length=n/\t xs σ H Q
theorem Tj{t:wF}(hc:X.calm=true)(h:wM X es t)
  (hn:(assignEach es X.env).length=n:=by rfl)(hst:(assignEach es X.env).findIdx? (·.1)=none:=by rfl):PG X (.Tuple es k pos) (Ti X.K n t):=by
 intro pins s σ H v u Q I r hw;obtain⟨a,xs,e1,hq,hl,hw⟩:=hw;subst e1;cases r;obtain⟨its,rv,ht,hz⟩:=I.tuple hq;refine assign_Tuple_tuple (I.ok.hd hc) ht (by simp[hn,←hl,rv.length]) hst fun h' hx=>?_
 have I1:Inv X pins σ H {s with heap:=h'}:=I.kept (t':=s.toks) fun b o e=>hx b o (Qs (Qu e)) e
 exact h pins _ σ H xs _ Q I1 (by simpa using rv) hw
def Tl(to ti:TE)(t:Er):TG:=fun v σ H Q=>to σ H fun o H1=>ti σ H1 fun i H2=>t o i v H2 fun H3=>Q σ H3
theorem LX{o i:Expr}{to ti:TE}{t:Er}(ho:PE X o to)(hi:PE X i ti)(hs:Gk X t)
  (ha:∀v,assign (.Subscript o i pos) X.env v=(do
   let ov←holding [v] (eval o X.env)
   let iv←holding [v,ov] (eval i X.env)
   standAt pos
   holding [v,ov,iv] (setItem ov iv v)
   release [v,ov,iv] []):=by intro _;rfl):PG X (.Subscript o i pos) (Tl to ti t):=by
 intro pins s σ H v u Q I r h;rw[ha];refine Qq (Yi (i6 (ho pins s σ H _ I h) fun ov s1 ⟨x,H1,I1,r1,q1⟩=>?_))
 refine Qq (Yi (i6 (hi pins s1 σ H1 _ I1 q1) fun iv s2 ⟨y,H2,I2,r2,q2⟩=>?_))
 refine Qq (Uo (Qq (Yi (i6 (hs pins s2 σ H2 x y v ov iv u _ I2 r1 r2 r q2) fun _ s3 ⟨H3,I3,q3⟩=>?_))))
 exact wpAny_release ⟨σ,H3,I3,q3⟩
def Gn(te:TE)(g:TG):TS:=fun D σ H=>te σ H fun x H1=>g x σ H1 D.nx
theorem Tn{g:TG}(he:PE X e te)(hg:PG X tg g)(hs:swapsWithSole [tg] e pos.line X.env=pure false:=by rfl)(hw:swappedStores [tg] e X.env=pure none:=by rfl)
  (h1:(assignEach [tg] X.env).map (·.2)=[assign tg X.env]:=by rfl):PS X (.Assign [tg] e pos) (Gn te g):=by
 intro pins s σ H D I h;refine wpAny_Assign_stores (i6 (he pins s σ H _ I h) fun v s1 ⟨x,H1,I1,r1,q1⟩=>?_) hs hw
 rw[h1];exact i6 (hg pins s1 σ H1 x v _ I1 r1 q1) fun _ s2 q=>q
theorem DR(hN:X.N.Nodup)(hi:X.N[i]? =some x)(hx:Loc X.env.scope x)(he:PE X e te)(hs:swapsWith e (some (.Name x pos')) pos.line X.env=pure false:=by rfl)(hf:X.fn x=true\/X.env.scope.names.lookup x=some .local:=by first|exact .inl rfl|exact .inr rfl|assumption):
  PS X (.Assign [.Name x pos'] e pos) (Gn te (Gm i)):=by
 intro pins s σ H D I h;refine wpAny_Assign_Name (i6 (he pins s σ H _ I h) fun v s1 ⟨y,H1,I1,r1,q1⟩=>?_) hs
 exact DQ I1 hN hi hx r1 (fun s2 I2=>⟨_,H1,I2,q1⟩) hf
def To(i:Nat)(te:TE)(ti:z9):TS:=fun D σ H=>∃x,σ[i]? =some (some x)/\te σ H fun y H1=>ti x y H1 fun z H2=>D.nx (σ.set i (some z)) H2
theorem Tp{op:Operator}{ti:z9}(hN:X.N.Nodup)(hi:X.N[i]? =some x)(hx:Loc X.env.scope x)(he:PE X e te)(ho:PIp X op ti)(hf:X.fn x=true\/X.env.scope.names.lookup x=some .local:=by first|exact .inl rfl|exact .inr rfl|assumption):
  PS X (.AugAssign (.Name x pos') op e pos) (To i te ti):=by
 intro pins s σ H D I h;obtain⟨v,e1,h⟩:=h;obtain⟨m,hn,hl⟩:=I.loc;have vis:wD X.env.scope x:=by rcases hx with k|k;exact .inl k;exact .inr (.inl k)
 obtain⟨u,r,l⟩:=hl i x v hi e1 vis;refine wpAny_AugAssign_Name ?_
 have go:wpAny (model X.prog X.w) X.A (eval e X.env) (fun w s₂=>wpAny (model X.prog X.w) X.A (inplaceOp op u w) (fun r s₃=>wpAny (model X.prog X.w) X.A (storeName X.env x r) (fun _=>SP X pins D .next) X.xe s₃) X.xe s₂) X.xe s:=by
  refine i6 (he pins s σ H _ I h) fun w s1 ⟨y,H1,I1,r1,q1⟩=>?_
  refine i6 (ho pins s1 σ H1 v y u w _ I1 r r1 q1) fun z s2 ⟨zv,H2,I2,r2,q2⟩=>?_
  exact DQ I2 hN hi hx r2 (fun s3 I3=>⟨_,H2,I3,q2⟩) hf
 rcases l with⟨hk,hm⟩|⟨hk,c,hc,hcell⟩
 ·exact wpAny_loadName_local I.ok.kind hk hn hm go
 ·rcases hk with hk|hk
  ·exact wpAny_loadName_cell I.ok.kind hk hc hcell go
  ·rcases hx with k|k
   ·have:X.env.scope.names.lookup x=some .free:=hk
    rw[k]at this;cases this
   ·have:X.env.scope.names.lookup x=some .free:=hk
    rw[k]at this;cases this
end
section
variable{pos:Pos}
def Tr(c:TT)(tb:TS):TS:=fun D σ H=>∃W:Nat->St->Hp->Prop,(∃m,W m σ H)/\∀m σ H,W m σ H->
 c σ H fun b H1=>if b=true then∃N:St->Hp->Prop,(∀σ' H',N σ' H'->∃m',m'<m/\W m' σ' H')/\tb {D with nx:=N,ct:=N,bk:=D.nx} σ H1 else D.nx σ H1
theorem Tt{tb:TS}(hp:PassesOwn (model X.prog X.w) X.A X.env X.xe)(hc:PT X c tc)(hb:sT X body tb):PS X (.While c body [] pos) (Tr tc tb):=by
 intro pins s σ H D I h;obtain⟨W,⟨m0,w0⟩,turn⟩:=h;refine wpAny_While (codeAny_whileLoop (fun n s'=>∃σ' H',Inv X pins σ' H' s'/\W n σ' H') ?_ m0 ⟨σ,H,I,w0⟩)
 rintro n s1 ⟨σ1,H1,I1,w1⟩;refine Js hp (i6 (hc pins s1 σ1 H1 _ I1 (turn n σ1 H1 w1)) fun b s2 ⟨H2,I2,q2⟩=>?_)
 cases b with
 |true=>
  obtain⟨N,hN,q2⟩:=q2;rw[Qn rfl];refine Js hp (i6 (hb pins s2 σ1 H2 _ I2 q2) fun f s3 q3=>?_)
  cases f with
  |next=>
   obtain⟨σ3,H3,I3,n3⟩:=q3;obtain⟨m',hm,w3⟩:=hN σ3 H3 n3;exact⟨m',hm,σ3,H3,I3,w3⟩
  |cont=>
   obtain⟨σ3,H3,I3,n3⟩:=q3;obtain⟨m',hm,w3⟩:=hN σ3 H3 n3;exact⟨m',hm,σ3,H3,I3,w3⟩
  |brk=>exact q3
  |ret v=>exact q3
 |false=>
  rw[Ql Zs];exact Uv ⟨σ1,H2,I2,q2⟩
end
structure It where
 go:Nat->Hp->Prop
 yld:Nat->Hp->V->Hp->Prop
 stop:Nat->Hp->Prop
def S6(X:Cx)(pins:OX)(H:Hp)(b:Addr):Prop:=
 H b=none/\b≠X.env.locals/\b∉X.fs/\(b∈X.ex\/X.s₀.heap.objs.size≤b)/\(∀x c,X.env.cells.lookup x=some c->c≠b)/\∀p∈X.pn++pins,p.1≠b
theorem Inv.fpOk(I:Inv X pins σ H s)(hb:s.heap.objs.size≤b)(hn:H' b=none):S6 X pins H' b:=by
 refine⟨hn,Xr (Qr I.lt hb),I.nofs hb,.inr (Zp I.sz hb),fun x c e z=>?_,fun p hp z=>?_⟩
 ·obtain⟨v,q⟩:=I.cell x c e
  exact absurd (Qr q.lt (by rw[z];exact hb)) (Yy _)
 ·exact absurd (Qr (Qu (I.pin p hp).1) (by rw[z];exact hb)) (Yy _)
structure Turn(P:Program)(w:World)(K:Qz)(tg:Expr)(J:It)(fp:List Addr)(it:Addr)(tn:Nat->Heap->Prop):Prop where
 mem:it∈fp
 obj:∀i h,tn i h->∀b∈fp,∃o,h.get? b=some o/\∀v,o.data≠.cell v
 keep:∀i h h',tn i h->(∀b∈fp,∀o,h.get? b=some o->h'.get? b=some o)->tn i h'
 item:∀(X:Cx),X.prog=P->X.w=w->X.K=K->X.calm=true->∀(i:Nat) (pins:OX) (s:Shared) (σ:St) (H:Hp) (E:OE),Inv X pins σ H s->(∀b∈fp,S6 X pins H b)->tn i s.heap->J.go i H->
  wpAny (model P w) X.A (pyNext (.ref it)) (fun r s1=>∃u,r=some u/\
   wpAny (model P w) X.A (letOwnedTupleGo tg (.ref it) u) (fun _ s2=>∃x H',Inv X pins σ H' s2/\E2 x u/\J.yld i H x H'/\tn (i+1) s2.heap/\∀b∈fp,H' b=none) E s1) E s
 done:∀(X:Cx),X.prog=P->X.w=w->X.K=K->X.calm=true->∀(i:Nat) (pins:OX) (s:Shared) (σ:St) (H:Hp) (E:OE),Inv X pins σ H s->(∀b∈fp,S6 X pins H b)->tn i s.heap->J.stop i H->
  wpAny (model P w) X.A (pyNext (.ref it)) (fun r s1=>r=none/\Inv X pins σ H s1) E s
 self:∀(A:Around) (i:Nat) (s:Shared) (Q:OE) (E:OE),tn i s.heap->Q (.ref it) s->wpAny (model P w) A (pyIter (.ref it)) Q E s
abbrev TI:=St->Hp->(It->Hp->Prop)->Prop
def PIE(X:Cx)(pins:OX)(σ:St)(tg:Expr)(R:It->Hp->Prop)(itv:Value)(s2:Shared):Prop:=
 ∃(it:Addr) (fp:List Addr) (tn:Nat->Heap->Prop) (J:It) (H':Hp),itv=.ref it/\Inv X pins σ H' s2/\Turn X.prog X.w X.K tg J fp it tn/\tn 0 s2.heap/\(∀b∈fp,S6 X pins H' b)/\R J H'
def PI(X:Cx)(tg iter:Expr)(wi:TI):Prop:=
 ∀(pins:OX) (s:Shared) (σ:St) (H:Hp) (R:It->Hp->Prop),Inv X pins σ H s->wi σ H R->
  wpAny (model X.prog X.w) X.A (eval iter X.env) (fun v s1=>wpAny (model X.prog X.w) X.A (pyIter v) (PIE X pins σ tg R) X.xe s1) X.xe s
theorem Es{o:Obj}{n:String}{vs:Array Value}{Q:Unit->Shared->Prop}(ho:s.heap.get? it=some o)(hc:o.cls=.type n)(hd:o.data=.fields vs)
    (hn:["enumerate","zip","dict_itemiterator","dict_reverseitemiterator","odict_iterator","itertools.zip_longest","itertools.pairwise"].contains n=false)(hQ:Q () s):wpAny M A (letOwnedTupleGo tg (.ref it) u) Q E s:=by
  unfold letOwnedTupleGo;cases tg<;>first
    |exact Qv hQ
    | (cases u<;>first
        |exact Qv hQ
        | (refine Qq (wpAny_load ho ?_)
           rw[hc,hd];show wpAny M A (if(["enumerate","zip","dict_itemiterator","dict_reverseitemiterator","odict_iterator","itertools.zip_longest","itertools.pairwise"].contains n&&vs[0]? ==some (rawInt _))=true then _ else _) Q E s
           rw[Ql (by intro h;rw[hn,Uq]at h;cases h)]
           exact Qv hQ))
def Itl(K:Qz)(a:Addr):It:=
 ⟨fun i H=>∃xs x,qK K H a xs/\xs[i]? =some x,fun i H x H'=>H'=H/\∀xs,qK K H a xs->xs[i]? =some x,fun i H=>∃xs,qK K H a xs/\xs.length≤i⟩
def Itt(K:Qz)(a:Addr):It:=
 ⟨fun i H=>∃xs x,qW K H a xs/\xs[i]? =some x,fun i H x H'=>H'=H/\∀xs,qW K H a xs->xs[i]? =some x,fun i H=>∃xs,qW K H a xs/\xs.length≤i⟩
def yT(lo:Int)(n:Nat):It:=⟨fun i _=>i<n,fun i H x H'=>H'=H/\x=.int (lo+i),fun i _=>n≤i⟩
theorem Tu(a it:Addr):Turn P w K tg (Itl K a) [it] it (fun i h=>h.IsListIter it a i)where
 mem:=by simp
 obj:=fun i h st b hb=>by
  have e:b=it:=by simpa using hb
  subst e;obtain⟨o,e,c,d⟩:=st;exact⟨o,e,fun v z=>by rw[d]at z;cases z⟩
 keep:=fun i h h' st k=>st.at fun o e=>k it (by simp) o e
 item:=by
  intro X hP hw hK hc i pins s σ H E I hf st hg;subst hP hw hK;obtain⟨xs,x,hq,hx⟩:=hg;obtain⟨its,rv,p,hz⟩:=I.list hq;obtain⟨u,hu,ru⟩:=rv.get hx;obtain⟨f0,f1,f2,f3,f4,f5⟩:=hf it (by simp)
  refine wpAny_pyNext_list_item st p.isList (x:=u) (by simpa using hu) fun h' st' sb=>?_
  have I1:Inv X pins σ H {s with heap:=h'}:=I.turned (t':=s.toks) (fun b o hb e=>(sb.2 b hb).trans e) f0 f1 f3 f4 f5
  obtain⟨o,e,c,d⟩:=id st';exact⟨u,rfl,Es (s:={s with heap:=h'}) e c d (by decide) ⟨x,H,I1,ru,⟨rfl,fun ys hy=>by rw[I.list_inj hy hq];exact hx⟩,st',fun b hb=>(hf b hb).1⟩⟩
 done:=by
  intro X hP hw hK hc i pins s σ H E I hf st hg;subst hP hw hK;obtain⟨xs,hq,hx⟩:=hg;obtain⟨its,rv,p,hz⟩:=I.list hq;obtain⟨f0,f1,f2,f3,f4,f5⟩:=hf it (by simp)
  have hl:=rv.length
  exact wpAny_pyNext_list_end (I.ok.hd hc) st p.isList (by simp;omega) fun h' eb=>⟨rfl,I.turned (t':=s.toks) (fun b o hb e=>eb b o hb e) f0 f1 f3 f4 f5⟩
 self:=fun _ _ _ _ _ st h=>wpAny_pyIter_listiter st h
theorem Tv(a it:Addr):Turn P w K tg (Itt K a) [it] it (fun i h=>h.IsTupleIter it a i)where
 mem:=by simp
 obj:=fun i h st b hb=>by
  have e:b=it:=by simpa using hb
  subst e;obtain⟨o,e,c,d⟩:=st;exact⟨o,e,fun v z=>by rw[d]at z;cases z⟩
 keep:=fun i h h' st k=>st.at fun o e=>k it (by simp) o e
 item:=by
  intro X hP hw hK hc i pins s σ H E I hf st hg;subst hP hw hK;obtain⟨xs,x,hq,hx⟩:=hg;obtain⟨its,rv,p,hz⟩:=I.tuple hq;obtain⟨u,hu,ru⟩:=rv.get hx;obtain⟨f0,f1,f2,f3,f4,f5⟩:=hf it (by simp)
  refine wpAny_pyNext_tuple_item st (show s.heap.IsTuple a its.toArray from p) (x:=u) (by simpa using hu) fun h' st' sb=>?_
  have I1:Inv X pins σ H {s with heap:=h'}:=I.turned (t':=s.toks) (fun b o hb e=>(sb.2 b hb).trans e) f0 f1 f3 f4 f5
  obtain⟨o,e,c,d⟩:=id st';exact⟨u,rfl,Es (s:={s with heap:=h'}) e c d (by decide) ⟨x,H,I1,ru,⟨rfl,fun ys hy=>by rw[I.tuple_inj hy hq];exact hx⟩,st',fun b hb=>(hf b hb).1⟩⟩
 done:=by
  intro X hP hw hK hc i pins s σ H E I hf st hg;subst hP hw hK;obtain⟨xs,hq,hx⟩:=hg;obtain⟨its,rv,p,hz⟩:=I.tuple hq;obtain⟨f0,f1,f2,f3,f4,f5⟩:=hf it (by simp)
  have hl:=rv.length
  exact wpAny_pyNext_tuple_end (I.ok.hd hc) st (show s.heap.IsTuple a its.toArray from p) (by simp;omega) fun h' eb=>⟨rfl,I.turned (t':=s.toks) (fun b o hb e=>eb b o hb e) f0 f1 f3 f4 f5⟩
 self:=fun _ _ _ _ _ st h=>wpAny_pyIter_tupleiter st h
theorem Tw(it:Addr)(lo:Int)(n:Nat):Turn P w K tg (yT lo n) [it] it (fun i h=>IsRangeIter h it (lo+(i:Nat) * 1) ((n:Int)-(i:Nat)) 1)where
 mem:=by simp
 obj:=fun i h st b hb=>by
  have e:b=it:=by simpa using hb
  subst e;exact⟨_,st,fun v z=>by
   have z':Data.fields _=Data.cell v:=z
   cases z'⟩
 keep:=fun i h h' st k=>k it (by simp) _ st
 item:=by
  intro X hP hw hK hc i pins s σ H E I hf st hg;subst hP hw hK;obtain⟨f0,f1,f2,f3,f4,f5⟩:=hf it (by simp)
  have W:=Walks.range (prog:=X.prog) (w:=X.w) (I.ok.hd hc) it lo 1 n
  refine W.item i s _ _ hg st fun v h' tk hv st' kk=>?_
  obtain⟨t,rfl⟩:=hv;have I1:Inv X pins σ H {s with heap:=h',toks:=tk}:=I.turned (fun b o hb e=>kk b o (by simpa using hb) e) f0 f1 f3 f4 f5
  refine⟨_,rfl,Es (s:={s with heap:=h',toks:=tk}) (n:="range_iterator") st' rfl rfl (by decide) ⟨.int (lo+i),H,I1,⟨t,?_⟩,⟨rfl,rfl⟩,st',fun b hb=>(hf b hb).1⟩⟩
  rw[Int.mul_one]
 done:=by
  intro X hP hw hK hc i pins s σ H E I hf st hg;subst hP hw hK;obtain⟨f0,f1,f2,f3,f4,f5⟩:=hf it (by simp)
  exact wpAny_pyNext_range_end (I.ok.hd hc) st (by have:n≤i:=hg;omega) fun h' eb=>⟨rfl,I.turned (t':=s.toks) (fun b o hb e=>eb b o hb e) f0 f1 f3 f4 f5⟩
 self:=fun _ _ _ _ _ st h=>wpAny_pyIter_rangeiter st h
theorem LY{R:It->Hp->Prop}{lo hi:Int}{t u v:Tok}{tk:Nat}(I:Inv X pins σ H s)(h1: -(2^62)≤lo)(h2:lo<2^62)(h3: -(2^62)≤hi)(h4:hi<2^62)
  (q:R (yT lo (hi-lo).toNat) H):wpAny (model X.prog X.w) X.A (pyIter (.ref s.heap.objs.size)) (PIE X pins σ tg R) E {s with heap:=s.heap.push {cls:=.type "range",data:=.fields #[.int lo t,.int hi u,.int 1 v]},toks:=tk}:=by
 refine wpAny_pyIter_range (IsRange.new ..) (small_one h1 h2 h3 h4) ?_
 have I1:Inv X pins σ H {s with heap:=s.heap.push {cls:=.type "range",data:=.fields #[.int lo t,.int hi u,.int 1 v]},toks:=tk}:=I.kept fun b o e=>Qx _ e
 refine⟨(s.heap.push {cls:=.type "range",data:=.fields #[.int lo t,.int hi u,.int 1 v]}).objs.size,[(s.heap.push {cls:=.type "range",data:=.fields #[.int lo t,.int hi u,.int 1 v]}).objs.size],_,_,H,rfl,
  I1.kept (t':=tk) fun b o e=>Qx _ e,Tw _ lo (hi-lo).toNat,?_,fun b hb=>?_,q⟩
 ·have e1:lo+((0:Nat):Int) * 1=lo:=by simp
  have e2:(((hi-lo).toNat:Nat):Int)-((0:Nat):Int)=Builtin.Range.rangeSize lo hi 1:=by rw[rangeSize_one];split<;>omega
  show IsRangeIter _ _ (lo+((0:Nat):Int) * 1) ((((hi-lo).toNat:Nat):Int)-((0:Nat):Int)) 1;rw[e1,e2];exact Qd _ rfl
 ·have e:b=(s.heap.push {cls:=.type "range",data:=.fields #[.int lo t,.int hi u,.int 1 v]}).objs.size:=by simpa using hb
  subst e;exact I1.fpOk (Qp _) (I1.hok.fresh (Qp _))
def Tx(ta:TA):TI:=fun σ H R=>ta σ H fun vs H1=>∃j:Int,vs=[.int j]/\ -(2^62)≤j/\j<2^62/\R (yT 0 j.toNat) H1
def UA(ta:TA):TI:=fun σ H R=>ta σ H fun vs H1=>∃i j:Int,vs=[.int i,.int j]/\(-(2^62)≤i/\i<2^62/\ -(2^62)≤j/\j<2^62)/\R (yT i (j-i).toNat) H1
theorem UB{a:Expr}{ta:TA}{pos:Pos}(hg:Gl X "range")(hm:X.mg "range"=none)(ha:PA X [a] ta)(hs:starEach [a] X.env=[(false,eval a X.env)]:=by rfl):PI X tg (.Call (.Name "range" p) [a] [] pos) (Tx ta):=by
 intro pins s σ H R I h;refine Call_ (CQ I hg hm boot_range (Jd (i6 (ha pos pins s σ H _ I h) fun us s1 ⟨vs,H1,I1,r1,q1⟩=>?_) hs rfl))
 obtain⟨j,e,q1,q2,q⟩:=q1;subst e;cases r1 with
 |cons r rr=>
  cases rr;obtain⟨t,rfl⟩:=r;exact call_range_1 (LY I1 (by omega) (by omega) q1 q2 (by simpa using q))
theorem UC{a b:Expr}{ta:TA}{pos:Pos}(hg:Gl X "range")(hm:X.mg "range"=none)(ha:PA X [a,b] ta)(hs:starEach [a,b] X.env=[(false,eval a X.env),(false,eval b X.env)]:=by rfl)(hs2:starEach [b] X.env=[(false,eval b X.env)]:=by rfl):
  PI X tg (.Call (.Name "range" p) [a,b] [] pos) (UA ta):=by
 intro pins s σ H R I h;refine Call_ (CQ I hg hm boot_range (Jd (i6 (ha pos pins s σ H _ I h) fun us s1 ⟨vs,H1,I1,r1,q1⟩=>?_) (by rw[hs,hs2]) (by rw[hs2];rfl)))
 obtain⟨i,j,e,⟨q1,q2,q3,q4⟩,q⟩:=q1;subst e;cases r1 with
 |cons r rr=>
  cases rr with
  |cons r' rr=>
   cases rr;obtain⟨t,rfl⟩:=r;obtain⟨t',rfl⟩:=r';exact call_range_2 (LY I1 q1 q2 q3 q4 q)
def UD(wi:TI)(g:TG)(tb:TS):TS:=fun D σ H=>wi σ H fun J H1=>∃W:Nat->Nat->St->Hp->Prop,(∃m,W 0 m σ H1)/\∀i m σ H,W i m σ H->
 (J.stop i H/\D.nx σ H)\/(J.go i H/\∃N:St->Hp->Prop,(∀σ' H',N σ' H'->∃m',m'<m/\W (i+1) m' σ' H')/\∀x H',J.yld i H x H'->g x σ H' fun σ2 H2=>tb {D with nx:=N,ct:=N,bk:=D.nx} σ2 H2)
def CU(fp:List Addr)(h:Heap):OX:=fp.filterMap fun b=>(h.get? b).map fun o=>(b,o)
theorem CV{o:Obj}(hb:b∈fp)(e:h.get? b=some o):(b,o)∈CU fp h:=Jl.mpr ⟨b,hb,by rw[e];rfl⟩
theorem UE{p:Addr×Obj}(hp:p∈CU fp h):p.1∈fp/\h.get? p.1=some p.2:=by
 obtain⟨b,hb,e⟩:=Jl.mp hp;cases q:h.get? b with
 |none=>rw[q]at e;cases e
 |some o=>
  rw[q]at e;have e':(b,o)=p:=Zt e;subst e';exact⟨hb,q⟩
theorem Inv.pinned(I:Inv X pins σ H s)(hf:∀b∈fp,S6 X pins H b)(ho:∀b∈fp,∃o,s.heap.get? b=some o/\∀v,o.data≠.cell v):Inv X (pins++CU fp s.heap) σ H s:=
 I.pins_of fun p hp=>(Xo.mp hp).elim (fun z=>I.pin p (Qe _ z)) fun z=>by
  obtain⟨hb,e⟩:=UE z;obtain⟨f0,f1,f2,_⟩:=hf p.1 hb;obtain⟨o,e',d⟩:=ho p.1 hb;rw[e]at e';cases e';exact⟨e,f0,f1,f2,d⟩
theorem Inv.unpinned{pl:OX}(I:Inv X (pins++pl) σ H s):Inv X pins σ H s:=I.pins_of fun p hp=>I.pin p (Qe _ (List.mem_append_left _ hp))
theorem UG{iter:Expr}{wi:TI}{g:TG}{tb:TS}{pos:Pos}(hp:PassesOwn (model X.prog X.w) X.A X.env X.xe)(hc:X.calm=true)(hi:PI X tg iter wi)(hg:PG X tg g)(hb:sT X body tb)
  (hs:∀x,foldedSetIterable iter X.env x=pure x:=by intro _;rfl):PS X (.For tg iter body [] pos) (UD wi g tb):=by
 intro pins s σ H D I h;refine wpAny_For (i6 (hi pins s σ H _ I h) fun v s1 h1=>i6 h1 fun itv s2 h2=>?_) hs
 obtain⟨it,fp,tn,J,H2,e,I2,T,st2,f2,W,⟨m0,w0⟩,turn⟩:=h2;subst e;have stat:∀{H':Hp},(∀b∈fp,H' b=none)->∀b∈fp,S6 X pins H' b:=fun hn b hb=>⟨hn b hb,(f2 b hb).2⟩
 refine codeAny_forLoop_any (fun n s'=>∃i σ' H',Inv X pins σ' H' s'/\tn i s'.heap/\(∀b∈fp,H' b=none)/\W i n σ' H') ?_ m0 ⟨0,σ,H2,I2,st2,fun b hb=>(f2 b hb).1,w0⟩
 rintro n s3 ⟨i,σ3,H3,I3,st3,fr3,w3⟩
 rcases turn i n σ3 H3 w3 with⟨stop,qn⟩|⟨go,N,hN,step⟩
 ·refine Js hp (i6 (T.done X rfl rfl rfl hc i pins s3 σ3 H3 X.xe I3 (stat fr3) st3 stop) fun r s4 ⟨hr,I4⟩=>?_)
  subst hr;exact Uv ⟨σ3,H3,I4,qn⟩
 ·refine Js hp (i6 (T.item X rfl rfl rfl hc i pins s3 σ3 H3 X.xe I3 (stat fr3) st3 go) fun r s4 ⟨u,hr,h4⟩=>?_)
  subst hr;refine Js hp (i6 h4 fun _ s5 ⟨x,H5,I5,r5,y5,st5,fr5⟩=>?_)
  have I5':=I5.pinned (stat fr5) (T.obj _ _ st5)
  refine Js hp (i6 (hg _ s5 σ3 H5 x u _ I5' r5 (step x H5 y5)) fun _ s6 ⟨σ6,H6,I6,q6⟩=>?_)
  refine Js hp (i6 (hb _ s6 σ6 H6 _ I6 q6) fun f s7 q7=>?_)
  have again:∀{σ7:St}{H7:Hp},Inv X (pins++CU fp s5.heap) σ7 H7 s7->N σ7 H7->∃m,m<n/\∃i σ' H',Inv X pins σ' H' s7/\tn i s7.heap/\(∀b∈fp,H' b=none)/\W i m σ' H':=fun{σ7 H7} I7 n7=>by
   obtain⟨m',hm,w7⟩:=hN σ7 H7 n7;refine⟨m',hm,i+1,σ7,H7,I7.unpinned,T.keep _ _ _ st5 fun b hb o e=>(I7.pin (b,o) (Qe _ (Qe _ (CV hb e)))).1,fun b hb=>?_,w7⟩
   obtain⟨o,e,d⟩:=T.obj _ _ st5 b hb;exact(I7.pin (b,o) (Qe _ (Qe _ (CV hb e)))).2.1
  cases f with
  |next=>obtain⟨σ7,H7,I7,n7⟩:=q7;exact again I7 n7
  |cont=>obtain⟨σ7,H7,I7,n7⟩:=q7;exact again I7 n7
  |brk=>obtain⟨σ7,H7,I7,q7⟩:=q7;exact⟨σ7,H7,I7.unpinned,q7⟩
  |ret v=>obtain⟨x7,σ7,H7,I7,r7,q7⟩:=q7;exact⟨x7,σ7,H7,I7.unpinned,r7,q7⟩
abbrev R2:=V->V->Hp->VK->Prop
variable{r r':R2}
def o3(X:Cx)(f:Value->Value->Sem Value)(r:R2):Prop:=
 ∀(pins:OX) (s:Shared) (σ:St) (H:Hp) (x y:V) (v u:Value) (Q:VK),Inv X pins σ H s->E2 x v->E2 y u->r x y H Q->
  wpAny (model X.prog X.w) X.A (f v u) (EP X pins σ Q) X.xe s
def UnR(X:Cx)(f:Value->Sem Value)(r:V->Hp->VK->Prop):Prop:=
 ∀(pins:OX) (s:Shared) (σ:St) (H:Hp) (x:V) (v:Value) (Q:VK),Inv X pins σ H s->E2 x v->r x H Q->
  wpAny (model X.prog X.w) X.A (f v) (EP X pins σ Q) X.xe s
def M0(X:Cx)(f:Value)(r:List V->Hp->VK->Prop):Prop:=
 ∀(pins:OX) (s:Shared) (σ:St) (H:Hp) (xs:List V) (us:List Value) (Q:VK),Inv X pins σ H s->D2 xs us->r xs H Q->
  wpAny (model X.prog X.w) X.A (call f us) (EP X pins σ Q) X.xe s
def yU(r:R2)(ta tb:TE):TE:=fun σ H Q=>ta σ H fun x H1=>tb σ H1 fun y H2=>r x y H2 Q
def tUn(r:V->Hp->VK->Prop)(ta:TE):TE:=fun σ H Q=>ta σ H fun x H1=>r x H1 Q
def rI(C:Int->Int->Prop)(g:Int->Int->V):R2:=fun x y H Q=>∃i j,x=.int i/\y=.int j/\C i j/\Q (g i j) H
def tQ(g:Int->Int->V):R2:=fun x y H Q=>∃i j,x=.int i/\y=.int j/\Q (g i j) H
def rU(g:Int->V):V->Hp->VK->Prop:=fun x H Q=>∃i,x=.int i/\Q (g i) H
section
variable{a b:Expr}{tc:TE}{pos:Pos}
theorem Go(ha:PE X a ta)(hb:PE X b tb)(I:Inv X pins σ H s)
  (h:ta σ H fun x H1=>tb σ H1 fun y H2=>R x y H2){f:Value->Value->Sem Value}
  (hf:∀v u s2 x y H2,Inv X pins σ H2 s2->E2 x v->E2 y u->R x y H2->wpAny (model X.prog X.w) X.A (f v u) Q X.xe s2):
  wpAny (model X.prog X.w) X.A (eval a X.env) (fun v s₁=>wpAny (model X.prog X.w) X.A (eval b X.env) (fun u s₂=>wpAny (model X.prog X.w) X.A (f v u) Q X.xe s₂) X.xe s₁) X.xe s:=by
 refine i6 (ha pins s σ H _ I h) fun v s1 ⟨x,H1,I1,r1,q1⟩=>?_
 refine i6 (hb pins s1 σ H1 _ I1 q1) fun u s2 ⟨y,H2,I2,r2,q2⟩=>?_
 exact hf v u s2 x y H2 I2 r1 r2 q2
theorem LZ{op:Operator}(ho:o3 X (binaryOp op) r)(ha:PE X a ta)(hb:PE X b tb):PE X (.BinOp a op b pos) (yU r ta tb):=by
 intro pins s σ H Q I h;exact wpAny_BinOp (Go ha hb I h fun v u s2 x y H2 I2 rx ry q=>ho pins s2 σ H2 x y v u Q I2 rx ry q)
theorem La{op:UnaryOp}{r:V->Hp->VK->Prop}(ho:UnR X (unaryOp op) r)(ha:PE X a ta):PE X (.UnaryOp op a pos) (tUn r ta):=by
 intro pins s σ H Q I h;exact UnaryOp_ (i6 (ha pins s σ H _ I h) fun v s1 ⟨x,H1,I1,r1,q1⟩=>ho pins s1 σ H1 x v Q I1 r1 q1)
theorem yD{f:Value->Value->Sem Value}{C:Int->Int->Prop}{g:Int->Int->Int}
  (rule:∀(i j:Int) (t u:Tok) (s:Shared) (Q:OE) (E:OE),C i j->Q (.int (g i j) s.toks) {s with toks:=s.toks+1}->wpAny (model X.prog X.w) X.A (f (.int i t) (.int j u)) Q E s):
  o3 X f (rI C fun i j=>.int (g i j)):=by
 intro pins s σ H x y v u Q I rx ry h;obtain⟨i,j,rfl,rfl,hc,q⟩:=h;obtain⟨t,rfl⟩:=rx;obtain⟨t',rfl⟩:=ry;exact rule i j t t' s _ _ hc ⟨.int (g i j),H,I.tok _,⟨_,rfl⟩,q⟩
theorem Et{f:Value->Value->Sem Value}{g:Int->Int->Int}
  (rule:∀(i j:Int) (t u:Tok) (s:Shared) (Q:OE) (E:OE),Q (.int (g i j) s.toks) {s with toks:=s.toks+1}->wpAny (model X.prog X.w) X.A (f (.int i t) (.int j u)) Q E s):
  o3 X f (tQ fun i j=>.int (g i j)):=by
 intro pins s σ H x y v u Q I rx ry h;obtain⟨i,j,rfl,rfl,q⟩:=h;obtain⟨t,rfl⟩:=rx;obtain⟨t',rfl⟩:=ry;exact rule i j t t' s _ _ ⟨.int (g i j),H,I.tok _,⟨_,rfl⟩,q⟩
theorem Gp{f:Value->Value->Sem Value}{g:Int->Int->Bool}
  (rule:∀(i j:Int) (t u:Tok) (s:Shared) (Q:OE) (E:OE),Q (.bool (g i j)) s->wpAny (model X.prog X.w) X.A (f (.int i t) (.int j u)) Q E s):
  o3 X f (tQ fun i j=>.bl (g i j)):=by
 intro pins s σ H x y v u Q I rx ry h;obtain⟨i,j,rfl,rfl,q⟩:=h;obtain⟨t,rfl⟩:=rx;obtain⟨t',rfl⟩:=ry;exact rule i j t t' s _ _ ⟨.bl (g i j),H,I,rfl,q⟩
def Gq(i j:Int):Prop:=0<j/\j<1073741824
def Gr(i j:Int):Prop:=0≤j/\j≤1000000/\i.natAbs<2^64
def Bc(i j:Int):Prop:=(-(2^64)<i/\i<2^64)\/(-(2^64)<j/\j<2^64)
theorem Bc.ok{i j:Int}(h:Bc i j):IntMulOk i j:=by
 rcases h with⟨h1,h2⟩|⟨h1,h2⟩
 ·exact .of_left (intBits_le_64 h1 h2)
 ·exact .of_right (intBits_le_64 h1 h2)
theorem UH:o3 X (binaryOp .Add) (tQ fun i j=>.int (i+j)):=Et fun _ _ _ _ _ _ _ q=>add_int q
theorem UI:o3 X (binaryOp .Sub) (tQ fun i j=>.int (i-j)):=Et fun _ _ _ _ _ _ _ q=>sub_int q
theorem UJ:o3 X (binaryOp .Mult) (rI Bc fun i j=>.int (i * j)):=yD fun _ _ _ _ _ _ _ hc q=>mul_int q hc.ok
theorem UK:o3 X (binaryOp .FloorDiv) (rI Gq fun i j=>.int (i/j)):=yD fun i j _ _ _ _ _ hc q=>by
 have h1:(0:Int)<j:=hc.1
 have h2:j<1073741824:=hc.2
 exact floordiv_int (by omega) (by rw[Int.fdiv_eq_ediv_of_nonneg i (by omega)];exact q) (.inl (PyProof.noPylong_small (by omega)))
theorem UL:o3 X (binaryOp .Mod) (rI (fun _ j=>0<j) fun i j=>.int (i%j)):=yD fun i j _ _ _ _ _ hc q=>by
 have h1:(0:Int)<j:=hc
 exact mod_int' (by omega) (by rw[Int.fmod_eq_emod_of_nonneg i (by omega)];exact q)
theorem UM:o3 X (binaryOp .Pow) (rI Gr fun i j=>.int (i^j.toNat)):=yD fun _ _ _ _ _ _ _ hc q=>pow_int_small hc.1 hc.2.1 hc.2.2 q
theorem UN:o3 X (inplaceOp .Add) (tQ fun i j=>.int (i+j)):=Et fun _ _ _ _ _ _ _ q=>iadd_int q
theorem UO:o3 X (inplaceOp .Sub) (tQ fun i j=>.int (i-j)):=Et fun _ _ _ _ _ _ _ q=>isub_int q
theorem u9{f:Value->Sem Value}{g:Int->Int}
  (rule:∀(i:Int) (t:Tok) (s:Shared) (Q:OE) (E:OE),Q (.int (g i) s.toks) {s with toks:=s.toks+1}->wpAny (model X.prog X.w) X.A (f (.int i t)) Q E s):
  UnR X f (rU fun i=>.int (g i)):=by
 intro pins s σ H x v Q I rx h;obtain⟨i,rfl,q⟩:=h;obtain⟨t,rfl⟩:=rx;exact rule i t s _ _ ⟨.int (g i),H,I.tok _,⟨_,rfl⟩,q⟩
theorem Lb:UnR X (unaryOp .USub) (rU fun i=>.int (-i)):=u9 fun _ _ _ _ _ q=>neg_int q
end
section
variable{a b:Expr}{tc:TE}{pos:Pos}
theorem UP{Q:VK}{k k':Bool}(I:Inv X pins σ H s)(q:Q (.bl k) H)(e:k=k'):EP X pins σ Q (.bool k') s:=by
 subst e;exact⟨.bl k,H,I,rfl,q⟩
theorem UQ:o3 X (compareOp .Lt) (tQ fun i j=>.bl (decide (i<j))):=Gp fun _ _ _ _ _ _ _ q=>lt_int q
theorem UR:o3 X (compareOp .LtE) (tQ fun i j=>.bl (decide (i≤j))):=Gp fun _ _ _ _ _ _ _ q=>le_int q
theorem US:o3 X (compareOp .GtE) (tQ fun i j=>.bl (decide (j≤i))):=Gp fun _ _ _ _ _ _ _ q=>ge_int q
theorem UT:o3 X (compareOp .Is) (fun x y H Q=>y=.non/\Q (.bl (decide (x=.non))) H):=by
 intro pins s σ H x y v u Q I rx ry h;obtain⟨rfl,q⟩:=h;cases ry;refine is_none_gen (UP I q ?_);cases x<;>first
  |(cases rx;rfl)
  |(obtain⟨t,rfl⟩:=rx;rfl)
theorem xI(b:Expr)(h:op≠.In:=by decide)(h2:op≠.NotIn:=by decide):behindInMarks op b=false:=by
 have e1:(op==CmpOp.In)=false:=by cases op<;>first|rfl|exact absurd rfl h
 have e2:(op==CmpOp.NotIn)=false:=by cases op<;>first|rfl|exact absurd rfl h2
 cases b<;>simp[behindInMarks,e1,e2]
theorem UU(ho:o3 X (compareOp op) r)(ha:PE X a ta)(hb:PE X b tb)(hm:behindInMarks op b=false):PE X (.Compare a [op] [b] pos) (yU r ta tb):=by
 intro pins s σ H Q I h;exact wpAny_Compare1 (Go ha hb I h fun v u s2 x y H2 I2 rx ry q=>ho pins s2 σ H2 x y v u Q I2 rx ry q) hm
def Lc(t:TE):TT:=fun σ H Q=>t σ H fun x H'=>∃k,x=.bl k/\Q k H'
theorem UW(ho:o3 X (compareOp op) r)(ha:PE X a ta)(hb:PE X b tb)(hm:behindInMarks op b=false):PT X (.Compare a [op] [b] pos) (Lc (yU r ta tb)):=by
 intro pins s σ H Q I h;refine wpAny_isTrue_Compare1 (i6 (ha pins s σ H _ I h) fun v s1 ⟨x,H1,I1,r1,q1⟩=>i6 (hb pins s1 σ H1 _ I1 q1) fun u s2 ⟨y,H2,I2,r2,q2⟩=>
  i6 (ho pins s2 σ H2 x y v u _ I2 r1 r2 q2) fun c s3 ⟨z,H3,I3,r3,k,e,q3⟩=>?_) hm
 subst e;cases r3;exact Yw ⟨H3,I3,q3⟩
def Gs(r r':R2)(ta tb tc:TE):TE:=fun σ H Q=>ta σ H fun x H1=>tb σ H1 fun y H2=>r x y H2 fun z H3=>∃k,z=.bl k/\
 (if k=true then tc σ H3 fun w' H4=>r' y w' H4 Q else Q (.bl false) H3)
theorem UX(ho:o3 X (compareOp op) r)(ho':o3 X (compareOp op') r')(ha:PE X a ta)(hb:PE X b tb)(hc:PE X c tc)
  (hm:lastMarks [op,op'] [b,c]=false:=by with_unfolding_all rfl):PE X (.Compare a [op,op'] [b,c] pos) (Gs r r' ta tb tc):=by
 intro pins s σ H Q I h;refine Compare_chain (i6 (ha pins s σ H _ I h) fun v s1 ⟨x,H1,I1,r1,q1⟩=>chain_link (i6 (hb pins s1 σ H1 _ I1 q1) fun u s2 ⟨y,H2,I2,r2,q2⟩=>
  i6 (ho pins s2 σ H2 x y v u _ I2 r1 r2 q2) fun d s3 ⟨z,H3,I3,r3,k,e,q3⟩=>?_)) hm
 subst e;cases r3;refine Yw ?_
 cases k with
 |false=>exact ite_ff ⟨.bl false,H3,I3,rfl,q3⟩
 |true=>exact ite_tt (chain_last (i6 (hc pins s3 σ H3 _ I3 q3) fun w' s4 ⟨z',H4,I4,r4,q4⟩=>ho' pins s4 σ H4 y z' u w' Q I4 r2 r4 q4))
theorem UY(ho:o3 X (compareOp op) r)(ho':o3 X (compareOp op') r')(ha:PE X a ta)(hb:PE X b tb)(hc:PE X c tc)
  (hm:lastMarks [op,op'] [b,c]=false:=by with_unfolding_all rfl):PT X (.Compare a [op,op'] [b,c] pos) (Lc (Gs r r' ta tb tc)):=by
 intro pins s σ H Q I h;refine isTrue_chain (i6 (ha pins s σ H _ I h) fun v s1 ⟨x,H1,I1,r1,q1⟩=>test_link (i6 (hb pins s1 σ H1 _ I1 q1) fun u s2 ⟨y,H2,I2,r2,q2⟩=>
  i6 (ho pins s2 σ H2 x y v u _ I2 r1 r2 q2) fun d s3 ⟨z,H3,I3,r3,k,e,q3⟩=>?_)) hm
 subst e;cases r3;refine Yw ?_
 cases k with
 |false=>
  obtain⟨k',e',q'⟩:=q3;cases e';exact ite_ff ⟨H3,I3,q'⟩
 |true=>
  refine ite_tt (test_last (i6 (hc pins s3 σ H3 _ I3 q3) fun w' s4 ⟨z',H4,I4,r4,q4⟩=>i6 (ho' pins s4 σ H4 y z' u w' _ I4 r2 r4 q4) fun d' s5 ⟨z2,H5,I5,r5,k2,e2,q5⟩=>?_))
  subst e2;cases r5;exact Yw ⟨H5,I5,q5⟩
theorem DS:(sizeLine:Nat)<2^63:=by rw[Je];decide
theorem X9{x:V}(r:D2 [x] us):∃u,us=[u]/\E2 x u:=by
 cases r with
 |cons r1 r2=>cases r2;exact⟨_,rfl,r1⟩
theorem As{x:V}(r:D2 [x,y] us):∃u w',us=[u,w']/\E2 x u/\E2 y w':=by
 cases r with
 |cons r1 r2=>
  cases r2 with
  |cons r3 r4=>cases r4;exact⟨_,_,rfl,r1,r3⟩
theorem Ld(hc:X.calm=true):M0 X (.builtin "max") (fun xs H Q=>∃i j,xs=[.int i,.int j]/\Q (.int (if j>i then j else i)) H):=by
 intro pins s σ H xs us Q I r h;obtain⟨i,j,rfl,q⟩:=h;obtain⟨u,w',rfl,⟨t,rfl⟩,⟨t',rfl⟩⟩:=As r;refine max_two_ints (I.ok.hd hc) fun h' tk k=>⟨_,H,I.kept k,?_,q⟩
 by_cases hj:j>i
 ·rw[Qn hj,Qn hj];exact⟨_,rfl⟩
 ·rw[Ql hj,Ql hj];exact⟨_,rfl⟩
theorem Lf(hc:X.calm=true):M0 X (.builtin "min") (fun xs H Q=>∃i j,xs=[.int i,.int j]/\Q (.int (if j<i then j else i)) H):=by
 intro pins s σ H xs us Q I r h;obtain⟨i,j,rfl,q⟩:=h;obtain⟨u,w',rfl,⟨t,rfl⟩,⟨t',rfl⟩⟩:=As r;refine min_two_ints (I.ok.hd hc) fun h' tk k=>⟨_,H,I.kept k,?_,q⟩
 by_cases hj:j<i
 ·rw[Qn hj,Qn hj];exact⟨_,rfl⟩
 ·rw[Ql hj,Ql hj];exact⟨_,rfl⟩
theorem DT:M0 X (.type "int") (fun xs H Q=>(∃i,xs=[.int i]/\Q (.int i) H)\/ ∃k,xs=[.bl k]/\Q (.int (if k then 1 else 0)) H):=by
 intro pins s σ H xs us Q I r h
 rcases h with⟨i,rfl,q⟩|⟨k,rfl,q⟩
 ·obtain⟨u,rfl,t,rfl⟩:=X9 r
  exact call_int_int ⟨.int i,H,I,⟨_,rfl⟩,q⟩
 ·obtain⟨u,rfl,r1⟩:=X9 r
  cases r1;exact call_int_bool ⟨.int (if k then 1 else 0),H,I.tok _,⟨_,rfl⟩,q⟩
end
structure xJ(h:Heap)(x dx C:Addr)(mA:OU):Prop where
 obj:h.get? x=some (PySem.W.instObj C dx)
 ns:h.Ns1 dx mA
 ne:dx≠x
theorem UZ(n:h.Ns1 dx mA):∃od,h.get? dx=some od/\∀name,PySem.W.lookIn name od=some (mA name):=by
 obtain⟨o,es,ep,ho,hd,hk,_,hm⟩:=n;refine⟨o,ho,fun name=>?_⟩
 have e:=hm name
 unfold nsFind findBy at e;rw[←Array.find?_toList]at e;unfold PySem.W.lookIn;rw[hd];dsimp only;split
 ·rename_i y q
  rw[q]at e;exact Yu some e
 ·rename_i q
  rw[q]at e;have a:es.toList.any (·.refKey)=false:=by
   rw[List.any_eq_false];intro y hy;obtain⟨z,t,hkey⟩:=hk y (Array.mem_toList_iff.mp hy)
   simp[DictEntry.refKey,hkey]
  have a':¬ es.toList.any (·.refKey)=true:=by rw[a];exact Zs
  rw[Ql a'];exact Yu some e
theorem xJ.look{x:Addr}(I:xJ h x dx C mA):∃od,PySem.W.InstAt h x (PySem.W.instObj C dx) C (some od)/\∀name,PySem.W.lookIn name od=some (mA name):=
 let ⟨od,ho,hl⟩:=UZ I.ns
 ⟨od,⟨I.obj,rfl,rfl,ho⟩,hl⟩
section
variable{prog:Program}{x f:Addr}{name:Str}{v:Value}
end
theorem W0.some_of{o:Option Value}(r:W0 (some v) o):∃u,o=some u/\E2 v u:=by
 cases o with
 |none=>exact(show False from r).elim
 |some u=>exact⟨u,rfl,r⟩
section
variable{fs fs':List (Str×V)}
theorem VA(hok:qV P w H h)(e:H a=some (.ins C dx fs)):∃mA,xJ h a dx C mA/\(∀f,W0 (fs.lookup f) (mA f))/\PySem.Within mA (fs.map (·.1))/\fs.length≤1000/\H dx=some (.own a):=by
 obtain⟨d,z,ne,ob,mA,n,r,q⟩:=(show K1 P w H h a (.ins C dx fs)from hok a _ e)
 exact⟨mA,⟨ob,n,ne⟩,r,q,z,d⟩
end
structure Cls(K:Qz)(C:Addr):Prop where
 pg:PySem.W.plainGet K C Str.empty=true
 hd:PySem.W.hasDictIn K C=true
 po:PySem.W.plainOver K C=true
 sa:PySem.W.findIn K (.ref C) "__setattr__"=some (some (.builtin "object.__setattr__"))
theorem Cls.get(c:Cls K C)(f:Str):PySem.W.plainGet K C f=true:=c.pg
structure Con(K:Qz)(C:Addr)(f:Str)(v:V)(u:Value):Prop where
 at_:PySem.W.findIn K (.ref C) f=some (some u)
 rel:E2 v u
 get:PySem.W.specialIn K u "__get__"=some none
 cp:PySem.W.copiedNames.contains f=false
structure a1F(K:Qz)(C:Addr)(m:Str)(f:Addr):Prop where
 at_:PySem.W.findIn K (.ref C) m=some (some (.ref f))
 fn:PySem.W.isFn K (.ref f)=true
 kp:PySem.W.keepIn K (.ref f)=true
section
variable{fs:List (Str×V)}{f:Str}
end
section
variable{o value:Expr}{f:Str}{pos tpos:Pos}{tv:TE}
end
section
variable{c:Value}{b:Bool}
inductive r9 (K:Qz) (H:Hp):V->Value->Prop where
 |non:r9 K H .non (.type "NoneType")
 |bl (x:Bool):r9 K H (.bl x) (.type "bool")
 |int (i:Int):r9 K H (.int i) (.type "int")
 |str (x:Str):r9 K H (.str x) (.type "str")
 |flt (x:UInt64):r9 K H (.flt x) (.type "float")
 |lst {a:Addr}{xs:List V}(e:H a=some (.lst xs)):r9 K H (.ref a) (.type "list")
 |frz {a:Addr}{o:Obj}{xs:List V}(e:H a=some (.frz o (.lst xs))):r9 K H (.ref a) (.type "list")
 |tup {a:Addr}{xs:List V}(e:H a=some (.tup xs)):r9 K H (.ref a) (.type "tuple")
 |dK {a:Addr}{kvs:List (Key×V)}(e:H a=some (.dK kvs)):r9 K H (.ref a) (.type "dict")
 |dT {a:Addr}{C:Addr->List Key->Prop}{kvs:List (List Key×V)}(e:H a=some (.dT C kvs)):r9 K H (.ref a) (.type "dict")
 |ins {a C dx:Addr}{fs:List (Str×V)}(e:H a=some (.ins C dx fs)) (cl:Cls K C) (ha:PySem.W.findIn K (.ref C) "__class__"=some (some (.builtin "object.__class__")))
   (hn:PySem.W.specialIn K (.builtin "object.__class__") "__get__"=some (some (.builtin "getset_descriptor.__get__"))) (htk:PySem.W.takesIn K (.builtin "object.__class__")=some true)
   (hm:PySem.W.mroIn K C (.type "object")=some true):r9 K H (.ref a) (.ref C)
theorem CW{x:V}{t:Value}(I:Inv X pins σ H s)(rx:E2 x u)(ty:r9 X.K H x t)(e:PySem.W.kitOne X.K t c=some b)(h:∀tk,Q (.bool b) {s with toks:=tk}):
  wpAny (model X.prog X.w) A (call (.builtin "isinstance") [u,c]) Q E s:=by
 cases ty with
 |non=>cases (show u=Value.none from rx);exact Zu PySem.W.kitx_none I.kIn True.intro e (fun z=>nomatch z) h
 |bl y=>cases (show u=Value.bool y from rx);exact Zu PySem.W.kitx_bool I.kIn True.intro e (fun z=>nomatch z) h
 |int i=>obtain⟨t,q⟩:=(show∃t,u=Value.int i t from rx);cases q;exact Zu PySem.W.kitx_int I.kIn True.intro e (fun z=>nomatch z) h
 |str y=>obtain⟨t,q⟩:=(show∃t,u=Value.str y t from rx);cases q;exact Zu PySem.W.kitx_str I.kIn True.intro e (fun z=>nomatch z) h
 |flt y=>obtain⟨t,q⟩:=(show∃t,u=Value.float y t from rx);cases q;exact Zu PySem.W.kitx_float I.kIn True.intro e (fun z=>nomatch z) h
 |@lst a xs ea=>
  cases (show u=Value.ref a from rx)
  obtain⟨_,_,n,_,h1⟩:=(show K1 X.prog X.w H s.heap a (.lst xs)from I.hok a _ ea)
  exact Zu Vb I.kIn ⟨_,h1,rfl⟩ e (fun z=>nomatch z) h
 |@frz a ob xs ea=>
  cases (show u=Value.ref a from rx)
  obtain⟨_,_,_,n,_,h1⟩:=(show K1 X.prog X.w H s.heap a (.frz ob (.lst xs))from I.hok a _ ea)
  exact Zu Vb I.kIn ⟨_,h1,rfl⟩ e (fun z=>nomatch z) h
 |@tup a xs ea=>
  cases (show u=Value.ref a from rx)
  obtain⟨_,_,_,p⟩:=(show K1 X.prog X.w H s.heap a (.tup xs)from I.hok a _ ea)
  obtain⟨o,h1,h2,_⟩:=p;exact Zu Xw I.kIn ⟨o,h1,h2⟩ e (fun z=>nomatch z) h
 |@dK a kvs ea=>
  cases (show u=Value.ref a from rx)
  obtain⟨_,_,vs,_,p⟩:=(show K1 X.prog X.w H s.heap a (.dK kvs)from I.hok a _ ea)
  obtain⟨o,es,ep,h1,h2,_⟩:=p;exact Zu Yo I.kIn ⟨o,h1,h2.1⟩ e (fun z=>nomatch z) h
 |@dT a C kvs ea=>
  cases (show u=Value.ref a from rx)
  obtain⟨_,_,xs,_,o,es,ep,h1,h2,_⟩:=(show K1 X.prog X.w H s.heap a (.dT C kvs)from I.hok a _ ea)
  exact Zu Yo I.kIn ⟨o,h1,h2.1⟩ e (fun z=>nomatch z) h
 |@ins a C dx fs ea cl ha hn htk hm=>
  cases (show u=Value.ref a from rx)
  obtain⟨mA,O,_⟩:=VA I.hok ea;obtain⟨od,J,_⟩:=O.look;exact Zu (PySem.W.kitx_own (cl.get _) cl.hd ha hn htk hm) I.kIn J e (fun z=>nomatch z) h
end
structure g6(k:Nat)(A:Around):Prop where
 hd:A.handled=none
 dp:A.depth+3 * k+5<recursionLimit
 un:A.units+16 * k+200<cLine
theorem g6.mono(r:g6 k A)(h:j≤k):g6 j A:=⟨r.hd,by have:=r.dp;omega,by have:=r.un;omega⟩
theorem g6.deeper(r:g6 (k+1) A)(env:Env):g6 k (A.deeper env):=
 ⟨r.hd,by have:=r.dp;show A.depth+1+3 * k+5<_;omega,by have:=r.un;show A.units+3+16 * k+200<_;omega⟩
theorem g6.depth(r:g6 k A):A.depth<recursionLimit:=by have:=r.dp;omega
theorem g6.units(r:g6 k A):A.units+64<cLine:=by have:=r.un;omega
def Gu:TA:=fun _ H Q=>Q [] H
def Gv(ta:TE)(tr:TA):TA:=fun σ H Q=>ta σ H fun x H1=>tr σ H1 fun xs H2=>Q (x::xs) H2
section
variable{t:TA}{pos:Pos}
theorem AA:PA X [] Gu:=fun _ _ _ _ H Q I h=>Calls.spliced_nil ⟨[],H,I,.nil,h⟩
theorem R0(ha:PE X e te)(hr:PA X es t)(hs:starEach (e::es) X.env=(false,eval e X.env)::starEach es X.env:=by rfl):PA X (e::es) (Gv te t):=by
 intro pos pins s σ H Q I h;rw[hs];show wpAny _ _ (spliced ((false,eval e X.env)::backTo pos (starEach es X.env))) _ _ s;refine Calls.spliced_cons (i6 (ha pins s σ H _ I h) fun u s1 ⟨x,H1,I1,r1,q1⟩=>?_)
 exact i6 (hr pos pins s1 σ H1 _ I1 q1) fun us s2 ⟨xs,H2,I2,r2,q2⟩=>⟨x::xs,H2,I2,.cons r1 r2,q2⟩
def Lg(t:TA):TE:=fun σ H Q=>t σ H fun xs H1=>xs.length≤sizeLine/\∀p,H1 p=none->Q (.ref p) (upd H1 p (.tup xs))
def VB(t:TA):TE:=fun σ H Q=>t σ H fun xs H1=>xs.length≤sizeLine/\∀p,H1 p=none->Q (.ref p) (upd H1 p (.lst xs))
theorem Lh{x1}(h:PA X es t):PE X (.Tuple es x1 pos) (Lg t):=by
 intro pins s σ H Q I hq;refine wpAny_Tuple_spliced (i6 (h pos pins s σ H _ I hq) fun us s1 ⟨xs,H1,I1,r,z,q⟩=>⟨by rw[←r.length];exact z,?_⟩)
 have hf:H1 s1.heap.objs.size=none:=I1.hok.fresh (Qp _)
 refine⟨.ref s1.heap.objs.size,upd H1 s1.heap.objs.size (.tup xs),I1.laid (t':=s1.toks) (fun b u e=>Qx _ e) (Qp _) ?_,rfl,q _ hf⟩
 exact⟨z,us,r,⟨_,Qd _ rfl,rfl,rfl,_,rfl⟩⟩
theorem VC(h:PA X es t):PE X (.List es pos) (VB t):=by
 intro pins s σ H Q I hq;refine wpAny_List_spliced (i6 (h pos pins s σ H _ I hq) fun us s1 ⟨xs,H1,I1,r,z,q⟩=>⟨by rw[←r.length];exact z,?_⟩)
 have hf:H1 s1.heap.objs.size=none:=I1.hok.fresh (Qp _)
 refine⟨.ref s1.heap.objs.size,upd H1 s1.heap.objs.size (.lst xs),I1.laid (t':=s1.toks) (fun b u e=>Qx _ e) (Qp _) ?_,rfl,q _ hf⟩
 exact⟨z,us,0,r,Qd _ rfl⟩
end
abbrev Sp:=List V->Hp->VK->XK->Prop
variable{sp:Sp}
abbrev wN:=List Env->Hp->Shared->XK->OE
variable{CX:wN}
structure tR(P:Program)(w:World)(K:Qz)(mg:OU)(base:Heap)(A:Around)(outer:List Env)(s:Shared)(H:Hp):Prop where
 frames:A.frames=some outer
 mod:Mod K mg base
 bs:∀b o,base.get? b=some o->s.heap.get? b=some o/\H b=none
 bsz:base.objs.size≤s.heap.objs.size
 funs:s.heap.FunFrames base outer
 frf:∀b∈qA outer,H b=none
 hok:qV P w H s.heap
 bare:AllBare s.gens
def CE(outer:List Env)(P:Program)(w:World)(H:Hp)(s:Shared)(Q:VK)(u:Value)(s':Shared):Prop:=
 ∃v H',s'.os=s.os/\AllBare s'.gens/\Un (qA outer) [] H H' s.heap s'.heap/\qV P w H' s'.heap/\E2 v u/\Q v H'
def CR(CX:wN)(outer:List Env)(P:Program)(w:World)(H:Hp)(s:Shared)(Q:VK)(E:XK)(r:Result)(s':Shared):Prop:=
 match r with
 |.ok (.ret u)=>CE outer P w H s Q u s'
 |.ok _=>False
 |.error e=>CX outer H s E e s'
structure c6(P:Program)(w:World)(K:Qz)(mg:OU)(base:Heap)(CX:wN)(k:Nat)(f:Addr)(fd:FuncData)(ps:List Str)(sp:Sp):Prop where
 len:∀vs H Q E,sp vs H Q E->vs.length=ps.length
 run:∀(A:Around) (outer:List Env) (s:Shared) (H:Hp) (args:Args) (us:List Value) (vs:List V) (Q:VK) (E:XK),g6 k A->tR P w K mg base A outer s H->BindsTo s fd args (ps.zip us)->D2 vs us->sp vs H Q E->
  codeAny (model P w) A (.call (.ref f) args) (CR CX outer P w H s Q E) s
theorem Inv.uT(I:Inv X pins σ H s):tR X.prog X.w X.K X.mg X.base X.A X.stack s H:=
 ⟨I.ok.frames,I.ok.mod,I.bs,Zp I.ok.bsz I.sz,I.stack,I.stkFree,I.hok,I.bare⟩
theorem Inv.after{Q:VK}(I:Inv X pins σ H s)(h:CE X.stack X.prog X.w H s Q u s'):EP X pins σ Q u s':=by
 obtain⟨v,H',os,bare,un,hok,r,q⟩:=h;obtain⟨hh,g,d,t,os'⟩:=s';obtain rfl:os'=s.os:=os;exact⟨v,H',I.call (h':=hh) (g':=g) (d':=d) (t':=t) (ch:=[]) un hok bare (fun b z=>absurd z (by simp)),r,q⟩
def Eu(sp:Sp)(dvs:List V)(E:XK)(t:TA):TE:=fun σ H Q=>t σ H fun vs H1=>sp (vs++dvs) H1 Q E
def Q2(K:Qz)(fd:FuncData)(ps:List Str)(ds:List Value):Prop:=
 ∀(s:Shared) (us:List Value),K.In s.heap->(us++ds).length=ps.length->BindsTo s fd ⟨us,[]⟩ (ps.zip (us++ds))
theorem Q2.all(h:∀us:List Value,us.length=ps.length->bindArgs fd ⟨us,[]⟩=pure (ps.zip us)):Q2 K fd ps []:=fun s us _ hl=>by
 rw[Yg]at hl ⊢;exact .of_eq (h us hl)
def CY(CX:wN)(X:Cx)(E:XK):Prop:=∀(pins:OX) (σ:St) (H:Hp) (s:Shared) (e:Value) (s':Shared),Inv X pins σ H s->CX X.stack H s E e s'->X.xe e s'
section
variable{f:Addr}{dvs:List V}{ds:List Value}{E:XK}{m:Str}{pos apos:Pos}{o:Expr}{t:TA}
theorem Gw{Q:VK}(F:c6 X.prog X.w X.K X.mg X.base CX k f fd ps sp)(hr:g6 k X.A)(hb:Q2 X.K fd ps ds)(hd:D2 dvs ds)(hx:CY CX X E)
  (I:Inv X pins σ H s)(r:D2 vs us)(h:sp (vs++dvs) H Q E):wpAny (model X.prog X.w) X.A (call (.ref f) us) (EP X pins σ Q) X.xe s:=by
 have r2:D2 (vs++dvs) (us++ds):=r.append hd
 have hl:(us++ds).length=ps.length:=by rw[←r2.length];exact F.len _ _ _ _ h
 refine wpAny_call (Vi (F.run X.A X.stack s H ⟨us,[]⟩ (us++ds) (vs++dvs) Q E hr I.uT (hb s us I.kIn hl) r2 h) fun r s' hq=>?_)
 cases r with
 |error e=>exact hx pins σ H s e s' I hq
 |ok fl=>
  cases fl with
  |ret u=>exact I.after hq
  |next=>exact False.elim hq
  |brk=>exact False.elim hq
  |cont=>exact False.elim hq
theorem DU(F:c6 X.prog X.w X.K X.mg X.base CX k f fd ps sp)(hr:g6 k X.A)(hg:Gl X x)(hm:X.mg x=some (.ref f))(hk:PySem.W.keepIn X.K (.ref f)=true)(hb:Q2 X.K fd ps ds)(hd:D2 dvs ds)(hx:CY CX X E)
  (ha:PA X (e::es) t)(hdb:(x==("__debug__":Str))=false:=by decide)(he:starEach (e::es) X.env=(false,eval e X.env)::starEach es X.env:=by rfl)(hpl:(backTo pos (starEach es X.env)).any (·.1)=false:=by rfl):
  PE X (.Call (.Name x p) (e::es) [] pos) (Eu sp dvs E t):=by
 intro pins s σ H Q I h;refine Jy (CP I hg hm ?_ hdb);refine PySem.W.callWith_K (h₀:=X.base) I.ok.mod.kin hk (i6 (ha pos pins s σ H _ I h) fun us s1 ⟨vs,H1,I1,r,q⟩=>⟨I1.kIn,?_⟩) he hpl
 exact Gw F hr hb hd hx I1 r q
theorem VD(F:c6 X.prog X.w X.K X.mg X.base CX k f fd ps sp)(hr:g6 k X.A)(hg:Gl X x)(hm:X.mg x=some (.ref f))(hk:PySem.W.keepIn X.K (.ref f)=true)(hb:Q2 X.K fd ps ds)(hd:D2 dvs ds)(hx:CY CX X E)
  (hdb:(x==("__debug__":Str))=false:=by decide):PE X (.Call (.Name x p) [] [] pos) (Eu sp dvs E Gu):=by
 intro pins s σ H Q I h;refine Jy (CP I hg hm ?_ hdb);exact PySem.W.callWith_K0 I.kIn hk (Gw (us:=[]) F hr hb hd hx I .nil h)
structure Mk(K:Qz)(C f:Addr):Prop where
 makes:PySem.W.makesIn K C=true
 init:PySem.W.findIn K (.ref C) "__init__"=some (some (.ref f))
 fn:PySem.W.isFn K (.ref f)=true
 kp:PySem.W.keepIn K (.ref C)=true
end
section
variable{f:Addr}{ks:List Str}{E:XK}{m:Str}{pos apos kpos:Pos}{o:Expr}{kws:List Keyword}{t tk:TA}{nm:Option Str}
structure a0E(K:Qz)(fd:FuncData)(ps ks:List Str)(g:List Value->List Value->List Value)(gV:List V->List V->List V):Prop where
 to:∀(s:Shared) (us ws:List Value),K.In s.heap->(g us ws).length=ps.length->BindsTo s fd ⟨us,ks.zip ws⟩ (ps.zip (g us ws))
 rel:∀{vs:List V}{us:List Value}{zs:List V}{ws:List Value},D2 vs us->D2 zs ws->D2 (gV vs zs) (g us ws)
variable{g:List Value->List Value->List Value}{gV:List V->List V->List V}
end
structure a9(N P:List Str)(sc:Scope):Prop where
 kind:sc.kind=.function
 co:sc.isCoroutine=false
 gen:sc.isGenerator=false
 nd:N.Nodup
 pre:N.take P.length=P
 par:∀x∈P,sc.names.lookup x=some .local\/sc.names.lookup x=some .cell
 nofree:∀y∈sc.names,y.2≠.free
theorem Li{kindOf:Str->Option NameKind}{x:Str}:∀{binds:List (Str×Value)}{m:OU},(∀v,(x,v)∉binds)->bindL kindOf binds m x=m x
 |[],_,_=>rfl
 |(n,v)::r,m,h=>by
  unfold bindL;rw[Li fun w hw=>h w (Ym _ hw)]
  split
  ·have:x≠n:=by rintro rfl;exact h v Zl
   simp[this]
  ·rfl
theorem Lj{kindOf:Str->Option NameKind}{x:Str}:∀{binds:List (Str×Value)}{m:OU},(∀v,(x,v)∉binds)->bindC kindOf binds m x=m x
 |[],_,_=>rfl
 |(n,v)::r,m,h=>by
  unfold bindC;rw[Lj fun w hw=>h w (Ym _ hw)]
  split
  ·rfl
  ·have:x≠n:=by rintro rfl;exact h v Zl
   simp[this]
theorem Lk{kindOf:Str->Option NameKind}{x:Str}{v:Value}:∀{P:List Str}{vs:List Value}{i:Nat}{m:OU},P.Nodup->P[i]? =some x->vs[i]? =some v->kindOf x=some .local->
  bindL kindOf (P.zip vs) m x=some v
 |[],_,_,_,_,h,_,_=>by simp at h
 |_::_,[],_,_,_,_,h,_=>by simp at h
 |p::P,w::vs,0,m,nd,h1,h2,hk=>by
  simp at h1 h2;subst h1;subst h2
  show bindL kindOf ((p,w)::P.zip vs) m p=_;unfold bindL;rw[Li fun v hv=>(Vt.mp nd).1 (Va hv).1,Qn hk]
  simp
 |p::P,w::vs,i+1,m,nd,h1,h2,hk=>by
  show bindL kindOf ((p,w)::P.zip vs) m x=_;unfold bindL;exact Lk (i:=i) (Vt.mp nd).2 (by simpa using h1) (by simpa using h2) hk
theorem Ll{kindOf:Str->Option NameKind}{x:Str}{v:Value}:∀{P:List Str}{vs:List Value}{i:Nat}{m:OU},P.Nodup->P[i]? =some x->vs[i]? =some v->kindOf x≠some .local->
  bindC kindOf (P.zip vs) m x=some v
 |[],_,_,_,_,h,_,_=>by simp at h
 |_::_,[],_,_,_,_,h,_=>by simp at h
 |p::P,w::vs,0,m,nd,h1,h2,hk=>by
  simp at h1 h2;subst h1;subst h2
  show bindC kindOf ((p,w)::P.zip vs) m p=_;unfold bindC;rw[Lj fun v hv=>(Vt.mp nd).1 (Va hv).1,Ql hk]
  simp
 |p::P,w::vs,i+1,m,nd,h1,h2,hk=>by
  show bindC kindOf ((p,w)::P.zip vs) m x=_;unfold bindC;exact Ll (i:=i) (Vt.mp nd).2 (by simpa using h1) (by simpa using h2) hk
def start(N:List Str)(vs:List V):St:=vs.map some++List.replicate (N.length-vs.length) none
def O8(CX:wN)(P:Program)(w:World)(K:Qz)(mg:OU)(base:Heap)(N:List Str)(qual:Str)(scope:Scope)(f:Addr)(cd:Value)(A:Around)(outer:List Env)(s:Shared)(H:Hp)(E:XK):Cx where
 prog:=P
 w:=w
 K:=K
 mg:=mg
 base:=base
 A:=A.deeper (envOfC qual scope s.heap.objs.size f cd)
 N:=N
 s₀:=s
 H₀:=H
 env:=envOfC qual scope s.heap.objs.size f cd
 outer:=outer
 stack:=envOfC qual scope s.heap.objs.size f cd::outer
 ex:=[]
 calm:=true
 fn:=fun _=>true
 pn:=[]
 xe:=fun e s'=>wpAny (model P w) (A.deeper (envOfC qual scope s.heap.objs.size f cd)) (leaving (envOfC qual scope s.heap.objs.size f cd) e) (fun _ s''=>CX outer H s E e s'') (fun e' s''=>CX outer H s E e' s'') s'
theorem Lm{sc:Scope}(h:sc.names.lookup x=some .cell):∃c,(cellsFrom n sc.names []).lookup x=some c:=by
 have q:=Ub sc.names n [] (.inl h)
 exact Yp.mp q
theorem Ln{f:Addr}{cd:Value}{outer:List Env}{s1:Shared}{E:XK}
  (S:a9 N ps scope)(hd:A.handled=none)(e0:tR P w K mg base A outer s H)(hl:vs.length=ps.length)(r:D2 vs us)
  (x:InCallC s s.heap.objs.size (bindL (envOfC qual scope s.heap.objs.size f cd).kindOf (ps.zip us) fun _=>none) (cellsFrom (s.heap.objs.size+1) scope.names []) (bindC (envOfC qual scope s.heap.objs.size f cd).kindOf (ps.zip us) fun _=>none) s1):
  Inv (O8 CX P w K mg base N qual scope f cd A outer s H E) [] (start N vs) H s1:=by
 have hpl:ps.length≤N.length:=by have:=Yu List.length S.pre;rw[Jx]at this;omega
 obtain⟨h1,tk,rfl,hk⟩:=x.done;have noA:∀b:Addr,b∉(O8 CX P w K mg base N qual scope f cd A outer s H E).ex:=fun b z=>absurd (show b∈([]:List Addr)from z) (by simp)
 refine⟨⟨e0.mod,S.kind,rfl,rfl,Qp _,fun y z c h1 h2=>?_,fun y hy=>?_,fun y c _ h=>?_,fun _=>hd,Around.frames_deeper e0.frames,.inr ⟨rfl,rfl⟩,fun b z=>absurd z (noA b),e0.bs,e0.bsz,fun b _ _=>noA b,fun b z=>absurd z (noA b),e0.funs,e0.frf⟩,
  rfl,e0.bare,Un.kept hk,⟨_,x.toInCall.ns,fun i y v h1 h2 h3=>?_⟩,fun y c h=>⟨_,x.cell y c h⟩,e0.hok.fresh (Qp _),fun y c h=>?_,fun p hp=>absurd (show p∈([]:OX)from hp) (by simp),e0.hok.kept hk,?_⟩
 ·exact name_of_addr x.apart (Zz h1) (Zz h2)
 ·have hy:scope.names.lookup y=some .cell\/scope.names.lookup y=some .free:=hy
  rcases hy with hy|hy
  ·exact Lm hy
  ·exact absurd rfl (S.nofree _ (Zz hy))
 ·exact Jj (x.above y c (Zz h))
 ·have hi:i<vs.length:=by
   unfold start at h2
   by_cases hi:i<vs.length
   ·exact hi
   ·rw[List.getElem?_append_right (by simpa using hi)]at h2
    rw[Jm]at h2;split at h2<;>cases h2
  have ha:vs[i]? =some v:=by
   unfold start at h2;rw[Jp (by simpa using hi),Zw]at h2
   cases e:vs[i]? with
   |none=>rw[e]at h2;cases h2
   |some a=>rw[e]at h2;cases h2;rfl
  obtain⟨u,hu,rv⟩:=r.get ha;have hp:ps[i]? =some y:=by
   rw[←S.pre,List.getElem?_take_of_lt (by omega)];exact h1
  have ndP:ps.Nodup:=by rw[←S.pre];exact S.nd.sublist (List.take_sublist _ _)
  refine⟨u,rv,?_⟩
  rcases S.par y (Jb hp)with k|k
  ·exact .inl ⟨k,Lk ndP hp hu k⟩
  ·obtain⟨c,e⟩:=Lm (n:=s.heap.objs.size+1) k
   refine .inr ⟨.inl k,c,e,?_⟩;have q:=x.cell y c e;rw[Ll ndP hp hu (by show scope.names.lookup y≠_;rw[k];decide)]at q
   exact q
 ·exact e0.hok.fresh (Jj (x.above y c (Zz h)))
 ·unfold start
  show _=N.length;rw[Qa,Qk,Ze]
  omega
theorem Gx{f:Addr}{name:Str}{params:Arguments}{dV kV doc pm cdv ct oc:Value}{an od:Option Addr}
  {osl:Array (Option Value)}(lk:K.lookup f=some ⟨oc,od,.func (PySem.W.fnOf name qual params body scope dV kV doc pm an cdv ct),osl⟩)(hcd:PySem.W.codeIn K cdv qual=true)(S:a9 N ps scope)
  (len:∀vs H Q E,sp vs H Q E->vs.length=ps.length)
  (hbody:∀(A:Around) (outer:List Env) (s:Shared) (H:Hp) (vs:List V) (Q:VK) (E:XK),g6 k (A.deeper (envOfC qual scope s.heap.objs.size f cdv))->sp vs H Q E->
   ∃t,sT (O8 CX P w K mg base N qual scope f cdv A outer s H E) body t/\t {nx:=fun _ H'=>Q .non H',rt:=Q} (start N vs) H):
  c6 P w K mg base CX (k+1) f (PySem.W.fnOf name qual params body scope dV kV doc pm an cdv ct) ps sp:=by
 refine⟨len,fun A outer s H args us vs Q E hr e0 hb r hsp=>?_⟩
 have hl:=len _ _ _ _ hsp
 have KX:K.In s.heap:=e0.mod.kin.keeps fun b o e=>(e0.bs b o e).1
 have lim:s.heap.NoLimit:=e0.mod.nolimit.keeps fun b o e=>(e0.bs b o e).1
 have hkind:∀y∈ps.zip us,scope.names.lookup y.1=some .local\/(scope.names.lookup y.1=some .cell/\((cellsFrom (s.heap.objs.size+1) scope.names []).lookup y.1).isSome=true):=fun⟨n,v⟩ hy=>by
  rcases S.par n (Va hy).1 with q|q
  ·exact .inl q
  ·exact .inr ⟨q,Ub _ _ _ (.inl q)⟩
 refine codeAny_call_function hr.depth (KX _ _ lk) rfl S.co S.gen rfl (PySem.W.codeRec_of KX hcd) (hb _ _ _ _ ?_);refine wpAny_newFunctionEnv_cells S.kind hkind fun env he s1 x=>?_
 subst he;refine⟨lim.keeps x.toInCall.keep,codeAny_func ?_⟩;obtain⟨t,ht,hq⟩:=hbody A outer s H vs Q E (hr.deeper _) hsp;have I:Inv (O8 CX P w K mg base N qual scope f cdv A outer s H E) [] (start N vs) H s1:=Ln S hr.hd e0 hl r x;refine Qi (ht [] s1 (start N vs) H _ I hq) (fun fl s' hs=>?_) fun e s' hs=>hs
 have fin:∀{σ':St}{H':Hp}{v:V}{u:Value},Inv (O8 CX P w K mg base N qual scope f cdv A outer s H E) [] σ' H' s'->E2 v u->Q v H'->CE outer P w H s Q u s':=
  fun{σ' H' v u} J rv q=>⟨v,H',J.os,J.bare,J.base,J.hok,rv,q⟩
 cases fl with
 |ret u=>
  obtain⟨v,σ',H',J,rv,q⟩:=hs;exact fin J rv q
 |next=>
  obtain⟨σ',H',J,q⟩:=hs;exact fin (v:=V.non) (u:=Value.none) J rfl q
 |brk=>
  obtain⟨_,_,_,q⟩:=hs;exact False.elim q
 |cont=>
  obtain⟨_,_,_,q⟩:=hs;exact False.elim q
section
variable{pos:Pos}{t:TA}{id T:String}{r:List V->Hp->VK->Prop}
def zI(r:List V->Hp->VK->Prop)(t:TA):TE:=fun σ H Q=>t σ H fun vs H1=>r vs H1 Q
theorem CZ(hc:M0 X (.builtin id) r)(hg:Gl X x)(hm:X.mg x=none)(hv:bootBuiltins x=some (.builtin id))(ha:PA X (e::es) t)(hn:x≠"__name__":=by decide)(hdb:(x==("__debug__":Str))=false:=by decide)
  (he:starEach (e::es) X.env=(false,eval e X.env)::starEach es X.env:=by rfl)(hpl:(backTo pos (starEach es X.env)).any (·.1)=false:=by rfl):PE X (.Call (.Name x p) (e::es) [] pos) (zI r t):=by
 intro pins s σ H Q I h;refine Jy (CQ I hg hm hv ?_ hn hdb);exact PyProof.Rows.callWith_builtin1 (i6 (ha pos pins s σ H _ I h) fun us s1 ⟨vs,H1,I1,r1,q1⟩=>hc pins s1 σ H1 vs us Q I1 r1 q1) he hpl
theorem Lo(hc:M0 X (.type T) r)(hg:Gl X x)(hm:X.mg x=none)(hv:bootBuiltins x=some (.type T))(ha:PA X (e::es) t)(hn:x≠"__name__":=by decide)(hdb:(x==("__debug__":Str))=false:=by decide)
  (he:starEach (e::es) X.env=(false,eval e X.env)::starEach es X.env:=by rfl)(hpl:(backTo pos (starEach es X.env)).any (·.1)=false:=by rfl):PE X (.Call (.Name x p) (e::es) [] pos) (zI r t):=by
 intro pins s σ H Q I h;refine Jy (CQ I hg hm hv ?_ hn hdb);exact Jd (i6 (ha pos pins s σ H _ I h) fun us s1 ⟨vs,H1,I1,r1,q1⟩=>hc pins s1 σ H1 vs us Q I1 r1 q1) he hpl
end
end L2
namespace HT
open PySem PyProof.Rows
variable{Q:OE}{hi lo:Option Int}{sl:Addr}{vl vu:Value}
def lexLt:List Int->List Int->Bool
 |[],[]=>false
 |[],_::_=>true
 |_::_,[]=>false
 |x::xs,y::ys=>if x=y then lexLt xs ys else decide (x<y)
theorem sI(x y:Int)(xs ys:List Int):lexLt (x::xs) (y::ys)=if x=y then lexLt xs ys else decide (x<y):=rfl
theorem sU:lexLt [] []=false:=rfl
theorem sJ(y:Int)(ys:List Int):lexLt [] (y::ys)=true:=rfl
theorem sK(x:Int)(xs:List Int):lexLt (x::xs) []=false:=rfl
theorem vH(A:Around)(s:Shared)(a:Int)(t:Tok)(c:Int)(u:Tok):∃e,SeqAt.EqAt A s (.int a t) (.int c u) e/\(e=true↔a=c):=
 ⟨(a==c),Xy a t c u,by simp⟩
theorem vI(A:Around)(s:Shared)(a:Int)(t:Tok)(c:Int)(u:Tok)(prog:Program)(w:World)(E:OE)(Q:OE)(h:Q (.bool (decide (a<c))) s):
  wpAny (model prog w) A (richCompare .Lt (.int a t) (.int c u)) Q E s:=
 (PyProof.Rows.lt_int h:wpAny (model prog w) A (compareOp .Lt (.int a t) (.int c u)) Q E s)
section
open PySem.SeqAt
open PySem.AutoSeq1 (wpAny_loadPart')
open PySem.MeetsSeq PySem.MeetsSeq2 PySem.MeetsSeq3
theorem sV(l b:Addr)(items items2:Array Value)(n n2:Nat)(dd dd2:Option Addr)(sl sl2:Array (Option Value))(ns ms:List Int)(hi:IntsAre items.toList ns)(hj:IntsAre items2.toList ms):
  Meets (Builtin.«tuple.__lt__» ⟨[.ref l,.ref b],[]⟩)
   (fun _ R s=>s.heap.get? l=some {cls:=.type "tuple",dict:=dd,data:=.seq items n,slots:=sl}/\s.heap.get? b=some {cls:=.type "tuple",dict:=dd2,data:=.seq items2 n2,slots:=sl2}/\
    R (.ok (.ret (.bool (lexLt ns ms)))) s):=
 .of_wp fun prog w A R s h=>by
  obtain⟨hp,g,d,tk,os⟩:=s;obtain⟨hl,hb,h⟩:=h;have f2:=AutoSeq1.sub_tuple_tuple;have z1:items.size=ns.length:=by rw[←hi.length];simp
  have z2:items2.size=ms.length:=by rw[←hj.length];simp
  wp_walk using Yj hl,Yj hb,wpAny_forIn_list _ (fun rest b s'=>b.1=none/\s'=⟨hp,g,d,tk,os⟩/\∃(vs ws:List Value) (ns' ms':List Int),rest=vs.zip ws/\
   IntsAre vs ns'/\IntsAre ws ms'/\ns'.length+items2.size=ms'.length+items.size/\R (.ok (.ret (.bool (lexLt ns' ms')))) ⟨hp,g,d,tk,os⟩) _
  case turn=>
   rintro⟨y,x⟩ rest b s' ⟨hb',rfl,vs,ws,ns',ms',hz,hvi,hwi,hlen,hR⟩;cases hvi with
   |nil=>rw[List.zip_nil_left]at hz;cases hz
   |cons a t hvi'=>
    cases hwi with
    |nil=>rw[List.zip_nil_right]at hz;cases hz
    |cons c u hwi'=>
     rw[Uw]at hz;injection hz with hyx hrest
     injection hyx with hy hx
     subst hy hx;rw[sI]at hR;simp only[Zj]at hlen;obtain⟨e,he,hiff⟩:=vH A.in1 ⟨hp,g,d,tk,os⟩ a t c u;refine Qq (he prog w _ _ ?_);cases e with
     |true=>
      rw[Qn (hiff.mp rfl)]at hR
      wp_walk
      exact⟨rfl,rfl,_,_,_,_,hrest,hvi',hwi',by omega,hR⟩
     |false=>
      rw[Ql (fun q=>absurd (hiff.mpr q) Zs)]at hR
      have hri:=vI A.in1 ⟨hp,g,d,tk,os⟩ a t c u prog w
      wp_walk using hri
      exact⟨_,rfl,by simpa using hR⟩
  case fin=>
   rintro⟨b1,b2⟩ s' ⟨hb',rfl,vs,ws,ns',ms',hz,hvi,hwi,hlen,hR⟩;simp only at hb';subst hb';have hv:lexLt ns' ms'=decide (items.size<items2.size):=by
    cases hvi with
    |nil=>
     cases hwi with
     |nil=>
      simp only[Jz]at hlen;rw[sU];exact(Qt (by omega)).symm
     |cons c u hw=>
      simp only[Jz,Zj]at hlen;rw[sJ];exact(Ye (by omega)).symm
    |cons a t hv=>
     cases hwi with
     |nil=>
      simp only[Jz,Zj]at hlen;rw[sK];exact(Qt (by omega)).symm
     |cons c u hw=>
      rw[Uw]at hz;cases hz
   rw[hv]at hR
   wp_walk
   exact⟨_,rfl,by simpa [Builtin.Tuple.tupleCompareSizes]using hR⟩
  case h=>
   exact⟨rfl,rfl,items.toList,items2.toList,ns,ms,rfl,hi,hj,by omega,h⟩
end
section
variable{prog:Program}{w:World}{A:Around}{E:OE}{s:Shared}
theorem sL{l b:Addr}{items items2:Array Value}{ns ms:List Int}(hl:IsTup s.heap l items)(hb:IsTup s.heap b items2)(hi:IntsAre items.toList ns)(hj:IntsAre items2.toList ms)
  (hu:A.units<cLine)(h:Q (.bool (lexLt ns ms)) s):wpAny (model prog w) A (compareOp .Lt (.ref l) (.ref b)) Q E s:=by
 obtain⟨⟨cls,dd,data,sl⟩,ho,hc,n,hd⟩:=id hl;obtain⟨⟨cls2,dd2,data2,sl2⟩,ho2,hc2,n2,hd2⟩:=id hb;simp only at hc hd hc2 hd2;subst hc hd hc2 hd2;exact richCompare_meets_room (op:=.Lt) ⟨_,ho,rfl⟩ ⟨_,ho2,rfl⟩ PySem.F.slot_tuple_lt PySem.F.entry_tuple_lt (PySem.F.args_tuple_lt_2 _ _) (sV l b items items2 n n2 dd dd2 sl sl2 ns ms hi hj)
  ⟨ho,ho2,show Value.bool (lexLt ns ms)≠Value.notImplemented/\Q (.bool (lexLt ns ms)) s from⟨(fun x=>nomatch x),h⟩⟩ hu
def n8(n d:Nat):Option Int->Nat
 |none=>d
 |some v=>if v<0 then(v+(n:Int)).toNat else min v.toNat n
theorem xK(n d:Nat)(hd:d≤n)(o:Option Int):n8 n d o≤n:=by
 cases o with
 |none=>exact hd
 |some v=>
  show(if v<0 then(v+(n:Int)).toNat else min v.toNat n)≤n
  by_cases hv:v<0
  ·rw[Qn hv];omega
  ·rw[Ql hv];exact Nat.min_le_right _ _
theorem uJ(v:Int)(n d:Nat):(if v<0 then max (v+(n:Int)) 0 else min v (n:Int))=((n8 n d (some v):Nat):Int):=by
 show(if v<0 then max (v+(n:Int)) 0 else min v (n:Int))=(((if v<0 then(v+(n:Int)).toNat else min v.toNat n):Nat):Int)
 by_cases hv:v<0
 ·simp only[Qn hv];omega
 ·simp only[Ql hv];omega
theorem uD(lo hi:Option Int)(n:Nat):Builtin.Slice.sliceAdjust lo hi 1 (n:Int)=(((n8 n 0 lo:Nat):Int),((n8 n n hi:Nat):Int)):=by
 have h1:¬ ((1:Int)<0):=by omega
 unfold Builtin.Slice.sliceAdjust;simp only[h1,Ys];refine Uz ?_ ?_
 ·cases lo with
  |none=>rfl
  |some v=>exact uJ v n 0
 ·cases hi with
  |none=>rfl
  |some v=>exact uJ v n n
theorem uE(i j:Nat):Builtin.Slice.slicePlaces (i:Int) (j:Int) 1=j-i:=by
 unfold Builtin.Slice.slicePlaces;have h1:(1:Int)>0:=by omega
 simp only[h1,Zn,Int.ediv_one];split<;>omega
theorem sM{v:Value}{o:Option Int}{Q:Option Int->Shared->Prop}(p:IsPart v o)(h:Q o s):wpAny (model prog w) A (Builtin.Slice.slicePartIndex v) Q E s:=by
 cases p with
 |none=>exact slicePart_none h
 |int i t=>exact slicePart_int h
theorem pP{n:Nat}{Q:Int×Int×Nat->Shared->Prop}(hs:s.heap.IsSliceOf sl vl vu .none)(pl:IsPart vl lo)(pu:IsPart vu hi)
  (h:Q (((n8 n 0 lo:Nat):Int),1,n8 n n hi-n8 n 0 lo) s):wpAny (model prog w) A (Builtin.Slice.sliceApplied (.ref sl) (pure (n:Int))) Q E s:=by
 obtain⟨os,hos,hcs,hds⟩:=id hs;unfold Builtin.Slice.sliceApplied Builtin.Slice.sliceFields;refine Qq (Qq (Zi hos hds (x:=vl) rfl (Qq (Zi hos hds (x:=vu) rfl (Qq (Zi hos hds (x:=.none) rfl (Qv ?_)))))));refine Qq (slicePart_none ?_);show wpAny _ _ (if((1:Int)==0)=true then _ else _) _ _ s
 rw[Ql (by decide)]
 refine Qq (sM pl (Qq (sM pu (Qq (Qv ?_)))));show wpAny _ _ (match Builtin.Slice.sliceAdjust lo hi 1 (n:Int)with|(lo,hi)=>pure (lo,(1:Int),Builtin.Slice.slicePlaces lo hi 1)) _ _ s
 rw[uD lo hi n];show wpAny _ _ (pure (((n8 n 0 lo:Nat):Int),(1:Int),Builtin.Slice.slicePlaces ((n8 n 0 lo:Nat):Int) ((n8 n n hi:Nat):Int) 1)) _ _ s;rw[uE];exact Qv h
theorem vJ(xs:Array Value)(i k:Nat):((List.range k).filterMap fun(m:Nat)=>xs[((i:Int)+(m:Int) * 1).toNat]?).toArray=((xs.toList.drop i).take k).toArray:=by
 have e:(fun(m:Nat)=>xs[((i:Int)+(m:Int) * 1).toNat]?)=fun m=>xs[i+m]?:=by
  funext m
  have:((i:Int)+(m:Int) * 1).toNat=i+m:=by omega
  rw[this]
 rw[e];have:=pick_run xs i k;rw[List.filterMap_map]at this;have e2:((fun x=>xs[x]?)∘fun x=>i+x)=fun m=>xs[i+m]?:=rfl
 rw[e2]at this;rw[this]
theorem qZ{t:Addr}{items:Array Value}(ht:IsTup s.heap t items)(hs:s.heap.IsSliceOf sl vl vu .none)(pl:IsPart vl lo)(pu:IsPart vu hi)
  (hw:¬ (n8 items.size 0 lo=0/\n8 items.size items.size hi=items.size))
  (h:Q (.ref s.heap.objs.size) {s with heap:=s.heap.push {cls:=.type "tuple",data:=.seq ((items.toList.drop (n8 items.size 0 lo)).take (n8 items.size items.size hi-n8 items.size 0 lo)).toArray}})
  (hsz:items.size≤sizeLine):wpAny (model prog w) A (getItem (.ref t) (.ref sl)) Q E s:=by
 have htake:sizeOk (.seq ((items.toList.drop (n8 items.size 0 lo)).take (n8 items.size items.size hi-n8 items.size 0 lo)).toArray):=by
  show((items.toList.drop (n8 items.size 0 lo)).take (n8 items.size items.size hi-n8 items.size 0 lo)).toArray.size≤sizeLine;rw[Qm,Jx,Xs,Uj]
  omega
 have hj:n8 items.size items.size hi≤items.size:=xK _ _ (Qp _) hi
 obtain⟨os,hos,hcs,hds⟩:=id hs;have hTs:s.TypeIs (.ref sl) "slice":=⟨os,hos,hcs⟩;unfold getItem
 try with_reducible refine Yi ?_
 first|refine Qq (Qv ?_)|skip
 refine Qq (wpAny_sequenceKey ht.typeIs (by decide) ?_)
 refine Qq (Yh (name:=Str.ofString "__getitem__") ht.typeIs Zv
  (Jk Zv ht.typeIs entry_tuple_getitem ?_ (args_tuple_getitem _ _)))
 show wpAny _ _ (Builtin.Tuple.tupleItemsOf (.ref t)>>=_) _ _ s;refine Qq (tupleItemsOf_ ht ?_);refine Qq (wpAny_typeOf hTs ?_);rw[Qn (by decide)]
 refine Qq (pP hs pl pu ?_);have hno:¬ ((((n8 items.size 0 lo:Nat):Int)==0&&(1:Int)==1&&(n8 items.size items.size hi-n8 items.size 0 lo)==items.size)=true):=by
  intro q;rw[Qy,Qy]at q;have q1:((n8 items.size 0 lo:Nat):Int)=0:=Xu q.1.1;have q2:n8 items.size items.size hi-n8 items.size 0 lo=items.size:=Xu q.2;exact hw ⟨by omega,by omega⟩
 show wpAny _ _ (if(((n8 items.size 0 lo:Nat):Int)==0&&(1:Int)==1&&(n8 items.size items.size hi-n8 items.size 0 lo)==items.size)=true then _ else _) _ _ s
 rw[Ql hno,vJ]
 first
  |exact Qq (m:=Builtin.Tuple.tupleExact _) (Zd (Qv ⟨_,rfl,Qv h⟩) htake)
  |exact Qq (m:=Builtin.Tuple.tupleExact _) (Zd (Qq (Qv (Qv ⟨_,rfl,Qv h⟩))) htake)
  |exact Qq (Qq (m:=Builtin.Tuple.tupleExact _) (Zd (Qv (Qv ⟨_,rfl,Qv h⟩)) htake))
  |exact Qq (Qq (m:=Builtin.Tuple.tupleExact _) (Zd (Qv ⟨_,rfl,Qv h⟩) htake))
end
end HT
namespace L2
open PySem PySem.Spec PyProof.Rows
variable{H:Hp}{X:Cx}{i:Int}{its its' us:List Value}{n t':Nat}{p:Addr}{pins:OX}{r:R2}{s:Shared}{u v:Value}{x y:V}{xs:List V}{α:Type}{σ:St}
abbrev TO:=St->Hp->(Option Int->Hp->Prop)->Prop
def PO(X:Cx)(e:Option Expr)(t:TO):Prop:=
 ∀(pins:OX) (s:Shared) (σ:St) (H:Hp) (Q:Option Int->Hp->Prop),Inv X pins σ H s->t σ H Q->
  wpAny (model X.prog X.w) X.A (evalPart e X.env) (fun u s'=>∃o H',Inv X pins σ H' s'/\IsPart u o/\Q o H') X.xe s
def VE:TO:=fun _ H Q=>Q none H
def VF(t:TE):TO:=fun σ H Q=>t σ H fun x H1=>∃i,x=.int i/\Q (some i) H1
theorem Ew{ns:List Int}:∀{us:List Value},D2 (ns.map V.int) us->IntsAre us ns:=by
 induction ns with
 |nil=>intro us r;rw[Ud]at r;cases r;exact .nil
 |cons n ns ih=>
  intro us r;rw[Qh]at r;cases r with
  |cons r1 r2=>
   obtain⟨t,e⟩:=r1;subst e;exact .cons n t (ih r2)
section
variable{e:Expr}{te:TE}{lo hi:Option Expr}{tl th:TO}{pos p2:Pos}
theorem VG:PO X none VE:=by
 intro pins s σ H Q I h;rw[evalPart_none];exact Qv ⟨none,H,I,.none,h⟩
theorem VH(h:PE X e te):PO X (some e) (VF te):=by
 intro pins s σ H Q I hw;rw[evalPart_some];refine i6 (h pins s σ H _ I hw) fun u s1 ⟨x,H1,I1,r1,q1⟩=>?_
 obtain⟨i,rfl,q⟩:=q1;obtain⟨t,rfl⟩:=r1;exact⟨some i,H1,I1,.int i t,q⟩
def SlR(X:Cx)(r:V->Option Int->Option Int->Hp->VK->Prop):Prop:=
 ∀(pins:OX) (s:Shared) (σ:St) (H:Hp) (x:V) (v vl vu:Value) (lo hi:Option Int) (sl:Addr) (Q:VK),Inv X pins σ H s->E2 x v->s.heap.IsSliceOf sl vl vu .none->IsPart vl lo->IsPart vu hi->r x lo hi H Q->
  ∃T id,typeLookup (.type T) "__getitem__"=pure (some (.builtin id))/\s.TypeIs v T/\wpAny (model X.prog X.w) X.A (getItem v (.ref sl)) (EP X pins σ Q) X.xe s
def tSl(r:V->Option Int->Option Int->Hp->VK->Prop)(te:TE)(tl th:TO):TE:=fun σ H Q=>te σ H fun x H1=>tl σ H1 fun l H2=>th σ H2 fun u H3=>r x l u H3 Q
theorem VI{r:V->Option Int->Option Int->Hp->VK->Prop}(hr:SlR X r)(he:PE X e te)(hl:PO X lo tl)(hu:PO X hi th):PE X (.Subscript e (.Slice lo hi none p2) pos) (tSl r te tl th):=by
 intro pins s σ H Q I h;refine Subscript_ (i6 (he pins s σ H _ I h) fun v s1 ⟨x,H1,I1,r1,q1⟩=>?_)
 refine wpAny_Slice (i6 (hl pins s1 σ H1 _ I1 q1) fun vl s2 ⟨l,H2,I2,pl,q2⟩=>i6 (hu pins s2 σ H2 _ I2 q2) fun vu s3 ⟨u,H3,I3,pu,q3⟩=>?_)
 rw[evalPart_none];refine Qv ?_
 have I4:Inv X pins σ H3 {s3 with heap:=s3.heap.push {cls:=.type "slice",data:=.fields #[vl,vu,.none]}}:=I3.kept (t':=s3.toks) fun b ob q=>Qx _ q
 obtain⟨T,id,hT,ht,hg⟩:=hr pins {s3 with heap:=s3.heap.push {cls:=.type "slice",data:=.fields #[vl,vu,.none]}} σ H3 x v vl vu l u s3.heap.objs.size Q I4 r1 (Heap.IsSliceOf.new ..) pl pu q3
 show wpAny (model X.prog X.w) X.A (subscriptTail e (.Slice lo hi none p2) v (.ref s3.heap.objs.size)) (EP X pins σ Q) X.xe {s3 with heap:=s3.heap.push {cls:=.type "slice",data:=.fields #[vl,vu,.none]}}
 exact tail_any (ops:=[.ref s3.heap.objs.size,v]) ht hT hg (by with_unfolding_all rfl)
def Bd(xs:List V)(lo hi:Option Int):List V:=(xs.drop (HT.n8 xs.length 0 lo)).take (HT.n8 xs.length xs.length hi-HT.n8 xs.length 0 lo)
theorem VJ(xs:List V)(lo hi:Option Int):(Bd xs lo hi).length≤xs.length:=by
 unfold Bd;rw[Jx,Xs]
 omega
def VL(K:Qz):V->Option Int->Option Int->Hp->VK->Prop:=fun x lo hi H Q=>∃a xs,x=.ref a/\qW K H a xs/\
 ¬ (HT.n8 xs.length 0 lo=0/\HT.n8 xs.length xs.length hi=xs.length)/\∀p,H p=none->Q (.ref p) (upd H p (.tup (Bd xs lo hi)))
theorem Lp:SlR X (VL X.K):=by
 intro pins s σ H x v vl vu lo hi sl Q I rx hs pl pu h;obtain⟨a,xs,rfl,hx,hw,q⟩:=h;cases rx;obtain⟨its,r,ht,hz⟩:=I.tuple hx;have hlen:its.toArray.size=xs.length:=by rw[Qm];exact r.length.symm
 refine⟨"tuple",_,Zv.lookup,ht.typeIs,?_⟩;refine HT.qZ ht hs pl pu (by rw[hlen];exact hw) ?_ (by rw[hlen];exact hz)
 rw[hlen];refine⟨.ref s.heap.objs.size,_,I.laid (t':=s.toks) (o:=.tup (Bd xs lo hi)) (fun b ob q=>Qx _ q) (Qp _) ?_,rfl,q _ (I.hok.fresh (Qp _))⟩
 exact⟨Zp (VJ xs lo hi) hz,_,(r.drop (HT.n8 xs.length 0 lo)).take (HT.n8 xs.length xs.length hi-HT.n8 xs.length 0 lo),U8.new _ _⟩
theorem D2.nil_iff(r:D2 xs us):us=[]↔xs=[]:=by
 cases r with
 |nil=>simp
 |cons _ _=>simp
end
def vK(n:Nat)(i:Int):Option Nat:=if 0≤i then(if i<n then some i.toNat else none)else if-(n:Int)≤i then some (i+n).toNat else none
def tZ{α:Type}(xs:List α)(i:Int):Option α:=(vK xs.length i).bind fun j=>xs[j]?
theorem Lq{j:Nat}(h:vK n i=some j):seqIndex? i n=some j/\j<n/\ -(n:Int)≤i/\i<n:=by
 unfold vK at h
 by_cases h0:0≤i
 ·rw[Qn h0]at h
  by_cases h1:i<n
  ·rw[Qn h1]at h
   have e:i.toNat=j:=Zt h
   exact⟨by rw[seqIndex_of h0 h1,e],by omega,by omega,h1⟩
  ·rw[Ql h1]at h;cases h
 ·rw[Ql h0]at h
  by_cases h1: -(n:Int)≤i
  ·rw[Qn h1]at h
   have e:(i+n).toNat=j:=Zt h
   exact⟨by rw[seqIndex_neg (by omega) h1,e],by omega,h1,by omega⟩
  ·rw[Ql h1]at h;cases h
theorem Gy{xs:List α}{v:α}(h:tZ xs i=some v):∃j,seqIndex? i xs.length=some j/\xs[j]? =some v/\j<xs.length/\ -(xs.length:Int)≤i/\i<xs.length:=by
 unfold tZ at h;cases e:vK xs.length i with
 |none=>rw[e]at h;cases h
 |some j=>
  rw[e]at h;obtain⟨h1,h2,h3,h4⟩:=Lq e;exact⟨j,h1,h,h2,h3,h4⟩
def DV(b:Expr):Prop:=∀o i,subscripted b false o i=operate [o,i] (getItem o i)
def wG(X:Cx)(r:R2):Prop:=
 ∀(value slice:Expr) (pins:OX) (s:Shared) (σ:St) (H:Hp) (x y:V) (v u:Value) (Q:VK),Inv X pins σ H s->E2 x v->E2 y u->r x y H Q->
  subscripted slice false v u=operate [v,u] (getItem v u)->wpAny (model X.prog X.w) X.A (subscriptTail value slice v u) (EP X pins σ Q) X.xe s
def MtR(X:Cx)(id:String)(r:V->List V->Hp->VK->Prop):Prop:=
 ∀(pins:OX) (s:Shared) (σ:St) (H:Hp) (x:V) (xs:List V) (v:Value) (us:List Value) (Q:VK),Inv X pins σ H s->E2 x v->D2 xs us->r x xs H Q->
  wpAny (model X.prog X.w) X.A (call (.builtin id) (v::us)) (EP X pins σ Q) X.xe s
section
variable{a b:Expr}{ta tb:TE}{pos:Pos}
theorem wG.or{r':R2}(h:wG X r)(h':wG X r'):wG X (fun x y H Q=>r x y H Q\/r' x y H Q):=by
 intro value slice pins s σ H x y v u Q I rx ry q hs
 rcases q with q|q
 ·exact h value slice pins s σ H x y v u Q I rx ry q hs
 ·exact h' value slice pins s σ H x y v u Q I rx ry q hs
theorem Lr(hr:wG X r)(ha:PE X a ta)(hb:PE X b tb)(hs:DV b):PE X (.Subscript a b pos) (yU r ta tb):=by
 intro pins s σ H Q I h;exact Subscript_ (Go ha hb I h fun v u s2 x y H2 I2 rx ry q=>hr a b pins s2 σ H2 x y v u Q I2 rx ry q (hs _ _))
def Ls(K:Qz):R2:=fun x y H Q=>∃p xs i v,x=.ref p/\y=.int i/\qK K H p xs/\tZ xs i=some v/\Q v H
def Lu(K:Qz):R2:=fun x y H Q=>∃p xs i v,x=.ref p/\y=.int i/\qW K H p xs/\tZ xs i=some v/\Q v H
def Lv:R2:=fun x y H Q=>∃z i c,x=.str z/\y=.int i/\z.length≤sizeLine/\tZ z.cps.toList i=some c/\Q (.str ⟨#[c]⟩) H
theorem Lw:wG X (Ls X.K):=by
 intro value slice pins s σ H x y v u Q I rx ry h hs;obtain⟨p,xs,i,z,rfl,rfl,hq,he,q⟩:=h;cases rx;obtain⟨t,rfl⟩:=ry;obtain⟨its,r,pl,hz⟩:=I.list hq;obtain⟨j,h1,h2,h3,h4,h5⟩:=Gy he;obtain⟨w,ew,rw'⟩:=r.get h2;have hl:=r.length;have hn:=DS;have fin:EP X pins σ Q w s:=⟨z,H,I,rw',q⟩
 by_cases h0:0≤i
 ·have hj:i.toNat=j:=by
   rw[seqIndex_of h0 h5]at h1;exact Zt h1
  exact item_listR pl.isList h0 (by omega) (by rw[hj];simpa using ew) fin hs
 ·have hj:(i+(its.toArray.size:Int)).toNat=j:=by
   rw[seqIndex_neg (by omega) h4]at h1
   rw[Qm,←hl];exact Zt h1
  exact subscriptTail_builtinR (x:=w) pl.isList.typeIs slot_list_getitem.lookup
   (wpAny_getItem_list_neg (Q:=fun r s'=>r=w/\EP X pins σ Q r s') pl.isList (by omega) (by rw[Qm]<;>omega) (by omega) (by rw[hj];simpa using ew) ⟨rfl,fin⟩) hs
theorem VM:wG X (Lu X.K):=by
 intro value slice pins s σ H x y v u Q I rx ry h hs;obtain⟨p,xs,i,z,rfl,rfl,hq,he,q⟩:=h;cases rx;obtain⟨t,rfl⟩:=ry;obtain⟨its,r,pl,hz⟩:=I.tuple hq;obtain⟨j,h1,h2,h3,h4,h5⟩:=Gy he;obtain⟨w,ew,rw'⟩:=r.get h2;have hl:=r.length;have hn:=DS;have fin:EP X pins σ Q w s:=⟨z,H,I,rw',q⟩;exact subscriptTail_builtinR (x:=w) pl.typeIs slot_tuple_getitem.lookup
  (getItem_tuple (j:=j) (Q:=fun r s'=>r=w/\EP X pins σ Q r s') pl (by omega) (by omega) (by rw[Qm,←hl];exact h1) (by simpa using ew) ⟨rfl,fin⟩) hs
theorem VN:wG X Lv:=by
 intro value slice pins s σ H x y v u Q I rx ry h hs;obtain⟨z,i,c,rfl,rfl,hz,he,q⟩:=h;obtain⟨t,rfl⟩:=rx;obtain⟨t',rfl⟩:=ry;obtain⟨j,h1,h2,h3,h4,h5⟩:=Gy he;have hl:z.cps.toList.length=z.length:=by simp[Str.length]
 rw[hl]at h1 h4 h5;have hn:=DS;exact tail_any (typeIs_str s z t) slot_str_getitem.lookup (getItem_str (c:=c) (by
  have e1:decide (i< -(2^63:Int))=false:=Qt (by omega)
  have e2:decide (i ≥ 2^63)=false:=Qt (by omega)
  rw[e1,e2,Bool.or_false]) (by rw[h1];simpa using h2) ⟨.str ⟨#[c]⟩,H,I.tok _,⟨_,rfl⟩,q⟩) hs
def rIx(K:Qz):R2:=fun x y H Q=>Ls K x y H Q\/Lu K x y H Q\/Lv x y H Q
theorem VO:wG X (rIx X.K):=Lw.or (VM.or VN)
theorem VP(its:List Value)(n j:Nat)(u:Value):Obj.mapSeq (·.setIfInBounds j u) {cls:=.type "list",data:=.seq its.toArray n}={cls:=.type "list",data:=.seq (its.set j u).toArray n}:=by
 simp[Obj.mapSeq]
theorem Inv.lst(I:Inv X pins σ H s)(h:H p=some (.lst xs)):
  ∃(its:List Value) (n:Nat),D2 xs its/\s.heap.get? p=some {cls:=.type "list",data:=.seq its.toArray n}/\xs.length≤sizeLine:=by
 obtain⟨z,its,n,r,e⟩:=I.hok p _ h;exact⟨its,n,r,e,z⟩
theorem Inv.lstUpd{ys:List V}{n':Nat}{f:Obj->Obj}(I:Inv X pins σ H s)(h:H p=some (.lst xs))
  (ho:s.heap.get? p=some {cls:=.type "list",data:=.seq its.toArray n})(hf:f {cls:=.type "list",data:=.seq its.toArray n}={cls:=.type "list",data:=.seq its'.toArray n'})(r:D2 ys its')(hz:ys.length≤sizeLine)(t:Nat):
  Inv X pins σ (upd H p (.lst ys)) {s with heap:=s.heap.update p f,toks:=t}:=by
 have e:(s.heap.update p f).get? p=some {cls:=.type "list",data:=.seq its'.toArray n'}:=by
  rw[Ur f ho (by rw[hf]<;>rfl),hf]
 refine I.write (x:=p) (e:=p) (by rw[h];trivial) (.inl rfl) (fun b u hb q=>(Vf _ _ (Zg hb)).trans q) ⟨_,e⟩ ?_
 exact⟨hz,its',n',r,e⟩
def VQ:V->V->V->Hp->(Hp->Prop)->Prop:=fun o i v H Q=>∃p xs k j,o=.ref p/\i=.int k/\H p=some (.lst xs)/\vK xs.length k=some j/\Q (upd H p (.lst (xs.set j v)))
theorem VR:Gk X VQ:=by
 intro pins s σ H o i v ov iv u Q I ro ri rv h;obtain⟨p,xs,k,j,rfl,rfl,hp,hj,q⟩:=h;cases ro;obtain⟨t,rfl⟩:=ri;obtain⟨its,n,r,ho,hz⟩:=I.lst hp;obtain⟨h1,h2,h3,h4⟩:=Lq hj;have hl:=r.length;have hn:=DS;have I':Inv X pins σ (upd H p (.lst (xs.set j v))) {s with heap:=s.heap.update p (Obj.mapSeq (·.setIfInBounds j u))}:=
  I.lstUpd hp ho (VP its n j u) (r.set rv j) (by rw[Zm];exact hz) s.toks
 by_cases h0:0≤k
 ·have hk:k.toNat=j:=by
   rw[seqIndex_of h0 h4]at h1;exact Zt h1
  exact PySem.W.ki_setAt ho h0 (by omega) (by rw[Qm,←hl];exact h4) (by rw[hk];exact⟨_,I',q⟩)
 ·have hk:(k+(its.toArray.size:Int)).toNat=j:=by
   rw[seqIndex_neg (by omega) h3]at h1
   rw[Qm,←hl];exact Zt h1
  exact PySem.W.ki_setBack ho (by omega) (by rw[Qm,←hl];exact h3) (by omega) (by rw[hk];exact⟨_,I',q⟩)
def W2:V->Bool
 |.non=>true
 |.bl _=>true
 |.int _=>true
 |.str _=>true
 |_=>false
def wO:V->V->Bool
 |.non,.non=>true
 |.bl a,.bl b=>a==b
 |.bl a,.int b=>(if a then 1 else 0)==b
 |.int a,.bl b=>a==(if b then 1 else 0)
 |.int a,.int b=>a==b
 |.str a,.str b=>a==b
 |_,_=>false
theorem VS{A:Around}(ry:E2 y u)(rx:E2 x v)(fy:W2 y=true)(fx:W2 x=true):SeqAt.EqAt A s u v (wO y x):=by
 cases y with
 |non=>
  cases ry;cases x with
  |non=>cases rx;exact SeqAt.EqAt.same _
  |bl b=>cases rx;exact SeqAt.EqAt.none_bool b
  |int b=>obtain⟨t,rfl⟩:=rx;exact SeqAt.EqAt.none_int b t
  |str b=>obtain⟨t,rfl⟩:=rx;exact SeqAt.EqAt.none_str b t
  |_=>exact absurd (show false=true from fx) Zs
 |bl a=>
  cases ry;cases x with
  |non=>cases rx;exact SeqAt.EqAt.bool_none a
  |bl b=>cases rx;exact SeqAt.EqAt.bool_bool a b
  |int b=>obtain⟨t,rfl⟩:=rx;exact SeqAt.EqAt.bool_int a b t
  |str b=>obtain⟨t,rfl⟩:=rx;exact SeqAt.EqAt.bool_str a b t
  |_=>exact absurd (show false=true from fx) Zs
 |int a=>
  obtain⟨t',rfl⟩:=ry;cases x with
  |non=>cases rx;exact SeqAt.EqAt.int_none a t'
  |bl b=>cases rx;exact SeqAt.EqAt.int_bool a t' b
  |int b=>obtain⟨t,rfl⟩:=rx;exact Xy a t' b t
  |str b=>obtain⟨t,rfl⟩:=rx;exact SeqAt.EqAt.int_str a t' b t
  |_=>exact absurd (show false=true from fx) Zs
 |str a=>
  obtain⟨t',rfl⟩:=ry;cases x with
  |non=>cases rx;exact SeqAt.EqAt.str_none a t'
  |bl b=>cases rx;exact SeqAt.EqAt.str_bool a t' b
  |int b=>obtain⟨t,rfl⟩:=rx;exact SeqAt.EqAt.str_int a t' b t
  |str b=>obtain⟨t,rfl⟩:=rx;exact SeqAt.EqAt.str_str a t' b t
  |_=>exact absurd (show false=true from fx) Zs
 |_=>exact absurd (show false=true from fy) Zs
def t7(x:V)(u:Value):Bool:=match u with
 |.none=>wO .non x
 |.bool b=>wO (.bl b) x
 |.int i _=>wO (.int i) x
 |.str z _=>wO (.str z) x
 |_=>false
theorem Lx(r:E2 y u)(f:W2 y=true):t7 x u=wO y x:=by
 cases y with
 |non=>cases r;rfl
 |bl b=>cases r;rfl
 |int i=>obtain⟨t,rfl⟩:=r;rfl
 |str z=>obtain⟨t,rfl⟩:=r;rfl
 |_=>exact absurd (show false=true from f) Zs
theorem DW{x:V}:∀{xs:List V}{us:List Value},D2 xs us->xs.all W2=true->us.any (t7 x)=xs.any fun y=>wO y x
 |_,_,.nil,_=>rfl
 |y::xs,u::us,.cons r t,f=>by
  rw[Vq,Qy]at f;rw[Xb,Xb,Lx r f.1,DW t f.2]
theorem Ca{A:Around}{s:Shared}{x:V}{v:Value}(rx:E2 x v)(fx:W2 x=true):∀{xs:List V}{us:List Value},D2 xs us->xs.all W2=true->∀u∈us,SeqAt.EqAt A s u v (t7 x u)
 |_,_,.nil,_=>fun u hu=>by cases hu
 |y::xs,u::us,.cons r t,f=>fun u' hu=>by
  rw[Vq,Qy]at f
  rcases Qb.mp hu with rfl|hu
  ·rw[Lx r f.1];exact VS r rx f.1 fx
  ·exact Ca rx fx t f.2 u' hu
def zJ(x:V)(xs:List V):Bool:=xs.any fun y=>wO y x
def rIn(K:Qz)(neg:Bool):R2:=fun x y H Q=>∃p xs,y=.ref p/\(qK K H p xs\/qW K H p xs)/\W2 x=true/\xs.all W2=true/\Q (.bl (if neg then !zJ x xs else zJ x xs)) H
theorem VT:o3 X (compareOp .In) (rIn X.K false):=by
 intro pins s σ H x y v u Q I rx ry h;obtain⟨p,xs,rfl,hq,fx,fs,q⟩:=h;cases ry
 rcases hq with hq|hq
 ·obtain⟨its,r,pl,hz⟩:=I.list hq
  refine SeqAt.in_listAt (t7 x) pl.isList (fun w hw=>Ca rx fx r fs w (by simpa using hw)) ⟨.bl _,H,I,rfl,?_⟩
  rw[show its.toArray.any (t7 x)=its.any (t7 x) by simp,DW r fs]
  exact q
 ·obtain⟨its,r,pl,hz⟩:=I.tuple hq
  refine SeqAt.in_tupleAt (t7 x) pl (fun w hw=>Ca rx fx r fs w (by simpa using hw)) ⟨.bl _,H,I,rfl,?_⟩
  rw[show its.toArray.any (t7 x)=its.any (t7 x) by simp,DW r fs]
  exact q
theorem VU:o3 X (compareOp .NotIn) (rIn X.K true):=by
 intro pins s σ H x y v u Q I rx ry h;obtain⟨p,xs,rfl,hq,fx,fs,q⟩:=h;cases ry
 rcases hq with hq|hq
 ·obtain⟨its,r,pl,hz⟩:=I.list hq
  refine SeqAt.notIn_listAt (t7 x) pl.isList (fun w hw=>Ca rx fx r fs w (by simpa using hw)) ⟨.bl _,H,I,rfl,?_⟩
  rw[show its.toArray.any (t7 x)=its.any (t7 x) by simp,DW r fs]
  exact q
 ·obtain⟨its,r,pl,hz⟩:=I.tuple hq
  refine SeqAt.notIn_tupleAt (t7 x) pl (fun w hw=>Ca rx fx r fs w (by simpa using hw)) ⟨.bl _,H,I,rfl,?_⟩
  rw[show its.toArray.any (t7 x)=its.any (t7 x) by simp,DW r fs]
  exact q
theorem N6:M0 X (.builtin "len") (fun xs H Q=>∃p ys,xs=[.ref p]/\(qK X.K H p ys\/qW X.K H p ys)/\Q (.int ys.length) H):=by
 intro pins s σ H xs us Q I r h;obtain⟨p,ys,rfl,hq,q⟩:=h;obtain⟨u,rfl,rx⟩:=X9 r;cases rx;have hn:=DS
 rcases hq with hq|hq
 ·obtain⟨its,r',pl,hz⟩:=I.list hq
  have hlen:=r'.length
  exact Calls.call_len_list pl.isList (by simp only[Qm]<;>omega) ⟨.int ys.length,H,I.tok _,⟨s.toks+1,by rw[Qm,hlen]⟩,q⟩
 ·obtain⟨its,r',pl,hz⟩:=I.tuple hq
  have hlen:=r'.length
  exact len_tuple pl (by simp only[Qm]<;>omega) ⟨.int ys.length,H,I.tok _,⟨s.toks+1,by rw[Qm,hlen]⟩,q⟩
theorem M0.or{f:Value}{r r':List V->Hp->VK->Prop}(h:M0 X f r)(h':M0 X f r'):M0 X f (fun xs H Q=>r xs H Q\/r' xs H Q):=by
 intro pins s σ H xs us Q I rs q
 rcases q with q|q
 ·exact h pins s σ H xs us Q I rs q
 ·exact h' pins s σ H xs us Q I rs q
theorem DX:M0 X (.type "list") (fun xs H Q=>∃p ys,xs=[.ref p]/\(qK X.K H p ys\/qW X.K H p ys)/\∀l,H l=none->Q (.ref l) (upd H l (.lst ys))):=by
 intro pins s σ H xs us Q I r h;obtain⟨p,ys,rfl,hq,q⟩:=h;obtain⟨u,rfl,rx⟩:=X9 r;cases rx;have fin:∀(its:List Value),D2 ys its->ys.length≤sizeLine->∀(h':Heap) (c':Nat),(∀b o',s.heap.get? b=some o'->h'.get? b=some o')->
   h'.get? s.heap.objs.size=some {cls:=.type "list",dict:=none,data:=.seq its.toArray c',slots:=#[]}->EP X pins σ Q (.ref s.heap.objs.size) {s with heap:=h'}:=fun its r' hz h' c' kp e=>
  ⟨.ref s.heap.objs.size,_,I.laid (t':=s.toks) kp (Qp _) (show K1 X.prog X.w _ h' _ (.lst ys)from⟨hz,its,c',r',e⟩),rfl,q _ (I.hok.fresh (Qp _))⟩
 rcases hq with hq|hq
 ·obtain⟨its,r',pl,hz⟩:=I.list hq
  have hlen:=r'.length
  obtain⟨o,ho,hc,n,hd⟩:=pl.isList;exact call_list_seq p (.inl rfl) ho hc hd (fun h' c' kp e=>fin its r' hz h' c' kp e) (by simp only[Qm]<;>omega)
 ·obtain⟨its,r',pl,hz⟩:=I.tuple hq
  have hlen:=r'.length
  obtain⟨o,ho,hc,n,hd⟩:=pl;exact call_list_seq p (.inr rfl) ho hc hd (fun h' c' kp e=>fin its r' hz h' c' kp e) (by simp only[Qm]<;>omega)
theorem R4:M0 X (.type "tuple") (fun xs H Q=>∃p ys,xs=[.ref p]/\((qK X.K H p ys/\∀l,H l=none->Q (.ref l) (upd H l (.tup ys)))\/(qW X.K H p ys/\Q (.ref p) H))):=by
 intro pins s σ H xs us Q I r h;obtain⟨p,ys,rfl,h⟩:=h;obtain⟨u,rfl,rx⟩:=X9 r;cases rx
 rcases h with⟨hq,q⟩|⟨hq,q⟩
 ·obtain⟨its,r',pl,hz⟩:=I.list hq
  have hlen:=r'.length
  refine call_tuple_list pl.isList (fun h' kp=>?_) (by simp only[Qm]<;>omega)
  have I1:Inv X pins σ H {s with heap:=h'}:=I.kept (t':=s.toks) kp
  have I2:Inv X pins σ (upd H h'.objs.size (.tup ys)) {s with heap:=h'.push {cls:=.type "tuple",data:=.seq its.toArray}}:=
   I1.laid (t':=s.toks) (fun b o e=>Qx _ e) (Qp _) (show K1 X.prog X.w _ _ _ (.tup ys)from⟨hz,its,r',U8.new _ _⟩)
  exact⟨.ref h'.objs.size,_,I2,rfl,q _ (I1.hok.fresh (Qp _))⟩
 ·obtain⟨its,r',pl,hz⟩:=I.tuple hq
  exact call_tuple_same pl ⟨.ref p,H,I,rfl,q⟩
def tyV(K:Qz)(T:String)(x:V)(H:Hp):Prop:=match x with
 |.str _=>T="str"
 |.int _=>T="int"
 |.ref p=>(T="list"/\ ∃xs,qK K H p xs)\/(T="tuple"/\ ∃o,K.lookup p=some o/\o.cls=.type "tuple"/\o.dict=none)\/
   (T="dict"/\((∃kvs,H p=some (.dK kvs))\/ ∃C kvs,H p=some (.dT C kvs)))\/(T="set"/\ ∃S n,H p=some (.set S n))
 |_=>False
theorem VV{T:String}(I:Inv X pins σ H s)(r:E2 x v)(ty:tyV X.K T x H):
  s.TypeIs v T/\∀a,v=.ref a->∃ob,s.heap.get? a=some ob/\ob.dict=none:=by
 cases x with
 |str z=>
  obtain⟨t,rfl⟩:=r;cases (show T="str" from ty)
  exact⟨typeIs_str s z t,fun _ e=>nomatch e⟩
 |int i=>
  obtain⟨t,rfl⟩:=r;cases (show T="int" from ty)
  exact⟨typeIs_int s i t,fun _ e=>nomatch e⟩
 |ref p=>
  cases r
  rcases ty with⟨rfl,xs,hq⟩|⟨rfl,o,hk,hc,hd⟩|⟨rfl,hk⟩|⟨rfl,S,n,hk⟩
  ·obtain⟨its,_,pl,_⟩:=I.list hq
   refine⟨pl.isList.typeIs,fun a e=>?_⟩
   cases e;obtain⟨o,n,e,c,hd,_⟩:=pl;exact⟨o,e,hd⟩
  ·refine⟨⟨o,I.kIn p o hk,hc⟩,fun a e=>?_⟩
   cases e;exact⟨o,I.kIn _ o hk,hd⟩
  ·have z:∃o,s.heap.get? p=some o/\o.ExactDict:=by
    rcases hk with⟨kvs,hk⟩|⟨C,kvs,hk⟩
    ·obtain⟨_,_,_,_,o,_,_,e,ex,_⟩:=I.hok p _ hk
     exact⟨o,e,ex⟩
    ·obtain⟨_,_,_,_,o,_,_,e,ex,_⟩:=I.hok p _ hk
     exact⟨o,e,ex⟩
   obtain⟨o,e,ex⟩:=z;refine⟨⟨o,e,ex.1⟩,fun a e2=>?_⟩
   cases e2;exact⟨o,e,ex.2.1⟩
  ·obtain⟨o,_,_,_,e,ex,_⟩:=I.hok p _ hk
   refine⟨⟨o,e,ex.1⟩,fun a e2=>?_⟩
   cases e2;exact⟨o,e,ex.2.1⟩
 |_=>exact False.elim ty
def tBM(K:Qz)(T:String)(r:V->List V->Hp->VK->Prop)(to:TE)(t:TA):TE:=fun σ H Q=>to σ H fun x H1=>tyV K T x H1/\t σ H1 fun xs H2=>r x xs H2 Q
variable{o e:Expr}{es:List Expr}{to:TE}{t:TA}{name:Str}{apos cpos:Pos}{T id:String}{r:V->List V->Hp->VK->Prop}
theorem Gz(pa:PlainAttrs T)(slot:Slot T name id)(hty:typeOf (.builtin id)=pure (.type "method_descriptor"))(hm:MtR X id r)(ho:PE X o to)(ha:PA X (e::es) t)
  (hbase:attributeBase o name X.env (eval o X.env)=eval o X.env:=by rfl)
  (hfew:((backTo cpos (starEach (e::es) X.env)).all (fun x=>!x.1)&&(backToKw cpos (keywordEach [] X.env)).all (fun x=>x.1.isSome)
   &&decide ((e::es).length+([]:List Keyword).length+(if([]:List Keyword).isEmpty then 0 else 1)<30))=true:=by rfl)
  (hline:(apos.endLine==cpos.line)=true:=by rfl)(hs:starEach (e::es) X.env=(false,eval e X.env)::starEach es X.env:=by rfl)(hplain:(backTo cpos (starEach es X.env)).any (·.1)=false:=by rfl):
  PE X (.Call (.Attribute o name apos) (e::es) [] cpos) (tBM X.K T r to t):=by
 intro pins s σ H Q I h;refine wpAny_Call_method_late hbase hfew hline rfl (i6 (ho pins s σ H _ I h) fun v s1 ⟨x,H1,I1,r1,ty,q1⟩=>?_)
 obtain⟨h1,h2⟩:=VV I1 r1 ty;refine⟨T,id,pa,slot,hty,h1,h2,?_⟩;have hA:=ha cpos pins s1 σ H1 _ I1 q1;rw[hs]at hA ⊢;refine Calls.callWith_builtin (by show(false||(backTo cpos (starEach es X.env)).any (·.1))=false;rw[hplain]<;>rfl) (Calls.evalArgs_plain ?_)
 exact i6 hA fun us s2 ⟨vs,H2,I2,r2,q2⟩=>hm pins s2 σ H2 x vs v us Q I2 r1 r2 q2
end
def MtM(X:Cx)(id:String)(r:V->List V->Hp->VK->Prop):Prop:=
 ∀(pins:OX) (s:Shared) (σ:St) (H:Hp) (x:V) (xs:List V) (v:Value) (us:List Value) (Q:VK),Inv X pins σ H s->E2 x v->D2 xs us->r x xs H Q->
  wpAny (model X.prog X.w) X.A (call (.builtin id) (v::us)) (EP X pins σ Q) X.xe s
theorem D2.one:∀{x:V}{us:List Value},D2 [x] us->∃u,us=[u]/\E2 x u
 |_,_,.cons r .nil=>⟨_,rfl,r⟩
theorem D2.two(h:D2 [x,y] us):∃u v,us=[u,v]/\E2 x u/\E2 y v:=by
 cases h with
 |cons r t=>cases t with
  |cons q t=>cases t;exact⟨_,_,rfl,r,q⟩
theorem D2.reverse(h:D2 xs us):D2 xs.reverse us.reverse:=by
 induction h with
 |nil=>exact .nil
 |cons r t ih=>rw[Xm,Xm];exact D2.append ih (.cons r .nil)
theorem D2.rep{xs:List V}{us:List Value}(h:D2 xs us):∀k:Nat,D2 (List.replicate k xs).flatten (List.replicate k us).flatten
 |0=>.nil
 |k+1=>by
  rw[Yk,Yk,Um,Um];exact D2.append h (D2.rep h k)
theorem Ly(its:List Value):∀(k:Nat) (acc:List Value),
  List.foldl (fun x1 x2=>x1++x2) acc.toArray (List.replicate k its.toArray)=(acc++(List.replicate k its).flatten).toArray
 |0,acc=>by simp
 |k+1,acc=>by
  have e:acc.toArray++its.toArray=(acc++its).toArray:=by simp
  have e2:(acc++its)++(List.replicate k its).flatten=acc++(List.replicate (k+1) its).flatten:=by
   rw[Yk,Um,Uc]
  rw[←e2,←Ly its k (acc++its),←e,Yk,List.foldl_cons]
section
variable{l b:Addr}{ys zs:List V}
theorem Inv.lset{f:Array Value->Array Value}(I:Inv X pins σ H s)(hH:H l=some (.lst xs))
  (e:s.heap.get? l=some {cls:=.type "list",data:=.seq its.toArray n})(hf:f its.toArray=its'.toArray)(hv:D2 ys its')(hz:ys.length≤sizeLine):
  Inv X pins σ (upd H l (.lst ys)) {s with heap:=s.heap.update l (Obj.mapSeq f),toks:=t'}:=by
 have q:=PySem.IsL.update e f
 rw[hf]at q;refine I.write (x:=l) (e:=l) (by rw[hH];exact trivial) (.inl rfl) (fun b' u hb hu=>(Vf s.heap (Obj.mapSeq f) (Zg hb)).trans hu) ⟨_,q⟩ ?_
 exact⟨hz,its',_,hv,q⟩
theorem Inv.lnew(I:Inv X pins σ H s)(hv:D2 ys its)(hz:ys.length≤sizeLine):
  Inv X pins σ (upd H s.heap.objs.size (.lst ys)) {s with heap:=s.heap.push {cls:=.type "list",data:=.seq its.toArray},toks:=t'}:=
 I.laid (fun _ _ q=>Qx _ q) (Qp _) ⟨hz,its,0,hv,Qd _ rfl⟩
theorem Inv.fresh(I:Inv X pins σ H s):H s.heap.objs.size=none:=I.hok.fresh (Qp _)
theorem Inv.lstM(I:Inv X pins σ H s)(hH:H l=some (.lst xs)):xs.length≤sizeLine/\∃(its:List Value) (n:Nat),D2 xs its/\xs.length=its.length/\s.heap.get? l=some {cls:=.type "list",data:=.seq its.toArray n}:=by
 obtain⟨z,its,n,r,e⟩:=I.hok l _ hH;exact⟨z,its,n,r,r.length,e⟩
end
def VW:V->List V->Hp->VK->Prop:=fun x vs H Q=>∃l xs y,x=.ref l/\vs=[y]/\H l=some (.lst xs)/\xs.length<sizeLine/\Q .non (upd H l (.lst (xs++[y])))
theorem Lz:MtM X "list.append" VW:=by
 intro pins s σ H x vs v us Q I rx rv h;obtain⟨l,xs,y,rfl,rfl,hH,hz,q⟩:=h;cases rx;obtain⟨u,rfl,ru⟩:=rv.one;obtain⟨z,its,n,r,hl,e⟩:=I.lstM hH;refine Xd F.slot_list_append ⟨_,e,rfl⟩ F.entry_list_append (F.args_list_append_2 _ _) (PySem.list_append l its.toArray n u (by rw[Qm];omega)) ⟨e,?_⟩
 refine⟨.non,_,I.lset (its':=its++[u]) hH e (by simp) (r.append (.cons ru .nil)) ?_,rfl,q⟩
 rw[Qa,List.length_singleton]
 omega
theorem MA(xs:List α)(k:Nat):(List.replicate k xs).flatten.length=k * xs.length:=by
 induction k with
 |zero=>simp
 |succ k ih=>rw[Yk,Um,Qa,ih,Nat.succ_mul,Nat.add_comm]
section
variable{prog:Program}{w:World}{A:Around}{E:OE}
set_option maxRecDepth 100000 in
end
end L2
namespace Att
open PySem PySem.W PySem.Calls PyProof.Rows
variable{P:Params}{h:Heap}{l:OpenLaw}{n:Nat}
theorem sA:∀(ns:List Int) (vs:List Value),WellAll P h vs (ns.map WData.int)->IntsAre vs ns:=by
 intro ns
 induction ns with
 |nil=>
  intro vs w;rw[Ud]at w;cases w;exact .nil
 |cons n ns ih=>
  intro vs w;rw[Qh]at w;cases w with
  |cons a b=>
   cases a;exact .cons _ _ (ih _ b)
theorem uU(hn:l.most=some n){args:List WData}{vals:List Value}
  (hpre:l.row.toRowW.claim.pre args=true)(hwl:WellAll P h vals args):
  ∃a vs ns,vals=[Value.ref a]/\args=[WData.list (ns.map WData.int)]/\h.get? a=some {cls:=.type "list",data:=.seq vs.toArray}/\IntsAre vs ns/\ns.length≤n:=by
 have hsh:WShape.hasAll [] args [.list .int]=true:=(pre_splitW hpre).1
 have hc:l.pre.holds [] {args:=args}=true:=(pre_splitW hpre).2
 obtain⟨d,r,rfl,h1,h2⟩:=hasAllW_cons hsh;obtain rfl:=hasAllW_nil h2;obtain⟨xs,rfl,h3⟩:=hasW_list h1;obtain⟨ns,rfl⟩:=items_int h3;have hlen:ns.length≤n:=by
  unfold OpenLaw.pre at hc;have h4:(WTm.not (.lt (.lit (.int (n:Int))) (.len (.arg 0)))).holds [] {args:=[.list (ns.map .int)]}=true:=by
   have h4:=(holds_andW hc).1
   rw[hn]at h4;exact h4
  have h5:=condW_of h4 (w_not (w_lt w_lit (w_len_list (w_arg rfl))))
  rw[Qk]at h5;refine Nat.le_of_not_lt fun q=>?_
  have q':(n:Int)<((ns.length:Nat):Int):=by omega
  first
   |(rw[Ye q']at h5;exact absurd h5 (by decide))
   |(simp at h5;omega)
 cases hwl with
 |cons w1 w2=>
  cases w2;cases w1 with
  |list ho hall=>exact⟨_,_,ns,rfl,rfl,ho,sA ns _ hall,hlen⟩
theorem uV(l:OpenLaw)(args:List WData):l.row.toRowW.claim.post args (.bool true) args=true:=
 postW_of (r:=l.row.toRowW) (X:=(true==true))
  (show WShape.has [] (.bool true) .bool=true by first|rfl|decide|simp[WShape.has,WShape.arms,WShape.armsAll])
  (show(WTm.eq .res (.lit (.bool true))).value [] {args:=args,res:=some (.bool true),after:=args}=some (.bool (true==true))from w_eq_bool (w_res rfl) w_lit) rfl
theorem tS{q:Program}{loose:List Str}{XP:(OU)->Heap->Prop}{YP:World->Heap->Prop}{d:DefRec}
  (hn:l.most=some n)(hdf:d.params.defaults=[])
  (call:∀(w:World) (s₀ s₁:Shared) (mg mb:OU) (fa:Addr) (o:Obj) (pm cd doc:Value) (a:Addr) (vs:List Value) (ns:List Int),
   Ground q loose [] XP w s₀ mg mb s₁.heap->YP w s₁.heap->
   s₁.heap.get? fa=some o->o.data=.func (docDef d.name d.params d.body d.scope pm cd doc)->s₁.heap.CodeRec cd d.name->mg d.name=some (.ref fa)->
   s₁.heap.get? a=some {cls:=.type "list",data:=.seq vs.toArray}->IntsAre vs ns->ns.length≤n->s₁.gens= #[]->
   codeAny (model l.prog w) callerA (.call (.ref fa) ⟨[.ref a],[]⟩) (fun r s'=>r=.ok (.ret (.bool true))/\OldK s₁.heap s'.heap/\s'.os=s₁.os/\AllBare s'.gens) s₁):
  WalkO q loose XP YP l.row.toRowW d [] (fun f vs=>PySem.call f vs):=by
 intro w s₀ s₁ mg mb G Y fa o pm cd doc dV kV ho hd hcd hD hmg hg args vals as hpre hlay hrd hwl hlo;obtain rfl:dV=.none:=Dflts.none hD hdf;obtain rfl:kV=.none:=Dflts.noKw hD;obtain⟨a,vs,ns,rfl,rfl,hobj,hints,hlen⟩:=uU hn hpre hwl;refine enter_call (Vi (call w s₀ s₁ mg mb fa o pm cd doc a vs ns G Y ho (fd_plain hd) hcd hmg hobj hints hlen hg) fun r s' hq=>?_)
 obtain⟨rfl,h2,h3,h4⟩:=hq;exact⟨.inl ⟨.bool true,.bool true,[],rfl,fun _=>rfl,.bool true,uV l _,fun _=>⟨List.Pairwise.nil,fun _ hm=>(nomatch hm)⟩⟩,h2,h3,h4⟩
section
variable{prog:Program}{w:World}{A:Around}{E:OE}{s:Shared}{K:Frag}
end
end Att
namespace L2
open PySem PySem.Spec PyProof.Rows
variable{C:Addr->List Key->Prop}{H:Hp}{P:Program}{X:Cx}{fd:FuncData}{kvs:List (List Key×V)}{ps:List Str}{qual x:Str}{st:Stmt}{u:Value}{w:World}{xs:List (List Key×Addr×Value)}{y:V}
theorem MB:∀{vs:List Value}{ns:List Int},IntsAre vs ns->D2 (ns.map V.int) vs
 |_,_,.nil=>.nil
 |_,_,.cons n t h=>.cons ⟨t,rfl⟩ (MB h)
def Be(s:Stmt):Arguments:=match s with
 |.FunctionDef _ a _ _ _ _ _ _ _ _=>a
 |_=>{posonlyargs:=[],args:=[],vararg:=none,kwonlyargs:=[],kw_defaults:=[],kwarg:=none,defaults:=[]}
def W3(s:Stmt):List Stmt:=match s with
 |.FunctionDef _ _ b _ _ _ _ _ _ _=>b
 |_=>[]
def E1(s:Stmt):Scope:=match s with
 |.FunctionDef _ _ _ _ _ _ sc _ _ _=>sc
 |_=>{kind:=.function,names:=[],isGenerator:=false,isCoroutine:=false}
abbrev j7:wN:=fun _ _ _ _ _ _=>False
abbrev E0:XK:=fun _ _ _=>False
theorem Cb:CY j7 X E0:=fun _ _ _ _ _ _ _ h=>h.elim
structure k7(K:Qz)(x qual:Str)(st:Stmt)(f:Addr)(fd:FuncData):Prop where
 ex:∃(oc:Value) (od:Option Addr) (kV doc pm:Value) (an:Option Addr) (cdv ct:Value) (osl:Array (Option Value)),
  fd=PySem.W.fnOf x qual (Be st) (W3 st) (E1 st) .none kV doc pm an cdv ct/\K.lookup f=some ⟨oc,od,.func fd,osl⟩/\PySem.W.codeIn K cdv qual=true
 kp:PySem.W.keepIn K (.ref f)=true
section
variable{K:Qz}{mg:OU}{base:Heap}
theorem k7.ok{f:Addr}{N:List Str}{k:Nat}{sp:Sp}(F:k7 K x qual st f fd)(S:a9 N ps (E1 st))(len:∀vs H Q E,sp vs H Q E->vs.length=ps.length)
  (hbody:∀(cdv:Value) (A:Around) (outer:List Env) (s:Shared) (H:Hp) (vs:List V) (Q:VK) (E:XK),g6 k (A.deeper (envOfC qual (E1 st) s.heap.objs.size f cdv))->sp vs H Q E->
   ∃t,sT (O8 j7 P w K mg base N qual (E1 st) f cdv A outer s H E).nox (W3 st) t/\t {nx:=fun _ H'=>Q .non H',rt:=Q} (start N vs) H):c6 P w K mg base j7 (k+1) f fd ps sp:=by
 obtain⟨oc,od,kV,doc,pm,an,cdv,ct,osl,rfl,lk,hcd⟩:=F.ex;refine Gx lk hcd S len fun A outer s H vs Q E hr hsp=>?_
 obtain⟨t,h,q⟩:=hbody cdv A outer s H vs Q E hr hsp;exact⟨t,h.nox,q⟩
theorem k7.binds{f:Addr}(F:k7 K x qual st f fd)
  (h:∀(kV doc pm:Value) (an:Option Addr) (cdv ct:Value) (us:List Value),us.length=ps.length->bindArgs (PySem.W.fnOf x qual (Be st) (W3 st) (E1 st) .none kV doc pm an cdv ct) ⟨us,[]⟩=pure (ps.zip us)):Q2 K fd ps []:=by
 obtain⟨oc,od,kV,doc,pm,an,cdv,ct,osl,rfl,lk,hcd⟩:=F.ex;exact .all (h kV doc pm an cdv ct)
theorem VX{f:Addr}{oc:Value}{od an:Option Addr}{osl:Array (Option Value)}{kV doc pm cdv ct:Value}(l:K.lookup f=some ⟨oc,od,.func (PySem.W.fnOf x qual (Be st) (W3 st) (E1 st) .none kV doc pm an cdv ct),osl⟩)
  (c:PySem.W.codeIn K cdv qual=true)(k:PySem.W.keepIn K (.ref f)=true):k7 K x qual st f (PySem.W.fnOf x qual (Be st) (W3 st) (E1 st) .none kV doc pm an cdv ct):=⟨⟨oc,od,kV,doc,pm,an,cdv,ct,osl,rfl,l,c⟩,k⟩
end
theorem Bf{n:Nat}(h:n≤1000):n<sizeLine:=Nat.lt_of_le_of_lt h (by decide)
theorem pv(i:Nat){pos:Pos}(hN:X.N[i]? =some x:=by rfl)(hv:wD X.env.scope x:=by first|exact Or.inl rfl|exact Or.inr (Or.inl rfl)|exact Or.inr (Or.inr rfl))(hd:(x==("__debug__":Str))=false:=by decide)
  (hcd:(x==("__classdict__":Str))=false:=by decide):PE X (.Name x pos) (Q4 i):=Gi hN hv hd hcd
section
variable{κ:Type}[DecidableEq κ]
def W4(kvs:List (κ×V))(k:κ):Option V:=(kvs.find? fun kv=>decide (kv.1=k)).map (·.2)
def AB(kvs:List (κ×V))(k:κ)(v:V):List (κ×V):=
 if(kvs.any fun kv=>decide (kv.1=k))=true then kvs.map (fun kv=>if kv.1=k then(kv.1,v)else kv)else kvs++[(k,v)]
theorem Ex{p:κ×V}{r:List (κ×V)}{k:κ}(e:p.1=k):W4 (p::r) k=some p.2:=by simp[W4,Jg,e]
theorem Ey{p:κ×V}{r:List (κ×V)}{k:κ}(e:¬ p.1=k):W4 (p::r) k=W4 r k:=by simp[W4,Jg,e]
theorem HA(k:κ):∀kvs:List (κ×V),(kvs.any fun kv=>decide (kv.1=k))=(W4 kvs k).isSome
 |[]=>rfl
 |p::r=>by
  rw[Xb]
  by_cases e:p.1=k
  ·simp only[Ex e,Ye e,Bool.true_or,Option.isSome_some]
  ·rw[Ey e,Qt e,Xg];exact HA k r
theorem VY(kvs:List (κ×V))(k:κ)(v:V):(AB kvs k v).length≤kvs.length+1:=by
 unfold AB;split
 ·rw[Qk];omega
 ·rw[Qa,Zj,Jz];omega
end
theorem W0.isSome_eq{o:Option V}{u:Option Value}(r:W0 o u):o.isSome=u.isSome:=by
 cases o with
 |none=>cases u with
  |none=>rfl
  |some _=>exact(show False from r).elim
 |some _=>cases u with
  |none=>exact(show False from r).elim
  |some _=>rfl
theorem W5{k:Key}(r:E2 (kV k) u):(L5 P w).is k u=true:=by
 cases k with
 |inl i=>obtain⟨t,e⟩:=(show∃t,u=Value.int i t from r);subst e;exact Sg P w i t
 |inr x=>obtain⟨t,e⟩:=(show∃t,u=Value.str x t from r);subst e;exact Sh P w x t
theorem HC{P:Program}{w:World}:∀{ks:List Key}{us:List Value},D2 (ks.map kV) us->ItemsAre (L5 P w) ks us
 |[],_,r=>by rw[Ud]at r;cases r;exact .nil
 |k::ks,_,r=>by
  rw[Qh]at r;cases r with
  |cons h t=>exact .cons (W5 h) (HC t)
abbrev KT(C:Addr->List Key->Prop)(H:Hp):List (List Key×V)->List (List Key×Addr×Value)->Prop:=Paired fun p q=>p.1=q.1/\(H q.2.1=some (.tup (p.1.map kV))\/C q.2.1 p.1)/\E2 p.2 q.2.2
theorem KT.val(r:KT C H kvs xs)(k:List Key):W0 (W4 kvs k) ((atKey xs k).map (·.2)):=by
 induction r with
 |nil=>exact True.intro
 |@cons p q ps qs h t ih=>
  obtain⟨h1,_,h2⟩:=h
  by_cases e:p.1=k
  ·have e':q.1=k:=h1.symm.trans e
   have b:atKey (q::qs) k=some q.2:=by simp[atKey,Jg,e']
   rw[Ex e,b];exact h2
  ·have e':¬ q.1=k:=fun z=>e (h1.trans z)
   have b:atKey (q::qs) k=atKey qs k:=by simp[atKey,Jg,e']
   rw[Ey e,b];exact ih
theorem KT.repl(r:KT C H kvs xs)(k:List Key)(ry:E2 y u):
  KT C H (kvs.map fun kv=>if kv.1=k then(kv.1,y)else kv) (xs.map (putAt k u)):=by
 induction r with
 |nil=>exact .nil
 |@cons p q ps qs h t ih=>
  rw[Qh,Qh];refine .cons ?_ ih;obtain⟨h1,h2,h3⟩:=h;unfold putAt
  by_cases e:p.1=k
  ·rw[Qn e,Qn (h1.symm.trans e)];exact⟨h1,h2,ry⟩
  ·rw[Ql e,Ql (fun z=>e (h1.trans z))];exact⟨h1,h2,h3⟩
theorem KT.put(r:KT C H kvs xs)(k:List Key){b:Addr}(hb:H b=some (.tup (k.map kV))\/C b k)(ry:E2 y u):
  KT C H (AB kvs k y) (storedH xs k b u):=by
 have e:(kvs.any fun kv=>decide (kv.1=k))=(atKey xs k).isSome:=by
  rw[HA,(r.val k).isSome_eq,Xn]
 unfold AB storedH;rw[e]
 by_cases q:(atKey xs k).isSome=true
 ·rw[Qn q,Qn q];exact r.repl k ry
 ·rw[Ql q,Ql q];exact Paired.snoc r ⟨rfl,hb,ry⟩
theorem KT.keeps{H':Hp}(r:KT C H kvs xs)(ht:∀b ys,H b=some (.tup ys)->H' b=some (.tup ys)):KT C H' kvs xs:=
 Paired.mapP r fun _ _ z=>⟨z.1,z.2.1.imp (ht _ _) id,z.2.2⟩
section
variable{h:Heap}{a:Addr}
theorem VZ{ks:List Key}(ok:qV P w H h)(e:H a=some (.tup (ks.map kV))):(tupleKind (L5 P w)).is h ks a:=by
 obtain⟨_,its,r,o,h1,h2,_,n,h3⟩:=(show K1 P w H h a (.tup (ks.map kV))from ok a _ e)
 exact⟨o,its.toArray,n,h1,h2,h3,by simpa using HC r⟩
end
section
variable{pins:OX}{σ:St}{s:Shared}{a:Addr}{v:V}{r:Value}{o:Option V}{A:Around}{E:OE}
theorem MC{h':Heap}{t':Nat}{ob:HO}(I:Inv X pins σ H s)(mu:yS (H a))(hs:Heap.SameBut a s.heap h')(he:∃q,h'.get? a=some q)(new:K1 X.prog X.w (upd H a ob) h' a ob):
  Inv X pins σ (upd H a ob) {s with heap:=h',toks:=t'}:=
 I.write (x:=a) (e:=a) mu (.inl rfl) (fun b q hb z=>(hs.2 b hb).trans z) he new
end
def WA(i:Expr):Prop:=∀ov iv,subscripted i false ov iv=operate [ov,iv] (getItem ov iv)
theorem MD{prog:Program}{A:Around}{E:OE}{s:Shared}{env:Env}{value slice:Expr}{pos:Pos}{T id:String}{Q:OE}
  (hl:typeLookup (.type T) "__getitem__"=pure (some (.builtin id)))(hs:WA slice)
  (h:wpAny (model prog w) A (eval value env) (fun o s₁=>wpAny (model prog w) A (eval slice env) (fun i s₂=>s₂.TypeIs o T/\wpAny (model prog w) A (getItem o i) Q E s₂) E s₁) E s):
  wpAny (model prog w) A (eval (.Subscript value slice pos) env) Q E s:=by
 refine Subscript_ (Qi h (fun o s₁ h₁=>Qi h₁ (fun i s₂ h₂=>?_) fun _ _ x=>x) fun _ _ x=>x)
 obtain⟨hT,h₂⟩:=h₂;unfold subscriptTail;refine Qq ?_
 rw[getitemInPython_of_ne hT.not_modules];refine Qq (wpAny_specialOf hT hl ?_);have fin:wpAny (model prog w) A (subscripted slice false o i) (fun r s₃=>wpAny (model prog w) A (letTemporaryGo value o r>>=fun _=>pure r) Q E s₃) E s₂:=by
  rw[hs o i];exact wpAny_operating (Qi h₂ (fun r s₃ h₃=>Qq (wpAny_letTemporaryGo (Qv h₃))) fun _ _ x=>x)
 first
  |exact Qv (Qq fin)
  |exact Qq (Qv (Qq fin))
  |exact Qq fin
theorem Inv.big(I:Inv X pins σ H s):sysModules<s.heap.objs.size:=by
 have h:mainGlobals<s.heap.objs.size:=(I.mod.glob.keeps I.bk).lt
 exact Us (by decide) h
end L2
namespace L2.Mir
open PySem PySem.Spec PyProof.Rows
variable{B:OA}{E:OE}{G G' G1 G2 H H' H1 H2:Hp}{N N':List Str}{Q:VK}{T:String}{X:Cx}{a p:Addr}{b c e iter tg:Expr}{es:List Expr}{i j k more n:Nat}{ks:OI}{neg:Bool}{o:HO}{op op':CmpOp}{pins:OX}{r r':R2}{s:Shared}{scope:Scope}{t':TT}{v:V}{vs xs:List V}{x:Str}{α β:Type}{σ σ' σ1:St}
inductive Ob where
 |exc (n:Str)|fn (n:Str)|dk (kvs:List (Key×Key))|dt (kvs:List (Str×List Int))
 deriving Inhabited
inductive D where
 |non|bl (b:Bool)|int (i:Int)|str (x:Str)|tup (ds:List D)|lst (ds:List D)|emp|obj (o:Ob)|dct (ks:OI) (vs:List D)
 deriving Inhabited
variable{d:D}{ds:List D}{g':Int->Int->D}
def ME(K:Qz)(t:Value):Prop:=∀T∈(["tuple","list","int","bool","str"]:List String),PySem.W.kitOne K t (.type T)=some false
def uW(K:Qz)(G:Hp)(a:Addr)(xs:List V):Prop:=G a=some (.tup xs)\/ ∃(o:Obj) (its:Array Value) (n:Nat),K.lookup a=some o/\o.cls=.type "tuple"/\o.dict=none/\o.data=.seq its n/\its.size≤sizeLine/\D2 xs its.toList
theorem uW.t{K:Qz}(h:uW K G a xs):qW K G a xs:=h.imp (fun e=>.inl e) id
def Bg(K:Qz)(G:Hp):List (Key×V)->List (Str×List Int)->Prop
 |[],[]=>True
 |p::ps,q::qs=>p.1=.inr q.1/\(∃a,p.2=.ref a/\uW K G a (q.2.map V.int))/\Bg K G ps qs
 |_,_=>False
def Bi(K:Qz)(G:Hp)(v:V):Ob->Prop
 |.exc n=>∃a C HP,v=.ref a/\PySem.W.nsIn K mainGlobals n=some (some (.ref C))/\G a=some (.ext HP)/\PySem.W.KitX K (.ref a) (.ref C) HP/\ME K (.ref C)
 |.fn n=>∃f,v=.ref f/\PySem.W.nsIn K mainGlobals n=some (some (.ref f))/\PySem.W.KitX K (.ref f) (.type "function") (fun _=>True)
 |.dk kvs=>∃a,v=.ref a/\G a=some (.dK (kvs.map fun p=>(p.1,kV p.2)))
 |.dt kvs=>∃a ps,v=.ref a/\G a=some (.dK ps)/\Bg K G ps kvs
abbrev N0(k:List Int):List Key:=k.map Sum.inl
def O2(K:Qz):Addr->List Key->Prop:=fun b k=>uW K (fun _=>none) b (k.map kV)
mutual
def c4(K:Qz)(G:Hp):V->D->Prop
 |v,.non=>v=.non
 |v,.bl b=>v=.bl b
 |v,.int i=>v=.int i
 |v,.str x=>v=.str x/\x.length≤sizeLine
 |v,.tup ds=>∃a xs,v=.ref a/\uW K G a xs/\C3 K G xs ds
 |v,.lst ds=>∃a xs,v=.ref a/\qK K G a xs/\C3 K G xs ds
 |v,.emp=>∃a kvs,v=.ref a/\G a=some (.dK kvs)
 |v,.obj o=>Bi K G v o
 |v,.dct ks vs=>∃a kvs,v=.ref a/\G a=some (.dT (O2 K) kvs)/\kvs.map (·.1)=ks.map N0/\C3 K G (kvs.map (·.2)) vs
def C3(K:Qz)(G:Hp):List V->List D->Prop
 |xs,[]=>xs=[]
 |xs,d::ds=>∃x r,xs=x::r/\c4 K G x d/\C3 K G r ds
end
def Le(G G':Hp):Prop:=∀b o,G b=some o->G' b=some o
theorem Le.refl:Le G G:=fun _ _ e=>e
theorem Le.trans(a:Le G G1)(b:Le G1 G2):Le G G2:=fun x o e=>b x o (a x o e)
theorem Le.upd(h:G a=none):Le G (upd G a o):=fun b u e=>by rw[D3 (O4 e h)];exact e
theorem Le.sqU{K:Qz}(l:Le G G')(h:uW K G a xs):uW K G' a xs:=h.imp (fun e=>l _ _ e) id
theorem Le.sqT{K:Qz}(l:Le G G')(h:uW K G a xs):qW K G' a xs:=(l.sqU h).t
theorem Le.sqT'{K:Qz}(l:Le G G')(h:qW K G a xs):qW K G' a xs:=by
 rcases h with h|h
 ·rcases h with h|⟨o,h⟩
  ·exact .inl (.inl (l _ _ h))
  ·exact .inl (.inr ⟨o,l _ _ h⟩)
 ·exact .inr h
theorem Le.sqL{K:Qz}(l:Le G G')(h:qK K G a xs):qK K G' a xs:=by
 rcases h with h|h
 ·rcases h with h|⟨o,h⟩
  ·exact .inl (.inl (l _ _ h))
  ·exact .inl (.inr ⟨o,l _ _ h⟩)
 ·exact .inr h
theorem Bg.mono{K:Qz}{G G':Hp}(l:Le G G'):∀{ps:List (Key×V)}{qs:List (Str×List Int)},Bg K G ps qs->Bg K G' ps qs
 |[],[],_=>trivial
 |_::_,_::_,⟨h1,⟨a,h2,h3⟩,h4⟩=>⟨h1,⟨a,h2,l.sqU h3⟩,Bg.mono l h4⟩
theorem Bi.mono{K:Qz}(l:Le G G'):∀{o:Ob},Bi K G v o->Bi K G' v o
 |.exc n,⟨a,C,HP,h1,h2,h3,h4⟩=>⟨a,C,HP,h1,h2,l _ _ h3,h4⟩
 |.fn n,h=>h
 |.dk kvs,⟨a,h1,h2⟩=>⟨a,h1,l _ _ h2⟩
 |.dt kvs,⟨a,ps,h1,h2,h3⟩=>⟨a,ps,h1,l _ _ h2,h3.mono l⟩
mutual
theorem c4.mono{K:Qz}{G G':Hp}(l:Le G G'):∀(d:D) {v:V},c4 K G v d->c4 K G' v d
 |.non,_,h=>by simpa only[c4]using h
 |.bl b,_,h=>by simpa only[c4]using h
 |.int i,_,h=>by simpa only[c4]using h
 |.str x,_,h=>by simpa only[c4]using h
 |.tup ds,_,h=>by
  simp only[c4]at h ⊢;obtain⟨a,xs,e,q,r⟩:=h;exact⟨a,xs,e,l.sqU q,C3.mono l ds r⟩
 |.lst ds,_,h=>by
  simp only[c4]at h ⊢;obtain⟨a,xs,e,q,r⟩:=h;exact⟨a,xs,e,l.sqL q,C3.mono l ds r⟩
 |.emp,_,h=>by
  simp only[c4]at h ⊢;obtain⟨a,kvs,e,q⟩:=h;exact⟨a,kvs,e,l _ _ q⟩
 |.obj o,_,h=>by
  simp only[c4]at h ⊢;exact h.mono l
 |.dct ks vs,_,h=>by
  simp only[c4]at h ⊢;obtain⟨a,kvs,e,q,k,r⟩:=h;exact⟨a,kvs,e,l _ _ q,k,C3.mono l vs r⟩
theorem C3.mono{K:Qz}{G G':Hp}(l:Le G G'):∀(ds:List D) {xs:List V},C3 K G xs ds->C3 K G' xs ds
 |[],_,h=>by simpa only[C3]using h
 |d::ds,_,h=>by
  simp only[C3]at h ⊢;obtain⟨x,r,e,q,t⟩:=h;exact⟨x,r,e,c4.mono l d q,C3.mono l ds t⟩
end
theorem d9{K:Qz}:C3 K G [] []:=by simp only[C3]
theorem c9{K:Qz}{x:V}(h:c4 K G x d)(t:C3 K G xs ds):C3 K G (x::xs) (d::ds):=by
 simp only[C3];exact⟨x,xs,rfl,h,t⟩
theorem C3.length{K:Qz}{G:Hp}:∀{ds:List D}{xs:List V},C3 K G xs ds->xs.length=ds.length
 |[],_,h=>by simp only[C3]at h;subst h;rfl
 |d::ds,_,h=>by
  simp only[C3]at h;obtain⟨x,r,e,q,t⟩:=h;subst e
  simp[C3.length t]
theorem C3.append{K:Qz}{G:Hp}:∀{ds es:List D}{xs ys:List V},C3 K G xs ds->C3 K G ys es->C3 K G (xs++ys) (ds++es)
 |[],_,_,_,h,t=>by simp only[C3]at h;subst h;exact t
 |d::ds,_,_,_,h,t=>by
  simp only[C3]at h;obtain⟨x,r,e,q,u⟩:=h;subst e;exact c9 q (C3.append u t)
theorem C3.get{K:Qz}{G:Hp}:∀{ds:List D}{xs:List V}{i:Nat}{d:D},C3 K G xs ds->ds[i]? =some d->∃x,xs[i]? =some x/\c4 K G x d
 |[],_,i,d,h,e=>by simp at e
 |d::ds,_,i,d',h,e=>by
  simp only[C3]at h;obtain⟨x,r,e1,q,t⟩:=h;subst e1;cases i with
  |zero=>simp at e;subst e;exact⟨x,rfl,q⟩
  |succ i=>simpa using C3.get (i:=i) t (by simpa using e)
theorem C3.get'{K:Qz}{x:V}(h:C3 K G xs ds)(e:xs[i]? =some x):∃d,ds[i]? =some d/\c4 K G x d:=by
 have hl:=h.length
 have hi:i<xs.length:=(Qg.mp e).1
 obtain⟨x',e',r⟩:=h.get (i:=i) (d:=ds[i]'(by omega)) (by simp)
 rw[e]at e';cases e';exact⟨_,by simp,r⟩
theorem C3.take{K:Qz}:∀{ds:List D}{xs:List V}(n:Nat),C3 K G xs ds->C3 K G (xs.take n) (ds.take n)
 |_,_,0,_=>by simp[d9]
 |[],_,n+1,h=>by simp only[C3]at h;subst h;simp[d9]
 |d::ds,_,n+1,h=>by
  simp only[C3]at h;obtain⟨x,r,e,q,t⟩:=h;subst e;exact c9 q (t.take n)
theorem C3.drop{K:Qz}:∀{ds:List D}{xs:List V}(n:Nat),C3 K G xs ds->C3 K G (xs.drop n) (ds.drop n)
 |_,_,0,h=>h
 |[],_,n+1,h=>by simp only[C3]at h;subst h;simp[d9]
 |d::ds,_,n+1,h=>by
  simp only[C3]at h;obtain⟨x,r,e,q,t⟩:=h;subst e;exact t.drop n
theorem C3.reverse{K:Qz}:∀{ds:List D}{xs:List V},C3 K G xs ds->C3 K G xs.reverse ds.reverse
 |[],_,h=>by simp only[C3]at h;subst h;simp[d9]
 |d::ds,_,h=>by
  simp only[C3]at h;obtain⟨x,r,e,q,t⟩:=h;subst e;simp only[Xm];exact t.reverse.append (c9 q d9)
theorem C3.set{K:Qz}:∀{ds:List D}{xs:List V}{x:V}{d:D}(n:Nat),C3 K G xs ds->c4 K G x d->C3 K G (xs.set n x) (ds.set n d)
 |[],_,_,_,n,h,_=>by simp only[C3]at h;subst h;simp[d9]
 |d::ds,_,_,_,0,h,q'=>by
  simp only[C3]at h;obtain⟨x,r,e,q,t⟩:=h;subst e;exact c9 q' t
 |d::ds,_,_,_,n+1,h,q'=>by
  simp only[C3]at h;obtain⟨x,r,e,q,t⟩:=h;subst e;exact c9 q (t.set n q')
inductive Mu where
 |l (ds:List D)|d (ks:OI) (vs:List D)
 deriving Inhabited
variable{m:Mu}
inductive W where
 |nil|dat (d:D)|own (ds:List D)|par (ds:List D)|ownD (ks:OI) (vs:List D)|parD (ks:OI) (vs:List D)
 deriving Inhabited
variable{w w2:W}{ws':List W}
abbrev c5:=List W
abbrev OZ:=D->c5->Option c5
variable{env env' a8:c5}
def W.mut:W->Option Mu
 |.own ds=>some (.l ds)
 |.par ds=>some (.l ds)
 |.ownD ks vs=>some (.d ks vs)
 |.parD ks vs=>some (.d ks vs)
 |_=>none
def W.mutL:W->Option (List D)
 |.own ds=>some ds
 |.par ds=>some ds
 |_=>none
def W.mutD:W->Option (OI×List D)
 |.ownD ks vs=>some (ks,vs)
 |.parD ks vs=>some (ks,vs)
 |_=>none
def W.put:W->List D->W
 |.own _,ds=>.own ds
 |.par _,ds=>.par ds
 |w,_=>w
def W.isOwn:W->Bool
 |.own _=>true
 |.ownD _ _=>true
 |_=>false
def W.isPar:W->Bool
 |.par _=>true
 |.parD _ _=>true
 |_=>false
def W.putM(w:W):Mu->W
 |.l ds=>if w.isOwn then .own ds else if w.isPar then .par ds else w
 |.d ks vs=>if w.isOwn then .ownD ks vs else if w.isPar then .parD ks vs else w
theorem W.mutL_of(h:w.mutL=some ds):w.mut=some (.l ds):=by cases w<;>first|(cases h;rfl)|cases h
theorem W.mutD_of{vs:List D}(h:w.mutD=some (ks,vs)):w.mut=some (.d ks vs):=by cases w<;>first|(cases h;rfl)|cases h
theorem W.put_eq(h:w.mutL=some ds)(ds':List D):w.put ds'=w.putM (.l ds'):=by cases w<;>first|rfl|cases h
theorem W.putM_mut(h:w.mut=some m)(m':Mu):(w.putM m').mut=some m':=by
 cases w<;>cases m'<;>first|rfl|cases h
theorem W.putM_own(h:w.mut=some m)(m':Mu):(w.putM m').isOwn=w.isOwn:=by
 cases w<;>cases m'<;>first|rfl|cases h
theorem W.putM_par(h:w.mut=some m)(m':Mu):(w.putM m').isPar=w.isPar:=by
 cases w<;>cases m'<;>first|rfl|cases h
def d5(σ:St)(env:c5)(a:Addr):Prop:=∃(i:Nat) (w:W) (m:Mu),env[i]? =some w/\w.mut=some m/\σ[i]? =some (some (V.ref a))
theorem sG(h:w.isOwn=true):∃m,w.mut=some m:=by cases w<;>first|exact⟨_,rfl⟩|cases h
theorem rA(h:w.isPar=true):∃m,w.mut=some m:=by cases w<;>first|exact⟨_,rfl⟩|cases h
def NT(o:HO):Prop:=∀ps,o≠.tbl ps
theorem pT:NT (.lst xs):=fun _ z=>by cases z
theorem xM:NT (.tup xs):=fun _ z=>by cases z
def rO(q:Str):Str:=(q++".<locals>.")++"<lambda>"
def vL(K:Qz)(P:Addr)(q:Str):Bool:=K.all fun p=>match p.2 with
 |⟨.type "code",_,.fields vs,_⟩=>(match (vs[11]? :Option Value)with|some (.ref P')=>P' !=P|_=>true)||(match vs.toList with|_::.str n _::_=>n==q|_=>false)
 |_=>true
def tT(K:Qz)(P a:Addr):HO:=.ext fun h=>∀q,vL K P q=true->h.CodeRec (.ref a) (rO q)
def pU(K:Qz)(H:Hp):Prop:=∀P ps,H P=some (.tbl ps)->TriplesOk ps.toList/\∀pos v,codeAmong pos ps.toList=some v->∃a,v=.ref a/\H a=some (tT K P a)
theorem pU.mono{K:Qz}(t:pU K H)(h1:∀P ps,H' P=some (.tbl ps)->H P=some (.tbl ps))(h2:∀a φ,H a=some (.ext φ)->H' a=some (.ext φ)):pU K H':=fun P ps e=>by
 obtain⟨q1,q2⟩:=t P ps (h1 P ps e);refine⟨q1,fun pos v e=>?_⟩
 obtain⟨a,e1,e2⟩:=q2 pos v e;exact⟨a,e1,h2 _ _ e2⟩
theorem pU.upd{K:Qz}(t:pU K H)(no:NT o)(h:∀φ,H a≠some (.ext φ)):pU K (upd H a o):=
 t.mono (fun P ps e=>by
  by_cases hb:P=a
  ·subst hb;rw[G7]at e;cases e;exact absurd rfl (no ps)
  ·rw[D3 hb]at e;exact e) fun b φ e=>by
  by_cases hb:b=a
  ·subst hb;exact absurd e (h φ)
  ·rw[D3 hb];exact e
def qS(K:Qz)(G:Hp)(o:HO):Mu->Prop
 |.l ds=>∃xs,o=.lst xs/\C3 K G xs ds
 |.d ks vs=>∃kvs,o=.dT (O2 K) kvs/\kvs.map (·.1)=ks.map N0/\C3 K G (kvs.map (·.2)) vs
theorem qS.mono{K:Qz}(l:Le G G'):∀{m:Mu},qS K G o m->qS K G' o m
 |.l ds,⟨xs,e,r⟩=>⟨xs,e,C3.mono l ds r⟩
 |.d ks vs,⟨kvs,e,k,r⟩=>⟨kvs,e,k,C3.mono l vs r⟩
theorem qS.nt{K:Qz}:∀{m:Mu},qS K G o m->NT o
 |.l ds,⟨xs,e,r⟩=>by subst e;exact pT
 |.d ks vs,⟨kvs,e,k,r⟩=>by subst e;exact fun _ z=>by cases z
theorem qS.ne{K:Qz}(r:qS K G o m):∀φ,o≠.ext φ:=by
 cases m with
 |l ds=>obtain⟨xs,e,_⟩:=r;subst e;exact fun _ z=>by cases z
 |d ks vs=>obtain⟨xs,e,_⟩:=r;subst e;exact fun _ z=>by cases z
structure Rel(K:Qz)(B:OA)(G:Hp)(σ:St)(env:c5)(H:Hp):Prop where
 sub:Le G H
 len:env.length=σ.length
 dat:∀(i:Nat) (d:D),env[i]? =some (.dat d)->∃v,σ[i]? =some (some v)/\c4 K G v d
 own:∀(i:Nat) (w:W) (m:Mu),env[i]? =some w->w.mut=some m->∃a o,σ[i]? =some (some (V.ref a))/\H a=some o/\qS K G o m/\G a=none
 inj:∀(i j:Nat) (w w':W) (ds es:Mu) (a:Addr),env[i]? =some w->w.mut=some ds->env[j]? =some w'->w'.mut=some es->σ[i]? =some (some (V.ref a))->σ[j]? =some (some (V.ref a))->i=j
 fresh:∀(i:Nat) (w:W) (a:Addr),env[i]? =some w->w.isOwn=true->σ[i]? =some (some (V.ref a))-> ¬ B a
 old:∀b,B b->H b≠none
 tabs:pU K H
 gnt:∀b o,G b=some o->NT o
structure Ev(K:Qz)(B:OA)(G:Hp)(σ:St)(env:c5)(H:Hp)(G':Hp)(σ':St)(env':c5)(H':Hp):Prop where
 rel:Rel K B G' σ' env' H'
 same:Le G G'
 keep:∀b o,¬ d5 σ env b->NT o->H b=some o->H' b=some o
 live:∀b,H b≠none->H' b≠none
 stay:∀b,H b≠none-> ¬ d5 σ env b->G b=none->G' b=none
 sub:∀a,d5 σ' env' a->d5 σ env a\/H a=none
 par:∀(i:Nat) (w:W),env'[i]? =some w->w.isPar=true->σ'[i]? =σ[i]? /\ ∃w0,env[i]? =some w0/\w0.isPar=true
 slen:σ'.length=σ.length
theorem Ev.refl{K:Qz}(r:Rel K B G σ env H):Ev K B G σ env H G σ env H:=
 ⟨r,Le.refl,fun _ _ _ _ e=>e,fun _ e=>e,fun _ _ _ e=>e,fun _ e=>.inl e,fun _ w e h=>⟨rfl,w,e,h⟩,rfl⟩
theorem Ev.trans{K:Qz}{σ2:St}{i5:c5}(a:Ev K B G σ env H G1 σ1 a8 H1)(b:Ev K B G1 σ1 a8 H1 G2 σ2 i5 H2):Ev K B G σ env H G2 σ2 i5 H2 where
 rel:=b.rel
 same:=a.same.trans b.same
 keep:=fun x o n t e=>b.keep x o (fun z=>(a.sub x z).elim n fun q=>by rw[e]at q;cases q) t (a.keep x o n t e)
 live:=fun x e=>b.live x (a.live x e)
 stay:=fun x e n g=>b.stay x (a.live x e) (fun z=>(a.sub x z).elim n fun q=>e q) (a.stay x e n g)
 sub:=fun x z=>(b.sub x z).elim (fun q=>a.sub x q) fun q=>.inr (by
  cases h:H x with
  |none=>rfl
  |some o=>exact absurd q (a.live x (by rw[h];simp)))
 par:=fun i w e h=>by
  obtain⟨h1,d1,e1,p1⟩:=b.par i w e h;obtain⟨h2,d2,e2,p2⟩:=a.par i d1 e1 p1;exact⟨h1.trans h2,d2,e2,p2⟩
 slen:=b.slen.trans a.slen
theorem Rel.ownL{K:Qz}(r:Rel K B G σ env H)(i:Nat)(w:W)(ds:List D)(e1:env[i]? =some w)(e2:w.mutL=some ds):∃a xs,σ[i]? =some (some (V.ref a))/\H a=some (.lst xs)/\C3 K G xs ds/\G a=none:=by
 obtain⟨a,o,h1,h2,⟨xs,rfl,h3⟩,h4⟩:=r.own i w (.l ds) e1 (W.mutL_of e2);exact⟨a,xs,h1,h2,h3,h4⟩
theorem Rel.ownD{K:Qz}(r:Rel K B G σ env H)(i:Nat)(w:W)(ks:OI)(vs:List D)(e1:env[i]? =some w)(e2:w.mutD=some (ks,vs)):∃a kvs,σ[i]? =some (some (V.ref a))/\H a=some (.dT (O2 K) kvs)/\kvs.map (·.1)=ks.map N0/\C3 K G (kvs.map (·.2)) vs/\G a=none:=by
 obtain⟨a,o,h1,h2,⟨kvs,rfl,h3,h4⟩,h5⟩:=r.own i w (.d ks vs) e1 (W.mutD_of e2);exact⟨a,kvs,h1,h2,h3,h4,h5⟩
abbrev Mo(α:Type):=c5->Option (α×c5)
variable{ma mb mc:Mo D}{ms:Mo (List D)}
section
variable(K:Qz)(B:OA)
def TD(m:Mo D):TE:=fun σ H Q=>∃G env d env',Rel K B G σ env H/\m env=some (d,env')/\∀v G' H',Ev K B G σ env H G' σ env' H'->c4 K G' v d->Q v H'
def TL(m:Mo (List D)):TE:=fun σ H Q=>∃G env ds env',Rel K B G σ env H/\m env=some (ds,env')/\∀a xs G' H',Ev K B G σ env H G' σ env' H'->H a=none-> ¬ d5 σ env' a->H' a=some (.lst xs)->G' a=none->C3 K G' xs ds->Q (.ref a) H'
def sY(m:Mo Bool):TT:=fun σ H Q=>∃G env b env',Rel K B G σ env H/\m env=some (b,env')/\∀G' H',Ev K B G σ env H G' σ env' H'->Q b H'
inductive Ar where
 |d (d:D)|sl (i:Nat)
 deriving Inhabited
def l0(G:Hp)(σ:St):List V->List Ar->Prop
 |xs,[]=>xs=[]
 |xs,.d d::as=>∃x r,xs=x::r/\c4 K G x d/\l0 G σ r as
 |xs,.sl i::as=>∃x r,xs=x::r/\σ[i]? =some (some x)/\l0 G σ r as
def TAm(m:Mo (List Ar)):TA:=fun σ H Q=>∃G env as env',Rel K B G σ env H/\m env=some (as,env')/\∀vs G' H',Ev K B G σ env H G' σ env' H'->l0 K G' σ vs as->Q vs H'
def TDs(m:Mo (List D)):TA:=fun σ H Q=>∃G env ds env',Rel K B G σ env H/\m env=some (ds,env')/\∀vs G' H',Ev K B G σ env H G' σ env' H'->C3 K G' vs ds->Q vs H'
inductive Fl where
 |nx|bk|ct|ret (d:D)|retL (ds:List D)
def Post(G:Hp)(σ:St)(env:c5)(H:Hp)(env':c5)(D:Ends):Fl->Prop
 |.nx=>∀σ' G' H',Ev K B G σ env H G' σ' env' H'->D.nx σ' H'
 |.bk=>∀σ' G' H',Ev K B G σ env H G' σ' env' H'->D.bk σ' H'
 |.ct=>∀σ' G' H',Ev K B G σ env H G' σ' env' H'->D.ct σ' H'
 |.ret d=>∀v σ' G' H',Ev K B G σ env H G' σ' env' H'->c4 K G' v d->D.rt v H'
 |.retL ds=>∀a xs σ' G' H',Ev K B G σ env H G' σ' env' H'-> ¬ B a-> ¬ d5 σ' env' a->H' a=some (.lst xs)->G' a=none->C3 K G' xs ds->D.rt (.ref a) H'
def TSm(m:Mo Fl):TS:=fun D σ H=>∃G env fl env',Rel K B G σ env H/\m env=some (fl,env')/\Post K B G σ env H env' D fl
theorem Post.after{D:Ends}{fl:Fl}(k:Post K B G σ env H env' D fl)(ev:Ev K B G σ env H G1 σ1 a8 H1):Post K B G1 σ1 a8 H1 env' D fl:=by
 cases fl with
 |nx=>exact fun σ2 G2 H2 f7=>k σ2 G2 H2 (ev.trans f7)
 |bk=>exact fun σ2 G2 H2 f7=>k σ2 G2 H2 (ev.trans f7)
 |ct=>exact fun σ2 G2 H2 f7=>k σ2 G2 H2 (ev.trans f7)
 |ret d=>exact fun v σ2 G2 H2 f7=>k v σ2 G2 H2 (ev.trans f7)
 |retL d=>exact fun a xs σ2 G2 H2 f7=>k a xs σ2 G2 H2 (ev.trans f7)
end
variable{as:Mo (List Ar)}
abbrev ED(X:Cx)(B:OA)(e:Expr)(m:Mo D):Prop:=PE X e (TD X.K B m)
abbrev EL(X:Cx)(B:OA)(e:Expr)(m:Mo (List D)):Prop:=PE X e (TL X.K B m)
abbrev ET(X:Cx)(B:OA)(e:Expr)(m:Mo Bool):Prop:=PT X e (sY X.K B m)
abbrev vA(X:Cx)(B:OA)(es:List Expr)(m:Mo (List Ar)):Prop:=PA X es (TAm X.K B m)
abbrev uF(X:Cx)(B:OA)(es:List Expr)(m:Mo (List D)):Prop:=PA X es (TDs X.K B m)
abbrev ES(X:Cx)(B:OA)(s:Stmt)(m:Mo Fl):Prop:=PS X s (TSm X.K B m)
abbrev vM(X:Cx)(B:OA)(s:List Stmt)(m:Mo Fl):Prop:=sT X s (TSm X.K B m)
theorem c8{t t':TE}(h:PE X e t)(i:∀σ H Q,t' σ H Q->t σ H Q):PE X e t':=fun pins s σ H Q I q=>h pins s σ H Q I (i σ H Q q)
theorem sN{t:TT}(h:PT X e t)(i:∀σ H Q,t' σ H Q->t σ H Q):PT X e t':=fun pins s σ H Q I q=>h pins s σ H Q I (i σ H Q q)
theorem pw_imp{t:TT}(h:PW X e t)(i:∀σ H Q,t' σ H Q->t σ H Q):PW X e t':=fun wh pins s σ H Q I q=>h wh pins s σ H Q I (i σ H Q q)
theorem qT{e:List Expr}{t t':TA}(h:PA X e t)(i:∀σ H Q,t' σ H Q->t σ H Q):PA X e t':=fun pos pins s σ H Q I q=>h pos pins s σ H Q I (i σ H Q q)
theorem m5{e:Stmt}{t t':TS}(h:PS X e t)(i:∀D σ H,t' D σ H->t D σ H):PS X e t':=fun pins s σ H D I q=>h pins s σ H D I (i D σ H q)
theorem tF{e:List Stmt}{t t':TS}(h:sT X e t)(i:∀D σ H,t' D σ H->t D σ H):sT X e t':=fun pins s σ H D I q=>h pins s σ H D I (i D σ H q)
section
variable{K:Qz}
theorem Rel.gnone(r:Rel K B G σ env H)(h:H p=none):G p=none:=by
 cases e:G p with
 |none=>rfl
 |some o=>rw[r.sub p o e]at h;cases h
theorem Rel.unowned(r:Rel K B G σ env H)(h:H p=none):¬ d5 σ env p:=by
 rintro⟨i,w,ds,e1,e2,e3⟩;obtain⟨a,xs,e4,e5,_⟩:=r.own i w ds e1 e2;rw[e3]at e4;cases e4;rw[h]at e5;cases e5
theorem Ez(h:∀b o,G b=some o->NT o)(no:NT o):∀b u,upd G p o b=some u->NT u:=fun b u e=>by
 by_cases hb:b=p
 ·subst hb;rw[G7]at e;cases e;exact no
 ·rw[D3 hb]at e;exact h b u e
theorem Rel.alloc(r:Rel K B G σ env H)(h:H p=none)(no:NT o:=by intro _ z;cases z):Ev K B G σ env H (upd G p o) σ env (upd H p o):=by
 have gp:=r.gnone h
 refine⟨⟨fun b u e=>?_,r.len,fun i d e=>?_,fun i w ds e1 e2=>?_,r.inj,r.fresh,fun b e=>?_,r.tabs.upd no (fun φ z=>by rw[h]at z;cases z),Ez r.gnt no⟩,Le.upd gp,fun b u _ _ e=>?_,fun b e=>?_,fun b e _ g=>?_,fun a z=>.inl z,fun i w e hp=>⟨rfl,w,e,hp⟩,rfl⟩
 ·by_cases hb:b=p
  ·subst hb;rw[G7]at e ⊢;exact e
  ·rw[D3 hb]at e ⊢;exact r.sub b u e
 ·obtain⟨v,e1,e2⟩:=r.dat i d e
  exact⟨v,e1,c4.mono (Le.upd gp) d e2⟩
 ·obtain⟨a,xs,e3,e4,e5,e6⟩:=r.own i w ds e1 e2
  have ha:a≠p:=O4 e4 h
  exact⟨a,xs,e3,by rw[D3 ha];exact e4,e5.mono (Le.upd gp),by rw[D3 ha];exact e6⟩
 ·by_cases hb:b=p
  ·subst hb;rw[G7];simp
  ·rw[D3 hb];exact r.old b e
 ·rw[D3 (O4 e h)];exact e
 ·by_cases hb:b=p
  ·subst hb;rw[G7];simp
  ·rw[D3 hb];exact e
 ·have hb:b≠p:=fun z=>e (z ▸ h)
  rw[D3 hb];exact g
theorem Rel.allocM(r:Rel K B G σ env H)(h:H p=none)(no:NT o:=by intro _ z;cases z):Ev K B G σ env H G σ env (upd H p o):=by
 refine⟨⟨fun b u e=>?_,r.len,r.dat,fun i w ds e1 e2=>?_,r.inj,r.fresh,fun b e=>?_,r.tabs.upd no (fun φ z=>by rw[h]at z;cases z),r.gnt⟩,Le.refl,fun b u _ _ e=>?_,fun b e=>?_,fun b e _ g=>g,fun a z=>.inl z,fun i w e hp=>⟨rfl,w,e,hp⟩,rfl⟩
 ·rw[D3 (O4 (r.sub b u e) h)];exact r.sub b u e
 ·obtain⟨a,xs,e3,e4,e5,e6⟩:=r.own i w ds e1 e2
  exact⟨a,xs,e3,by rw[D3 (O4 e4 h)];exact e4,e5,e6⟩
 ·by_cases hb:b=p
  ·subst hb;rw[G7];simp
  ·rw[D3 hb];exact r.old b e
 ·rw[D3 (O4 e h)];exact e
 ·by_cases hb:b=p
  ·subst hb;rw[G7];simp
  ·rw[D3 hb];exact e
theorem Ev.frz(v:Ev K B G σ env H G' σ' env' H')(ha:H a=none)(no:¬ d5 σ' env' a)(h':H' a=some (.lst xs))(g':G' a=none):
  Ev K B G σ env H (upd G' a (.lst xs)) σ' env' H':=by
 refine⟨⟨fun b u e=>?_,v.rel.len,fun i d e=>?_,fun i w ds e1 e2=>?_,v.rel.inj,v.rel.fresh,v.rel.old,v.rel.tabs,Ez v.rel.gnt pT⟩,v.same.trans (Le.upd g'),v.keep,v.live,fun b e n g=>?_,v.sub,v.par,v.slen⟩
 ·by_cases hb:b=a
  ·subst hb;rw[G7]at e;cases e;exact h'
  ·rw[D3 hb]at e;exact v.rel.sub b u e
 ·obtain⟨x,e1,e2⟩:=v.rel.dat i d e
  exact⟨x,e1,c4.mono (Le.upd g') d e2⟩
 ·obtain⟨p,ys,e3,e4,e5,e6⟩:=v.rel.own i w ds e1 e2
  have hp:p≠a:=fun z=>no ⟨i,w,ds,e1,e2,by rw[←z];exact e3⟩
  exact⟨p,ys,e3,e4,e5.mono (Le.upd g'),by rw[D3 hp];exact e6⟩
 ·have hb:b≠a:=fun z=>e (z ▸ ha)
  rw[D3 hb];exact v.stay b e n g
theorem HD(h:G a=some (.lst xs))(r:C3 K G xs ds):c4 K G (.ref a) (.lst ds):=by
 simp only[c4];exact⟨a,xs,rfl,.inl (.inl h),r⟩
theorem Bj(h:G a=some (.tup xs))(r:C3 K G xs ds):c4 K G (.ref a) (.tup ds):=by
 simp only[c4];exact⟨a,xs,rfl,.inl h,r⟩
theorem Rel.frzSlotM{w0:W}(r:Rel K B G σ env H)(e:env[i]? =some w0)(em:w0.mut=some m)(hrep:∀G1 a o,G1 a=some o->qS K G1 o m->c4 K G1 (.ref a) d):
  ∃a o,σ[i]? =some (some (.ref a))/\c4 K (upd G a o) (.ref a) d/\Ev K B G σ env H (upd G a o) σ (env.set i (.dat d)) H:=by
 obtain⟨a,o,e1,e2,e3,e4⟩:=r.own i _ m e em;have rp:c4 K (upd G a o) (.ref a) d:=hrep _ a o G7 (e3.mono (Le.upd e4));have ow:d5 σ env a:=⟨i,_,m,e,em,e1⟩;have hi:i<env.length:=(Qg.mp e).1;have ne:∀j w es,(env.set i (.dat d))[j]? =some w->w.mut=some es->j≠i/\env[j]? =some w:=fun j w es q1 q2=>by
  by_cases hj:j=i
  ·subst hj;rw[Zr hi]at q1;cases q1;cases q2
  ·rw[Qc (Zg hj)]at q1;exact⟨hj,q1⟩
 refine⟨a,o,e1,rp,⟨⟨fun b u q=>?_,by rw[Zm];exact r.len,fun j d q=>?_,fun j w es q1 q2=>?_,fun j k w w' es fs b q1 q2 q3 q4 q5 q6=>?_,fun j w b q1 qo q2=>?_,r.old,r.tabs,Ez r.gnt e3.nt⟩,Le.upd e4,fun b o _ _ q=>q,fun b q=>q,fun b q n g=>?_,fun b z=>?_,fun j w q qp=>?_,rfl⟩⟩
 ·by_cases hb:b=a
  ·subst hb;rw[G7]at q;cases q;exact e2
  ·rw[D3 hb]at q;exact r.sub b u q
 ·by_cases hj:j=i
  ·subst hj;rw[Zr hi]at q;cases q;exact⟨_,e1,rp⟩
  ·rw[Qc (Zg hj)]at q
   obtain⟨x,q1,q2⟩:=r.dat j d q;exact⟨x,q1,c4.mono (Le.upd e4) d q2⟩
 ·obtain⟨hj,q⟩:=ne j w es q1 q2
  obtain⟨p,ys,e3',e4',e5',e6'⟩:=r.own j w es q q2;have hp:p≠a:=fun z=>hj (r.inj j i w _ es m a q q2 e em (by rw[e3',z]) e1)
  exact⟨p,ys,e3',e4',e5'.mono (Le.upd e4),by rw[D3 hp];exact e6'⟩
 ·exact r.inj j k w w' es fs b (ne j w es q1 q2).2 q2 (ne k w' fs q3 q4).2 q4 q5 q6
 ·obtain⟨es,hm⟩:=sG qo
  exact r.fresh j w b (ne j _ es q1 hm).2 qo q2
 ·have hb:b≠a:=fun z=>n (z ▸ ow)
  rw[D3 hb];exact g
 ·obtain⟨j,w,es,q1,q2,q3⟩:=z
  exact .inl ⟨j,w,es,(ne j w es q1 q2).2,q2,q3⟩
 ·obtain⟨es,hm⟩:=rA qp
  exact⟨rfl,w,(ne j _ es q hm).2,qp⟩
theorem Rel.frzSlot(r:Rel K B G σ env H)(e:env[i]? =some (.own ds)):
  ∃a o,σ[i]? =some (some (.ref a))/\c4 K (upd G a o) (.ref a) (.lst ds)/\Ev K B G σ env H (upd G a o) σ (env.set i (.dat (.lst ds))) H:=
 r.frzSlotM (m:=.l ds) e rfl fun G1 a o h ⟨xs,z,q⟩=>by subst z;exact HD h q
theorem Rel.frzSlotD{vs:List D}(r:Rel K B G σ env H)(e:env[i]? =some (.ownD ks vs)):
  ∃a o,σ[i]? =some (some (.ref a))/\c4 K (upd G a o) (.ref a) (.dct ks vs)/\Ev K B G σ env H (upd G a o) σ (env.set i (.dat (.dct ks vs))) H:=
 r.frzSlotM (m:=.d ks vs) e rfl fun G1 a o h ⟨kvs,z,q1,q2⟩=>by subst z;simp only[c4];exact⟨a,kvs,rfl,h,q1,q2⟩
end
def A0(i:Nat):Mo D:=fun env=>match env[i]? with
 |some (.dat d)=>some (d,env)
 |some (.own ds)=>some (.lst ds,env.set i (.dat (.lst ds)))
 |some (.ownD ks vs)=>some (.dct ks vs,env.set i (.dat (.dct ks vs)))
 |_=>none
def mC(d:D):Mo D:=fun env=>some (d,env)
section
variable{pos:Pos}
theorem B3(h:PE X (.Name x pos) (Q4 i)):ED X B (.Name x pos) (A0 i):=by
 refine c8 h fun σ H Q q=>?_
 obtain⟨G,env,d,env',r,e,k⟩:=q;unfold A0 at e;split at e
 ·rename_i d' e1
  cases e;obtain⟨v,e2,e3⟩:=r.dat i _ e1;exact⟨v,e2,k v G H (.refl r) e3⟩
 ·rename_i ds e1
  cases e;obtain⟨a,xs,e2,e3,e4⟩:=r.frzSlot e1;exact⟨_,e2,k _ _ H e4 e3⟩
 ·rename_i ks vs e1
  cases e;obtain⟨a,xs,e2,e3,e4⟩:=r.frzSlotD e1;exact⟨_,e2,k _ _ H e4 e3⟩
 ·cases e
theorem DY(h:PE X e (tC v))(hd:∀K G,c4 K G v d):ED X B e (mC d):=by
 refine c8 h fun σ H Q q=>?_
 obtain⟨G,env,d',env',r,e,k⟩:=q;cases e;exact k v G H (.refl r) (hd _ _)
theorem B8{i:Int}:ED X B (.Constant (.int i) j pos) (mC (.int i)):=DY LO fun _ _=>by simp only[c4]
theorem N1{b:Bool}:ED X B (.Constant (.bool b) j pos) (mC (.bl b)):=DY Sn fun _ _=>by simp only[c4]
theorem Au:ED X B (.Constant .none j pos) (mC .non):=DY LP fun _ _=>by simp only[c4]
theorem M8(hx:x.length≤1000):ED X B (.Constant (.str x) j pos) (mC (.str x)):=DY X8 fun _ _=>by simp only[c4];exact⟨trivial,Jj (Bf hx)⟩
theorem WB{i:Int}{t:Tok}(hg:Gl X x)(hm:X.mg x=some (.int i t))(hd:(x==("__debug__":Str))=false:=by decide):ED X B (.Name x pos) (mC (.int i)):=
 DY (CS (v:=.int i) hg hm ⟨t,rfl⟩ hd) fun _ _=>by simp only[c4]
def B6(f:D->D->Option D)(ma mb:Mo D):Mo D:=fun env=>(ma env).bind fun p=>(mb p.2).bind fun q=>(f p.1 q.1).map fun d=>(d,q.2)
def qB(X:Cx)(B:OA)(r:R2)(f:D->D->Option D):Prop:=
 ∀(G:Hp) (σ:St) (env:c5) (H:Hp) (x y:V) (a b c:D) (Q:VK),Rel X.K B G σ env H->c4 X.K G x a->c4 X.K G y b->f a b=some c->
  (∀v G' H',Ev X.K B G σ env H G' σ env H'->c4 X.K G' v c->Q v H')->r x y H Q
theorem FA{f:D->D->Option D}(o:qB X B r f):∀σ H Q,TD X.K B (B6 f ma mb) σ H Q->yU r (TD X.K B ma) (TD X.K B mb) σ H Q:=by
 rintro σ H Q ⟨G,env,d,env',rl,e,k⟩;unfold B6 at e;cases ea:ma env with
 |none=>rw[ea]at e;cases e
 |some p=>
  obtain⟨d1,a8⟩:=p;rw[ea]at e;simp only[Qj]at e;cases eb:mb a8 with
  |none=>rw[eb]at e;cases e
  |some p=>
   obtain⟨d2,i5⟩:=p;rw[eb]at e;simp only[Qj]at e;cases ef:f d1 d2 with
   |none=>rw[ef]at e;cases e
   |some c=>
    rw[ef]at e;cases e;refine⟨G,env,d1,a8,rl,ea,fun v1 G1 H1 v r1=>⟨G1,a8,d2,_,v.rel,eb,fun v2 G2 H2 v' r2=>?_⟩⟩
    exact o G2 σ _ H2 v1 v2 d1 d2 _ Q v'.rel (c4.mono v'.same _ r1) r2 ef fun v3 G3 H3 v3' r3=>k v3 G3 H3 ((v.trans v').trans v3') r3
theorem D4{op:Operator}{f:D->D->Option D}{a:Expr}(ho:o3 X (binaryOp op) r)(o:qB X B r f)(ha:ED X B a ma)(hb:ED X B b mb):ED X B (.BinOp a op b pos) (B6 f ma mb):=
 c8 (LZ ho ha hb) (FA o)
theorem Y0{f:D->D->Option D}{a:Expr}(ho:o3 X (compareOp op) r)(o:qB X B r f)(ha:ED X B a ma)(hb:ED X B b mb)(hm:behindInMarks op b=false):ED X B (.Compare a [op] [b] pos) (B6 f ma mb):=
 c8 (UU ho ha hb hm) (FA o)
def fI(C:Int->Int->Bool)(g:Int->Int->D):D->D->Option D
 |.int i,.int j=>if C i j then some (g i j)else none
 |_,_=>none
theorem Cc{C:Int->Int->Prop}{c:Int->Int->Bool}{g:Int->Int->V}(hc:∀i j,c i j=true->C i j)(hg:∀K G i j,c4 K G (g i j) (g' i j)):qB X B (rI C g) (fI c g'):=by
 intro G σ env H x y a b d Q rl ra rb e k;cases a<;>cases b<;>first|(exact absurd (show(none:Option D)=some d from e) (by simp))|skip
 rename_i i j;simp only[c4]at ra rb;subst ra rb;simp only[fI]at e;split at e
 ·rename_i h
  cases e;exact⟨i,j,rfl,rfl,hc i j h,k _ G H (.refl rl) (hg _ _ i j)⟩
 ·cases e
theorem DZ{g:Int->Int->V}(hg:∀K G i j,c4 K G (g i j) (g' i j)):qB X B (tQ g) (fI (fun _ _=>true) g'):=by
 intro G σ env H x y a b d Q rl ra rb e k;cases a<;>cases b<;>first|(exact absurd (show(none:Option D)=some d from e) (by simp))|skip
 rename_i i j;simp only[c4]at ra rb;subst ra rb;simp only[fI,Zn]at e;cases e;exact⟨i,j,rfl,rfl,k _ G H (.refl rl) (hg _ _ i j)⟩
theorem o3.or{f:Value->Value->Sem Value}(h:o3 X f r)(h':o3 X f r'):o3 X f (fun x y H Q=>r x y H Q\/r' x y H Q):=by
 intro pins s σ H x y v u Q I rx ry q
 rcases q with q|q
 ·exact h pins s σ H x y v u Q I rx ry q
 ·exact h' pins s σ H x y v u Q I rx ry q
def yV(f g:D->D->Option D):D->D->Option D:=fun a b=>match f a b with
 |some c=>some c
 |none=>g a b
theorem qB.or{f g:D->D->Option D}(h:qB X B r f)(h':qB X B r' g):qB X B (fun x y H Q=>r x y H Q\/r' x y H Q) (yV f g):=by
 intro G σ env H x y a b d Q rl ra rb e k;unfold yV at e;split at e
 ·rename_i c ec
  cases e;exact .inl (h G σ env H x y a b _ Q rl ra rb ec k)
 ·exact .inr (h' G σ env H x y a b d Q rl ra rb e k)
def Bk(i j:Int):Bool:=(decide (-(2^64)<i)&&decide (i<2^64))||(decide (-(2^64)<j)&&decide (j<2^64))
def FB(_ j:Int):Bool:=decide (0<j)&&decide (j<1073741824)
def FC(i j:Int):Bool:=decide (0≤j)&&decide (j≤1000000)&&decide (i.natAbs<2^64)
def J0:=fI (fun _ _=>true) fun i j=>.int (i-j)
def HE:=fI Bk fun i j=>.int (i * j)
def Da:=fI FB fun i j=>.int (i/j)
def P4:=fI (fun _ j=>decide (0<j)) fun i j=>.int (i%j)
def T4:=fI FC fun i j=>.int (i^j.toNat)
def Dc:=fI (fun _ _=>true) fun i j=>.int (i+j)
def xO:=fI (fun _ _=>true) fun i j=>.bl (decide (i<j))
def sB:=fI (fun _ _=>true) fun i j=>.bl (decide (i≤j))
def zK:=fI (fun _ _=>true) fun i j=>.bl (decide (j≤i))
theorem WC:qB X B (tQ fun i j=>.int (i-j)) J0:=DZ fun _ _ _ _=>by simp only[c4]
theorem MF:qB X B (tQ fun i j=>.int (i+j)) Dc:=DZ fun _ _ _ _=>by simp only[c4]
theorem WD:qB X B (rI Bc fun i j=>.int (i * j)) HE:=Cc (fun i j h=>by simpa [Bc,Bk]using h) fun _ _ _ _=>by simp only[c4]
theorem WE:qB X B (rI Gq fun i j=>.int (i/j)) Da:=Cc (fun i j h=>by simpa [Gq,FB]using h) fun _ _ _ _=>by simp only[c4]
theorem WG:qB X B (rI (fun _ j=>0<j) fun i j=>.int (i%j)) P4:=Cc (fun i j h=>by simpa using h) fun _ _ _ _=>by simp only[c4]
theorem WH:qB X B (rI Gr fun i j=>.int (i^j.toNat)) T4:=Cc (fun i j h=>by simpa [Gr,FC,and_assoc]using h) fun _ _ _ _=>by simp only[c4]
theorem WI:qB X B (tQ fun i j=>.bl (decide (i<j))) xO:=DZ fun _ _ _ _=>by simp only[c4]
theorem WJ:qB X B (tQ fun i j=>.bl (decide (i≤j))) sB:=DZ fun _ _ _ _=>by simp only[c4]
theorem WK:qB X B (tQ fun i j=>.bl (decide (j≤i))) zK:=DZ fun _ _ _ _=>by simp only[c4]
end
section
variable{pos:Pos}{a:Expr}{ta tb:Mo Bool}
theorem TD.bind{K:Qz}{m:Mo D}(r:Rel K B G σ env H)(e:m env=some (d,env'))
  (k:∀v G' H',Ev K B G σ env H G' σ env' H'->c4 K G' v d->Q v H'):TD K B m σ H Q:=⟨G,env,d,env',r,e,k⟩
def zL:D×c5->Option (Bool×c5)
 |(.bl b,e)=>some (b,e)
 |_=>none
def mT(m:Mo D):Mo Bool:=fun env=>(m env).bind zL
theorem HF{t:TE}{m:Mo D}(i:∀σ H Q,TD X.K B m σ H Q->t σ H Q)(mono:True):∀σ H Q,sY X.K B (mT m) σ H Q->(fun σ H (Q:Bool->Hp->Prop)=>t σ H fun x H'=>∃k,x=.bl k/\Q k H') σ H Q:=by
 rintro σ H Q ⟨G,env,b,env',rl,e,k⟩;unfold mT at e;cases em:m env with
 |none=>rw[em]at e;cases e
 |some p=>
  obtain⟨d,a8⟩:=p;rw[em]at e;simp only[Qj]at e;cases d<;>first|(exact absurd (show(none:Option (Bool×c5))=some (b,env')from e) (by simp))|skip
  cases e;refine i σ H _ (.bind rl em fun v G' H' ev r=>?_)
  simp only[c4]at r;exact⟨_,r,k G' H' ev⟩
theorem O5(h:ED X B e ma)(he:∀whole,isTrue e X.env whole=(do let v←whole;standAt e.pos;holding [v] (truthy v)):=by intro _;rfl):ET X B e (mT ma):=
 sN (Sr h he) (HF (fun _ _ _ q=>q) trivial)
theorem K2{f:D->D->Option D}(ho:o3 X (compareOp op) r)(o:qB X B r f)(ha:ED X B a ma)(hb:ED X B b mb)(hm:behindInMarks op b=false):ET X B (.Compare a [op] [b] pos) (mT (B6 f ma mb)):=
 sN (UW ho ha hb hm) (HF (FA o) trivial)
def G8(t:Mo Bool):Mo Bool:=fun env=>(t env).map fun p=>(!p.1,p.2)
theorem O6(h:ET X B a ta):ET X B (.UnaryOp .Not a pos) (G8 ta):=by
 refine sN (Sy h) ?_
 rintro σ H Q ⟨G,env,b,env',rl,e,k⟩;unfold G8 at e;cases em:ta env with
 |none=>rw[em]at e;cases e
 |some p=>rw[em]at e;cases e;exact⟨G,env,_,_,rl,em,k⟩
def S7(t u:Mo Bool):Mo Bool:=fun env=>(t env).bind fun p=>if p.1 then u p.2 else some (false,p.2)
def P5(t u:Mo Bool):Mo Bool:=fun env=>(t env).bind fun p=>if p.1 then some (true,p.2)else u p.2
theorem WL:∀σ H Q,sY X.K B (S7 ta tb) σ H Q->LQ (sY X.K B ta) (sY X.K B tb) σ H Q:=by
 rintro σ H Q ⟨G,env,b,env',rl,e,k⟩;unfold S7 at e;cases em:ta env with
 |none=>rw[em]at e;cases e
 |some p=>
  obtain⟨b1,a8⟩:=p;rw[em]at e;simp only[Qj]at e;refine⟨G,env,b1,a8,rl,em,fun G1 H1 ev=>?_⟩
  cases b1 with
  |true=>
   simp only[Zn]at e ⊢;exact⟨G1,a8,b,env',ev.rel,e,fun G2 H2 f7=>k G2 H2 (ev.trans f7)⟩
  |false=>
   simp only[Zx,Ys]at e ⊢;cases e;exact k G1 H1 ev
theorem WM:∀σ H Q,sY X.K B (P5 ta tb) σ H Q->tOr (sY X.K B ta) (sY X.K B tb) σ H Q:=by
 rintro σ H Q ⟨G,env,b,env',rl,e,k⟩;unfold P5 at e;cases em:ta env with
 |none=>rw[em]at e;cases e
 |some p=>
  obtain⟨b1,a8⟩:=p;rw[em]at e;simp only[Qj]at e;refine⟨G,env,b1,a8,rl,em,fun G1 H1 ev=>?_⟩
  cases b1 with
  |false=>
   simp only[Zx,Ys]at e ⊢;exact⟨G1,a8,b,env',ev.rel,e,fun G2 H2 f7=>k G2 H2 (ev.trans f7)⟩
  |true=>
   simp only[Zn]at e ⊢;cases e;exact k G1 H1 ev
abbrev EW(X:Cx)(B:OA)(e:Expr)(m:Mo Bool):Prop:=PW X e (sY X.K B m)
variable{rest:List Expr}
theorem De(h:ET X B a ta):EW X B (.BoolOp .And [a] pos) ta:=Su h
theorem Av(h:ET X B a ta):EW X B (.BoolOp .Or [a] pos) ta:=Sv h
theorem Dg(h:ET X B a ta)(h2:EW X B (.BoolOp .And (b::rest) pos) tb):EW X B (.BoolOp .And (a::b::rest) pos) (S7 ta tb):=pw_imp (Sw h h2) WL
theorem Aw(h:ET X B a ta)(h2:EW X B (.BoolOp .Or (b::rest) pos) tb):EW X B (.BoolOp .Or (a::b::rest) pos) (P5 ta tb):=pw_imp (Sx h h2) WM
theorem W6(h:EW X B e ta):ET X B e ta:=h.pt
def R5(m n:Mo D):Mo D:=fun env=>(m env).bind fun p=>match p.1 with
 |.bl true=>n p.2
 |.bl false=>some (.bl false,p.2)
 |_=>none
theorem AX{op}(h:ED X B a ma):ED X B (.BoolOp op [a] pos) ma:=TC h
theorem AD(ha:ED X B a ma)(hb:ED X B (.BoolOp .And (b::rest) pos) mb):ED X B (.BoolOp .And (a::b::rest) pos) (R5 ma mb):=by
 refine c8 (TJ ha hb) ?_
 rintro σ H Q ⟨G,env,d,env',rl,e,k⟩;unfold R5 at e;cases em:ma env with
 |none=>rw[em]at e;cases e
 |some p=>
  obtain⟨d1,a8⟩:=p;rw[em]at e;simp only[Qj]at e;refine .bind rl em fun v G1 H1 ev r1=>?_
  split at e
  ·simp only[c4]at r1
   exact⟨true,r1,by simp only[Zn];exact .bind ev.rel e fun v2 G2 H2 f7 r2=>k v2 G2 H2 (ev.trans f7) r2⟩
  ·simp only[c4]at r1
   cases e;exact⟨false,r1,by simp only[Zx,Ys];exact k _ G1 H1 ev (by simp only[c4])⟩
  ·cases e
def FD(m:Mo D):Mo D:=fun env=>(m env).bind fun p=>match p.1 with
 |.bl b=>some (.bl (!b),p.2)
 |_=>none
theorem HH(ha:ED X B a ma):ED X B (.UnaryOp .Not a pos) (FD ma):=by
 refine c8 (TK ha) ?_
 rintro σ H Q ⟨G,env,d,env',rl,e,k⟩;unfold FD at e;cases em:ma env with
 |none=>rw[em]at e;cases e
 |some p=>
  obtain⟨d1,a8⟩:=p;rw[em]at e;simp only[Qj]at e;refine .bind rl em fun v G1 H1 ev r1=>?_
  split at e
  ·rename_i b1
   simp only[c4]at r1;cases e;exact⟨b1,r1,k _ G1 H1 ev (by simp only[c4])⟩
  ·cases e
def Q5(m:Mo D):Mo D:=fun env=>(m env).bind fun p=>match p.1 with
 |.int b=>some (.int (-b),p.2)
 |_=>none
theorem AY(ha:ED X B a ma):ED X B (.UnaryOp .USub a pos) (Q5 ma):=by
 refine c8 (La Lb ha) ?_
 rintro σ H Q ⟨G,env,d,env',rl,e,k⟩;unfold Q5 at e;cases em:ma env with
 |none=>rw[em]at e;cases e
 |some p=>
  obtain⟨d1,a8⟩:=p;rw[em]at e;simp only[Qj]at e;refine .bind rl em fun v G1 H1 ev r1=>?_
  split at e
  ·rename_i b1
   simp only[c4]at r1;cases e;exact⟨b1,r1,k _ G1 H1 ev (by simp only[c4])⟩
  ·cases e
def T5(f g:D->D->Option D)(ma mb mc:Mo D):Mo D:=fun env=>(ma env).bind fun p=>(mb p.2).bind fun q=>match f p.1 q.1 with
 |some (.bl true)=>(mc q.2).bind fun r=>(g q.1 r.1).map fun d=>(d,r.2)
 |some (.bl false)=>some (.bl false,q.2)
 |_=>none
theorem MG{f g:D->D->Option D}(o:qB X B r f)(o':qB X B r' g):∀σ H Q,TD X.K B (T5 f g ma mb mc) σ H Q->Gs r r' (TD X.K B ma) (TD X.K B mb) (TD X.K B mc) σ H Q:=by
 rintro σ H Q ⟨G,env,d,env',rl,e,k⟩;unfold T5 at e;cases ea:ma env with
 |none=>rw[ea]at e;cases e
 |some p=>
  obtain⟨d1,a8⟩:=p;rw[ea]at e;simp only[Qj]at e;cases eb:mb a8 with
  |none=>rw[eb]at e;cases e
  |some p=>
   obtain⟨d2,i5⟩:=p;rw[eb]at e;simp only[Qj]at e;refine .bind rl ea fun v1 G1 H1 m9 r1=>.bind m9.rel eb fun v2 G2 H2 f7 r2=>?_
   split at e
   ·rename_i ef
    refine o G2 σ _ H2 v1 v2 d1 d2 _ _ f7.rel (c4.mono f7.same _ r1) r2 ef fun v3 G3 H3 qX r3=>?_
    simp only[c4]at r3;refine⟨true,r3,?_⟩;simp only[Zn];cases ec:mc i5 with
    |none=>rw[ec]at e;cases e
    |some p=>
     obtain⟨d3,sW⟩:=p;rw[ec]at e;simp only[Qj]at e;cases eg:g d2 d3 with
     |none=>rw[eg]at e;cases e
     |some d4=>
      rw[eg]at e;cases e;refine .bind qX.rel ec fun v4 G4 H4 tN r4=>?_
      exact o' G4 σ _ H4 v2 v4 d2 d3 _ Q tN.rel (c4.mono tN.same _ (c4.mono qX.same _ r2)) r4 eg fun v5 G5 H5 vN r5=>k v5 G5 H5 ((((m9.trans f7).trans qX).trans tN).trans vN) r5
   ·rename_i ef
    cases e;refine o G2 σ _ H2 v1 v2 d1 d2 _ _ f7.rel (c4.mono f7.same _ r1) r2 ef fun v3 G3 H3 qX r3=>?_
    simp only[c4]at r3;refine⟨false,r3,?_⟩;simp only[Zx,Ys];exact k _ G3 H3 ((m9.trans f7).trans qX) (by simp only[c4])
   ·cases e
theorem HI{f g:D->D->Option D}(ho:o3 X (compareOp op) r)(ho':o3 X (compareOp op') r')(o:qB X B r f)(o':qB X B r' g)(ha:ED X B a ma)(hb:ED X B b mb)(hc:ED X B c mc)
  (hm:lastMarks [op,op'] [b,c]=false:=by with_unfolding_all rfl):ED X B (.Compare a [op,op'] [b,c] pos) (T5 f g ma mb mc):=c8 (UX ho ho' ha hb hc hm) (MG o o')
theorem Dh{f g:D->D->Option D}(ho:o3 X (compareOp op) r)(ho':o3 X (compareOp op') r')(o:qB X B r f)(o':qB X B r' g)(ha:ED X B a ma)(hb:ED X B b mb)(hc:ED X B c mc)
  (hm:lastMarks [op,op'] [b,c]=false:=by with_unfolding_all rfl):ET X B (.Compare a [op,op'] [b,c] pos) (mT (T5 f g ma mb mc)):=sN (UY ho ho' ha hb hc hm) (HF (MG o o') trivial)
def B4:Mo (List D):=fun env=>some ([],env)
def B0(m:Mo D)(ms:Mo (List D)):Mo (List D):=fun env=>(m env).bind fun p=>(ms p.2).map fun q=>(p.1::q.1,q.2)
theorem C1:uF X B [] B4:=by
 refine qT AA ?_
 rintro σ H Q ⟨G,env,d,env',rl,e,k⟩;cases e;exact k [] G H (.refl rl) d9
theorem B5(ha:ED X B e ma)(hr:uF X B es ms)(hs:starEach (e::es) X.env=(false,eval e X.env)::starEach es X.env:=by rfl):uF X B (e::es) (B0 ma ms):=by
 refine qT (R0 ha hr hs) ?_
 rintro σ H Q ⟨G,env,d,env',rl,e,k⟩;unfold B0 at e;cases ea:ma env with
 |none=>rw[ea]at e;cases e
 |some p=>
  obtain⟨d1,a8⟩:=p;rw[ea]at e;simp only[Qj]at e;cases eb:ms a8 with
  |none=>rw[eb]at e;cases e
  |some p=>
   obtain⟨d2,i5⟩:=p;rw[eb]at e;cases e;exact .bind rl ea fun v1 G1 H1 m9 r1=>⟨G1,a8,d2,_,m9.rel,eb,fun vs G2 H2 f7 r2=>k _ G2 H2 (m9.trans f7) (c9 (c4.mono f7.same _ r1) r2)⟩
def B9:Mo (List Ar):=fun env=>some ([],env)
def B7(m:Mo D)(ms:Mo (List Ar)):Mo (List Ar):=fun env=>(m env).bind fun p=>(ms p.2).map fun q=>(.d p.1::q.1,q.2)
def F5(i:Nat)(ms:Mo (List Ar)):Mo (List Ar):=fun env=>((env[i]?).bind W.mut).bind fun _=>(ms env).map fun q=>(.sl i::q.1,q.2)
theorem D0:vA X B [] B9:=by
 refine qT AA ?_
 rintro σ H Q ⟨G,env,d,env',rl,e,k⟩;cases e;exact k [] G H (.refl rl) (by simp only[l0])
theorem C5(ha:ED X B e ma)(hr:vA X B es as)(hs:starEach (e::es) X.env=(false,eval e X.env)::starEach es X.env:=by rfl):vA X B (e::es) (B7 ma as):=by
 refine qT (R0 ha hr hs) ?_
 rintro σ H Q ⟨G,env,d,env',rl,e,k⟩;unfold B7 at e;cases ea:ma env with
 |none=>rw[ea]at e;cases e
 |some p=>
  obtain⟨d1,a8⟩:=p;rw[ea]at e;simp only[Qj]at e;cases eb:as a8 with
  |none=>rw[eb]at e;cases e
  |some p=>
   obtain⟨d2,i5⟩:=p;rw[eb]at e;cases e;exact .bind rl ea fun v1 G1 H1 m9 r1=>⟨G1,a8,d2,_,m9.rel,eb,fun vs G2 H2 f7 r2=>k _ G2 H2 (m9.trans f7) (by simp only[l0];exact⟨_,_,rfl,c4.mono f7.same _ r1,r2⟩)⟩
theorem M4{p:Pos}(ha:PE X (.Name x p) (Q4 i))(hr:vA X B es as)(hs:starEach (.Name x p::es) X.env=(false,eval (.Name x p) X.env)::starEach es X.env:=by rfl):vA X B (.Name x p::es) (F5 i as):=by
 refine qT (R0 ha hr hs) ?_
 rintro σ H Q ⟨G,env,d,env',rl,e,k⟩;unfold F5 at e;cases ew:env[i]? with
 |none=>rw[ew]at e;cases e
 |some w=>
  rw[ew]at e;simp only[Qj]at e;cases em:w.mut with
  |none=>rw[em]at e;cases e
  |some ds=>
   rw[em]at e;simp only[Qj]at e;cases eb:as env with
   |none=>rw[eb]at e;cases e
   |some p=>
    obtain⟨d2,i5⟩:=p;rw[eb]at e;cases e;obtain⟨a',xs,hv,_⟩:=rl.own i w ds ew em;exact⟨_,hv,G,env,d2,_,rl,eb,fun vs G2 H2 f7 r2=>k _ G2 H2 f7 (by simp only[l0];exact⟨_,_,rfl,hv,r2⟩)⟩
end
section
variable{pos:Pos}{a:Expr}
theorem C6{o:Option α}{f:α->Option β}{y:β}(h:o.bind f=some y):∃x,o=some x/\f x=some y:=by
 cases o with
 |none=>cases h
 |some x=>exact⟨x,rfl,h⟩
theorem F4{o:Option α}{f:α->β}{y:β}(h:o.map f=some y):∃x,o=some x/\f x=y:=by
 cases o with
 |none=>cases h
 |some x=>exact⟨x,rfl,Zt h⟩
def C9(ms:Mo (List D)):Mo D:=fun env=>(ms env).bind fun p=>if p.1.length≤1000 then some (.tup p.1,p.2)else none
theorem F6{x1:Nat}(h:uF X B es ms):ED X B (.Tuple es x1 pos) (C9 ms):=by
 refine c8 (Lh h) ?_
 rintro σ H Q ⟨G,env,d,env',rl,e,k⟩;obtain⟨⟨ds,a8⟩,e1,e2⟩:=C6 e;dsimp only at e2;split at e2
 ·rename_i hl
  cases e2;refine⟨G,env,ds,_,rl,e1,fun vs G1 H1 ev r1=>⟨by rw[r1.length];exact Jj (Bf hl),fun p hp=>?_⟩⟩
  exact k _ _ _ (ev.trans (ev.rel.alloc hp)) (Bj G7 (C3.mono (Le.upd (ev.rel.gnone hp)) _ r1))
 ·cases e2
def J1(ms:Mo (List D)):Mo (List D):=fun env=>(ms env).bind fun p=>if p.1.length≤1000 then some p else none
theorem HJ{K:Qz}(ev:Ev K B G σ env H G1 σ a8 H1)(hp:H1 p=none)(r:C3 K G1 xs ds)
  (k:∀a xs G' H',Ev K B G σ env H G' σ a8 H'->H a=none-> ¬ d5 σ a8 a->H' a=some (.lst xs)->G' a=none->C3 K G' xs ds->Q (.ref a) H'):Q (.ref p) (upd H1 p (.lst xs)):=by
 refine k p xs G1 _ (ev.trans (ev.rel.allocM hp)) ?_ (ev.rel.unowned hp) G7 (ev.rel.gnone hp) r;cases h:H p with
 |none=>rfl
 |some o=>exact absurd hp (ev.live p (by rw[h];simp))
theorem L6(h:uF X B es ms):EL X B (.List es pos) (J1 ms):=by
 refine c8 (VC h) ?_
 rintro σ H Q ⟨G,env,d,env',rl,e,k⟩;obtain⟨⟨ds,a8⟩,e1,e2⟩:=C6 e;dsimp only at e2;split at e2
 ·rename_i hl
  cases e2;exact⟨G,env,_,_,rl,e1,fun vs G1 H1 ev r1=>⟨by rw[r1.length];exact Jj (Bf hl),fun p hp=>HJ ev hp r1 k⟩⟩
 ·cases e2
def mF(m:Mo (List D)):Mo D:=fun env=>(m env).map fun p=>(.lst p.1,p.2)
theorem F7(h:EL X B e ms):ED X B e (mF ms):=by
 refine c8 h ?_
 rintro σ H Q ⟨G,env,d,env',rl,e,k⟩;obtain⟨⟨ds,a8⟩,e1,e2⟩:=F4 e;cases e2;exact⟨G,env,ds,_,rl,e1,fun a xs G' H' ev ha no h' g' r=>k (.ref a) _ H' (ev.frz ha no h' g') (HD G7 (C3.mono (Le.upd g') ds r))⟩
theorem HK{K:Qz}{k:Int}(r:C3 K G xs ds)(h:tZ ds k=some d):∃x,tZ xs k=some x/\c4 K G x d:=by
 unfold tZ at h ⊢;rw[r.length];obtain⟨j,e1,e2⟩:=C6 h;rw[e1];exact r.get e2
def m7:D->D->Option D
 |.lst ds,.int k=>tZ ds k
 |.tup ds,.int k=>tZ ds k
 |_,_=>none
theorem WN:qB X B (rIx X.K) m7:=by
 intro G σ env H x y a b d Q rl ra rb e k;cases a<;>cases b<;>first|(exact absurd (show(none:Option D)=some d from e) (by simp))|skip
 ·simp only[c4]at ra rb
  obtain⟨p,xs,e1,q,r⟩:=ra;subst e1 rb;obtain⟨v,e3,e4⟩:=HK r e;exact .inr (.inl ⟨p,xs,_,v,rfl,rfl,rl.sub.sqT q,e3,k v G H (.refl rl) e4⟩)
 ·simp only[c4]at ra rb
  obtain⟨p,xs,e1,q,r⟩:=ra;subst e1 rb;obtain⟨v,e3,e4⟩:=HK r e;exact .inl ⟨p,xs,_,v,rfl,rfl,rl.sub.sqL q,e3,k v G H (.refl rl) e4⟩
theorem N7(ha:ED X B a ma)(hb:ED X B b mb)(hs:DV b):ED X B (.Subscript a b pos) (B6 m7 ma mb):=c8 (Lr VO ha hb hs) (FA WN)
def N8(i:Nat)(mb:Mo D):Mo D:=fun env=>(mb env).bind fun p=>((p.2[i]?).bind W.mutL).bind fun ds=>(m7 (.lst ds) p.1).map fun d=>(d,p.2)
theorem AE{p:Pos}(ha:PE X (.Name x p) (Q4 i))(hb:ED X B b mb)(hs:DV b)(hr:∀env d env' w ds,mb env=some (d,env')->env'[i]? =some w->w.mut=some ds->∃w0 ds0,env[i]? =some w0/\w0.mut=some ds0):
  ED X B (.Subscript (.Name x p) b pos) (N8 i mb):=by
 refine c8 (Lr Lw ha hb hs) ?_
 rintro σ H Q ⟨G,env,d,env',rl,e,k⟩;obtain⟨⟨d1,a8⟩,e1,e2⟩:=C6 e;obtain⟨ds,e3,e4⟩:=C6 e2;obtain⟨w,e5,e6⟩:=C6 e3;obtain⟨d2,e7,e8⟩:=F4 e4;cases e8;obtain⟨w0,ds0,e9,e10⟩:=hr env d1 _ w (.l ds) e1 e5 (W.mutL_of e6);obtain⟨q,xs,h1,_⟩:=rl.own i w0 ds0 e9 e10;refine⟨_,h1,.bind rl e1 fun v G1 H1 ev r1=>?_⟩
 obtain⟨q',ys,h2,h3,h4,h5⟩:=ev.rel.ownL i w ds e5 e6;rw[h1]at h2;cases h2;dsimp only at e7;cases d1<;>first|(exact absurd (show(none:Option D)=some _ from e7) (by simp))|skip
 simp only[c4]at r1;obtain⟨z,h6,h7⟩:=HK h4 e7;exact⟨q,ys,_,z,rfl,r1,.inl (.inl h3),h6,k z G1 H1 ev h7⟩
def Y1(X:Cx)(B:OA)(r:List V->Hp->VK->Prop)(f:List D->Option D):Prop:=
 ∀(G:Hp) (σ:St) (env:c5) (H:Hp) (xs:List V) (ds:List D) (c:D) (Q:VK),Rel X.K B G σ env H->C3 X.K G xs ds->f ds=some c->
  (∀v G' H',Ev X.K B G σ env H G' σ env H'->c4 X.K G' v c->Q v H')->r xs H Q
def Cd(X:Cx)(B:OA)(r:List V->Hp->VK->Prop)(f:List D->Option (List D)):Prop:=
 ∀(G:Hp) (σ:St) (env:c5) (H:Hp) (xs:List V) (ds:List D) (c:List D) (Q:VK),Rel X.K B G σ env H->C3 X.K G xs ds->f ds=some c->
  (∀p ys G' H',Ev X.K B G σ env H G' σ env H'->H' p=none->C3 X.K G' ys c->Q (.ref p) (upd H' p (.lst ys)))->r xs H Q
def d6(f:List D->Option D)(ms:Mo (List D)):Mo D:=fun env=>(ms env).bind fun p=>(f p.1).map fun d=>(d,p.2)
def uX(f:List D->Option (List D))(ms:Mo (List D)):Mo (List D):=fun env=>(ms env).bind fun p=>(f p.1).map fun d=>(d,p.2)
theorem MH{r:List V->Hp->VK->Prop}{f:List D->Option D}(o:Y1 X B r f):∀σ H Q,TD X.K B (d6 f ms) σ H Q->zI r (TDs X.K B ms) σ H Q:=by
 rintro σ H Q ⟨G,env,d,env',rl,e,k⟩;obtain⟨⟨ds,a8⟩,e1,e2⟩:=C6 e;obtain⟨d1,e3,e4⟩:=F4 e2;cases e4;exact⟨G,env,ds,_,rl,e1,fun vs G1 H1 ev r1=>o G1 σ _ H1 vs ds _ Q ev.rel r1 e3 fun v G2 H2 f7 r2=>k v G2 H2 (ev.trans f7) r2⟩
theorem MI{r:List V->Hp->VK->Prop}{f:List D->Option (List D)}(o:Cd X B r f):∀σ H Q,TL X.K B (uX f ms) σ H Q->zI r (TDs X.K B ms) σ H Q:=by
 rintro σ H Q ⟨G,env,d,env',rl,e,k⟩;obtain⟨⟨ds,a8⟩,e1,e2⟩:=C6 e;obtain⟨d1,e3,e4⟩:=F4 e2;cases e4;exact⟨G,env,ds,_,rl,e1,fun vs G1 H1 ev r1=>o G1 σ _ H1 vs ds _ Q ev.rel r1 e3 fun p ys G2 H2 f7 hp r2=>HJ (ev.trans f7) hp r2 k⟩
variable{r:List V->Hp->VK->Prop}{f:List D->Option D}{g:List D->Option (List D)}{id:String}{p:Pos}
theorem J8(hc:M0 X (.builtin id) r)(o:Y1 X B r f)(hg:Gl X x)(hm:X.mg x=none)(hv:bootBuiltins x=some (.builtin id))(ha:uF X B (e::es) ms)(hn:x≠"__name__":=by decide)(hdb:(x==("__debug__":Str))=false:=by decide)
  (he:starEach (e::es) X.env=(false,eval e X.env)::starEach es X.env:=by rfl)(hpl:(backTo pos (starEach es X.env)).any (·.1)=false:=by rfl):ED X B (.Call (.Name x p) (e::es) [] pos) (d6 f ms):=
 c8 (CZ hc hg hm hv ha hn hdb he hpl) (MH o)
theorem Q6(hc:M0 X (.type T) r)(o:Y1 X B r f)(hg:Gl X x)(hm:X.mg x=none)(hv:bootBuiltins x=some (.type T))(ha:uF X B (e::es) ms)(hn:x≠"__name__":=by decide)(hdb:(x==("__debug__":Str))=false:=by decide)
  (he:starEach (e::es) X.env=(false,eval e X.env)::starEach es X.env:=by rfl)(hpl:(backTo pos (starEach es X.env)).any (·.1)=false:=by rfl):ED X B (.Call (.Name x p) (e::es) [] pos) (d6 f ms):=
 c8 (Lo hc hg hm hv ha hn hdb he hpl) (MH o)
theorem HL(hc:M0 X (.builtin id) r)(o:Cd X B r g)(hg:Gl X x)(hm:X.mg x=none)(hv:bootBuiltins x=some (.builtin id))(ha:uF X B (e::es) ms)(hn:x≠"__name__":=by decide)(hdb:(x==("__debug__":Str))=false:=by decide)
  (he:starEach (e::es) X.env=(false,eval e X.env)::starEach es X.env:=by rfl)(hpl:(backTo pos (starEach es X.env)).any (·.1)=false:=by rfl):EL X B (.Call (.Name x p) (e::es) [] pos) (uX g ms):=
 c8 (CZ hc hg hm hv ha hn hdb he hpl) (MI o)
theorem FE(hc:M0 X (.type T) r)(o:Cd X B r g)(hg:Gl X x)(hm:X.mg x=none)(hv:bootBuiltins x=some (.type T))(ha:uF X B (e::es) ms)(hn:x≠"__name__":=by decide)(hdb:(x==("__debug__":Str))=false:=by decide)
  (he:starEach (e::es) X.env=(false,eval e X.env)::starEach es X.env:=by rfl)(hpl:(backTo pos (starEach es X.env)).any (·.1)=false:=by rfl):EL X B (.Call (.Name x p) (e::es) [] pos) (uX g ms):=
 c8 (Lo hc hg hm hv ha hn hdb he hpl) (MI o)
theorem T6{K:Qz}(h:C3 K G xs [d]):∃x,xs=[x]/\c4 K G x d:=by
 simp only[C3]at h;obtain⟨x,r,e,q,t⟩:=h;subst t;exact⟨x,e,q⟩
theorem FF{K:Qz}{d':D}(h:C3 K G xs [d,d']):∃x y,xs=[x,y]/\c4 K G x d/\c4 K G y d':=by
 simp only[C3]at h;obtain⟨x,r,e,q,y,r2,e2,q2,t⟩:=h;subst t e2;exact⟨x,y,e,q,q2⟩
def D.items:D->Option (List D)
 |.lst ds=>some ds
 |.tup ds=>some ds
 |_=>none
theorem HM{K:Qz}(l:Le G H)(r:c4 K G v d)(h:d.items=some ds):∃a xs,v=.ref a/\(qK K H a xs\/qW K H a xs)/\C3 K G xs ds:=by
 cases d<;>first|(exact absurd (show(none:Option (List D))=some ds from h) (by simp))|skip
 ·cases h;simp only[c4]at r;obtain⟨a,xs,e,q,t⟩:=r;exact⟨a,xs,e,.inr (l.sqT q),t⟩
 ·cases h;simp only[c4]at r;obtain⟨a,xs,e,q,t⟩:=r;exact⟨a,xs,e,.inl (l.sqL q),t⟩
def E9:List D->Option D
 |[d]=>d.items.map fun ds=>.int ds.length
 |_=>none
theorem WO:Y1 X B (fun xs H Q=>∃p ys,xs=[.ref p]/\(qK X.K H p ys\/qW X.K H p ys)/\Q (.int ys.length) H) E9:=by
 intro G σ env H xs ds c Q rl r e k
 match ds,e with
 |[d],e=>
  obtain⟨x,rfl,q⟩:=T6 r;obtain⟨ds,e1,e2⟩:=F4 e;obtain⟨a,ys,rfl,h1,h2⟩:=HM rl.sub q e1;exact⟨a,ys,rfl,h1,k _ G H (.refl rl) (by rw[←e2,h2.length];simp only[c4])⟩
def K5:List D->Option D
 |[d]=>d.items.map fun ds=>.tup ds
 |_=>none
theorem WQ:Y1 X B (fun xs H Q=>∃p ys,xs=[.ref p]/\((qK X.K H p ys/\∀l,H l=none->Q (.ref l) (upd H l (.tup ys)))\/(qW X.K H p ys/\Q (.ref p) H))) K5:=by
 intro G σ env H xs ds c Q rl r e k
 match ds,e with
 |[d],e=>
  obtain⟨x,rfl,q⟩:=T6 r;obtain⟨ds,e1,e2⟩:=F4 e;subst e2;cases d<;>first|(exact absurd (show(none:Option (List D))=some ds from e1) (by simp))|skip
  ·cases e1
   have q0:=q
   simp only[c4]at q;obtain⟨a,ys,rfl,h1,h2⟩:=q;exact⟨a,ys,rfl,.inr ⟨rl.sub.sqT h1,k _ G H (.refl rl) q0⟩⟩
  ·cases e1
   simp only[c4]at q;obtain⟨a,ys,rfl,h1,h2⟩:=q;exact⟨a,ys,rfl,.inl ⟨rl.sub.sqL h1,fun l hl=>k _ _ _ (rl.alloc hl) (Bj G7 (C3.mono (Le.upd (rl.gnone hl)) _ h2))⟩⟩
def Bl:List D->Option (List D)
 |[d]=>d.items
 |_=>none
theorem WR:Cd X B (fun xs H Q=>∃p ys,xs=[.ref p]/\(qK X.K H p ys\/qW X.K H p ys)/\∀l,H l=none->Q (.ref l) (upd H l (.lst ys))) Bl:=by
 intro G σ env H xs ds c Q rl r e k
 match ds,e with
 |[d],e=>
  obtain⟨x,rfl,q⟩:=T6 r;obtain⟨a,ys,rfl,h1,h2⟩:=HM rl.sub q e;exact⟨a,ys,rfl,h1,fun l hl=>k l ys G H (.refl rl) hl h2⟩
end
section
variable{K:Qz}
theorem N3{l:List α}{a b:α}(h:(l.set i a)[j]? =some b):(j=i/\b=a)\/(j≠i/\l[j]? =some b):=by
 by_cases hj:j=i
 ·subst hj
  have hl:j<l.length:=by
   have:=(Qg.mp h).1;rwa [Zm]at this
  rw[Zr hl]at h;cases h;exact .inl ⟨rfl,rfl⟩
 ·rw[Qc (Zg hj)]at h
  exact .inr ⟨hj,h⟩
theorem Ce{l:List α}{m:List β}{a b:α}{c:β}(h:(l.set i a)[i]? =some b)(hl:l.length=m.length):(m.set i c)[i]? =some c:=by
 have:=(Qg.mp h).1;rw[Zm]at this;exact Zr (by omega)
theorem Ev.setDat(ev:Ev K B G σ env H G1 σ1 a8 H1)(r:c4 K G1 v d):Ev K B G σ env H G1 (σ1.set i (some v)) (a8.set i (.dat d)) H1:=by
 have rl:=ev.rel
 have ne:∀(j:Nat) (w:W) (es:Mu),(a8.set i (.dat d))[j]? =some w->w.mut=some es->j≠i/\a8[j]? =some w:=fun j w es q1 q2=>by
  rcases N3 q1 with⟨_,z⟩|z
  ·rw[z]at q2;cases q2
  ·exact z
 refine⟨⟨rl.sub,by rw[Zm,Zm];exact rl.len,fun j d' q=>?_,fun j w es q1 q2=>?_,fun j k w w' es fs b q1 q2 q3 q4 q5 q6=>?_,fun j w b q1 qo q2=>?_,rl.old,rl.tabs,rl.gnt⟩,ev.same,ev.keep,ev.live,ev.stay,fun b z=>?_,fun j w q qp=>?_,by rw[Zm];exact ev.slen⟩
 ·rcases N3 q with⟨z1,z2⟩|⟨z1,z2⟩
  ·subst z1;cases z2
   exact⟨v,Ce q rl.len,r⟩
  ·obtain⟨x,q1,q2⟩:=rl.dat j d' z2
   exact⟨x,by rw[Qc (Zg z1)];exact q1,q2⟩
 ·obtain⟨hj,q⟩:=ne j w es q1 q2
  obtain⟨p,ys,e3,e4⟩:=rl.own j w es q q2;exact⟨p,ys,by rw[Qc (Zg hj)];exact e3,e4⟩
 ·obtain⟨h1,h2⟩:=ne j w es q1 q2
  obtain⟨h3,h4⟩:=ne k w' fs q3 q4;rw[Qc (Zg h1)]at q5;rw[Qc (Zg h3)]at q6;exact rl.inj j k w w' es fs b h2 q2 h4 q4 q5 q6
 ·obtain⟨es,hm⟩:=sG qo
  obtain⟨h1,h2⟩:=ne j _ es q1 hm;rw[Qc (Zg h1)]at q2;exact rl.fresh j w b h2 qo q2
 ·obtain⟨j,w,es,q1,q2,q3⟩:=z
  obtain⟨h1,h2⟩:=ne j w es q1 q2;rw[Qc (Zg h1)]at q3;exact ev.sub b ⟨j,w,es,h2,q2,q3⟩
 ·obtain⟨es,hm⟩:=rA qp
  obtain⟨h1,h2⟩:=ne j _ es q hm;obtain⟨h3,h4⟩:=ev.par j w h2 qp;exact⟨by rw[Qc (Zg h1)];exact h3,h4⟩
theorem Ev.setOwnM{wn:W}(ev:Ev K B G σ env H G1 σ1 a8 H1)(nb:¬ B a)(ha:H a=none)(no:¬ d5 σ1 a8 a)(h1:H1 a=some o)(g1:G1 a=none)(r:qS K G1 o m)(wm:wn.mut=some m)(wo:wn.isPar=false):
  Ev K B G σ env H G1 (σ1.set i (some (.ref a))) (a8.set i wn) H1:=by
 have rl:=ev.rel
 refine⟨⟨rl.sub,by rw[Zm,Zm];exact rl.len,fun j d' q=>?_,fun j w es q1 q2=>?_,fun j k w w' es fs b q1 q2 q3 q4 q5 q6=>?_,fun j w b q1 qo q2=>?_,rl.old,rl.tabs,rl.gnt⟩,ev.same,ev.keep,ev.live,ev.stay,fun b z=>?_,fun j w q qp=>?_,by rw[Zm];exact ev.slen⟩
 ·rcases N3 q with⟨z1,z2⟩|⟨z1,z2⟩
  ·rw[←z2]at wm;cases wm
  ·obtain⟨x,q1,q2⟩:=rl.dat j d' z2
   exact⟨x,by rw[Qc (Zg z1)];exact q1,q2⟩
 ·rcases N3 q1 with⟨z1,z2⟩|⟨z1,z2⟩
  ·subst z1 z2;rw[wm]at q2;cases q2
   exact⟨a,o,Ce q1 rl.len,h1,r,g1⟩
  ·obtain⟨p,ys,e3,e4⟩:=rl.own j w es z2 q2
   exact⟨p,ys,by rw[Qc (Zg z1)];exact e3,e4⟩
 ·rcases N3 q1 with⟨z1,z2⟩|⟨z1,z2⟩
  ·rcases N3 q3 with⟨y1,y2⟩|⟨y1,y2⟩
   ·rw[z1,y1]
   ·subst z1
    rw[Ce q1 rl.len]at q5;cases q5;rw[Qc (Zg y1)]at q6;exact absurd ⟨k,w',fs,y2,q4,q6⟩ no
  ·rw[Qc (Zg z1)]at q5
   rcases N3 q3 with⟨y1,y2⟩|⟨y1,y2⟩
   ·subst y1
    rw[Ce q3 rl.len]at q6;cases q6;exact absurd ⟨j,w,es,z2,q2,q5⟩ no
   ·rw[Qc (Zg y1)]at q6
    exact rl.inj j k w w' es fs b z2 q2 y2 q4 q5 q6
 ·rcases N3 q1 with⟨z1,z2⟩|⟨z1,z2⟩
  ·subst z1
   rw[Ce q1 rl.len]at q2;cases q2;exact nb
  ·rw[Qc (Zg z1)]at q2
   exact rl.fresh j w b z2 qo q2
 ·obtain⟨j,w,es,q1,q2,q3⟩:=z
  rcases N3 q1 with⟨z1,z2⟩|⟨z1,z2⟩
  ·subst z1
   rw[Ce q1 rl.len]at q3;cases q3;exact .inr ha
  ·rw[Qc (Zg z1)]at q3
   exact ev.sub b ⟨j,w,es,z2,q2,q3⟩
 ·rcases N3 q with⟨z1,z2⟩|⟨z1,z2⟩
  ·rw[z2,wo]at qp;cases qp
  ·obtain⟨h3,h4⟩:=ev.par j w z2 qp
   exact⟨by rw[Qc (Zg z1)];exact h3,h4⟩
theorem Ev.setOwn(ev:Ev K B G σ env H G1 σ1 a8 H1)(nb:¬ B a)(ha:H a=none)(no:¬ d5 σ1 a8 a)(h1:H1 a=some (.lst xs))(g1:G1 a=none)(r:C3 K G1 xs ds):
  Ev K B G σ env H G1 (σ1.set i (some (.ref a))) (a8.set i (.own ds)) H1:=ev.setOwnM (m:=.l ds) nb ha no h1 g1 ⟨xs,rfl,r⟩ rfl rfl
theorem Ev.setNil(ev:Ev K B G σ env H G1 σ1 a8 H1):Ev K B G σ env H G1 σ1 (a8.set i .nil) H1:=by
 have rl:=ev.rel
 have ne:∀(j:Nat) (w:W),(a8.set i .nil)[j]? =some w->w≠.nil->j≠i/\a8[j]? =some w:=fun j w q1 q2=>by
  rcases N3 q1 with⟨_,z⟩|z
  ·exact absurd z q2
  ·exact z
 have nm:∀(w:W) (es:Mu),w.mut=some es->w≠.nil:=fun w es h z=>by rw[z]at h;cases h
 refine⟨⟨rl.sub,by rw[Zm];exact rl.len,fun j d' q=>rl.dat j d' (ne j _ q (by simp)).2,fun j w es q1 q2=>rl.own j w es (ne j w q1 (nm w es q2)).2 q2,fun j k w w' es fs b q1 q2 q3 q4 q5 q6=>rl.inj j k w w' es fs b (ne j w q1 (nm _ _ q2)).2 q2 (ne k w' q3 (nm _ _ q4)).2 q4 q5 q6,
  fun j w b q1 qo q2=>rl.fresh j w b (ne j _ q1 (by rintro rfl;cases qo)).2 qo q2,rl.old,rl.tabs,rl.gnt⟩,ev.same,ev.keep,ev.live,ev.stay,fun b z=>?_,fun j w q qp=>ev.par j w (ne j _ q (by rintro rfl;cases qp)).2 qp,ev.slen⟩
 obtain⟨j,w,es,q1,q2,q3⟩:=z;exact ev.sub b ⟨j,w,es,(ne j w q1 (nm _ _ q2)).2,q2,q3⟩
theorem Ev.writeM{o':HO}{m':Mu}(ev:Ev K B G σ env H G1 σ1 a8 H1)(e1:a8[i]? =some w)(e2:w.mut=some m)(e3:σ1[i]? =some (some (.ref a)))(r:qS K G1 o' m'):
  Ev K B G σ env H G1 σ1 (a8.set i (w.putM m')) (upd H1 a o'):=by
 have rl:=ev.rel
 obtain⟨a',o0,h1,h2,h3,h4⟩:=rl.own i w m e1 e2;rw[e3]at h1;cases h1;have ow:d5 σ1 a8 a:=⟨i,w,m,e1,e2,e3⟩;have wp:(w.putM m').mut=some m':=W.putM_mut e2 m';have nd:∀d,w.putM m'≠.dat d:=fun d z=>by rw[z]at wp;cases wp
 have oo:d5 σ env a\/H a=none:=ev.sub a ow
 refine⟨⟨fun b u e=>?_,by rw[Zm];exact rl.len,fun j d' q=>?_,fun j v es q1 q2=>?_,fun j k v v' es fs b q1 q2 q3 q4 q5 q6=>?_,fun j v b q1 qo q2=>?_,fun b hb=>?_,rl.tabs.upd r.nt (fun φ z=>by rw[h2]at z;cases z;exact h3.ne φ rfl),rl.gnt⟩,ev.same,fun b o n t e=>?_,fun b e=>?_,ev.stay,fun b z=>?_,fun j v q qp=>?_,ev.slen⟩
 ·have hb:b≠a:=fun z=>by rw[z,h4]at e;cases e
  rw[D3 hb];exact rl.sub b u e
 ·rcases N3 q with⟨z1,z2⟩|⟨z1,z2⟩
  ·exact absurd z2.symm (nd d')
  ·exact rl.dat j d' z2
 ·rcases N3 q1 with⟨z1,z2⟩|⟨z1,z2⟩
  ·subst z1 z2
   rw[wp]at q2;cases q2;exact⟨a,o',e3,G7,r,h4⟩
  ·obtain⟨p,ys,f1,f2,f3,f4⟩:=rl.own j v es z2 q2
   have hp:p≠a:=fun z=>z1 (rl.inj j i v w es m a z2 q2 e1 e2 (by rw[f1,z]) e3)
   exact⟨p,ys,f1,by rw[D3 hp];exact f2,f3,f4⟩
 ·have g:∀(n:Nat) (v:W) (es:Mu),(a8.set i (w.putM m'))[n]? =some v->v.mut=some es->∃v0 es0,a8[n]? =some v0/\v0.mut=some es0:=fun n v es y1 y2=>by
   rcases N3 y1 with⟨z1,z2⟩|⟨z1,z2⟩
   ·rw[z1];exact⟨w,m,e1,e2⟩
   ·exact⟨v,es,z2,y2⟩
  obtain⟨v0,es0,y1,y2⟩:=g j v es q1 q2;obtain⟨v1,es1,y3,y4⟩:=g k v' fs q3 q4;exact rl.inj j k v0 v1 es0 es1 b y1 y2 y3 y4 q5 q6
 ·rcases N3 q1 with⟨z1,z2⟩|⟨z1,z2⟩
  ·subst z1
   exact rl.fresh j w b e1 (by rw[z2,W.putM_own e2]at qo;exact qo) q2
  ·exact rl.fresh j v b z2 qo q2
 ·by_cases h:b=a
  ·subst h;rw[G7];simp
  ·rw[D3 h];exact rl.old b hb
 ·have hb:b≠a:=fun z=>by
   rcases oo with q|q
   ·exact n (z ▸ q)
   ·rw[z,q]at e;cases e
  rw[D3 hb];exact ev.keep b o n t e
 ·by_cases h:b=a
  ·subst h;rw[G7];simp
  ·rw[D3 h];exact ev.live b e
 ·obtain⟨j,v,es,q1,q2,q3⟩:=z
  rcases N3 q1 with⟨z1,z2⟩|⟨z1,z2⟩
  ·rw[z1,e3]at q3;cases q3
   exact oo
  ·exact ev.sub b ⟨j,v,es,z2,q2,q3⟩
 ·rcases N3 q with⟨z1,z2⟩|⟨z1,z2⟩
  ·subst z1
   exact ev.par j w e1 (by rw[z2,W.putM_par e2]at qp;exact qp)
  ·exact ev.par j v z2 qp
theorem Ev.write{xs':List V}{ds':List D}(ev:Ev K B G σ env H G1 σ1 a8 H1)(e1:a8[i]? =some w)(e2:w.mutL=some ds)(e3:σ1[i]? =some (some (.ref a)))(r:C3 K G1 xs' ds'):
  Ev K B G σ env H G1 σ1 (a8.set i (w.put ds')) (upd H1 a (.lst xs')):=by
 rw[W.put_eq e2];exact ev.writeM e1 (W.mutL_of e2) e3 ⟨xs',rfl,r⟩
end
section
variable{pos:Pos}{a:Expr}{st:Stmt}{rest:List Stmt}{s1 s2:Mo Fl}
def n5:Mo Fl:=fun env=>some (.nx,env)
def C4(m n:Mo Fl):Mo Fl:=fun env=>(m env).bind fun p=>match p.1 with
 |.nx=>n p.2
 |fl=>some (fl,p.2)
theorem J9:vM X B [] n5:=by
 refine tF TV ?_
 rintro D σ H ⟨G,env,fl,env',rl,e,k⟩;cases e;exact k σ G H (.refl rl)
theorem C7(h1:ES X B st s1)(h2:vM X B rest s2):vM X B (st::rest) (C4 s1 s2):=by
 refine tF (CT h1 h2) ?_
 rintro D σ H ⟨G,env,fl,env',rl,e,k⟩;obtain⟨⟨fl1,a8⟩,e1,e2⟩:=C6 e;dsimp only at e2;cases fl1 with
 |nx=>
  dsimp only at e2;exact⟨G,env,.nx,a8,rl,e1,fun σ1 G1 H1 ev=>⟨G1,a8,fl,env',ev.rel,e2,Post.after _ _ k ev⟩⟩
 |bk=>cases e2;exact⟨G,env,.bk,_,rl,e1,k⟩
 |ct=>cases e2;exact⟨G,env,.ct,_,rl,e1,k⟩
 |ret d=>cases e2;exact⟨G,env,.ret d,_,rl,e1,k⟩
 |retL d=>cases e2;exact⟨G,env,.retL d,_,rl,e1,k⟩
theorem C8(h1:ES X B st s1):vM X B [st] s1:=LR h1
def F1(t:Mo Bool)(m n:Mo Fl):Mo Fl:=fun env=>(t env).bind fun p=>if p.1 then m p.2 else n p.2
theorem K0{s t:List Stmt}{tc:Mo Bool}(hc:ET X B c tc)(h1:vM X B s s1)(h2:vM X B t s2):ES X B (.If c s t pos) (F1 tc s1 s2):=by
 refine m5 (LU hc h1 h2) ?_
 rintro D σ H ⟨G,env,fl,env',rl,e,k⟩;obtain⟨⟨b1,a8⟩,e1,e2⟩:=C6 e;dsimp only at e2;refine⟨G,env,b1,a8,rl,e1,fun G1 H1 ev=>?_⟩
 cases b1 with
 |true=>simp only[Zn]at e2 ⊢;exact⟨G1,a8,fl,env',ev.rel,e2,Post.after _ _ k ev⟩
 |false=>simp only[Zx,Ys]at e2 ⊢;exact⟨G1,a8,fl,env',ev.rel,e2,Post.after _ _ k ev⟩
def FG:Mo Fl:=fun _=>none
theorem FH:ES X B st FG:=by
 refine m5 Tc ?_
 rintro D σ H ⟨G,env,fl,env',rl,e,k⟩;cases e
def D1(m:Mo D):Mo Fl:=fun env=>(m env).map fun p=>(.ret p.1,p.2)
theorem E8(h:ED X B e ma):ES X B (.Return (some e) pos) (D1 ma):=by
 refine m5 (LS h) ?_
 rintro D σ H ⟨G,env,fl,env',rl,e,k⟩;obtain⟨⟨d,a8⟩,e1,e2⟩:=F4 e;cases e2;exact⟨G,env,d,_,rl,e1,fun v G' H' ev r=>k v σ G' H' ev r⟩
def T7(m:Mo (List D)):Mo Fl:=fun env=>(m env).map fun p=>(.retL p.1,p.2)
theorem Y2(h:EL X B e ms):ES X B (.Return (some e) pos) (T7 ms):=by
 refine m5 (LS h) ?_
 rintro D σ H ⟨G,env,fl,env',rl,e,k⟩;obtain⟨⟨d,a8⟩,e1,e2⟩:=F4 e;cases e2;exact⟨G,env,d,_,rl,e1,fun a xs G' H' ev ha no h' g' r=>k a xs σ G' H' ev (fun z=>rl.old a z ha) no h' g' r⟩
def pI(i:Nat):Mo Fl:=fun env=>match env[i]? with
 |some (.own ds)=>some (.retL ds,env.set i .nil)
 |_=>none
def D7(i:Nat)(m:Mo D):Mo Fl:=fun env=>(m env).map fun p=>(.nx,p.2.set i (.dat p.1))
def K7(i:Nat)(m:Mo (List D)):Mo Fl:=fun env=>(m env).map fun p=>(.nx,p.2.set i (.own p.1))
section
variable{pos':Pos}
theorem J2(hN:X.N.Nodup)(hi:X.N[i]? =some x)(hx:Loc X.env.scope x)(he:ED X B e ma)(hs:swapsWith e (some (.Name x pos')) pos.line X.env=pure false:=by rfl)(hf:X.fn x=true\/X.env.scope.names.lookup x=some .local:=by first|exact .inl rfl|exact .inr rfl|assumption):
  ES X B (.Assign [.Name x pos'] e pos) (D7 i ma):=by
 refine m5 (DR hN hi hx he hs hf) ?_
 rintro D σ H ⟨G,env,fl,env',rl,e,k⟩;obtain⟨⟨d,a8⟩,e1,e2⟩:=F4 e;cases e2;exact⟨G,env,d,_,rl,e1,fun v G' H' ev r=>k _ G' H' (ev.setDat r)⟩
theorem T8(hN:X.N.Nodup)(hi:X.N[i]? =some x)(hx:Loc X.env.scope x)(he:EL X B e ms)(hs:swapsWith e (some (.Name x pos')) pos.line X.env=pure false:=by rfl)(hf:X.fn x=true\/X.env.scope.names.lookup x=some .local:=by first|exact .inl rfl|exact .inr rfl|assumption):
  ES X B (.Assign [.Name x pos'] e pos) (K7 i ms):=by
 refine m5 (DR hN hi hx he hs hf) ?_
 rintro D σ H ⟨G,env,fl,env',rl,e,k⟩;obtain⟨⟨d,a8⟩,e1,e2⟩:=F4 e;cases e2;exact⟨G,env,d,_,rl,e1,fun a xs G' H' ev ha no h' g' r=>k _ G' H' (ev.setOwn (fun z=>rl.old a z ha) ha no h' g' r)⟩
def AZ(i:Nat)(f:D->D->Option D)(m:Mo D):Mo Fl:=fun env=>match env[i]? with
 |some (.dat d0)=>(m env).bind fun p=>(f d0 p.1).map fun d=>(.nx,p.2.set i (.dat d))
 |_=>none
theorem Bm{op:Operator}{f:D->D->Option D}(hN:X.N.Nodup)(hi:X.N[i]? =some x)(hx:Loc X.env.scope x)(he:ED X B e ma)(ho:o3 X (inplaceOp op) r)(o:qB X B r f)
  (hf:X.fn x=true\/X.env.scope.names.lookup x=some .local:=by first|exact .inl rfl|exact .inr rfl|assumption):ES X B (.AugAssign (.Name x pos') op e pos) (AZ i f ma):=by
 refine m5 (Tp hN hi hx he (ti:=r) (fun pins s σ H x y v u Q I rx ry q=>ho pins s σ H x y v u Q I rx ry q) hf) ?_
 rintro D σ H ⟨G,env,fl,env',rl,e,k⟩;unfold AZ at e;split at e
 ·rename_i d0 e0
  obtain⟨⟨d,a8⟩,e1,e2⟩:=C6 e;obtain⟨d2,e3,e4⟩:=F4 e2;cases e4;obtain⟨v0,h0,r0⟩:=rl.dat i d0 e0;exact⟨v0,h0,.bind rl e1 fun v G' H' ev r1=>o G' σ _ H' v0 v d0 d _ _ ev.rel (c4.mono ev.same _ r0) r1 e3 fun v2 G2 H2 f7 r2=>k _ G2 H2 ((ev.trans f7).setDat r2)⟩
 ·cases e
end
def T9(i:Nat)(m:Mo D):Mo Fl:=fun env=>((env[i]?).bind W.mutL).bind fun _=>(m env).bind fun p=>(p.2[i]?).bind fun w=>w.mutL.bind fun ds=>if ds.length<100000 then some (.nx,p.2.set i (w.put (ds++[p.1])))else none
theorem Ax{p apos cpos:Pos}(ho:PE X (.Name x p) (Q4 i))(ha:uF X B [e] (B0 ma B4))
  (hbase:attributeBase (.Name x p) "append" X.env (eval (.Name x p) X.env)=eval (.Name x p) X.env:=by rfl)
  (hfew:((backTo cpos (starEach [e] X.env)).all (fun x=>!x.1)&&(backToKw cpos (keywordEach [] X.env)).all (fun x=>x.1.isSome)
   &&decide ([e].length+([]:List Keyword).length+(if([]:List Keyword).isEmpty then 0 else 1)<30))=true:=by rfl)
  (hline:(apos.endLine==cpos.line)=true:=by rfl)(hs:starEach [e] X.env=(false,eval e X.env)::starEach [] X.env:=by rfl)(hplain:(backTo cpos (starEach [] X.env)).any (·.1)=false:=by rfl)
  (hsw:swapsWith (.Call (.Attribute (.Name x p) "append" apos) [e] [] cpos) none pos.line X.env=pure false:=by rfl):
  ES X B (.Expr (.Call (.Attribute (.Name x p) "append" apos) [e] [] cpos) pos) (T9 i ma):=by
 refine m5 (Gj (Gz PySem.F.plainAttrs_list PySem.F.slot_list_append PySem.F.type_list_append Lz ho ha hbase hfew hline hs hplain) hsw) ?_
 rintro D σ H ⟨G,env,fl,env',rl,e,k⟩;obtain⟨ds0,e0,e⟩:=C6 e;obtain⟨w0,e00,em0⟩:=C6 e0;obtain⟨⟨d,a8⟩,e1,e2⟩:=C6 e;obtain⟨w,e3,e4⟩:=C6 e2;obtain⟨ds,e5,e6⟩:=C6 e4;dsimp only at e3 e6;split at e6
 ·rename_i hl
  cases e6;obtain⟨q,xs0,h1,h2,h3,h4⟩:=rl.ownL i w0 ds0 e00 em0;refine⟨_,h1,.inl ⟨rfl,xs0,.inl (.inl h2)⟩,G,env,[d],a8,rl,by show(ma env).bind _=_;rw[e1];rfl,fun vs G1 H1 ev r1=>?_⟩
  obtain⟨v,rfl,rv⟩:=T6 r1;obtain⟨q',xs,g1,g2,g3,g4⟩:=ev.rel.ownL i w ds e3 e5;rw[h1]at g1;cases g1;have hz:xs.length<sizeLine:=by rw[g3.length];exact Us hl (by decide)
  exact⟨q,xs,v,rfl,rfl,g2,hz,k _ G1 _ (ev.write e3 e5 h1 (g3.append (c9 rv d9)))⟩
 ·cases e6
end
section
variable(K:Qz)(B:OA)
def zM(n:Nat)(g:OZ):TG:=fun v σ H Q=>∃G env d env',Rel K B G σ env H/\c4 K G v d/\g d env=some env'/\∀σ' G' H',Ev K B G σ env H G' σ' env' H'->(∀j,j<n->σ'[j]? =σ[j]?)->Q σ' H'
def WS(n:Nat)(g:List D->c5->Option c5):wF:=fun vs σ H Q=>∃G env ds env',Rel K B G σ env H/\C3 K G vs ds/\g ds env=some env'/\∀σ' G' H',Ev K B G σ env H G' σ' env' H'->(∀j,j<n->σ'[j]? =σ[j]?)->Q σ' H'
end
abbrev EG(X:Cx)(B:OA)(n:Nat)(e:Expr)(g:OZ):Prop:=PG X e (zM X.K B n g)
abbrev zN(X:Cx)(B:OA)(n:Nat)(es:List Expr)(g:List D->c5->Option c5):Prop:=wM X es (WS X.K B n g)
theorem FI{t t':TG}(h:PG X e t)(i:∀v σ H Q,t' v σ H Q->t v σ H Q):PG X e t':=fun pins s σ H v u Q I r q=>h pins s σ H v u Q I r (i v σ H Q q)
theorem MJ{e:List Expr}{t t':wF}(h:wM X e t)(i:∀v σ H Q,t' v σ H Q->t v σ H Q):wM X e t':=fun pins s σ H v u Q I r q=>h pins s σ H v u Q I r (i v σ H Q q)
def gN(i:Nat):OZ:=fun d env=>some (env.set i (.dat d))
def pZ:List D->c5->Option c5:=fun ds env=>match ds with
 |[]=>some env
 |_=>none
def j3(g:OZ)(gs:List D->c5->Option c5):List D->c5->Option c5:=fun ds env=>match ds with
 |d::ds=>(g d env).bind (gs ds)
 |[]=>none
def gT(n:Nat)(gs:List D->c5->Option c5):OZ:=fun d env=>match d with
 |.tup ds=>if ds.length=n then gs ds env else none
 |_=>none
section
variable{pos:Pos}{a:Expr}{g:OZ}{gs:List D->c5->Option c5}
theorem E6(hn:n≤i)(hN:X.N.Nodup)(hi:X.N[i]? =some x)(hx:Loc X.env.scope x)(hf:X.fn x=true\/X.env.scope.names.lookup x=some .local:=by first|exact .inl rfl|exact .inr rfl|assumption):EG X B n (.Name x pos) (gN i):=by
 refine FI (Td hN hi hx hf) ?_
 rintro v σ H Q ⟨G,env,d,env',rl,r,e,k⟩;cases e;exact k _ G H ((Ev.refl rl).setDat r) fun j hj=>Qc (by omega)
theorem R6:zN X B n [] pZ:=by
 refine MJ Tg ?_
 rintro vs σ H Q ⟨G,env,ds,env',rl,r,e,k⟩;unfold pZ at e;split at e
 ·cases e
  simp only[C3]at r;exact⟨r,k _ G H (.refl rl) fun _ _=>rfl⟩
 ·cases e
theorem K8(h1:EG X B n e g)(h2:zN X B n es gs)(hs:(assignEach (e::es) X.env).map (·.2)=assign e X.env::(assignEach es X.env).map (·.2):=by rfl):zN X B n (e::es) (j3 g gs):=by
 refine MJ (Th h1 h2 hs) ?_
 rintro vs σ H Q ⟨G,env,ds,env',rl,r,e,k⟩;unfold j3 at e;split at e
 ·rename_i d ds
  obtain⟨a8,e1,e2⟩:=C6 e;simp only[C3]at r;obtain⟨x,xs,e3,r1,r2⟩:=r;exact⟨x,xs,e3,G,env,d,a8,rl,r1,e1,fun σ1 G1 H1 ev y1=>⟨G1,a8,ds,env',ev.rel,C3.mono ev.same _ r2,e2,fun σ2 G2 H2 f7 y2=>k σ2 G2 H2 (ev.trans f7) fun j hj=>(y2 j hj).trans (y1 j hj)⟩⟩
 ·cases e
theorem R7{nb k':Nat}(hc:X.calm=true)(h:zN X B nb es gs)(hn:(assignEach es X.env).length=n:=by rfl)(hst:(assignEach es X.env).findIdx? (·.1)=none:=by rfl):EG X B nb (.Tuple es k' pos) (gT n gs):=by
 refine FI (Tj hc h hn hst) ?_
 rintro v σ H Q ⟨G,env,d,env',rl,r,e,k⟩;unfold gT at e;split at e
 ·rename_i ds
  split at e
  ·rename_i hl
   simp only[c4]at r;obtain⟨p,xs,e1,q,t⟩:=r;exact⟨p,xs,e1,rl.sub.sqT q,t.length.trans hl,G,env,ds,env',rl,t,e,k⟩
  ·cases e
 ·cases e
def gS(s:Nat)(mi:Mo D):OZ:=fun d env=>((env[s]?).bind W.mutL).bind fun _=>(mi env).bind fun p=>match p.1 with
 |.int k=>(p.2[s]?).bind fun w=>w.mutL.bind fun ds=>(vK ds.length k).map fun j=>p.2.set s (w.put (ds.set j d))
 |_=>none
theorem Di{s:Nat}{p:Pos}(ho:PE X (.Name x p) (Q4 s))(hi:ED X B b mb)
  (ha:∀v,assign (.Subscript (.Name x p) b pos) X.env v=(do
   let ov←holding [v] (eval (.Name x p) X.env)
   let iv←holding [v,ov] (eval b X.env)
   standAt pos
   holding [v,ov,iv] (setItem ov iv v)
   release [v,ov,iv] []):=by intro _;rfl):EG X B n (.Subscript (.Name x p) b pos) (gS s mb):=by
 refine FI (LX ho hi VR ha) ?_
 rintro v σ H Q ⟨G,env,d,env',rl,r,e,k⟩;obtain⟨ds0,e0,e⟩:=C6 e;obtain⟨w0,e00,em0⟩:=C6 e0;obtain⟨⟨d1,a8⟩,e1,e2⟩:=C6 e;dsimp only at e2;split at e2
 ·rename_i kk
  obtain⟨w,e3,e4⟩:=C6 e2;obtain⟨ds,e5,e6⟩:=C6 e4;obtain⟨j,e7,e8⟩:=F4 e6;cases e8;obtain⟨q,xs0,h1,h2,h3,h4⟩:=rl.ownL s w0 ds0 e00 em0;refine⟨_,h1,.bind rl e1 fun iv G1 H1 ev r1=>?_⟩
  simp only[c4]at r1;obtain⟨q',xs,g1,g2,g3,g4⟩:=ev.rel.ownL s w ds e3 e5;rw[h1]at g1;cases g1;exact⟨q,xs,kk,j,rfl,r1,g2,by rw[g3.length];exact e7,k _ G1 _ (ev.write e3 e5 h1 (g3.set j (c4.mono ev.same _ r))) fun _ _=>rfl⟩
 ·cases e2
def Q3(m:Mo D)(g:OZ):Mo Fl:=fun env=>(m env).bind fun p=>(g p.1 p.2).map fun e=>(.nx,e)
theorem Ay(he:ED X B e ma)(hg:EG X B 0 tg g)(hs:swapsWithSole [tg] e pos.line X.env=pure false:=by rfl)(hw:swappedStores [tg] e X.env=pure none:=by rfl)
  (h1:(assignEach [tg] X.env).map (·.2)=[assign tg X.env]:=by rfl):ES X B (.Assign [tg] e pos) (Q3 ma g):=by
 refine m5 (Tn he hg hs hw h1) ?_
 rintro D σ H ⟨G,env,fl,env',rl,e,k⟩;obtain⟨⟨d1,a8⟩,e1,e2⟩:=C6 e;obtain⟨i5,e3,e4⟩:=F4 e2;cases e4;exact .bind rl e1 fun v G1 H1 ev r=>⟨G1,a8,d1,_,ev.rel,r,e3,fun σ2 G2 H2 f7 _=>k σ2 G2 H2 (ev.trans f7)⟩
def a1J(i j:Nat)(ms:Mo (List D)):Mo Fl:=fun env=>(ms env).bind fun p=>match p.1 with
 |[d,d']=>some (.nx,(p.2.set i (.dat d)).set j (.dat d'))
 |_=>none
structure xP(K:Qz)(J:It)(G:Hp)(ds:List D):Prop where
 go:∀i H,Le G H->i<ds.length->J.go i H
 stop:∀i H,Le G H->ds.length≤i->J.stop i H
 yld:∀i H x H' d,Le G H->J.yld i H x H'->ds[i]? =some d->(H'=H/\c4 K G x d)\/ ∃p o,NT o/\H p=none/\H'=upd H p o/\c4 K (upd G p o) x d
end
section
variable(K:Qz)(B:OA)
def TIm(m:Mo (List D)):TI:=fun σ H R=>∃G env ds env',Rel K B G σ env H/\m env=some (ds,env')/\∀J G' H',Ev K B G σ env H G' σ env' H'->xP K J G' ds->R J H'
end
abbrev EI(X:Cx)(B:OA)(tg e:Expr)(m:Mo (List D)):Prop:=PI X tg e (TIm X.K B m)
theorem FJ{t t':TI}(h:PI X tg e t)(i:∀σ H R,t' σ H R->t σ H R):PI X tg e t':=fun pins s σ H R I q=>h pins s σ H R I (i σ H R q)
section
variable{pos:Pos}{a:Expr}{g:OZ}{gs:List D->c5->Option c5}
def WT(K:Qz)(tl:TE):TI:=fun σ H R=>tl σ H fun x H1=>∃a,x=.ref a/\(((∃xs,qK K H1 a xs)/\R (Itl K a) H1)\/((∃xs,qW K H1 a xs)/\R (Itt K a) H1))
theorem WU{l:Expr}{tl:TE}(hl:PE X l tl):PI X tg l (WT X.K tl):=by
 intro pins s σ H R I h;refine i6 (hl pins s σ H _ I h) fun v s1 ⟨x,H1,I1,r1,q1⟩=>?_
 obtain⟨a,e,q⟩:=q1;subst e;cases r1
 rcases q with⟨⟨xs,hq⟩,q⟩|⟨⟨xs,hq⟩,q⟩
 ·obtain⟨its,rv,p,hz⟩:=I1.list hq
  refine Ul p.isList ?_
  refine⟨s1.heap.objs.size,[s1.heap.objs.size],_,_,H1,rfl,I1.kept (t':=s1.toks) fun b o e=>Qx _ e,Tu a _,⟨_,Qd _ rfl,rfl,rfl⟩,fun b hb=>?_,q⟩
  have e:b=s1.heap.objs.size:=by simpa using hb
  subst e;exact I1.fpOk (Qp _) (I1.hok.fresh (Qp _))
 ·obtain⟨its,rv,p,hz⟩:=I1.tuple hq
  refine Xp (show s1.heap.IsTuple a its.toArray from p) ?_
  refine⟨s1.heap.objs.size,[s1.heap.objs.size],_,_,H1,rfl,I1.kept (t':=s1.toks) fun b o e=>Qx _ e,Tv a _,⟨_,Qd _ rfl,rfl,rfl⟩,fun b hb=>?_,q⟩
  have e:b=s1.heap.objs.size:=by simpa using hb
  subst e;exact I1.fpOk (Qp _) (I1.hok.fresh (Qp _))
def F3(m:Mo D):Mo (List D):=fun env=>(m env).bind fun p=>p.1.items.map fun ds=>(ds,p.2)
theorem WV{K:Qz}(q:qK K G p xs)(r:C3 K G xs ds):xP K (Itl K p) G ds where
 go:=fun i H l hi=>⟨xs,xs[i]'(by rw[r.length];exact hi),l.sqL q,by simp⟩
 stop:=fun i H l hi=>⟨xs,l.sqL q,by rw[r.length];exact hi⟩
 yld:=fun i H x H' d l y e=>by
  obtain⟨rfl,y⟩:=y;obtain⟨x',e1,e2⟩:=r.get e;have:=y xs (l.sqL q);rw[e1]at this;cases this;exact .inl ⟨rfl,e2⟩
theorem WW{K:Qz}(q:uW K G p xs)(r:C3 K G xs ds):xP K (Itt K p) G ds where
 go:=fun i H l hi=>⟨xs,xs[i]'(by rw[r.length];exact hi),l.sqT q,by simp⟩
 stop:=fun i H l hi=>⟨xs,l.sqT q,by rw[r.length];exact hi⟩
 yld:=fun i H x H' d l y e=>by
  obtain⟨rfl,y⟩:=y;obtain⟨x',e1,e2⟩:=r.get e;have:=y xs (l.sqT q);rw[e1]at this;cases this;exact .inl ⟨rfl,e2⟩
theorem K6(h:ED X B e ma):EI X B tg e (F3 ma):=by
 refine FJ (WU h) ?_
 rintro σ H R ⟨G,env,ds,env',rl,e,k⟩;obtain⟨⟨d,a8⟩,e1,e2⟩:=C6 e;obtain⟨ds',e3,e4⟩:=F4 e2;cases e4;refine .bind rl e1 fun v G1 H1 ev r=>?_
 cases d<;>first|(exact absurd (show(none:Option (List D))=some _ from e3) (by simp))|skip
 ·cases e3
  simp only[c4]at r;obtain⟨p,xs,e5,q,t⟩:=r;exact⟨p,e5,.inr ⟨⟨xs,ev.rel.sub.sqT q⟩,k _ G1 H1 ev (WW q t)⟩⟩
 ·cases e3
  simp only[c4]at r;obtain⟨p,xs,e5,q,t⟩:=r;exact⟨p,e5,.inl ⟨⟨xs,ev.rel.sub.sqL q⟩,k _ G1 H1 ev (WV q t)⟩⟩
def R8(lo:Int)(n:Nat):List D:=(List.range n).map fun(i:Nat)=>D.int (lo+i)
theorem MK{K:Qz}{lo:Int}:xP K (yT lo n) G (R8 lo n)where
 go:=fun i H l hi=>by
  have h:i<n:=by simpa [R8]using hi
  exact h
 stop:=fun i H l hi=>by
  have h:n≤i:=by simpa [R8]using hi
  exact h
 yld:=fun i H x H' d l y e=>by
  obtain⟨rfl,rfl⟩:=y;refine .inl ⟨rfl,?_⟩;unfold R8 at e;rw[Zw]at e;cases hr:(List.range n)[i]? with
  |none=>rw[hr]at e;cases e
  |some j=>
   rw[hr]at e;cases e;obtain⟨h1,h2⟩:=Qg.mp hr
   simp at h2
   subst h2;simp only[c4]
def J4(ms:Mo (List D)):Mo (List D):=fun env=>(ms env).bind fun p=>match p.1 with
 |[.int j]=>if-1000000<j/\j<1000000 then some (R8 0 j.toNat,p.2)else none
 |_=>none
def ML(ms:Mo (List D)):Mo (List D):=fun env=>(ms env).bind fun p=>match p.1 with
 |[.int i,.int j]=>if-1000000<i/\i<1000000/\ -1000000<j/\j<1000000 then some (R8 i (j-i).toNat,p.2)else none
 |_=>none
theorem R1{p:Pos}(hg:Gl X "range")(hm:X.mg "range"=none)(ha:uF X B [a] ms)(hs:starEach [a] X.env=[(false,eval a X.env)]:=by rfl):EI X B tg (.Call (.Name "range" p) [a] [] pos) (J4 ms):=by
 have h0:=UB (tg:=tg) (p:=p) (pos:=pos) hg hm ha hs
 refine FJ h0 ?_
 rintro σ H R ⟨G,env,ds,env',rl,e,k⟩;obtain⟨⟨ds',a8⟩,e1,e2⟩:=C6 e;dsimp only at e2;split at e2
 ·rename_i j
  split at e2
  ·rename_i hj
   cases e2;refine⟨G,env,_,_,rl,e1,fun vs G1 H1 ev r=>?_⟩
   obtain⟨v,rfl,r1⟩:=T6 r;simp only[c4]at r1;subst r1;exact⟨j,rfl,by omega,by omega,k _ G1 H1 ev MK⟩
  ·cases e2
 ·cases e2
theorem MM{p:Pos}(hg:Gl X "range")(hm:X.mg "range"=none)(ha:uF X B [a,b] ms)(hs:starEach [a,b] X.env=[(false,eval a X.env),(false,eval b X.env)]:=by rfl)(hs2:starEach [b] X.env=[(false,eval b X.env)]:=by rfl):EI X B tg (.Call (.Name "range" p) [a,b] [] pos) (ML ms):=by
 have h0:=UC (tg:=tg) (p:=p) (pos:=pos) hg hm ha hs hs2
 refine FJ h0 ?_
 rintro σ H R ⟨G,env,ds,env',rl,e,k⟩;obtain⟨⟨ds',a8⟩,e1,e2⟩:=C6 e;dsimp only at e2;split at e2
 ·rename_i i j
  split at e2
  ·rename_i hj
   cases e2;refine⟨G,env,_,_,rl,e1,fun vs G1 H1 ev r=>?_⟩
   obtain⟨v,w,rfl,r1,r2⟩:=FF r;simp only[c4]at r1 r2;subst r1 r2;exact⟨i,j,rfl,⟨by omega,by omega,by omega,by omega⟩,k _ G1 H1 ev MK⟩
  ·cases e2
 ·cases e2
def loop(g:OZ)(body:Mo Fl):List D->Mo Fl
 |[],env=>some (.nx,env)
 |d::ds,env=>(g d env).bind fun e1=>(body e1).bind fun p=>match p.1 with
  |.nx=>loop g body ds p.2
  |.ct=>loop g body ds p.2
  |.bk=>some (.nx,p.2)
  |.ret d=>some (.ret d,p.2)
  |.retL d=>some (.retL d,p.2)
def K3(mi:Mo (List D))(g:OZ)(body:Mo Fl):Mo Fl:=fun env=>(mi env).bind fun p=>loop g body p.1 p.2
theorem O9{body:List Stmt}{mi:Mo (List D)}{mbd:Mo Fl}(hp:PassesOwn (model X.prog X.w) X.A X.env X.xe)(hc:X.calm=true)(hi:EI X B tg iter mi)(hg:EG X B 0 tg g)(hb:vM X B body mbd)
  (hs:∀x,foldedSetIterable iter X.env x=pure x:=by intro _;rfl):ES X B (.For tg iter body [] pos) (K3 mi g mbd):=by
 refine m5 (UG hp hc hi hg hb hs) ?_
 rintro D σ H ⟨G,env,fl,env',rl,e,k⟩;obtain⟨⟨ds,a8⟩,e1,e2⟩:=C6 e;dsimp only at e2;refine⟨G,env,ds,a8,rl,e1,fun J G1 H1 m9 it=>?_⟩
 refine⟨fun i m σ2 H2=>m=ds.length-i/\i≤ds.length/\∃G2 i5,Ev X.K B G σ env H G2 σ2 i5 H2/\Le G1 G2/\loop g mbd (ds.drop i) i5=some (fl,env'),⟨_,rfl,Jo _,G1,a8,m9,Le.refl,by simpa using e2⟩,?_⟩
 rintro i m σ2 H2 ⟨rfl,hi2,G2,i5,f7,l2,e3⟩;have lH:Le G1 H2:=l2.trans f7.rel.sub
 by_cases hlt:i<ds.length
 ·refine .inr ⟨it.go i H2 lH hlt,fun σ' H'=>∃G3 sW,Ev X.K B G σ env H G3 σ' sW H'/\Le G1 G3/\loop g mbd (ds.drop (i+1)) sW=some (fl,env'),?_,fun x H3 y=>?_⟩
  ·rintro σ' H' ⟨G3,sW,qX,l3,e4⟩
   exact⟨ds.length-(i+1),by omega,rfl,hlt,G3,sW,qX,l3,e4⟩
  ·have ed:ds.drop i=ds[i]::ds.drop (i+1):=List.drop_eq_getElem_cons hlt
   rw[ed]at e3;obtain⟨tG,e4,e5⟩:=C6 e3;obtain⟨⟨xQ,sC⟩,e6,e7⟩:=C6 e5;have hget:ds[i]? =some ds[i]:=by simp[hlt]
   have st:∃G3,Ev X.K B G σ env H G3 σ2 i5 H3/\Le G1 G3/\c4 X.K G3 x ds[i]:=by
    rcases it.yld i H2 x H3 ds[i] lH y hget with⟨rfl,r⟩|⟨p,o,hno,hp2,rfl,r⟩
    ·exact⟨G2,f7,l2,c4.mono l2 _ r⟩
    ·have gp:=f7.rel.gnone hp2
     refine⟨upd G2 p o,f7.trans (f7.rel.alloc hp2 hno),l2.trans (Le.upd gp),c4.mono (fun b u q=>?_) _ r⟩
     by_cases hb2:b=p
     ·subst hb2;rw[G7]at q ⊢;exact q
     ·rw[D3 hb2]at q ⊢;exact l2 b u q
   obtain⟨G3,qX,l3,r3⟩:=st;refine⟨G3,i5,ds[i],tG,qX.rel,r3,e4,fun σ4 G4 H4 tN _=>?_⟩
   have vN:=qX.trans tN
   refine⟨G4,tG,xQ,sC,tN.rel,e6,?_⟩;cases xQ with
   |nx=>exact fun σ6 G6 H6 rP=>⟨G6,sC,vN.trans rP,(l3.trans tN.same).trans rP.same,e7⟩
   |ct=>exact fun σ6 G6 H6 rP=>⟨G6,sC,vN.trans rP,(l3.trans tN.same).trans rP.same,e7⟩
   |bk=>cases e7;exact fun σ6 G6 H6 rP=>k σ6 G6 H6 (vN.trans rP)
   |ret d=>cases e7;exact fun v σ6 G6 H6 rP=>k v σ6 G6 H6 (vN.trans rP)
   |retL d=>cases e7;exact fun a xs σ6 G6 H6 rP=>k a xs σ6 G6 H6 (vN.trans rP)
 ·have ei:i=ds.length:=by omega
  subst ei;rw[List.drop_length]at e3;cases e3;exact .inl ⟨it.stop _ H2 lH (Qp _),k σ2 G2 H2 f7⟩
end
inductive Rr where
 |d (d:D)|l (ds:List D)
abbrev Fn:=List W->Option (Rr×List W)
def P6:OA:=fun _=>False
def Dj(ws:List W):Prop:=∀w∈ws,(∃d,w=.dat d)\/w.isPar=true
def WX(K:Qz)(G:Hp)(vs:List V)(ws:List W)(H:Hp)(ws':List W)(Q:VK):Rr->Prop
 |.d d=>∀v G' H',Ev K P6 G (vs.map some) ws H G' (vs.map some) ws' H'->c4 K G' v d->Q v H'
 |.l ds=>∀a xs G' H',Ev K P6 G (vs.map some) ws H G' (vs.map some) ws' H'->H a=none-> ¬ d5 (vs.map some) ws' a->H' a=some (.lst xs)->G' a=none->C3 K G' xs ds->Q (.ref a) H'
def k9(K:Qz)(n:Nat)(f:Fn):Sp:=fun vs H Q _=>∃G ws r ws',ws.length=n/\Dj ws/\Rel K P6 G (vs.map some) ws H/\f ws=some (r,ws')/\WX K G vs ws H ws' Q r
def Dk:W->W->W
 |.par _,.par ds=>.par ds
 |.par _,.parD ks vs=>.parD ks vs
 |.parD _ _,.par ds=>.par ds
 |.parD _ _,.parD ks vs=>.parD ks vs
 |.par _,_=>.nil
 |.parD _ _,_=>.nil
 |w,_=>w
def S8(ws env:List W):List W:=List.zipWith Dk ws env
def k8(N:Nat)(mb:Mo Fl):Fn:=fun ws=>match mb (ws++List.replicate (N-ws.length) .nil)with
 |some (.ret d,env)=>some (.d d,S8 ws env)
 |some (.retL ds,env)=>some (.l ds,S8 ws env)
 |some (.nx,env)=>some (.d .non,S8 ws env)
 |_=>none
theorem AF(hi:i<vs.length):(start N vs)[i]? =(vs.map some)[i]?:=by
 unfold start;rw[Jp (by simpa using hi)]
theorem Az{l:List α}{a b:α}(h:(l++List.replicate n a)[i]? =some b):(i<l.length/\l[i]? =some b)\/(l.length≤i/\b=a):=by
 by_cases hi:i<l.length
 ·rw[Jp hi]at h;exact .inl ⟨hi,h⟩
 ·rw[List.getElem?_append_right (by omega),Jm]at h
  split at h
  ·cases h;exact .inr ⟨by omega,rfl⟩
  ·cases h
section
variable{K:Qz}{ws:List W}
theorem MN(hl:ws.length=vs.length):d5 (start N vs) (ws++List.replicate n .nil) a↔d5 (vs.map some) ws a:=by
 constructor
 ·rintro⟨i,w,ds,e1,e2,e3⟩
  rcases Az e1 with⟨h1,h2⟩|⟨h1,h2⟩
  ·rw[AF (by omega)]at e3;exact⟨i,w,ds,h2,e2,e3⟩
  ·rw[h2]at e2;cases e2
 ·rintro⟨i,w,ds,e1,e2,e3⟩
  have hi:i<ws.length:=(Qg.mp e1).1
  exact⟨i,w,ds,by rw[Jp hi];exact e1,e2,by rw[AF (by omega)];exact e3⟩
theorem HN(r:Rel K P6 G (vs.map some) ws H)(ok:Dj ws)(hN:vs.length≤N.length):Rel K (fun b=>H b≠none) G (start N vs) (ws++List.replicate (N.length-ws.length) .nil) H:=by
 have hl:ws.length=vs.length:=by have:=r.len;rwa [Qk]at this
 have noOwn:∀(i:Nat) (w:W),ws[i]? =some w->w.isOwn=true->False:=fun i w e h=>by
  rcases ok _ (Jb e)with⟨d,z⟩|z
  ·subst z;cases h
  ·cases w<;>first|(cases h;done)|(cases z;done)
 refine⟨r.sub,?_,fun i d e=>?_,fun i w ds e1 e2=>?_,fun i j w w' ds es a q1 q2 q3 q4 q5 q6=>?_,fun i w a q1 qo q2=>?_,fun b h=>h,r.tabs,r.gnt⟩
 ·unfold start
  simp only[Qa,Ze,Qk]
  omega
 ·rcases Az e with⟨h1,h2⟩|⟨h1,h2⟩
  ·obtain⟨v,e1,e2⟩:=r.dat i d h2
   exact⟨v,by rw[AF (by omega)];exact e1,e2⟩
  ·cases h2
 ·rcases Az e1 with⟨h1,h2⟩|⟨h1,h2⟩
  ·obtain⟨a,xs,e3,e4⟩:=r.own i w ds h2 e2
   exact⟨a,xs,by rw[AF (by omega)];exact e3,e4⟩
  ·rw[h2]at e2;cases e2
 ·rcases Az q1 with⟨h1,h2⟩|⟨h1,h2⟩
  ·rcases Az q3 with⟨h3,h4⟩|⟨h3,h4⟩
   ·rw[AF (by omega)]at q5 q6
    exact r.inj i j w w' ds es a h2 q2 h4 q4 q5 q6
   ·rw[h4]at q4;cases q4
  ·rw[h2]at q2;cases q2
 ·rcases Az q1 with⟨h1,h2⟩|⟨h1,h2⟩
  ·exact(noOwn i w h2 qo).elim
  ·subst h2;cases qo
theorem FK{ws env:List W}(h:(S8 ws env)[i]? =some w):∃w1 w2,ws[i]? =some w1/\env[i]? =some w2/\w=Dk w1 w2:=by
 unfold S8 at h;rw[Ju]at h;cases e1:ws[i]? with
 |none=>rw[e1]at h;cases h
 |some w1=>
  cases e2:env[i]? with
  |none=>rw[e1,e2]at h;cases h
  |some w2=>rw[e1,e2]at h;cases h;exact⟨w1,w2,rfl,rfl,rfl⟩
theorem HQ{w1:W}(ok:(∃d,w1=.dat d)\/w1.isPar=true)(h:(Dk w1 w2).mut=some m):w2.mut=some m/\w2.isPar=true/\Dk w1 w2=w2/\w1.isPar=true:=by
 rcases ok with⟨d,z⟩|z
 ·subst z;cases h
 ·cases w1<;>cases w2<;>first|exact⟨h,rfl,rfl,rfl⟩|(cases z;done)|(cases h;done)
theorem Bn(r:Rel K P6 G (vs.map some) ws H)(ok:Dj ws)(hN:vs.length≤N.length)
  (ev:Ev K (fun b=>H b≠none) G (start N vs) (ws++List.replicate (N.length-ws.length) .nil) H G' σ' env' H'):Ev K P6 G (vs.map some) ws H G' (vs.map some) (S8 ws env') H':=by
 have hl:ws.length=vs.length:=by have:=r.len;rwa [Qk]at this
 have okg:∀{i:Nat}{w:W},ws[i]? =some w->(∃d,w=.dat d)\/w.isPar=true:=fun e=>ok _ (Jb e)
 have hle:ws.length≤env'.length:=by
  have h1:=ev.rel.len
  have h2:=ev.slen
  have h3:(start N vs).length=N.length:=by unfold start;simp only[Qa,Ze,Qk];omega
  omega
 have par:∀(i:Nat) (w:W) (m:Mu),(S8 ws env')[i]? =some w->w.mut=some m->∃w0,ws[i]? =some w0/\w0.isPar=true/\env'[i]? =some w/\w.isPar=true/\σ'[i]? =(vs.map some)[i]?:=fun i w m e1 e2=>by
  obtain⟨w1,w2,h1,h2,h3⟩:=FK e1;subst h3;obtain⟨h4,h5,h6,h7⟩:=HQ (okg h1) e2;have hi:i<vs.length:=by have:=(Qg.mp h1).1;omega
  rw[h6];exact⟨w1,h1,h7,h2,h5,(ev.par i w2 h2 h5).1.trans (AF hi)⟩
 refine⟨⟨ev.rel.sub,?_,fun i d e=>?_,fun i w ds e1 e2=>?_,fun i j w w' ds es a q1 q2 q3 q4 q5 q6=>?_,fun i w a q1 qo q2 h=>h,fun b h=>h.elim,ev.rel.tabs,ev.rel.gnt⟩,ev.same,fun b o n t e=>ev.keep b o (fun z=>n ((MN hl).mp z)) t e,ev.live,fun b e n g=>ev.stay b e (fun z=>n ((MN hl).mp z)) g,fun a z=>?_,fun i w e hp=>?_,rfl⟩
 ·unfold S8
  rw[Yd,Qk];omega
 ·obtain⟨w1,w2,h1,h2,h3⟩:=FK e
  rcases okg h1 with⟨d1,z⟩|z
  ·subst z
   cases h3;obtain⟨v,e1,e2⟩:=r.dat i d h1;exact⟨v,e1,c4.mono ev.same d e2⟩
  ·cases w1<;>cases w2<;>first|(cases h3;done)|(cases z;done)
 ·obtain⟨d0,h1,hp,h2,h3,h4⟩:=par i w ds e1 e2
  obtain⟨a,xs,e3,e4⟩:=ev.rel.own i _ ds h2 e2;exact⟨a,xs,by rw[←h4];exact e3,e4⟩
 ·obtain⟨d0,h1,hp,h2,h3,h4⟩:=par i w ds q1 q2
  obtain⟨d1,h5,hp',h6,h7,h8⟩:=par j w' es q3 q4;exact ev.rel.inj i j _ _ ds es a h2 q2 h6 q4 (by rw[h4];exact q5) (by rw[h8];exact q6)
 ·obtain⟨i,w,ds,e1,e2,e3⟩:=z
  obtain⟨d0,h1,hp,h2,h3,h4⟩:=par i w ds e1 e2;obtain⟨m0,hm0⟩:=rA hp;exact .inl ⟨i,_,m0,h1,hm0,e3⟩
 ·obtain⟨m,hm⟩:=rA hp
  obtain⟨d0,h1,hp',h2,h3,h4⟩:=par i _ m e hm;exact⟨rfl,d0,h1,hp'⟩
end
theorem G9{P:Program}{w:World}{K:Qz}{mg:OU}{base:Heap}{qual:Str}{st:Stmt}{f:Addr}{fd:FuncData}{ps:List Str}{mb:Mo Fl}(F:k7 K x qual st f fd)(S:a9 N ps (E1 st))
  (hb:∀(cdv:Value) (A:Around) (outer:List Env) (s:Shared) (H:Hp) (E:XK),g6 k (A.deeper (envOfC qual (E1 st) s.heap.objs.size f cdv))->
   vM (O8 j7 P w K mg base N qual (E1 st) f cdv A outer s H E).nox (fun b=>H b≠none) (W3 st) mb):c6 P w K mg base j7 (k+1) f fd ps (k9 K ps.length (k8 N.length mb)):=by
 have hpl:ps.length≤N.length:=by have:=Yu List.length S.pre;rw[Jx]at this;omega
 refine F.ok S (fun vs H Q E h=>?_) (fun cdv A outer s H vs Q E hr h=>?_)
 ·obtain⟨G,ws,r,ws',hl,ok,rl,_⟩:=h
  have:=rl.len;rw[Qk]at this;omega
 ·obtain⟨G,ws,r,ws',hl,ok,rl,e,k⟩:=h
  have hv:ws.length=vs.length:=by have:=rl.len;rwa [Qk]at this
  refine⟨_,hb cdv A outer s H E hr,?_⟩;have rl':=HN (N:=N) rl ok (by omega)
  unfold k8 at e;split at e
  ·rename_i d env em
   cases e;refine⟨G,_,_,env,rl',em,?_⟩;exact fun v σ' G' H' ev rp=>k v G' H' (Bn rl ok (by omega) ev) rp
  ·rename_i ds env em
   cases e;refine⟨G,_,_,env,rl',em,?_⟩;intro a xs σ' G' H' ev nb no h' g' rp;refine k a xs G' H' (Bn rl ok (by omega) ev) (Ja nb) ?_ h' g' rp
   rintro⟨i,w',es,e1,e2,e3⟩;obtain⟨w1,w2,q1,q2,q3⟩:=FK e1;subst q3;obtain⟨q4,q5,q6,q7⟩:=HQ (ok _ (Jb q1)) e2;have hi:i<vs.length:=by have:=(Qg.mp q1).1;omega
   exact no ⟨i,_,es,q2,q4,by rw[(ev.par i w2 q2 q5).1,AF hi];exact e3⟩
  ·rename_i env em
   cases e;refine⟨G,_,_,env,rl',em,?_⟩;exact fun σ' G' H' ev=>k .non G' H' (Bn rl ok (by omega) ev) (by simp only[c4])
  ·cases e
def slots:List Ar->List Nat
 |[]=>[]
 |.d _::r=>slots r
 |.sl i::r=>i::slots r
def Bo:Mu->W
 |.l ds=>.par ds
 |.d ks vs=>.parD ks vs
theorem MO(c:Mu):(Bo c).mut=some c:=by cases c<;>rfl
theorem MP(c:Mu):(Bo c).isPar=true:=by cases c<;>rfl
def P0(c:Mu):Ar->W
 |.d d=>.dat d
 |.sl _=>Bo c
def Aa:List W->Option Mu
 |[]=>none
 |.par ds::_=>some (.l ds)
 |.parD ks vs::_=>some (.d ks vs)
 |_::r=>Aa r
def Y3(n:Nat)(f:Fn)(as:Mo (List Ar)):Mo Rr:=fun env=>(as env).bind fun p=>if p.1.length=n then
 match slots p.1 with
 |[]=>(f (p.1.map (P0 (.l [])))).map fun q=>(q.1,p.2)
 |[i]=>(p.2[i]?).bind fun w=>w.mut.bind fun c=>(f (p.1.map (P0 c))).bind fun q=>(Aa q.2).map fun c'=>(q.1,p.2.set i (w.putM c'))
 |_=>none
 else none
theorem AG:∀{as:List Ar},slots as=[]->∀(k j:Nat),as[k]? ≠some (.sl j)
 |[],_,k,j,e=>by simp at e
 |.d _::r,h,k,j,e=>by
  cases k with
  |zero=>simp at e
  |succ k=>exact AG (as:=r) h k j (by simpa using e)
 |.sl i::r,h,k,j,e=>by simp[slots]at h
theorem HR:∀{as:List Ar}{i:Nat},slots as=[i]->∃k:Nat,as[k]? =some (.sl i)/\∀(k' j:Nat),as[k']? =some (.sl j)->k'=k/\j=i
 |[],_,h=>by simp[slots]at h
 |.d _::r,i,h=>by
  obtain⟨k,h1,h2⟩:=HR (as:=r) h;refine⟨k+1,by simpa using h1,fun k' j e=>?_⟩
  cases k' with
  |zero=>simp at e
  |succ k'=>
   obtain⟨a,b⟩:=h2 k' j (by simpa using e)
   exact⟨by omega,b⟩
 |.sl i'::r,i,h=>by
  simp only[slots,Ve]at h;obtain⟨rfl,h⟩:=h;refine⟨0,by simp,fun k' j e=>?_⟩
  cases k' with
  |zero=>simp at e;exact⟨rfl,e.symm⟩
  |succ k'=>exact absurd (by simpa using e) (AG h k' j)
theorem Dl:∀{ws:List W}{c:Mu},Aa ws=some c->∃k:Nat,ws[k]? =some (Bo c)
 |[],_,h=>by simp[Aa]at h
 |.par ds::r,c,h=>by simp only[Aa,Zc]at h;subst h;exact⟨0,by simp[Bo]⟩
 |.parD ks vs::r,c,h=>by simp only[Aa,Zc]at h;subst h;exact⟨0,by simp[Bo]⟩
 |.nil::r,c,h=>by obtain⟨k,e⟩:=Dl (ws:=r) h;exact⟨k+1,by simpa using e⟩
 |.dat _::r,c,h=>by obtain⟨k,e⟩:=Dl (ws:=r) h;exact⟨k+1,by simpa using e⟩
 |.own _::r,c,h=>by obtain⟨k,e⟩:=Dl (ws:=r) h;exact⟨k+1,by simpa using e⟩
 |.ownD _ _::r,c,h=>by obtain⟨k,e⟩:=Dl (ws:=r) h;exact⟨k+1,by simpa using e⟩
section
variable{K:Qz}
theorem l0.length:∀{as:List Ar}{vs:List V},l0 K G σ vs as->vs.length=as.length
 |[],_,h=>by simp only[l0]at h;subst h;rfl
 |.d d::as,_,h=>by
  simp only[l0]at h;obtain⟨x,r,rfl,_,t⟩:=h
  simp[l0.length t]
 |.sl i::as,_,h=>by
  simp only[l0]at h;obtain⟨x,r,rfl,_,t⟩:=h
  simp[l0.length t]
theorem l0.getD:∀{as:List Ar}{vs:List V}{k:Nat}{d:D},l0 K G σ vs as->as[k]? =some (.d d)->∃v,vs[k]? =some v/\c4 K G v d
 |[],_,k,d,h,e=>by simp at e
 |.d d'::as,_,k,d,h,e=>by
  simp only[l0]at h;obtain⟨x,r,rfl,q,t⟩:=h;cases k with
  |zero=>simp at e;subst e;exact⟨x,by simp,q⟩
  |succ k=>simpa using l0.getD (k:=k) t (by simpa using e)
 |.sl i::as,_,k,d,h,e=>by
  simp only[l0]at h;obtain⟨x,r,rfl,q,t⟩:=h;cases k with
  |zero=>simp at e
  |succ k=>simpa using l0.getD (k:=k) t (by simpa using e)
theorem l0.getS:∀{as:List Ar}{vs:List V}{k i:Nat},l0 K G σ vs as->as[k]? =some (.sl i)->∃v,vs[k]? =some v/\σ[i]? =some (some v)
 |[],_,k,i,h,e=>by simp at e
 |.d d'::as,_,k,i,h,e=>by
  simp only[l0]at h;obtain⟨x,r,rfl,q,t⟩:=h;cases k with
  |zero=>simp at e
  |succ k=>simpa using l0.getS (k:=k) t (by simpa using e)
 |.sl i'::as,_,k,i,h,e=>by
  simp only[l0]at h;obtain⟨x,r,rfl,q,t⟩:=h;cases k with
  |zero=>simp at e;subst e;exact⟨x,by simp,q⟩
  |succ k=>simpa using l0.getS (k:=k) t (by simpa using e)
end
section
variable{K:Qz}{as:List Ar}{c:Mu}
theorem FL:Dj (as.map (P0 c)):=fun w hw=>by
 obtain⟨a,_,rfl⟩:=Zq.mp hw;cases a with
 |d d=>exact .inl ⟨d,rfl⟩
 |sl i=>exact .inr (MP c)
theorem Cf(e:(as.map (P0 c))[k]? =some w):(∃d,as[k]? =some (.d d)/\w=.dat d)\/ ∃j,as[k]? =some (.sl j)/\w=Bo c:=by
 rw[Zw]at e;cases h:as[k]? with
 |none=>rw[h]at e;cases e
 |some a=>
  rw[h]at e;cases a with
  |d d=>cases e;exact .inl ⟨d,rfl,rfl⟩
  |sl j=>cases e;exact .inr ⟨j,rfl,rfl⟩
theorem MQ(h:vs[k]? =some v):(vs.map some)[k]? =some (some v):=by rw[Zw,h];rfl
theorem MR(h:(vs.map some)[k]? =some (some v)):vs[k]? =some v:=by
 rw[Zw]at h;cases e:vs[k]? with
 |none=>rw[e]at h;cases h
 |some u=>rw[e]at h;cases h;rfl
theorem FM(rl:Rel K B G σ env H)(ra:l0 K G σ vs as)(u:∀(k j:Nat),as[k]? =some (.sl j)->j=i/\env[i]? =some w/\w.mut=some c)(un:∀(k k' j j':Nat),as[k]? =some (.sl j)->as[k']? =some (.sl j')->k=k'):
  Rel K P6 G (vs.map some) (as.map (P0 c)) H:=by
 refine⟨rl.sub,by rw[Qk,Qk,ra.length],fun k d e=>?_,fun k v ds e1 e2=>?_,fun k k' v v' ds es a q1 q2 q3 q4 q5 q6=>?_,fun k w a e _ _ h=>h,fun b h=>h.elim,rl.tabs,rl.gnt⟩
 ·rcases Cf e with⟨d',h1,h2⟩|⟨j,h1,h2⟩
  ·cases h2
   obtain⟨v,q1,q2⟩:=ra.getD h1;exact⟨v,MQ q1,q2⟩
  ·cases c<;>cases h2
 ·rcases Cf e1 with⟨d',h1,h2⟩|⟨j,h1,h2⟩
  ·subst h2;cases e2
  ·subst h2;rw[MO]at e2;cases e2
   obtain⟨v,q1,q2⟩:=ra.getS h1;obtain⟨rfl,q3,q4⟩:=u k j h1;obtain⟨a,xs,q5,q6,q7,q8⟩:=rl.own j w c q3 q4;rw[q2]at q5;cases q5;exact⟨a,xs,MQ q1,q6,q7,q8⟩
 ·rcases Cf q1 with⟨d',h1,h2⟩|⟨j,h1,h2⟩
  ·subst h2;cases q2
  ·rcases Cf q3 with⟨d',h3,h4⟩|⟨j',h3,h4⟩
   ·subst h4;cases q4
   ·exact un k k' j j' h1 h3
theorem MS(ra:l0 K G σ vs as)(u:∀(k j:Nat),as[k]? =some (.sl j)->j=i)(h:d5 (vs.map some) (as.map (P0 c)) a):σ[i]? =some (some (V.ref a))/\∃k:Nat,as[k]? =some (Ar.sl i):=by
 obtain⟨k,v,ds,e1,e2,e3⟩:=h
 rcases Cf e1 with⟨d',h1,h2⟩|⟨j,h1,h2⟩
 ·subst h2;cases e2
 ·obtain⟨v',q1,q2⟩:=ra.getS h1
  have:=u k j h1;subst this;have e4:=MR e3;rw[q1]at e4;cases e4;exact⟨q2,k,h1⟩
theorem FN(rl:Rel K B G σ env H)(ra:l0 K G σ vs as)(hs:slots as=[])(ev:Ev K P6 G (vs.map some) (as.map (P0 c)) H G2 (vs.map some) ws' H2):Ev K B G σ env H G2 σ env H2:=by
 have no:∀a,¬ d5 (vs.map some) (as.map (P0 c)) a:=fun a z=>by
  obtain⟨_,k,e⟩:=MS (i:=0) ra (fun k j e=>absurd e (AG hs k j)) z
  exact AG hs k 0 e
 refine⟨⟨ev.rel.sub,rl.len,fun i d e=>?_,fun i w ds e1 e2=>?_,rl.inj,rl.fresh,fun b h=>ev.live b (rl.old b h),ev.rel.tabs,ev.rel.gnt⟩,ev.same,fun b o _ t e=>ev.keep b o (no b) t e,ev.live,fun b e _ g=>ev.stay b e (no b) g,fun a z=>.inl z,fun i w e hp=>⟨rfl,w,e,hp⟩,rfl⟩
 ·obtain⟨v,q1,q2⟩:=rl.dat i d e
  exact⟨v,q1,c4.mono ev.same d q2⟩
 ·obtain⟨a,xs,q1,q2,q3,q4⟩:=rl.own i w ds e1 e2
  exact⟨a,xs,q1,ev.keep a _ (no a) q3.nt q2,q3.mono ev.same,ev.stay a (by rw[q2];simp) (no a) q4⟩
theorem MT{c':Mu}(rl:Rel K B G σ env H)(ra:l0 K G σ vs as)(hs:slots as=[i])(e1:env[i]? =some w)(e2:w.mut=some c)(hp:Aa ws'=some c')
  (ev:Ev K P6 G (vs.map some) (as.map (P0 c)) H G2 (vs.map some) ws' H2):Ev K B G σ env H G2 σ (env.set i (w.putM c')) H2:=by
 obtain⟨k,hk,uk⟩:=HR hs;obtain⟨a,xs,h1,h2,h3,h4⟩:=rl.own i w c e1 e2;have ow:d5 σ env a:=⟨i,w,c,e1,e2,h1⟩;have isA:∀b,d5 (vs.map some) (as.map (P0 c)) b->b=a:=fun b z=>by
  obtain⟨q,_⟩:=MS ra (fun k j e=>(uk k j e).2) z
  rw[h1]at q;cases q;rfl
 obtain⟨k',hk'⟩:=Dl hp;have ek:k'=k:=by
  obtain⟨_,d0,q,qp⟩:=ev.par k' _ hk' (MP c')
  rcases Cf q with⟨d',z1,z2⟩|⟨j,z1,z2⟩
  ·subst z2;cases qp
  ·exact(uk k' j z1).1
 subst ek;obtain⟨a2,ys,g1,g2,g3,g4⟩:=ev.rel.own k' _ c' hk' (MO c');obtain⟨v,q1,q2⟩:=ra.getS hk;have g5:=MR g1;rw[q1]at g5;cases g5;rw[h1]at q2;cases q2;have wp:(w.putM c').mut=some c':=W.putM_mut e2 c';have nd:∀d,w.putM c'≠.dat d:=fun d z=>by rw[z]at wp;cases wp
 refine⟨⟨ev.rel.sub,by rw[Zm];exact rl.len,fun j d' q=>?_,fun j v es y1 y2=>?_,fun j m v v' es fs b y1 y2 y3 y4 y5 y6=>?_,fun j v b y1 yo y2=>?_,fun b h=>ev.live b (rl.old b h),ev.rel.tabs,ev.rel.gnt⟩,ev.same,fun b o n t e=>ev.keep b o (fun z=>n (isA b z ▸ ow)) t e,ev.live,fun b e n g=>ev.stay b e (fun z=>n (isA b z ▸ ow)) g,fun b z=>.inl ?_,fun j v q qp=>⟨rfl,?_⟩,rfl⟩
 ·rcases N3 q with⟨z1,z2⟩|⟨z1,z2⟩
  ·exact absurd z2.symm (nd d')
  ·obtain⟨v,q1,q2⟩:=rl.dat j d' z2
   exact⟨v,q1,c4.mono ev.same d' q2⟩
 ·rcases N3 y1 with⟨z1,z2⟩|⟨z1,z2⟩
  ·subst z1 z2
   rw[wp]at y2;cases y2;exact⟨a,ys,h1,g2,g3,g4⟩
  ·obtain⟨p,zs,f1,f2,f3,f4⟩:=rl.own j v es z2 y2
   have hp:p≠a:=fun z=>z1 (rl.inj j i v w es c a z2 y2 e1 e2 (by rw[f1,z]) h1)
   have np:¬ d5 (vs.map some) (as.map (P0 c)) p:=fun z=>hp (isA p z)
   exact⟨p,zs,f1,ev.keep p _ np f3.nt f2,f3.mono ev.same,ev.stay p (by rw[f2];simp) np f4⟩
 ·have g:∀(m:Nat) (v:W) (es:Mu),(env.set i (w.putM c'))[m]? =some v->v.mut=some es->∃v0 es0,env[m]? =some v0/\v0.mut=some es0:=fun m v es y1 y2=>by
   rcases N3 y1 with⟨z1,z2⟩|⟨z1,z2⟩
   ·rw[z1];exact⟨w,c,e1,e2⟩
   ·exact⟨v,es,z2,y2⟩
  obtain⟨v0,es0,x1,x2⟩:=g j v es y1 y2;obtain⟨v1,es1,x3,x4⟩:=g m v' fs y3 y4;exact rl.inj j m v0 v1 es0 es1 b x1 x2 x3 x4 y5 y6
 ·rcases N3 y1 with⟨z1,z2⟩|⟨z1,z2⟩
  ·subst z1
   exact rl.fresh j w b e1 (by rw[z2,W.putM_own e2]at yo;exact yo) y2
  ·exact rl.fresh j v b z2 yo y2
 ·obtain⟨j,v,es,y1,y2,y3⟩:=z
  rcases N3 y1 with⟨z1,z2⟩|⟨z1,z2⟩
  ·rw[z1,h1]at y3;cases y3;exact ow
  ·exact⟨j,v,es,z2,y2,y3⟩
 ·rcases N3 q with⟨z1,z2⟩|⟨z1,z2⟩
  ·subst z1
   exact⟨w,e1,by rw[z2,W.putM_par e2]at qp;exact qp⟩
  ·exact⟨v,z2,qp⟩
end
def wQ:Rr×c5->Option (D×c5)
 |(.d d,e)=>some (d,e)
 |_=>none
def asL:Rr×c5->Option (List D×c5)
 |(.l d,e)=>some (d,e)
 |_=>none
def c7(n:Nat)(f:Fn)(as:Mo (List Ar)):Mo D:=fun env=>(Y3 n f as env).bind wQ
def J7(n:Nat)(f:Fn)(as:Mo (List Ar)):Mo (List D):=fun env=>(Y3 n f as env).bind asL
def WY(K:Qz)(B:OA)(G:Hp)(σ:St)(env:c5)(H:Hp)(env':c5)(Q:VK):Rr->Prop
 |.d d=>∀v G' H',Ev K B G σ env H G' σ env' H'->c4 K G' v d->Q v H'
 |.l ds=>∀a xs G' H',Ev K B G σ env H G' σ env' H'->H a=none-> ¬ d5 σ env' a->H' a=some (.lst xs)->G' a=none->C3 K G' xs ds->Q (.ref a) H'
theorem FO{K:Qz}{f:Fn}{r:Rr}{E:XK}(rl:Rel K B G σ env H)(e:Y3 n f as env=some (r,env'))
  (k:WY K B G σ env H env' Q r):
  Eu (k9 K n f) [] E (TAm K B as) σ H Q:=by
 obtain⟨⟨av,a8⟩,e1,e2⟩:=C6 e;dsimp only at e2;split at e2
 ·rename_i hn
  refine⟨G,env,av,a8,rl,e1,fun vs G1 H1 ev ra=>?_⟩
  show k9 K n f (vs++[]) H1 Q E;rw[Yg];have hnone:∀a,H1 a=none->H a=none:=fun a h=>by
   cases q:H a with
   |none=>rfl
   |some o=>exact absurd h (ev.live a (by rw[q];simp))
  split at e2
  ·rename_i hs
   obtain⟨⟨r',ws'⟩,e3,e4⟩:=F4 e2;cases e4;refine⟨G1,av.map (P0 (.l [])),r',ws',by rw[Qk];exact hn,FL,FM (i:=0) (w:=.nil) ev.rel ra (fun k j e=>absurd e (AG hs k j)) (fun k k' j j' e=>absurd e (AG hs k j)),e3,?_⟩
   cases r' with
   |d d=>exact fun v G2 H2 f7 rp=>k v G2 H2 (ev.trans (FN ev.rel ra hs f7)) rp
   |l ds=>
    intro a xs G2 H2 f7 ha no h' g' rp;exact k a xs G2 H2 (ev.trans (FN ev.rel ra hs f7)) (hnone a ha) (ev.rel.unowned ha) h' g' rp
  ·rename_i i hs
   obtain⟨w,e3,e4⟩:=C6 e2;obtain⟨c,e5,e6⟩:=C6 e4;obtain⟨⟨r',ws'⟩,e7,e8⟩:=C6 e6;obtain⟨c',e9,e10⟩:=F4 e8;cases e10;obtain⟨kk,hk,uk⟩:=HR hs;refine⟨G1,av.map (P0 c),r',ws',by rw[Qk];exact hn,FL,FM (i:=i) (w:=w) ev.rel ra (fun k j e=>⟨(uk k j e).2,e3,e5⟩) (fun k k' j j' h1 h2=>(uk k j h1).1.trans (uk k' j' h2).1.symm),e7,?_⟩
   cases r' with
   |d d=>exact fun v G2 H2 f7 rp=>k v G2 H2 (ev.trans (MT ev.rel ra hs e3 e5 e9 f7)) rp
   |l ds=>
    intro a xs G2 H2 f7 ha no h' g' rp;have evc:=MT ev.rel ra hs e3 e5 e9 f7;refine k a xs G2 H2 (ev.trans evc) (hnone a ha) (fun z=>?_) h' g' rp
    rcases evc.sub a z with q|q
    ·exact ev.rel.unowned ha q
    ·obtain⟨j,v,es,y1,y2,y3⟩:=z
     rcases N3 y1 with⟨z1,z2⟩|⟨z1,z2⟩
     ·subst z1
      exact ev.rel.unowned ha ⟨j,w,c,e3,e5,y3⟩
     ·exact ev.rel.unowned ha ⟨j,v,es,z2,y2,y3⟩
  ·cases e2
 ·cases e2
section
variable{pos p:Pos}{fn:Fn}{f:Addr}{fd:FuncData}{ps:List Str}
theorem WZ(F:c6 X.prog X.w X.K X.mg X.base j7 k f fd ps (k9 X.K ps.length fn))(hr:g6 k X.A)(hg:Gl X x)(hm:X.mg x=some (.ref f))(hk:PySem.W.keepIn X.K (.ref f)=true)(hb:Q2 X.K fd ps [])
  (ha:vA X B (e::es) as)(hdb:(x==("__debug__":Str))=false:=by decide)(he:starEach (e::es) X.env=(false,eval e X.env)::starEach es X.env:=by rfl)(hpl:(backTo pos (starEach es X.env)).any (·.1)=false:=by rfl):
  ED X B (.Call (.Name x p) (e::es) [] pos) (c7 ps.length fn as):=by
 refine c8 (DU F hr hg hm hk hb .nil Cb ha hdb he hpl) ?_
 rintro σ H Q ⟨G,env,d,env',rl,e,k⟩;obtain⟨⟨r,a8⟩,e1,e2⟩:=C6 e;cases r with
 |d d'=>cases e2;exact FO rl e1 k
 |l ds=>cases e2
theorem Wa(F:c6 X.prog X.w X.K X.mg X.base j7 k f fd ps (k9 X.K ps.length fn))(hr:g6 k X.A)(hg:Gl X x)(hm:X.mg x=some (.ref f))(hk:PySem.W.keepIn X.K (.ref f)=true)(hb:Q2 X.K fd ps [])
  (ha:vA X B (e::es) as)(hdb:(x==("__debug__":Str))=false:=by decide)(he:starEach (e::es) X.env=(false,eval e X.env)::starEach es X.env:=by rfl)(hpl:(backTo pos (starEach es X.env)).any (·.1)=false:=by rfl):
  EL X B (.Call (.Name x p) (e::es) [] pos) (J7 ps.length fn as):=by
 refine c8 (DU F hr hg hm hk hb .nil Cb ha hdb he hpl) ?_
 rintro σ H Q ⟨G,env,d,env',rl,e,k⟩;obtain⟨⟨r,a8⟩,e1,e2⟩:=C6 e;cases r with
 |d d'=>cases e2
 |l ds=>cases e2;exact FO rl e1 k
end
def P7(cells:List (Str×Addr)):List (Str×NameKind)->List (Str×Addr)->List (Str×Addr)
 |[],acc=>acc
 |(n,k)::r,acc=>if k==.free then(match cells.lookup n with
  |some c=>P7 cells r ((n,c)::acc)
  |none=>P7 cells r acc)else P7 cells r acc
theorem S9{n:Str}{a:α}{r:List (Str×α)}:((n,a)::r).lookup x=if x=n then some a else r.lookup x:=by
 rw[Xi]
 by_cases h:x=n
 ·subst h;simp
 ·have:(x==n)=false:=by simpa using h
  rw[this,Ql h]
theorem BA{cells:List (Str×Addr)}:∀{names:List (Str×NameKind)}{acc:List (Str×Addr)}{x:Str}{c:Addr},(P7 cells names acc).lookup x=some c->acc.lookup x=some c\/cells.lookup x=some c
 |[],acc,x,c,h=>.inl h
 |(n,k)::r,acc,x,c,h=>by
  unfold P7 at h;split at h
  ·split at h
   ·rename_i c' hc
    rcases BA h with q|q
    ·rw[S9]at q
     split at q
     ·rename_i e;subst e;cases q;exact .inr hc
     ·exact .inl q
    ·exact .inr q
   ·exact BA h
  ·exact BA h
theorem FP{cells:List (Str×Addr)}:∀{names:List (Str×NameKind)}{acc:List (Str×Addr)}{x:Str},(acc.lookup x).isSome=true->((P7 cells names acc).lookup x).isSome=true
 |[],acc,x,h=>h
 |(n,k)::r,acc,x,h=>by
  unfold P7;split
  ·split
   ·refine FP ?_
    rw[S9];split<;>simp[h]
   ·exact FP h
  ·exact FP h
theorem Bp{cells:List (Str×Addr)}:∀{names:List (Str×NameKind)}{acc:List (Str×Addr)}{x:Str},(x,NameKind.free)∈names->(cells.lookup x).isSome=true->((P7 cells names acc).lookup x).isSome=true
 |[],acc,x,h,_=>by cases h
 |(n,k)::r,acc,x,h,hc=>by
  unfold P7
  rcases Qb.mp h with e|h
  ·cases e
   rw[Qn (by decide)]
   split
   ·refine FP ?_
    rw[S9];simp
   ·rename_i hn;rw[hn]at hc;cases hc
  ·split
   ·split
    ·exact Bp h hc
    ·exact Bp h hc
   ·exact Bp h hc
theorem HS:∀{names:List (Str×NameKind)}{h:Heap}{acc:List (Str×Addr)}{x:Str}{c:Addr},(cellsFrom h.objs.size names acc).lookup x=some c->
  acc.lookup x=some c\/((pushCells h names).IsCell c none/\h.objs.size≤c/\(x,NameKind.cell)∈names)
 |[],h,acc,x,c,q=>.inl q
 |(n,k)::r,h,acc,x,c,q=>by
  unfold cellsFrom at q;unfold pushCells;split at q
  ·rename_i hk
   rw[Qn hk];have hk':k=.cell:=by simpa using hk
   have ih:=HS (names:=r) (h:=h.push {cls:=.type "cell",data:=.cell none}) (acc:=(n,h.objs.size)::acc) (x:=x) (c:=c) (by rw[Yq];exact q)
   rcases ih with z|⟨z1,z2,z3⟩
   ·rw[S9]at z
    split at z
    ·rename_i e;subst e;cases z
     exact .inr ⟨⟨_,Vo _ _ _ _ (Qd _ rfl),rfl⟩,Qp _,by rw[hk'];exact Zl⟩
    ·exact .inl z
   ·rw[Yq]at z2
    exact .inr ⟨z1,by omega,Ym _ z3⟩
  ·rename_i hk
   rw[Ql hk]
   rcases HS q with z|⟨z1,z2,z3⟩
   ·exact .inl z
   ·exact .inr ⟨z1,z2,Ym _ z3⟩
theorem HU:∀{names:List (Str×NameKind)}{n:Nat}{acc:List (Str×Addr)},(∀x y c,acc.lookup x=some c->acc.lookup y=some c->x=y)->(∀x c,acc.lookup x=some c->c<n)->
  ∀x y c,(cellsFrom n names acc).lookup x=some c->(cellsFrom n names acc).lookup y=some c->x=y
 |[],n,acc,h1,h2=>h1
 |(m,k)::r,n,acc,h1,h2=>by
  unfold cellsFrom;split
  ·refine HU (names:=r) (fun x y c q1 q2=>?_) (fun x c q=>?_)
   ·rw[S9]at q1 q2
    split at q1<;>split at q2
    ·rename_i e1 e2;rw[e1,e2]
    ·cases q1;exact absurd (h2 _ _ q2) (Yy _)
    ·cases q2;exact absurd (h2 _ _ q1) (Yy _)
    ·exact h1 x y c q1 q2
   ·rw[S9]at q
    split at q
    ·cases q;exact Xa _
    ·exact Jh (h2 _ _ q)
  ·exact HU (names:=r) h1 h2
theorem FQ{env:Env}{x:Str}:∀{names:List (Str×NameKind)},((names.map fun(n,k)=>if(k==NameKind.free&&env.scope.kind==.function&&env.kindOf n==some .cell)then(n,NameKind.cell)else(n,k)).lookup x)=
  (names.lookup x).map fun k=>if(k==NameKind.free&&env.scope.kind==.function&&env.kindOf x==some .cell)then NameKind.cell else k
 |[]=>rfl
 |(n,k)::r=>by
  have ih:=FQ (env:=env) (x:=x) (names:=r)
  show List.lookup x ((if(k==NameKind.free&&env.scope.kind==.function&&env.kindOf n==some .cell)=true then(n,NameKind.cell)else(n,k))::_)=_
  by_cases hx:x=n
  ·subst hx
   rw[S9 (a:=k),Qn rfl]
   by_cases hc:(k==NameKind.free&&env.scope.kind==.function&&env.kindOf x==some .cell)=true
   ·rw[Qn hc,S9,Qn rfl]
    show _=some (if(k==NameKind.free&&env.scope.kind==.function&&env.kindOf x==some .cell)=true then NameKind.cell else k)
    rw[Qn hc]
   ·rw[Ql hc,S9,Qn rfl]
    show _=some (if(k==NameKind.free&&env.scope.kind==.function&&env.kindOf x==some .cell)=true then NameKind.cell else k)
    rw[Ql hc]
  ·rw[S9 (a:=k),Ql hx]
   by_cases hc:(k==NameKind.free&&env.scope.kind==.function&&env.kindOf n==some .cell)=true
   ·rw[Qn hc,S9,Ql hx];exact ih
   ·rw[Ql hc,S9,Ql hx];exact ih
theorem FR:∀{names:List (Str×NameKind)}{n:Nat}{acc:List (Str×Addr)}{x:Str}{c0:Addr},acc.lookup x=some c0->∃c,(cellsFrom n names acc).lookup x=some c/\(c=c0\/n≤c)
 |[],n,acc,x,c0,h=>⟨c0,h,.inl rfl⟩
 |(m,k)::r,n,acc,x,c0,h=>by
  unfold cellsFrom;split
  ·by_cases hx:x=m
   ·obtain⟨c,h1,h2⟩:=FR (names:=r) (n:=n+1) (acc:=(m,n)::acc) (x:=x) (c0:=n) (by rw[S9,Qn hx])
    exact⟨c,h1,.inr (h2.elim (fun z=>Nat.le_of_eq z.symm) fun z=>Jt z)⟩
   ·obtain⟨c,h1,h2⟩:=FR (names:=r) (n:=n+1) (acc:=(m,n)::acc) (x:=x) (c0:=c0) (by rw[S9,Ql hx];exact h)
    exact⟨c,h1,h2.elim .inl fun z=>.inr (Jt z)⟩
  ·exact FR h
theorem HV:∀{names:List (Str×NameKind)}{n:Nat}{acc:List (Str×Addr)}{x:Str},(x,NameKind.cell)∈names->∃c,(cellsFrom n names acc).lookup x=some c/\n≤c
 |[],n,acc,x,h=>by cases h
 |(m,k)::r,n,acc,x,h=>by
  unfold cellsFrom
  rcases Qb.mp h with e|h
  ·cases e
   rw[Qn (by decide)]
   obtain⟨c,h1,h2⟩:=FR (names:=r) (n:=n+1) (acc:=(m,n)::acc) (x:=m) (c0:=n) (by rw[S9,Qn rfl])
   exact⟨c,h1,h2.elim (fun z=>Nat.le_of_eq z.symm) fun z=>Jt z⟩
  ·split
   ·obtain⟨c,h1,h2⟩:=HV (names:=r) (n:=n+1) (acc:=(m,n)::acc) h
    exact⟨c,h1,Jt h2⟩
   ·exact HV h
def Cg(scope:Scope)(env:Env)(C:Addr):Env:=
 {scope:=relabel scope env,locals:=C,globals:=env.globals,cells:=cellsFrom (C+1) scope.names (P7 env.cells scope.names []),qual:=env.qual,func:=none,code:=env.code,frame:=env.frame,builtins:=env.builtins}
def J5(X:Cx)(N':List Str)(scope:Scope)(s:Shared)(H:Hp)(fp:List Addr):Cx where
 prog:=X.prog
 w:=X.w
 K:=X.K
 mg:=X.mg
 base:=X.base
 A:=X.A
 N:=N'
 s₀:=s
 H₀:=H
 env:=Cg scope X.env s.heap.objs.size
 outer:=X.stack
 stack:=X.stack
 ex:=fp
 fn:=fun x=>scope.names.lookup x==some .cell
 calm:=X.calm
 pn:=[]
 xe:=fun _ _=>False
structure pO(X:Cx)(N':List Str)(scope:Scope)(keep:List Bool)(more:Nat):Prop where
 kind:scope.kind=.function
 uniq:∀y∈scope.names,scope.names.lookup y.1=some y.2
 clos:closureFor scope X.env=pure (P7 X.env.cells scope.names [])
 free:∀y∈scope.names,y.2=.free->(X.env.cells.lookup y.1).isSome=true
 klen:keep.length=X.N.length
 len:N'.length=X.N.length+more
 kept:∀(i:Nat) (x:Str),keep[i]? =some true->N'[i]? =some x->X.N[i]? =some x/\scope.names.lookup x≠some .local/\scope.names.lookup x≠some .cell
 outVis:∀(i:Nat) (x:Str),keep[i]? =some true->X.N[i]? =some x->scope.names.lookup x=some .free->X.env.scope.names.lookup x=some .cell\/X.env.scope.names.lookup x=some .free
def P8(keep:List Bool)(more:Nat)(σ:St):St:=List.zipWith (fun k v=>if k then v else none) keep σ++List.replicate more none
theorem Bq{keep:List Bool}(h:(P8 keep more σ)[i]? =some (some v)):keep[i]? =some true/\σ[i]? =some (some v):=by
 unfold P8 at h
 rcases Az h with⟨_,h⟩|⟨_,h⟩
 ·rw[Ju]at h
  cases e1:keep[i]? with
  |none=>rw[e1]at h;cases h
  |some k=>
   cases e2:σ[i]? with
   |none=>rw[e1,e2]at h;cases h
   |some u=>
    rw[e1,e2]at h;cases k with
    |true=>simp at h;exact⟨rfl,by rw[h]⟩
    |false=>simp at h
 ·cases h
theorem Wb{keep:List Bool}{fp:List Addr}(ok:pO X N' scope keep more)(I:Inv X pins σ H s)
  (hf:∀b∈fp,S6 X pins H b/\b<s.heap.objs.size):
  Inv (J5 X N' scope s H fp) [] (P8 keep more σ) H {s with heap:=pushCells (s.heap.push {cls:=.type "dict",data:=.dict #[]}) scope.names}:=by
 have hsz:(s.heap.push {cls:=.type "dict",data:=.dict #[]}).objs.size=s.heap.objs.size+1:=Yq ..
 have keepAll:∀b u,s.heap.get? b=some u->(pushCells (s.heap.push {cls:=.type "dict",data:=.dict #[]}) scope.names).get? b=some u:=fun b u e=>Vo _ _ _ _ (Qx _ e)
 have cases':∀x c,(Cg scope X.env s.heap.objs.size).cells.lookup x=some c->X.env.cells.lookup x=some c\/((pushCells (s.heap.push {cls:=.type "dict",data:=.dict #[]}) scope.names).IsCell c none/\s.heap.objs.size+1≤c/\(x,NameKind.cell)∈scope.names):=fun x c e=>by
  have e':(cellsFrom ((s.heap.push {cls:=.type "dict",data:=.dict #[]}).objs.size) scope.names (P7 X.env.cells scope.names [])).lookup x=some c:=by rw[hsz];exact e
  rcases HS e' with z|⟨z1,z2,z3⟩
  ·rcases BA z with y|y
   ·cases y
   ·exact .inl y
  ·rw[hsz]at z2;exact .inr ⟨z1,z2,z3⟩
 have cellLt:∀x c,X.env.cells.lookup x=some c->c<s.heap.objs.size:=fun x c e=>by
  obtain⟨v,q⟩:=I.cell x c e;exact q.lt
 have fsSub:∀b∈qA X.stack,b<s.heap.objs.size:=fun b hb=>by
  obtain⟨_,o,ho,_⟩:=I.stack.mem hb;exact Qu ho
 refine⟨⟨I.ok.mod,?_,I.ok.glob,I.ok.blt,Qp _,fun x y c e1 e2=>?_,fun x hx=>?_,fun x c e1 e2=>?_,I.ok.hd,I.ok.frames,.inl rfl,fun b hb=>?_,I.bs,Zp I.ok.bsz I.sz,fun b o e hb=>?_,fun b hb hb2=>?_,I.stack,I.stkFree⟩,
  rfl,I.bare,Un.kept keepAll,⟨fun _=>none,(Heap.Ns.new s.heap (.type "dict")).keeps (Vo _ _),fun i x v e1 e2 e3=>?_⟩,fun x c e=>?_,I.hok.fresh (Qp _),fun x c e=>?_,fun p hp=>absurd (show p∈([]:OX)from hp) (by simp),I.hok.kept keepAll,?_⟩
 ·show(relabel scope X.env).kind=.function
  exact ok.kind
 ·refine HU (names:=scope.names) (n:=s.heap.objs.size+1) (acc:=P7 X.env.cells scope.names []) (fun x y c q1 q2=>?_) (fun x c q=>?_) x y c e1 e2
  ·rcases BA q1 with z1|z1
   ·cases z1
   ·rcases BA q2 with z2|z2
    ·cases z2
    ·exact I.ok.inj x y c z1 z2
  ·rcases BA q with z1|z1
   ·cases z1
   ·exact Jh (cellLt x c z1)
 ·have hx':(relabel scope X.env).names.lookup x=some .cell\/(relabel scope X.env).names.lookup x=some .free:=hx
  have h1:scope.names.lookup x=some .cell\/scope.names.lookup x=some .free:=by
   unfold relabel at hx';rw[FQ]at hx';cases q:scope.names.lookup x with
   |none=>rw[q]at hx';simp at hx'
   |some k=>
    rw[q]at hx';cases k<;>simp at hx'<;>first|exact .inl rfl|exact .inr rfl
  refine Yp.mp (Ub scope.names _ _ ?_)
  rcases h1 with h1|h1
  ·exact .inl h1
  ·exact .inr (Bp (Zz h1) (ok.free _ (Zz h1) rfl))
 ·have e1':scope.names.lookup x=some .cell:=by simpa [J5]using e1
  obtain⟨c',q1,q2⟩:=HV (names:=scope.names) (n:=s.heap.objs.size+1) (acc:=P7 X.env.cells scope.names []) (Zz e1');have e2':(cellsFrom (s.heap.objs.size+1) scope.names (P7 X.env.cells scope.names [])).lookup x=some c:=e2;rw[q1]at e2';cases e2';exact Jt q2
 ·refine⟨Qs (hf b hb).2,fun x c e z=>?_⟩
  rcases cases' x c e with y|⟨_,y,_⟩
  ·exact(hf b hb).1.2.2.2.2.1 x c y z
  ·exact absurd (Qr (hf b hb).2 (Jt y)) (by rw[z];exact Yy _)
 ·have:=(I.bs b o e).1
  rcases(hf b hb).1.2.2.2.1 with z|z
  ·exact I.ok.noex b o e z
  ·exact absurd (Qr (Qu e) (Zp I.ok.bsz z)) (Yy _)
 ·rcases Qb.mp (I.stkSub b hb2)with z|z
  ·exact(hf b hb).1.2.1 z
  ·exact(hf b hb).1.2.2.1 z
 ·obtain⟨k1,k2⟩:=Bq e2
  obtain⟨h1,h2,h3⟩:=ok.kept i x k1 e1;have e3':(relabel scope X.env).names.lookup x=some .local\/(relabel scope X.env).names.lookup x=some .cell\/(relabel scope X.env).names.lookup x=some .free:=e3;have hfree:scope.names.lookup x=some .free:=by
   unfold relabel at e3';rw[FQ]at e3';cases q:scope.names.lookup x with
   |none=>rw[q]at e3';simp at e3'
   |some k=>
    rw[q]at e3' h2 h3;cases k<;>simp at e3' h2 h3<;>rfl
  obtain⟨m,hn,hl⟩:=I.loc;have ov:=ok.outVis i x k1 h1 hfree;obtain⟨u,r,l⟩:=hl i x v h1 k2 (.inr ov);refine⟨u,r,.inr ?_⟩;obtain⟨c0,hc0⟩:=Yp.mp (ok.free _ (Zz hfree) rfl);have hcell:s.heap.IsCell c0 (some u):=by
   rcases l with⟨kl,_⟩|⟨_,c,hc,hz⟩
   ·have kl':X.env.scope.names.lookup x=some .local:=kl
    rcases ov with z|z<;>(rw[z]at kl';cases kl')
   ·have hc':X.env.cells.lookup x=some c:=hc
    have hc0':X.env.cells.lookup x=some c0:=hc0
    rw[hc']at hc0';cases hc0';exact hz
  have hk:(Cg scope X.env s.heap.objs.size).kindOf x=some .cell\/(Cg scope X.env s.heap.objs.size).kindOf x=some .free:=by
   show(relabel scope X.env).names.lookup x=some .cell\/(relabel scope X.env).names.lookup x=some .free
   rcases e3' with z|z
   ·exfalso
    unfold relabel at z;rw[FQ,hfree]at z;simp only[Xe,Zc]at z;split at z<;>cases z
   ·exact z
  refine⟨hk,c0,?_,hcell.keeps keepAll⟩;obtain⟨c1,hc1⟩:=Yp.mp (Ub (x:=x) scope.names (s.heap.objs.size+1) (P7 X.env.cells scope.names []) (.inr (Bp (Zz hfree) (ok.free _ (Zz hfree) rfl))));have hc1':(Cg scope X.env s.heap.objs.size).cells.lookup x=some c1:=hc1
  rcases cases' x c1 hc1' with z|⟨_,_,z⟩
  ·have hc0':X.env.cells.lookup x=some c0:=hc0
   rw[hc0']at z;cases z;exact hc1'
  ·have:=ok.uniq _ z
   rw[hfree]at this;cases this
 ·rcases cases' x c e with y|⟨y,_,_⟩
  ·obtain⟨v,q⟩:=I.cell x c y
   exact⟨v,q.keeps keepAll⟩
  ·exact⟨none,y⟩
 ·rcases cases' x c e with y|⟨_,y,_⟩
  ·exact I.freeC x c y
  ·exact I.hok.fresh (by omega)
 ·show(P8 keep more σ).length=N'.length
  unfold P8;rw[Qa,Yd,Ze,ok.len,ok.klen,I.len]
  omega
section
variable{prog:Program}{w:World}{A:Around}{R:Result->Shared->Prop}
theorem Wc{M:Model}{env:Env}{Q:Env->Shared->Prop}(cl:List (Str×Addr))
  (h:Q {scope:=scope,locals:=s.heap.objs.size,globals:=env.globals,cells:=cellsFrom (s.heap.objs.size+1) scope.names cl,qual:=env.qual,func:=none,code:=env.code,frame:=env.frame,builtins:=env.builtins}
   {s with heap:=pushCells (s.heap.push {cls:=.type "dict",data:=.dict #[]}) scope.names}):
  wpAny M A (newFunctionEnv scope env.globals cl [] env.qual none .none (some env)) Q E s:=by
 simp only[newFunctionEnv,Option.isSome_some,Zn];refine Qq (wpAny_alloc ?_);refine Qq (wpAny_layCells _ (fun name kind cells=>by cases hkc:kind==NameKind.cell<;>simp[hkc]) _ _ _ _ ?_)
 rw[show({s with heap:=s.heap.push {cls:=.type "dict",data:=.dict #[]}}:Shared).heap.objs.size=s.heap.objs.size+1 from Yq ..]
 exact Qq (by rw[List.forIn_nil];exact Qv (Qv h))
end
def U0(X:Cx)(ifs:List Expr)(t:TT):Prop:=
 ∀(pins:OX) (s:Shared) (σ:St) (H:Hp) (Q:Bool->Hp->Prop),Inv X pins σ H s->t σ H Q->
  wpAny (model X.prog X.w) X.A (forIn ifs true fun c r=>if r=true then do let ok←isTrue c X.env (eval c X.env);pure (ForInStep.yield ok)else pure (ForInStep.yield r)) (TP X pins σ Q) X.xe s
theorem Wd:U0 X [] (fun _ H Q=>Q true H):=fun _ _ _ H _ I h=>wpAny_tests_nil ⟨H,I,h⟩
theorem We{t:TT}(h:PT X c t):U0 X [c] t:=fun pins s σ H Q I q=>wpAny_tests_one (h pins s σ H Q I q)
section
variable{keep:List Bool}{elt:Expr}{ifs:List Expr}{g:TG}{tt:TT}{te:TE}{pos:Pos}
end
def P9(keep:List Bool)(more:Nat)(env:c5):c5:=List.zipWith (fun k w=>if k then w else .nil) keep env++List.replicate more .nil
def W7:Bool->W->W->Option W
 |false,w,_=>some w
 |true,.nil,_=>some .nil
 |true,.dat d,_=>some (.dat d)
 |true,.own _,.own ds=>some (.own ds)
 |true,.own _,.dat d=>some (.dat d)
 |true,.par _,.par ds=>some (.par ds)
 |true,.ownD _ _,.ownD ks vs=>some (.ownD ks vs)
 |true,.ownD _ _,.dat d=>some (.dat d)
 |true,.parD _ _,.parD ks vs=>some (.parD ks vs)
 |_,_,_=>none
theorem Wf{w':W}(h:W7 true w w2=some w')(e:w'.mut=some m):w2=w'/\∃d0,w.mut=some d0/\w.isOwn=w'.isOwn/\w.isPar=w'.isPar:=by
 cases w<;>cases w2<;>first
  |(simp only[W7,Zc]at h;subst h;exact⟨rfl,_,rfl,rfl,rfl⟩)
  |(simp only[W7,Zc]at h;subst h;cases e;done)
  |(simp[W7]at h;done)
theorem Wg(h:W7 true w w2=some (.dat d)):w=.dat d\/(w2=.dat d/\∃d0,w.mut=some d0):=by
 cases w<;>cases w2<;>first
  |(simp only[W7,Zc]at h;exact .inl h)
  |(simp only[W7,Zc]at h;exact .inr ⟨h,_,rfl⟩)
  |(simp[W7]at h;done)
def O7:List Bool->c5->c5->Option c5
 |[],[],_=>some []
 |k::ks,w::ws,w2::ws2=>(W7 k w w2).bind fun x=>(O7 ks ws ws2).map fun r=>x::r
 |_,_,_=>none
theorem HW:∀{keep:List Bool}{env i5 env':c5}{i:Nat}{w':W},O7 keep env i5=some env'->env'[i]? =some w'->∃k w w2,keep[i]? =some k/\env[i]? =some w/\i5[i]? =some w2/\W7 k w w2=some w'
 |[],[],_,env',i,w',h,e=>by simp only[O7,Zc]at h;subst h;simp at e
 |[],_::_,_,env',i,w',h,e=>by simp[O7]at h
 |k::ks,[],_,env',i,w',h,e=>by simp[O7]at h
 |k::ks,w::ws,[],env',i,w',h,e=>by simp[O7]at h
 |k::ks,w::ws,w2::ws2,env',i,w',h,e=>by
  unfold O7 at h;obtain⟨x,h1,h2⟩:=C6 h;obtain⟨r,h3,h4⟩:=F4 h2;subst h4;cases i with
  |zero=>simp at e;subst e;exact⟨k,w,w2,rfl,rfl,rfl,h1⟩
  |succ i=>simpa using HW (i:=i) h3 (by simpa using e)
theorem MU:∀{keep:List Bool}{env i5 env':c5},O7 keep env i5=some env'->env'.length=env.length
 |[],[],_,env',h=>by simp only[O7,Zc]at h;subst h;rfl
 |[],_::_,_,env',h=>by simp[O7]at h
 |k::ks,[],_,env',h=>by simp[O7]at h
 |k::ks,w::ws,[],env',h=>by simp[O7]at h
 |k::ks,w::ws,w2::ws2,env',h=>by
  unfold O7 at h;obtain⟨x,h1,h2⟩:=C6 h;obtain⟨r,h3,h4⟩:=F4 h2;subst h4
  simp[MU h3]
theorem Br{keep:List Bool}(h:(P9 keep more env)[i]? =some w)(hw:w≠.nil):keep[i]? =some true/\env[i]? =some w:=by
 unfold P9 at h
 rcases Az h with⟨_,h⟩|⟨_,h⟩
 ·rw[Ju]at h
  cases e1:keep[i]? with
  |none=>rw[e1]at h;cases h
  |some k=>
   cases e2:env[i]? with
   |none=>rw[e1,e2]at h;cases h
   |some u=>
    rw[e1,e2]at h;cases k with
    |true=>simp at h;exact⟨rfl,by rw[h]⟩
    |false=>simp at h;exact absurd h.symm hw
 ·exact absurd h hw
theorem Dm{keep:List Bool}{v:Option V}(hk:keep[i]? =some true)(h:σ[i]? =some v):(P8 keep more σ)[i]? =some v:=by
 unfold P8;have h1:i<keep.length:=(Qg.mp hk).1;have h2:i<σ.length:=(Qg.mp h).1;rw[Jp (by rw[Yd];omega),Ju,hk,h]
 rfl
theorem Dn{ds:Mu}(h:w.mut=some ds):w≠.nil:=fun z=>by rw[z]at h;cases h
section
variable{K:Qz}{i5:c5}{keep:List Bool}
theorem HX(h:d5 (P8 keep more σ) (P9 keep more env) a):d5 σ env a:=by
 obtain⟨i,w,ds,e1,e2,e3⟩:=h;exact⟨i,w,ds,(Br e1 (Dn e2)).2,e2,(Bq e3).2⟩
theorem Rel.ext(r:Rel K B G σ env H)(hk:keep.length=σ.length):Rel K B G (P8 keep more σ) (P9 keep more env) H:=by
 refine⟨r.sub,?_,fun i d e=>?_,fun i w ds e1 e2=>?_,fun i j w w' ds es a q1 q2 q3 q4 q5 q6=>?_,fun i w a q1 qo q2=>?_,r.old,r.tabs,r.gnt⟩
 ·unfold P9 P8
  rw[Qa,Qa,Yd,Yd,Ze,Ze,r.len]
 ·obtain⟨k1,k2⟩:=Br e (by simp)
  obtain⟨v,e1,e2⟩:=r.dat i d k2;exact⟨v,Dm k1 e1,e2⟩
 ·obtain⟨k1,k2⟩:=Br e1 (Dn e2)
  obtain⟨a,xs,e3,e4⟩:=r.own i w ds k2 e2;exact⟨a,xs,Dm k1 e3,e4⟩
 ·exact r.inj i j w w' ds es a (Br q1 (Dn q2)).2 q2 (Br q3 (Dn q4)).2 q4 (Bq q5).2 (Bq q6).2
 ·exact r.fresh i w a (Br q1 (by rintro rfl;cases qo)).2 qo (Bq q2).2
theorem Ev.out(r:Rel K B G σ env H)(hk:keep.length=σ.length)(ev:Ev K B G (P8 keep more σ) (P9 keep more env) H G' σ' i5 H')(hσ:∀j,j<σ.length->σ'[j]? =(P8 keep more σ)[j]?)(ho:O7 keep env i5=some env'):
  Ev K B G σ env H G' σ env' H':=by
 have mutO:∀(i:Nat) (w':W) (ds:Mu),env'[i]? =some w'->w'.mut=some ds->∃w0 d0,env[i]? =some w0/\w0.mut=some d0/\w0.isOwn=w'.isOwn/\w0.isPar=w'.isPar/\
   ∃a o,σ[i]? =some (some (V.ref a))/\H' a=some o/\qS K G' o ds/\G' a=none:=fun i w' ds e1 e2=>by
  obtain⟨k,w,w2,h1,h2,h3,h4⟩:=HW ho e1;have hi:i<σ.length:=by have:=(Qg.mp h2).1;rw[←r.len];exact this
  cases k with
  |false=>
   simp only[W7,Zc]at h4;subst h4;obtain⟨a,xs,q1,q2,q3,q4⟩:=r.own i w ds h2 e2;have no:¬ d5 (P8 keep more σ) (P9 keep more env) a:=by
    rintro⟨j,v,es,y1,y2,y3⟩;obtain⟨z1,z2⟩:=Br y1 (Dn y2);have:=r.inj j i v w es ds a z2 y2 h2 e2 (Bq y3).2 q1;subst this;rw[h1]at z1;cases z1
   exact⟨w,ds,h2,e2,rfl,rfl,a,xs,q1,ev.keep a _ no q3.nt q2,q3.mono ev.same,ev.stay a (by rw[q2];simp) no q4⟩
  |true=>
   obtain⟨z,d0,z1,z2,z3⟩:=Wf h4 e2;subst z;refine⟨w,d0,h2,z1,z2,z3,?_⟩;obtain⟨a,xs,q1,q2,q3,q4⟩:=ev.rel.own i w2 ds h3 e2;obtain⟨a0,xs0,p1,_⟩:=r.own i w d0 h2 z1;rw[hσ i hi,Dm h1 p1]at q1;cases q1;exact⟨a,xs,p1,q2,q3,q4⟩
 refine⟨⟨ev.rel.sub,by rw[MU ho];exact r.len,fun i d e=>?_,fun i w ds e1 e2=>?_,fun i j w w' ds es a q1 q2 q3 q4 q5 q6=>?_,fun i w a q1 qo q2=>?_,ev.rel.old,ev.rel.tabs,ev.rel.gnt⟩,ev.same,fun b o n t e=>ev.keep b o (fun z=>n (HX z)) t e,ev.live,fun b e n g=>ev.stay b e (fun z=>n (HX z)) g,fun a z=>.inl ?_,fun i w e hp=>⟨rfl,?_⟩,rfl⟩
 ·obtain⟨k,w,w2,h1,h2,h3,h4⟩:=HW ho e
  have hi:i<σ.length:=by have:=(Qg.mp h2).1;rw[←r.len];exact this
  have old:w=.dat d->∃v,σ[i]? =some (some v)/\c4 K G' v d:=fun z=>by
   subst z;obtain⟨v,e1,e2⟩:=r.dat i d h2;exact⟨v,e1,c4.mono ev.same d e2⟩
  cases k with
  |false=>simp only[W7,Zc]at h4;exact old h4
  |true=>
   rcases Wg h4 with z|⟨z,d0,z0⟩
   ·exact old z
   ·subst z
    obtain⟨v,q1,q2⟩:=ev.rel.dat i d h3;obtain⟨a0,xs0,p1,_⟩:=r.own i _ d0 h2 z0;rw[hσ i hi,Dm h1 p1]at q1;cases q1;exact⟨_,p1,q2⟩
 ·obtain⟨w0,d0,_,_,_,_,q⟩:=mutO i w ds e1 e2
  exact q
 ·obtain⟨w0,d0,y1,y2,_⟩:=mutO i w ds q1 q2
  obtain⟨w1,d1,y3,y4,_⟩:=mutO j w' es q3 q4;exact r.inj i j w0 w1 d0 d1 a y1 y2 y3 y4 q5 q6
 ·obtain⟨m,hm⟩:=sG qo
  obtain⟨w0,d0,y1,_,y3,_⟩:=mutO i _ m q1 hm;exact r.fresh i w0 a y1 (y3.trans qo) q2
 ·obtain⟨i,w,ds,e1,e2,e3⟩:=z
  obtain⟨w0,d0,y1,y2,_⟩:=mutO i w ds e1 e2;exact⟨i,w0,d0,y1,y2,e3⟩
 ·obtain⟨m,hm⟩:=rA hp
  obtain⟨w0,d0,y1,_,_,y4,_⟩:=mutO i _ m e hm;exact⟨w0,y1,y4.trans hp⟩
theorem Ev.swapAt(ev:Ev K B G σ env H G' σ' env' H')(no:¬ d5 σ env p)(hp:H p≠none)(gp:G p=none)(nt:NT o)(nx:∀φ,H' p≠some (.ext φ)):Ev K B G σ env (upd H p o) G' σ' env' (upd H' p o):=by
 have np:∀(i:Nat) (w:W) (ds:Mu) (a:Addr),env'[i]? =some w->w.mut=some ds->σ'[i]? =some (some (V.ref a))->a≠p:=fun i w ds a e1 e2 e3 z=>by
  rcases ev.sub a ⟨i,w,ds,e1,e2,e3⟩with q|q
  ·exact no (z ▸ q)
  ·exact hp (z ▸ q)
 have gp':G' p=none:=ev.stay p hp no gp
 have live':∀b,H' b≠none->(upd H' p o) b≠none:=fun b h=>by
  by_cases hb:b=p
  ·subst hb;rw[G7];simp
  ·rw[D3 hb];exact h
 refine⟨⟨fun b u e=>?_,ev.rel.len,ev.rel.dat,fun i w ds e1 e2=>?_,ev.rel.inj,ev.rel.fresh,fun b h=>live' b (ev.rel.old b h),ev.rel.tabs.upd nt nx,ev.rel.gnt⟩,ev.same,fun b u n t e=>?_,fun b e=>?_,fun b e n g=>?_,fun a z=>?_,ev.par,ev.slen⟩
 ·have hb:b≠p:=fun z=>by rw[z,gp']at e;cases e
  rw[D3 hb];exact ev.rel.sub b u e
 ·obtain⟨a,xs,e3,e4,e5,e6⟩:=ev.rel.own i w ds e1 e2
  exact⟨a,xs,e3,by rw[D3 (np i w ds a e1 e2 e3)];exact e4,e5,e6⟩
 ·by_cases hb:b=p
  ·subst hb;rw[G7]at e ⊢;exact e
  ·rw[D3 hb]at e ⊢;exact ev.keep b u n t e
 ·by_cases hb:b=p
  ·subst hb;rw[G7];simp
  ·rw[D3 hb]at e ⊢;exact ev.live b e
 ·by_cases hb:b=p
  ·subst hb;exact gp'
  ·rw[D3 hb]at e;exact ev.stay b e n g
 ·obtain⟨i,w,ds,e1,e2,e3⟩:=id z
  rw[D3 (np i w ds a e1 e2 e3)];exact ev.sub a z
end
def M1(g:OZ)(t:Mo Bool)(m:Mo D):List D->Mo (List D)
 |[],env=>some ([],env)
 |d::ds,env=>(g d env).bind fun e1=>(t e1).bind fun p=>if p.1 then(m p.2).bind fun q=>(M1 g t m ds q.2).map fun r=>(q.1::r.1,r.2)else M1 g t m ds p.2
def D6(mi:Mo (List D))(keep:List Bool)(more:Nat)(g:OZ)(t:Mo Bool)(m:Mo D):Mo (List D):=fun env=>(mi env).bind fun p=>if p.1.length≤100000 then
 (M1 g t m p.1 (P9 keep more p.2)).bind fun q=>(O7 keep p.2 q.2).map fun e=>(q.1,e)else none
def E7:Mo Bool:=fun env=>some (true,env)
theorem M9:U0 X [] (sY X.K B E7):=fun pins s σ H Q I h=>by
 obtain⟨G,env,b,env',rl,e,k⟩:=h;cases e;exact Wd pins s σ H Q I (k G H (.refl rl))
theorem Ab{t:Mo Bool}(h:ET X B c t):U0 X [c] (sY X.K B t):=We h
section
variable{keep:List Bool}{elt:Expr}{ifs:List Expr}{g:OZ}{t:Mo Bool}{m:Mo D}{mi:Mo (List D)}{pos:Pos}
end
section
variable{pos:Pos}{a:Expr}
def uK:D->String
 |.non=>"NoneType"|.bl _=>"bool"|.int _=>"int"|.str _=>"str"|.tup _=>"tuple"|.lst _=>"list"|.emp=>"dict"|.obj _=>"object"|.dct _ _=>"dict"
def L7(K:Qz)(T:String):Prop:=T∈(["tuple","list","int","bool","str"]:List String)
def T0(t T:String):Bool:=t==T||(t=="bool"&&T=="int")
theorem HY{K:Qz}(h:L7 K T):∀d,(∀o,d≠.obj o)->PySem.W.kitOne K (.type (uK d)) (.type T)=some (T0 (uK d) T):=by
 intro d hd;unfold L7 at h;simp only[Qb,Qo,Yb]at h
 rcases h with rfl|rfl|rfl|rfl|rfl<;>cases d<;>first|rfl|exact absurd rfl (hd _)
theorem Wh{A:Around}{Q:OE}{x:V}{u:Value}(I:Inv X pins σ H s)(l:Le G H)(rx:E2 x u)(rp:c4 X.K G x d)
  (kt:L7 X.K T)(h:∀tk,Q (.bool (T0 (uK d) T)) {s with toks:=tk}):wpAny (model X.prog X.w) A (call (.builtin "isinstance") [u,.type T]) Q E s:=by
 have e:=HY kt d
 cases d with
 |non=>simp only[c4]at rp;subst rp;exact CW I rx (.non) (e nofun) h
 |bl b=>simp only[c4]at rp;subst rp;exact CW I rx (.bl b) (e nofun) h
 |int i=>simp only[c4]at rp;subst rp;exact CW I rx (.int i) (e nofun) h
 |str z=>simp only[c4]at rp;obtain⟨rp,_⟩:=rp;subst rp;exact CW I rx (.str z) (e nofun) h
 |tup ds=>
  simp only[c4]at rp;obtain⟨a,xs,rfl,q,_⟩:=rp;cases rx;obtain⟨its,_,⟨o,h1,h2,_⟩,_⟩:=I.tuple (l.sqT q);exact Zu Xw I.kIn ⟨o,h1,h2⟩ (e nofun) (fun z=>nomatch z) h
 |lst ds=>
  simp only[c4]at rp;obtain⟨a,xs,rfl,q,_⟩:=rp;cases rx;obtain⟨its,_,⟨o,n,h1,h2,_⟩,_⟩:=I.list (l.sqL q);exact Zu Vb I.kIn ⟨o,h1,h2⟩ (e nofun) (fun z=>nomatch z) h
 |emp=>
  simp only[c4]at rp;obtain⟨a,kvs,rfl,q⟩:=rp;exact CW I rx (.dK (l _ _ q)) (e nofun) h
 |dct ks vs=>
  simp only[c4]at rp;obtain⟨a,kvs,rfl,q,_⟩:=rp;exact CW I rx (.dT (l _ _ q)) (e nofun) h
 |obj o=>
  have h0:T0 "object" T=false:=by
   unfold L7 at kt;simp only[Qb,Qo,Yb]at kt
   rcases kt with rfl|rfl|rfl|rfl|rfl<;>rfl
  have h':∀tk,Q (.bool false) {s with toks:=tk}:=fun tk=>by have:=h tk;rwa [show T0 (uK (.obj o)) T=false from h0]at this
  simp only[c4]at rp;cases o with
  |exc n=>
   obtain⟨a,C,HP,rfl,_,h3,h4,h5⟩:=rp;cases rx;exact Zu h4 I.kIn (I.hok a _ (l _ _ h3)).1 (h5 T kt) (fun z=>nomatch z) h'
  |fn n=>
   obtain⟨f,rfl,_,h4⟩:=rp;cases rx;refine Zu h4 I.kIn True.intro ?_ (fun z=>nomatch z) h'
   unfold L7 at kt;simp only[Qb,Qo,Yb]at kt
   rcases kt with rfl|rfl|rfl|rfl|rfl<;>rfl
  |dk kvs=>
   obtain⟨a,rfl,q⟩:=rp;obtain⟨_,_,vs,_,dd⟩:=(show K1 X.prog X.w H s.heap a (.dK _)from I.hok a _ (l _ _ q))
   obtain⟨o,h1,h2⟩:∃o,s.heap.get? a=some o/\o.cls=.type "dict":=by
    obtain⟨o,es,ep,g1,g2,_⟩:=dd;exact⟨o,g1,g2.1⟩
   cases rx;refine Zu Yo I.kIn ⟨o,h1,h2⟩ ?_ (fun z=>nomatch z) h'
   unfold L7 at kt;simp only[Qb,Qo,Yb]at kt
   rcases kt with rfl|rfl|rfl|rfl|rfl<;>rfl
  |dt kvs=>
   obtain⟨a,ps,rfl,q,_⟩:=rp;obtain⟨_,_,vs,_,dd⟩:=(show K1 X.prog X.w H s.heap a (.dK _)from I.hok a _ (l _ _ q))
   obtain⟨o,h1,h2⟩:∃o,s.heap.get? a=some o/\o.cls=.type "dict":=by
    obtain⟨o,es,ep,g1,g2,_⟩:=dd;exact⟨o,g1,g2.1⟩
   cases rx;refine Zu Yo I.kIn ⟨o,h1,h2⟩ ?_ (fun z=>nomatch z) h'
   unfold L7 at kt;simp only[Qb,Qo,Yb]at kt
   rcases kt with rfl|rfl|rfl|rfl|rfl<;>rfl
theorem Wi{K:Qz}:L7 K "tuple":=by simp[L7]
theorem Wj{K:Qz}:L7 K "list":=by simp[L7]
theorem Wk{K:Qz}:L7 K "int":=by simp[L7]
theorem Wl{K:Qz}:L7 K "bool":=by simp[L7]
theorem Wm{K:Qz}:L7 K "str":=by simp[L7]
def rR(T:String)(m:Mo D):Mo D:=fun env=>(m env).map fun p=>(.bl (T0 (uK p.1) T),p.2)
theorem R3{y:Str}{p p2:Pos}(kt:L7 X.K T)(ha:ED X B a ma)(hg:Gl X "isinstance")(hm:X.mg "isinstance"=none)(hgT:Gl X y)(hmT:X.mg y=none)(hvT:bootBuiltins y=some (.type T))
  (hnT:y≠"__name__":=by decide)(hdT:(y==("__debug__":Str))=false:=by decide)
  (he:starEach [a,.Name y p2] X.env=[(false,eval a X.env),(false,eval (.Name y p2) X.env)]:=by rfl):ED X B (.Call (.Name "isinstance" p) [a,.Name y p2] [] pos) (rR T ma):=by
 have hT:PE X (.Name y p2) (tC (.ty T)):=Ep hgT hmT hvT rfl hnT hdT
 have hc:M0 X (.builtin "isinstance") (fun xs H Q=>∃x G d,xs=[x,.ty T]/\Le G H/\c4 X.K G x d/\Q (.bl (T0 (uK d) T)) H):=by
  intro pins s σ H xs us Q I r h;obtain⟨x,G,d,rfl,l,rp,q⟩:=h;obtain⟨u,w',rfl,r1,r2⟩:=As r;cases r2;exact Wh I l r1 rp kt fun tk=>⟨.bl _,H,I.tok _,rfl,q⟩
 have h1:starEach [Expr.Name y p2] X.env=[(false,eval (.Name y p2) X.env)]:=rfl
 refine c8 (CZ (pos:=pos) (p:=p) hc hg hm (by rfl') (R0 ha (R0 hT AA) he) (he:=he)) ?_
 rintro σ H Q ⟨G,env,d,env',rl,e,k⟩;obtain⟨⟨d1,a8⟩,e1,e2⟩:=F4 e;cases e2;exact .bind rl e1 fun v G1 H1 ev r=>⟨v,G1,d1,rfl,ev.rel.sub,r,k _ G1 H1 ev (by simp only[c4])⟩
def U1:List D->Option Bool
 |[]=>some true
 |.bl b::r=>(U1 r).map fun k=>b&&k
 |_::_=>none
def BB:List D->Option D
 |[.lst ds]=>(U1 ds).map fun k=>.bl k
 |_=>none
theorem MV{K:Qz}{G:Hp}:∀{ds:List D}{xs:List V}{us:List Value}{k:Bool},C3 K G xs ds->D2 xs us->U1 ds=some k->∃bs,LSm.BoolsAre us bs/\bs.all id=k
 |[],_,us,k,r,v,e=>by
  simp only[C3]at r;subst r;cases v;cases e;exact⟨[],.nil,rfl⟩
 |d::ds,_,us,k,r,v,e=>by
  simp only[C3]at r;obtain⟨x,t,rfl,q,r⟩:=r;cases d<;>first|(exact absurd (show(none:Option Bool)=some k from e) (by simp))|skip
  obtain⟨k',e1,e2⟩:=F4 (show(U1 ds).map _=some k from e)
  simp only[c4]at q;subst q;cases v with
  |cons v1 v2=>
   cases v1;obtain⟨bs,h1,h2⟩:=MV r v2 e1;exact⟨_::bs,.cons _ h1,by rw[←e2,←h2];rfl⟩
theorem Ch(hc:X.calm=true):M0 X (.builtin "all") (fun xs H Q=>∃p G ys ds k,xs=[.ref p]/\Le G H/\qK X.K G p ys/\C3 X.K G ys ds/\U1 ds=some k/\Q (.bl k) H):=by
 intro pins s σ H xs us Q I r h;obtain⟨p,G,ys,ds,k,rfl,l,hq,rp,ek,q⟩:=h;obtain⟨u,rfl,rx⟩:=X9 r;cases rx;obtain⟨its,r',pl,hz⟩:=I.list (l.sqL hq);obtain⟨bs,hb,hk⟩:=MV rp r' ek;have hh:X.A.handled=none:=I.ok.hd hc;have hl:=pl.isList;have hlt:p<s.heap.objs.size:=by obtain⟨_,e,_⟩:=hl;exact Qu e
 refine call_all_walk (Ul hl ?_);refine⟨s.heap.objs.size,[s.heap.objs.size,p],[s.heap.objs.size],its.toArray.size,_,_,fun i=>(bs[i]?).getD true,rfl,Walks.list (A:=X.A.in1) hh _ p (Qs hlt) its.toArray,
  ⟨⟨_,Qd _ rfl,rfl,rfl⟩,hl.push _⟩,fun i v s' Q' E' hP hQ=>?_,fun h' tk hk'=>?_⟩
 ·obtain⟨b,e,rfl⟩:=hb.get i v (by simpa using hP)
  simp only[e,Option.getD_some]at hQ;exact Yw hQ
 ·have e:((List.range its.toArray.size).all fun i=>(bs[i]?).getD true)=bs.all id:=by
   rw[Qm,hb.length];exact LSm.range_all bs
  rw[e,hk];exact⟨.bl k,H,I.kept (t':=tk) (LSm.kept_iter hk'),rfl,q⟩
theorem Wn:Y1 X B (fun xs H Q=>∃p G ys ds k,xs=[.ref p]/\Le G H/\qK X.K G p ys/\C3 X.K G ys ds/\U1 ds=some k/\Q (.bl k) H) BB:=by
 intro G σ env H xs ds c Q rl r e k;unfold BB at e;split at e
 ·rename_i ds
  obtain⟨x,rfl,q⟩:=T6 r;obtain⟨k',e1,e2⟩:=F4 e;subst e2;simp only[c4]at q;obtain⟨a,ys,rfl,h1,h2⟩:=q;exact⟨a,G,ys,ds,k',rfl,rl.sub,h1,h2,e1,k _ G H (.refl rl) (by simp only[c4])⟩
 ·cases e
def Ci:List D->Option D
 |[.int i,.int j]=>some (.int (if j>i then j else i))
 |_=>none
def Cj:List D->Option D
 |[.int i,.int j]=>some (.int (if j<i then j else i))
 |_=>none
def Ac:List D->Option D
 |[.int i]=>some (.int i)
 |[.bl k]=>some (.int (if k then 1 else 0))
 |_=>none
theorem Wo:Y1 X B (fun xs H Q=>∃i j,xs=[.int i,.int j]/\Q (.int (if j>i then j else i)) H) Ci:=by
 intro G σ env H xs ds c Q rl r e k;unfold Ci at e;split at e
 ·rename_i i j
  cases e;obtain⟨x,y,rfl,q1,q2⟩:=FF r;simp only[c4]at q1 q2;subst q1 q2;exact⟨i,j,rfl,k _ G H (.refl rl) (by simp only[c4])⟩
 ·cases e
theorem Wq:Y1 X B (fun xs H Q=>∃i j,xs=[.int i,.int j]/\Q (.int (if j<i then j else i)) H) Cj:=by
 intro G σ env H xs ds c Q rl r e k;unfold Cj at e;split at e
 ·rename_i i j
  cases e;obtain⟨x,y,rfl,q1,q2⟩:=FF r;simp only[c4]at q1 q2;subst q1 q2;exact⟨i,j,rfl,k _ G H (.refl rl) (by simp only[c4])⟩
 ·cases e
theorem Wr:Y1 X B (fun xs H Q=>(∃i,xs=[.int i]/\Q (.int i) H)\/ ∃k,xs=[.bl k]/\Q (.int (if k then 1 else 0)) H) Ac:=by
 intro G σ env H xs ds c Q rl r e k;unfold Ac at e;split at e
 ·rename_i i
  cases e;obtain⟨x,rfl,q1⟩:=T6 r;simp only[c4]at q1;subst q1;exact .inl ⟨i,rfl,k _ G H (.refl rl) (by simp only[c4])⟩
 ·rename_i b
  cases e;obtain⟨x,rfl,q1⟩:=T6 r;simp only[c4]at q1;subst q1;exact .inr ⟨b,rfl,k _ G H (.refl rl) (by simp only[c4])⟩
 ·cases e
def i9:List D->Option (List Int)
 |[]=>some []
 |.int i::r=>(i9 r).map fun l=>i::l
 |_::_=>none
theorem BC{K:Qz}{G:Hp}:∀{ds:List D}{xs:List V}{ns:List Int},C3 K G xs ds->i9 ds=some ns->xs=ns.map V.int
 |[],_,ns,r,e=>by simp only[C3]at r;subst r;cases e;rfl
 |d::ds,_,ns,r,e=>by
  simp only[C3]at r;obtain⟨x,t,rfl,q,r⟩:=r;cases d<;>first|(exact absurd (show(none:Option (List Int))=some ns from e) (by simp))|skip
  obtain⟨l,e1,e2⟩:=F4 (show(i9 ds).map _=some ns from e)
  subst e2;simp only[c4]at q;subst q;rw[BC r e1];rfl
def wR(neg:Bool):D->D->Option D
 |.int i,d=>d.items.bind fun ds=>(i9 ds).map fun ns=>.bl (if neg then !ns.contains i else ns.contains i)
 |_,_=>none
theorem Ws(ns:List Int):(ns.map V.int).all W2=true:=by
 induction ns with
 |nil=>rfl
 |cons n ns ih=>simp[W2,ih]
theorem Wt(i:Int)(ns:List Int):zJ (.int i) (ns.map V.int)=ns.contains i:=by
 unfold zJ
 induction ns with
 |nil=>rfl
 |cons n ns ih=>
  rw[Qh,Xb,ih,Vv]
  congr 1
  show(n==i)=(i==n);exact Bool.beq_comm ..
theorem Wu:qB X B (rIn X.K neg) (wR neg):=by
 intro G σ env H x y a b d Q rl ra rb e k;cases a<;>first|(exact absurd (show(none:Option D)=some d from e) (by simp))|skip
 rename_i i;obtain⟨ds,e1,e2⟩:=C6 (show b.items.bind _=some d from e)
 obtain⟨ns,e3,e4⟩:=F4 e2;subst e4;simp only[c4]at ra;subst ra;obtain⟨p,xs,rfl,h1,h2⟩:=HM rl.sub rb e1;have hx:=BC h2 e3;subst hx;exact⟨p,_,rfl,h1,rfl,Ws ns,k _ G H (.refl rl) (by rw[Wt];simp only[c4])⟩
end
mutual
def sH:D->PyData
 |.non=>.none
 |.bl b=>.bool b
 |.int i=>.int i
 |.str x=>.str x
 |.tup ds=>.tuple (K9 ds)
 |.lst ds=>.list (K9 ds)
 |.emp=>.dict []
 |.obj _=>.dict []
 |.dct _ _=>.dict []
def K9:List D->List PyData
 |[]=>[]
 |d::ds=>sH d::K9 ds
end
def v8(d:D):Bool:=SeqAt.shaped (sH d)
mutual
theorem qC(I:Inv X pins σ H s)(l:Le G H):∀(d:D) (x:V) (u:Value),(sH d).canLay0=true->E2 x u->c4 X.K G x d->∃as,Reads s.heap u (sH d) as
 |.non,x,u,c,r,p=>by simp only[c4]at p;subst p;cases r;exact⟨_,.none⟩
 |.bl b,x,u,c,r,p=>by simp only[c4]at p;subst p;cases r;exact⟨_,.bool b⟩
 |.int i,x,u,c,r,p=>by simp only[c4]at p;subst p;obtain⟨t,rfl⟩:=r;exact⟨_,.int i t⟩
 |.str z,x,u,c,r,p=>by simp only[c4]at p;obtain⟨p,_⟩:=p;subst p;obtain⟨t,rfl⟩:=r;exact⟨_,.str z t⟩
 |.tup ds,x,u,c,r,p=>by
  simp only[c4]at p;obtain⟨a,xs,rfl,q,rp⟩:=p;cases r;obtain⟨its,rv,⟨o,h1,h2,n,h3⟩,_⟩:=I.tuple (l.sqT q);have hc:PyData.canLayAll0 (K9 ds)=true:=by simpa [sH,PyData.canLay0]using c
  obtain⟨as,h⟩:=qD I l ds xs its hc rv rp;exact⟨_,.tuple h1 h2 h3 (by simpa using h)⟩
 |.lst ds,x,u,c,r,p=>by
  simp only[c4]at p;obtain⟨a,xs,rfl,q,rp⟩:=p;cases r;obtain⟨its,rv,⟨o,n,h1,h2,_,h3⟩,_⟩:=I.list (l.sqL q);have hc:PyData.canLayAll0 (K9 ds)=true:=by simpa [sH,PyData.canLay0]using c
  obtain⟨as,h⟩:=qD I l ds xs its hc rv rp;exact⟨_,.list h1 h2 h3 (by simpa using h)⟩
 |.emp,x,u,c,r,p=>by simp[sH,PyData.canLay0]at c
 |.obj _,x,u,c,r,p=>by simp[sH,PyData.canLay0]at c
 |.dct _ _,x,u,c,r,p=>by simp[sH,PyData.canLay0]at c
theorem qD(I:Inv X pins σ H s)(l:Le G H):∀(ds:List D) (xs:List V) (us:List Value),PyData.canLayAll0 (K9 ds)=true->D2 xs us->C3 X.K G xs ds->∃as,ReadsAll s.heap us (K9 ds) as
 |[],xs,us,c,v,p=>by simp only[C3]at p;subst p;cases v;exact⟨_,.nil⟩
 |d::ds,xs,us,c,v,p=>by
  simp only[C3]at p;obtain⟨x,r,rfl,q,t⟩:=p;have hc:(sH d).canLay0=true/\PyData.canLayAll0 (K9 ds)=true:=by simpa [K9,PyData.canLayAll0]using c
  cases v with
  |cons v1 v2=>
   obtain⟨as,h1⟩:=qC I l d x _ hc.1 v1 q;obtain⟨bs,h2⟩:=qD I l ds r _ hc.2 v2 t;exact⟨_,.cons h1 h2⟩
end
def xR(K:Qz)(neg:Bool):R2:=fun x y H Q=>∃G a b,Le G H/\c4 K G x a/\c4 K G y b/\v8 a=true/\v8 b=true/\Q (.bl (if neg then !PyData.eqv (sH a) (sH b)else PyData.eqv (sH a) (sH b))) H
theorem vO(hu:X.A.units+64<cLine):o3 X (compareOp .Eq) (xR X.K false):=by
 intro pins s σ H x y v u Q I rx ry h;obtain⟨G,a,b,l,ra,rb,ha,hb,q⟩:=h;obtain⟨as,h1⟩:=qC I l a x v (Ug ha) rx ra;obtain⟨bs,h2⟩:=qC I l b y u (Ug hb) ry rb;exact eq_dataH h1 h2 ha hb hu ⟨.bl _,H,I,rfl,q⟩
theorem vP(hu:X.A.units+64<cLine):o3 X (compareOp .NotEq) (xR X.K true):=by
 intro pins s σ H x y v u Q I rx ry h;obtain⟨G,a,b,l,ra,rb,ha,hb,q⟩:=h;obtain⟨as,h1⟩:=qC I l a x v (Ug ha) rx ra;obtain⟨bs,h2⟩:=qC I l b y u (Ug hb) ry rb;exact ne_dataH h1 h2 ha hb hu ⟨.bl _,H,I,rfl,q⟩
def j0(neg:Bool):D->D->Option D:=fun a b=>if v8 a&&v8 b then some (.bl (if neg then !PyData.eqv (sH a) (sH b)else PyData.eqv (sH a) (sH b)))else none
theorem xS:qB X B (xR X.K neg) (j0 neg):=by
 intro G σ env H x y a b d Q rl ra rb e k;unfold j0 at e;split at e
 ·rename_i h
  rw[Qy]at h;cases e;exact⟨G,a,b,rl.sub,ra,rb,h.1,h.2,k _ G H (.refl rl) (by simp only[c4])⟩
 ·cases e
def tH(K:Qz):R2:=fun x y H Q=>∃a b xs ys,x=.ref a/\y=.ref b/\qW K H a xs/\qW K H b ys/\xs.length+ys.length≤sizeLine/\
 (xs=[]->Q (.ref b) H)/\(ys=[]->Q (.ref a) H)/\(∀p,H p=none->Q (.ref p) (upd H p (.tup (xs++ys))))
theorem vQ:o3 X (binaryOp .Add) (tH X.K):=by
 intro pins s σ H x y v u Q I rx ry h;obtain⟨a,b,xs,ys,rfl,rfl,ha,hb,hz,q0,q1,q2⟩:=h;cases rx;cases ry;obtain⟨vs,r1,p1,_⟩:=I.tuple ha;obtain⟨ws,r2,p2,_⟩:=I.tuple hb;have hsz:vs.length+ws.length≤sizeLine:=by rw[←r1.length,←r2.length];exact hz
 obtain⟨⟨cls,dd,data,sl⟩,ho,hc,n,hd⟩:=id p1;obtain⟨⟨cls2,dd2,data2,sl2⟩,ho2,hc2,n2,hd2⟩:=id p2;simp only at hc hd hc2 hd2;subst hc hd hc2 hd2;have e:vs.toArray++ws.toArray=(vs++ws).toArray:=by simp
 by_cases hv:vs=[]
 ·exact concat_meets ⟨_,ho,rfl⟩ ⟨_,ho2,rfl⟩ noFill_tuple_add seq_tuple_add Vh Vp (Vw _ _)
   (tuple_addW0 a b vs.toArray ws.toArray n n2 dd dd2 sl sl2 (by simp[hv])) ⟨ho,ho2,⟨.ref b,H,I,rfl,q0 (r1.nil_iff.mp hv)⟩⟩
 ·by_cases hw:ws=[]
  ·exact concat_meets ⟨_,ho,rfl⟩ ⟨_,ho2,rfl⟩ noFill_tuple_add seq_tuple_add Vh Vp (Vw _ _)
    (tuple_addW1 a b vs.toArray ws.toArray n n2 dd dd2 sl sl2 (by simpa using hv) (by simp[hw])) ⟨ho,ho2,⟨.ref a,H,I,rfl,q1 (r2.nil_iff.mp hw)⟩⟩
  ·refine concat_meets ⟨_,ho,rfl⟩ ⟨_,ho2,rfl⟩ noFill_tuple_add seq_tuple_add Vh Vp (Vw _ _)
    (tuple_addW2 a b vs.toArray ws.toArray n n2 dd dd2 sl sl2 (by simpa using hv) (by simpa using hw) (by rw[Qm,Qm];exact hsz)) ⟨ho,ho2,?_⟩
   rw[e];refine⟨.ref s.heap.objs.size,_,I.laid (t':=s.toks) (o:=.tup (xs++ys)) (fun b ob q=>Qx _ q) (Qp _) ?_,rfl,q2 _ (I.hok.fresh (Qp _))⟩
   exact⟨by rw[Qa];exact hz,_,r1.append r2,U8.new _ _⟩
def xT(K:Qz):R2:=fun x y H Q=>∃a b xs ys,x=.ref a/\y=.ref b/\qK K H a xs/\qK K H b ys/\xs.length+ys.length≤sizeLine/\
 (∀p,H p=none->Q (.ref p) (upd H p (.lst (xs++ys))))
theorem vR:o3 X (binaryOp .Add) (xT X.K):=by
 intro pins s σ H x y v u Q I rx ry h;obtain⟨a,b,xs,ys,rfl,rfl,ha,hb,hz,q2⟩:=h;cases rx;cases ry;obtain⟨vs,r1,p1,_⟩:=I.list ha;obtain⟨ws,r2,p2,_⟩:=I.list hb;have hsz:vs.length+ws.length≤sizeLine:=by rw[←r1.length,←r2.length];exact hz
 obtain⟨⟨cls,dd,data,sl⟩,ho,hc,n,hd⟩:=id p1.isList;obtain⟨⟨cls2,dd2,data2,sl2⟩,ho2,hc2,n2,hd2⟩:=id p2.isList;simp only at hc hd hc2 hd2;subst hc hd hc2 hd2;have e:vs.toArray++ws.toArray=(vs++ws).toArray:=by simp
 refine concat_meets ⟨_,ho,rfl⟩ ⟨_,ho2,rfl⟩ noFill_list_add seq_list_add PySem.F.slot_list_add PySem.F.entry_list_add (PySem.F.args_list_add_2 _ _)
    (list_addW a b vs.toArray ws.toArray n n2 dd dd2 sl sl2 (by rw[Qm,Qm];exact hsz)) ⟨ho,ho2,?_⟩
 rw[e];refine⟨.ref s.heap.objs.size,_,I.lnew (t':=s.toks) (r1.append r2) (by rw[Qa];exact hz),rfl,q2 _ I.fresh⟩
end L2.Mir
namespace L2.Mir
open PySem PySem.Spec PyProof.Rows PySem.Builtin
open AutoSeq1 (wpAny_loadPart')
theorem Wv:fillsNumberSlot (.type "tuple") "mul"=pure false:=
 PySem.fillsNumberSlot_seq (id:="tuple.__mul__") (r:=some (.builtin "tuple.__rmul__")) Vl.lookup (by rfl') F.slot_tuple_rmul.lookup (by rfl')
theorem Ww:seqRepeat? (.type "tuple")=pure (some (.builtin "tuple.__mul__")):=by
 unfold seqRepeat?;rw[PySem.seqSlot_of (T:="tuple") (name:="__mul__") (id:="tuple.__mul__") Vl.lookup (by rfl'),PySem.seqSlot_of (T:="tuple") (name:="__rmul__") (id:="tuple.__rmul__") F.slot_tuple_rmul.lookup (by rfl')]
 rfl
theorem Wx(a:Int)(t:Tok)(l:Addr)(items:Array Value)(n:Nat)(dd:Option Addr)(sl:Array (Option Value)):
  Meets (Builtin.«int.__rmul__» ⟨[.int a t,.ref l],[]⟩) (fun _ R s=>s.heap.get? l=some {cls:=.type "tuple",dict:=dd,data:=.seq items n,slots:=sl}/\R (.ok (.ret Value.notImplemented)) s):=
 .of_wp fun prog w A R s h=>by obtain⟨hp,g,d,tk,os⟩:=s;obtain⟨hl,h⟩:=h;wp_walk;exact⟨_,rfl,h⟩
theorem Wy(l:Addr)(items:Array Value)(n:Nat)(dd:Option Addr)(sl:Array (Option Value))(x:Int)(u:Tok)(hx:x=1):
  Meets (Builtin.«tuple.__mul__» ⟨[.ref l,.int x u],[]⟩) (fun _ R s=>s.heap.get? l=some {cls:=.type "tuple",dict:=dd,data:=.seq items n,slots:=sl}/\R (.ok (.ret (.ref l))) s):=
 .of_wp fun prog w A R s h=>by
  obtain⟨hp,g,d,tk,os⟩:=s;obtain⟨hl,h⟩:=h;subst hx;have f1:=AutoSeq1.idx_int
  wp_walk using Yj hl
  exact⟨_,rfl,h⟩
theorem Wz(l:Addr)(its:List Value)(n:Nat)(dd:Option Addr)(sl:Array (Option Value))(x:Int)(u:Tok)(hi:its≠[])(h1:2≤x)(h2:x<2^63)(hz:its.length * x.toNat≤sizeLine):
  Meets (Builtin.«tuple.__mul__» ⟨[.ref l,.int x u],[]⟩) (fun _ R s=>s.heap.get? l=some {cls:=.type "tuple",dict:=dd,data:=.seq its.toArray n,slots:=sl}/\R (.ok (.ret (.ref s.heap.objs.size))) {s with heap:=s.heap.push {cls:=Value.type "tuple",data:=Data.seq (List.replicate x.toNat its).flatten.toArray}}):=
 .of_wp fun prog w A R s h=>by
  obtain⟨hp,g,d,tk,os⟩:=s;obtain⟨hl,h⟩:=h;have f1:=AutoSeq1.idx_int;have hi':its.toArray.isEmpty=false:=by simpa using hi
  have hb:¬ ((decide (x< -(2^63))||decide (x ≥ 2^63))=true):=by simp;omega
  have hc:¬ ((its.toArray.isEmpty||x==1)=true):=by rw[hi'];simp;omega
  have hd:¬ ((decide (x≤0)||its.toArray.isEmpty)=true):=by rw[hi'];simp;omega
  have e1:(its.toArray.size:Int) * x=((its.length * x.toNat:Nat):Int):=by rw[Qm,Int.natCast_mul,Int.toNat_of_nonneg (by omega)]
  have he:¬ ((its.toArray.size:Int) * x>(2^63-1)/8):=by
   have e2:(sizeLine:Nat)≤(2^63-1)/8:=by decide
   rw[e1];omega
  have hf:¬ (Tuple.tupleTooMany ((its.toArray.size:Int) * x)=true):=by
   rw[e1];intro z;have z':=Xc z
   omega
  have hnew:List.foldl (fun x1 x2=>x1++x2) #[] (List.replicate x.toNat its.toArray)=(List.replicate x.toNat its).flatten.toArray:=by
   have:=Ly its x.toNat [];rw[Tq]at this;exact this
  have hsz:sizeOk (.seq (List.replicate x.toNat its).flatten.toArray):=by
   show(List.replicate x.toNat its).flatten.toArray.size≤sizeLine;rw[Qm,MA,Nat.mul_comm];exact hz
  wp_walk using Yj hl
  refine Uy (Qt hb) ?_
  wp_walk using Yj hl
  refine Uy (Qt hc) ?_
  wp_walk using Yj hl
  refine Uy (Qt hd) ?_
  wp_walk using Yj hl
  refine Uy (Qt he) ?_
  wp_walk using Yj hl
  refine Uy (Qt hf) ?_
  rw[hnew]
  wp_walk using Yj hl
  refine Uy (Qt (Nat.not_lt.mpr hsz)) ?_
  wp_walk using Yj hl
  exact⟨_,rfl,h⟩
section
variable{X:Cx}{B:OA}
def FT(K:Qz):R2:=fun x y H Q=>∃a k xs,x=.ref a/\y=.int k/\qW K H a xs/\xs≠[]/\1≤k/\k<2^63/\xs.length * k.toNat≤sizeLine/\
 (k=1->Q (.ref a) H)/\∀p,H p=none->Q (.ref p) (upd H p (.tup (List.replicate k.toNat xs).flatten))
theorem XA:o3 X (binaryOp .Mult) (FT X.K):=by
 intro pins s σ H x y v u Q I rx ry h;obtain⟨a,k,xs,rfl,rfl,ha,hne,h1,h2,hz,q1,q2⟩:=h;cases rx;obtain⟨t,rfl⟩:=ry;obtain⟨its,r,⟨⟨cls,dd,data,sl⟩,ho,hc,n,hd⟩,hzz⟩:=I.tuple ha;simp only at hc hd;subst hc hd;refine wpAny_binaryOp_repeat_ref (T:="tuple") (U:="int") (by decide) ⟨_,ho,rfl⟩ (fun s'=>typeIs_int s' k t) Wv F.fills_int_mul F.slot_int_rmul Ww F.slot_int_index.lookup
  (Xd F.slot_int_rmul (typeIs_int s k t) F.entry_int_rmul (F.args_int_rmul_2 _ _) (Wx k t a its.toArray n dd sl)
   ⟨ho,rfl,⟨_,ho,rfl⟩,?_⟩)
 by_cases hk:k=1
 ·exact Xd Vl ⟨_,ho,rfl⟩ F.entry_tuple_mul (F.args_tuple_mul_2 _ _) (Wy a its.toArray n dd sl k t hk) ⟨ho,⟨.ref a,H,I,rfl,q1 hk⟩⟩
 ·refine Xd Vl ⟨_,ho,rfl⟩ F.entry_tuple_mul (F.args_tuple_mul_2 _ _) (Wz a its n dd sl k t (fun z=>hne (r.nil_iff.mp z)) (by omega) h2 (by rw[←r.length];exact hz)) ⟨ho,?_⟩
  refine⟨.ref s.heap.objs.size,_,I.laid (t':=s.toks) (o:=.tup (List.replicate k.toNat xs).flatten) (fun b ob q=>Qx _ q) (Qp _) ?_,rfl,q2 _ (I.hok.fresh (Qp _))⟩
  exact⟨by rw[MA,Nat.mul_comm];exact hz,_,r.rep k.toNat,U8.new _ _⟩
end
section
variable{X:Cx}{B:OA}{pos:Pos}{a b:Expr}{ma mb:Mo D}
def HZ:D->D->Option D
 |.tup xs,.tup ys=>if xs.length+ys.length≤10000 then some (.tup (xs++ys))else none
 |_,_=>none
theorem Ha{n:Nat}(h:n≤10000):n≤sizeLine:=Zp h (by decide)
theorem XB:qB X B (tH X.K) HZ:=by
 intro G σ env H x y a b d Q rl ra rb e k;cases a<;>cases b<;>first|(exact absurd (show(none:Option D)=some d from e) (by simp))|skip
 rename_i ds es;simp only[HZ]at e;split at e
 ·rename_i hl
  cases e;have ra0:=ra;have rb0:=rb;simp only[c4]at ra rb;obtain⟨p,xs,rfl,q1,r1⟩:=ra;obtain⟨p',ys,rfl,q2,r2⟩:=rb;refine⟨p,p',xs,ys,rfl,rfl,rl.sub.sqT q1,rl.sub.sqT q2,by rw[r1.length,r2.length];exact Ha hl,fun z=>?_,fun z=>?_,fun l hp=>?_⟩
  ·subst z
   have:ds=[]:=List.length_eq_zero_iff.mp r1.length.symm;subst this;exact k _ G H (.refl rl) rb0
  ·subst z
   have:es=[]:=List.length_eq_zero_iff.mp r2.length.symm;subst this;exact k _ G H (.refl rl) (by rw[Yg];exact ra0)
  ·exact k _ _ _ (rl.alloc hp) (Bj G7 (C3.mono (Le.upd (rl.gnone hp)) _ (r1.append r2)))
 ·cases e
def Hb:D->D->Option D
 |.tup [d],.int k=>if 1≤k/\k≤1000 then some (.tup (List.replicate k.toNat d))else none
 |_,_=>none
theorem XC{α:Type}(x:α)(n:Nat):(List.replicate n [x]).flatten=List.replicate n x:=by
 induction n with
 |zero=>rfl
 |succ n ih=>rw[Yk,Um,ih,Yk];rfl
theorem MW{K:Qz}{G:Hp}{x:V}{d:D}(h:c4 K G x d):∀n,C3 K G (List.replicate n x) (List.replicate n d)
 |0=>d9
 |n+1=>by rw[Yk,Yk];exact c9 h (MW h n)
theorem XD:qB X B (FT X.K) Hb:=by
 intro G σ env H x y a b d Q rl ra rb e k;unfold Hb at e;split at e
 ·rename_i d0 n
  split at e
  ·rename_i hn
   cases e;have ra0:=ra;simp only[c4]at ra rb;obtain⟨p,xs,rfl,q1,r1⟩:=ra;subst rb;obtain⟨v,rfl,rv⟩:=T6 r1;refine⟨p,n,[v],rfl,rfl,rl.sub.sqT q1,by simp,by omega,by omega,?_,fun z=>?_,fun l hp=>?_⟩
   ·exact Ha (by simp;omega)
   ·subst z
    exact k _ G H (.refl rl) ra0
   ·rw[XC]
    exact k _ _ _ (rl.alloc hp) (Bj G7 (C3.mono (Le.upd (rl.gnone hp)) _ (MW rv _)))
  ·cases e
 ·cases e
def D5:=yV Dc HZ
def N9:=yV HE Hb
theorem XE:o3 X (binaryOp .Add) (fun x y H Q=>tQ (fun i j=>.int (i+j)) x y H Q\/tH X.K x y H Q):=o3.or UH vQ
theorem XF:qB X B (fun x y H Q=>tQ (fun i j=>.int (i+j)) x y H Q\/tH X.K x y H Q) D5:=MF.or XB
theorem XG:o3 X (binaryOp .Mult) (fun x y H Q=>rI Bc (fun i j=>.int (i * j)) x y H Q\/FT X.K x y H Q):=o3.or UJ XA
theorem XH:qB X B (fun x y H Q=>rI Bc (fun i j=>.int (i * j)) x y H Q\/FT X.K x y H Q) N9:=WD.or XD
def BD(ma mb:Mo D):Mo (List D):=fun env=>(ma env).bind fun p=>(mb p.2).bind fun q=>match p.1,q.1 with
 |.lst xs,.lst ys=>if xs.length+ys.length≤10000 then some (xs++ys,q.2)else none
 |_,_=>none
theorem Dp(ha:ED X B a ma)(hb:ED X B b mb):EL X B (.BinOp a .Add b pos) (BD ma mb):=by
 refine c8 (LZ vR ha hb) ?_
 rintro σ H Q ⟨G,env,ds,env',rl,e,k⟩;obtain⟨⟨d1,a8⟩,e1,e2⟩:=C6 e;obtain⟨⟨d2,i5⟩,e3,e4⟩:=C6 e2;dsimp only at e4 e3;refine .bind rl e1 fun v1 G1 H1 m9 r1=>.bind m9.rel e3 fun v2 G2 H2 f7 r2=>?_
 split at e4
 ·rename_i xs ys
  split at e4
  ·rename_i hl
   cases e4;have r1':=c4.mono f7.same _ r1;simp only[c4]at r1' r2;obtain⟨p,us,rfl,q1,t1⟩:=r1';obtain⟨p',ws,rfl,q2,t2⟩:=r2;exact⟨p,p',us,ws,rfl,rfl,f7.rel.sub.sqL q1,f7.rel.sub.sqL q2,by rw[t1.length,t2.length];exact Ha hl,fun l hp=>HJ (m9.trans f7) hp (t1.append t2) k⟩
  ·cases e4
 ·cases e4
end
end L2.Mir
namespace HT
open PySem PySem.Spec PyProof.Rows
variable{Q:OE}{sl:Addr}
section
variable{prog:Program}{w:World}{A:Around}{E:OE}{s:Shared}
theorem qO{t:Addr}{items:Array Value}{vl vu:Value}{lo hi:Option Int}(ht:IsTup s.heap t items)(hs:s.heap.IsSliceOf sl vl vu .none)(pl:IsPart vl lo)(pu:IsPart vu hi)
  (hw:n8 items.size 0 lo=0/\n8 items.size items.size hi=items.size)
  (h:Q (.ref t) s):wpAny (model prog w) A (getItem (.ref t) (.ref sl)) Q E s:=by
 obtain⟨os,hos,hcs,hds⟩:=id hs;have hTs:s.TypeIs (.ref sl) "slice":=⟨os,hos,hcs⟩;unfold getItem
 try with_reducible refine Yi ?_
 first|refine Qq (Qv ?_)|skip
 refine Qq (wpAny_sequenceKey ht.typeIs (by decide) ?_)
 refine Qq (Yh (name:=Str.ofString "__getitem__") ht.typeIs Zv
  (Jk Zv ht.typeIs entry_tuple_getitem ?_ (args_tuple_getitem _ _)))
 show wpAny _ _ (Builtin.Tuple.tupleItemsOf (.ref t)>>=_) _ _ s;refine Qq (tupleItemsOf_ ht ?_);refine Qq (wpAny_typeOf hTs ?_);rw[Qn (by decide)]
 refine Qq (pP hs pl pu ?_);have hno:((((n8 items.size 0 lo:Nat):Int)==0&&(1:Int)==1&&(n8 items.size items.size hi-n8 items.size 0 lo)==items.size)=true):=by
  rw[hw.1,hw.2];simp
 show wpAny _ _ (if(((n8 items.size 0 lo:Nat):Int)==0&&(1:Int)==1&&(n8 items.size items.size hi-n8 items.size 0 lo)==items.size)=true then _ else _) _ _ s
 rw[Qn hno];refine Qq (Qq (m:=typeOf (.ref t)) (wpAny_typeOf ht.typeIs (Qv ?_)));rw[Qn (by decide)]
 refine Qq (Xq ?_)
 first
  |exact Qv ⟨_,rfl,Qv h⟩
  |exact Qq (Qv ⟨_,rfl,Qv h⟩)
  |exact Qq (Qq (Qv ⟨_,rfl,Qv h⟩))
theorem rQ{t:Tok}{n:Nat}{Q:Int×Int×Nat->Shared->Prop}(hs:s.heap.IsSliceOf sl .none .none (.int (-1) t))
  (h:Q ((n:Int)-1,-1,n) s):wpAny (model prog w) A (Builtin.Slice.sliceApplied (.ref sl) (pure (n:Int))) Q E s:=by
 obtain⟨os,hos,hcs,hds⟩:=id hs;unfold Builtin.Slice.sliceApplied Builtin.Slice.sliceFields;refine Qq (Qq (Zi hos hds (x:=.none) rfl (Qq (Zi hos hds (x:=.none) rfl (Qq (Zi hos hds (x:=.int (-1) t) rfl (Qv ?_)))))));refine Qq (slicePart_int ?_);show wpAny _ _ (if((-1:Int)==0)=true then _ else _) _ _ s
 rw[Ql (by decide)]
 refine Qq (slicePart_none (Qq (slicePart_none (Qq (Qv ?_)))));have e:Builtin.Slice.slicePlaces ((n:Int)-1) (-1) (-1)=n:=by
  unfold Builtin.Slice.slicePlaces;have h1:¬ ((-1:Int)>0):=by omega
  simp only[h1,Ys];split
  ·rw[show(- -1:Int)=1 by decide,Int.ediv_one];omega
  ·omega
 show wpAny _ _ (pure ((n:Int)-1,(-1:Int),Builtin.Slice.slicePlaces ((n:Int)-1) (-1) (-1))) _ _ s;rw[e];exact Qv h
theorem pQ{α β:Type}{f g:α->Option β}:∀{l:List α},(∀x∈l,f x=g x)->l.filterMap f=l.filterMap g
 |[],_=>rfl
 |a::l,h=>by
  rw[Jn,Jn,h a (by simp),pQ (l:=l) fun x hx=>h x (by simp[hx])]
theorem vS(xs:Array Value):((List.range xs.size).filterMap fun(m:Nat)=>xs[(((xs.size:Int)-1)+(m:Int) * (-1)).toNat]?).toArray=xs.toList.reverse.toArray:=by
 have h:=PySem.W.krv_all xs
 have h2:=Yu List.reverse h
 rw[←List.filterMap_reverse,←PySem.W.krv_range,List.filterMap_map]at h2;rw[←h2]
 congr 1
 apply pQ
 intro m hm;have:=Zo.mp hm;show xs[_]? =xs[xs.size-1-m]?
 congr 1
 omega
theorem rB{t:Addr}{items:Array Value}{tk:Tok}(ht:IsTup s.heap t items)(hs:s.heap.IsSliceOf sl .none .none (.int (-1) tk))
  (h:Q (.ref s.heap.objs.size) {s with heap:=s.heap.push {cls:=.type "tuple",data:=.seq items.toList.reverse.toArray}})
  (hsz:items.size≤sizeLine):wpAny (model prog w) A (getItem (.ref t) (.ref sl)) Q E s:=by
 have htake:sizeOk (.seq items.toList.reverse.toArray):=by
  show items.toList.reverse.toArray.size≤sizeLine
  simpa using hsz
 obtain⟨os,hos,hcs,hds⟩:=id hs;have hTs:s.TypeIs (.ref sl) "slice":=⟨os,hos,hcs⟩;unfold getItem
 try with_reducible refine Yi ?_
 first|refine Qq (Qv ?_)|skip
 refine Qq (wpAny_sequenceKey ht.typeIs (by decide) ?_)
 refine Qq (Yh (name:=Str.ofString "__getitem__") ht.typeIs Zv
  (Jk Zv ht.typeIs entry_tuple_getitem ?_ (args_tuple_getitem _ _)))
 show wpAny _ _ (Builtin.Tuple.tupleItemsOf (.ref t)>>=_) _ _ s;refine Qq (tupleItemsOf_ ht ?_);refine Qq (wpAny_typeOf hTs ?_);rw[Qn (by decide)]
 refine Qq (rQ hs ?_);have hno:¬ ((((items.size:Int)-1)==0&&(-1:Int)==1&&items.size==items.size)=true):=by
  rw[show((-1:Int)==1)=false by decide];simp
 show wpAny _ _ (if(((items.size:Int)-1)==0&&(-1:Int)==1&&items.size==items.size)=true then _ else _) _ _ s
 rw[Ql hno,vS]
 first
  |exact Qq (m:=Builtin.Tuple.tupleExact _) (Zd (Qv ⟨_,rfl,Qv h⟩) htake)
  |exact Qq (m:=Builtin.Tuple.tupleExact _) (Zd (Qq (Qv (Qv ⟨_,rfl,Qv h⟩))) htake)
  |exact Qq (Qq (m:=Builtin.Tuple.tupleExact _) (Zd (Qv (Qv ⟨_,rfl,Qv h⟩)) htake))
  |exact Qq (Qq (m:=Builtin.Tuple.tupleExact _) (Zd (Qv ⟨_,rfl,Qv h⟩) htake))
end
end HT
namespace L2.Mir
open PySem PySem.Spec PyProof.Rows
variable{A:Around}{B:OA}{C i1 i2 it l l1 l2 z:Addr}{E Q:OE}{G H:Hp}{K:Qz}{M:Model}{N ps:List Str}{P prog:Program}{T:String}{X:Cx}{a e:Expr}{as:Mo (List Ar)}{av:List Ar}{b y:Value}{base h h':Heap}{c c2:Bool}{ch:List Addr}{d:D}{ds:List D}{e1 e2 env:c5}{elts es:List Expr}{fd:FuncData}{i j k k1 k2 kk more n t':Nat}{m ma:Mo D}{mb:Mo Fl}{mg:OU}{mi ms:Mo (List D)}{o:HO}{p p2 tp:Pos}{pins:OX}{qual x:Str}{r:Rr}{s:Shared}{scope:Scope}{st:Stmt}{tk:Tok}{vs:List Value}{w:World}{ws ws':List W}{xs ys:Array Value}{σ:St}
section
variable{lo hi st:Expr}{ml mh:Mo D}{pos:Pos}
def XI(K:Qz):V->Option Int->Option Int->Hp->VK->Prop:=fun x lo hi H Q=>∃a xs,x=.ref a/\qW K H a xs/\
 ((HT.n8 xs.length 0 lo=0/\HT.n8 xs.length xs.length hi=xs.length)->Q (.ref a) H)/\∀p,H p=none->Q (.ref p) (upd H p (.tup (Bd xs lo hi)))
theorem XJ:SlR X (XI X.K):=by
 intro pins s σ H x v vl vu lo hi sl Q I rx hs pl pu h;obtain⟨a,xs,rfl,hx,qw,q⟩:=h
 by_cases hw:HT.n8 xs.length 0 lo=0/\HT.n8 xs.length xs.length hi=xs.length
 ·cases rx
  obtain⟨its,r,ht,hz⟩:=I.tuple hx;have hlen:its.toArray.size=xs.length:=by rw[Qm];exact r.length.symm
  refine⟨"tuple",_,Zv.lookup,ht.typeIs,?_⟩;exact HT.qO ht hs pl pu (by rw[hlen];exact hw) ⟨.ref a,H,I,rfl,qw hw⟩
 ·exact Lp pins s σ H (.ref a) v vl vu lo hi sl Q I rx hs pl pu ⟨a,xs,rfl,hx,hw,q⟩
def Y4(xs:List D)(lo hi:Option Int):List D:=(xs.drop (HT.n8 xs.length 0 lo)).take (HT.n8 xs.length xs.length hi-HT.n8 xs.length 0 lo)
def N4:Mo (Option Int):=fun env=>some (none,env)
def N5(m:Mo D):Mo (Option Int):=fun env=>(m env).bind fun p=>match p.1 with
 |.int i=>some (some i,p.2)
 |_=>none
def TOm(K:Qz)(B:OA)(m:Mo (Option Int)):TO:=fun σ H Q=>∃G env o env',Rel K B G σ env H/\m env=some (o,env')/\∀G' H',Ev K B G σ env H G' σ env' H'->Q o H'
abbrev EO(X:Cx)(B:OA)(e:Option Expr)(m:Mo (Option Int)):Prop:=PO X e (TOm X.K B m)
theorem MX{e:Option Expr}{t t':TO}(h:PO X e t)(i:∀σ H Q,t' σ H Q->t σ H Q):PO X e t':=fun pins s σ H Q I q=>h pins s σ H Q I (i σ H Q q)
theorem U9:EO X B none N4:=by
 refine MX VG ?_
 rintro σ H Q ⟨G,env,o,env',rl,e,k⟩;cases e;exact k G H (.refl rl)
theorem V0(h:ED X B e ma):EO X B (some e) (N5 ma):=by
 refine MX (VH h) ?_
 rintro σ H Q ⟨G,env,o,env',rl,e,k⟩;obtain⟨⟨d,a8⟩,e1,e2⟩:=C6 e;dsimp only at e2;split at e2
 ·rename_i i
  cases e2;refine .bind rl e1 fun v G1 H1 ev r=>?_
  simp only[c4]at r;exact⟨i,r,k G1 H1 ev⟩
 ·cases e2
def rC(m:Mo D)(ml mh:Mo (Option Int)):Mo D:=fun env=>(m env).bind fun p=>(ml p.2).bind fun q=>(mh q.2).bind fun r=>match p.1 with
 |.tup ds=>some (.tup (Y4 ds q.1 r.1),r.2)
 |_=>none
theorem C3.cut{xs:List V}(r:C3 K G xs ds)(lo hi:Option Int):C3 K G (Bd xs lo hi) (Y4 ds lo hi):=by
 unfold Bd Y4;rw[r.length];exact(r.drop _).take _
theorem XM{lo hi:Option Int}(h:HT.n8 ds.length 0 lo=0/\HT.n8 ds.length ds.length hi=ds.length):Y4 ds lo hi=ds:=by
 unfold Y4;rw[h.1,h.2];simp
theorem V1{lo hi:Option Expr}{ml mh:Mo (Option Int)}(he:ED X B e ma)(hl:EO X B lo ml)(hh:EO X B hi mh):ED X B (.Subscript e (.Slice lo hi none p2) pos) (rC ma ml mh):=by
 refine c8 (VI XJ he hl hh) ?_
 rintro σ H Q ⟨G,env,d,env',rl,e,k⟩;obtain⟨⟨d1,a8⟩,e1,e2⟩:=C6 e;obtain⟨⟨l,i5⟩,e3,e4⟩:=C6 e2;obtain⟨⟨u,sW⟩,e5,e6⟩:=C6 e4;dsimp only at e3 e5 e6;split at e6
 ·rename_i ds
  cases e6;refine .bind rl e1 fun v G1 H1 m9 r1=>⟨G1,a8,l,i5,m9.rel,e3,fun G2 H2 f7=>⟨G2,i5,u,_,f7.rel,e5,fun G3 H3 qX=>?_⟩⟩
  have r3:=c4.mono (f7.same.trans qX.same) _ r1
  have r30:=r3
  simp only[c4]at r3;obtain⟨p,xs,rfl,q,t⟩:=r3;refine⟨p,xs,rfl,qX.rel.sub.sqT q,fun hw=>?_,fun l' hp=>?_⟩
  ·rw[t.length]at hw
   exact k _ G3 H3 ((m9.trans f7).trans qX) (by rw[XM hw];exact r30)
  ·exact k _ _ _ (((m9.trans f7).trans qX).trans (qX.rel.alloc hp)) (Bj G7 (C3.mono (Le.upd (qX.rel.gnone hp)) _ (t.cut l u)))
 ·cases e6
theorem XN{te:TE}(he:PE X e te)(hst:PE X st (tC (.int (-1)))):PE X (.Subscript e (.Slice none none (some st) p2) pos) (fun σ H Q=>te σ H fun x H1=>∃a xs,x=.ref a/\qW X.K H1 a xs/\∀p,H1 p=none->Q (.ref p) (upd H1 p (.tup xs.reverse))):=by
 intro pins s σ H Q I h;refine Subscript_ (i6 (he pins s σ H _ I h) fun v s1 ⟨x,H1,I1,r1,q1⟩=>?_)
 refine wpAny_Slice ?_
 rw[evalPart_none];refine Qv (Qv ?_);rw[evalPart_some];refine i6 (hst pins s1 σ H1 (fun x H2=>x=.int (-1)/\H2=H1) I1 ⟨rfl,rfl⟩) fun vst s3 ⟨y,H3,I3,r3,q3⟩=>?_
 obtain⟨rfl,rfl⟩:=q3;obtain⟨tk,rfl⟩:=r3;obtain⟨a,xs,rfl,hx,q⟩:=q1;cases r1;have I4:Inv X pins σ H3 {s3 with heap:=s3.heap.push {cls:=.type "slice",data:=.fields #[.none,.none,.int (-1) tk]}}:=I3.kept (t':=s3.toks) fun b ob q=>Qx _ q
 obtain⟨its,r,ht,hz⟩:=I4.tuple hx;have hlen:its.toArray.size=xs.length:=by rw[Qm];exact r.length.symm
 show wpAny (model X.prog X.w) X.A (subscriptTail e (.Slice none none (some st) p2) (.ref a) (.ref s3.heap.objs.size)) (EP X pins σ Q) X.xe {s3 with heap:=s3.heap.push {cls:=.type "slice",data:=.fields #[.none,.none,.int (-1) tk]}}
 refine tail_any (ops:=[.ref a,.ref s3.heap.objs.size]) ht.typeIs Zv.lookup ?_ (by with_unfolding_all rfl)
 refine HT.rB (tk:=tk) ht (Heap.IsSliceOf.new ..) ?_ (by rw[hlen];exact hz)
 refine⟨.ref _,_,I4.laid (t':=s3.toks) (o:=.tup xs.reverse) (fun b ob q=>Qx _ q) (Qp _) ?_,rfl,q _ (I4.hok.fresh (Qp _))⟩
 exact⟨by rw[List.length_reverse];exact hz,_,r.reverse,U8.new _ _⟩
def Y5(m:Mo D):Mo D:=fun env=>(m env).bind fun p=>match p.1 with
 |.tup ds=>some (.tup ds.reverse,p.2)
 |_=>none
theorem Ck(he:ED X B e ma)(hst:PE X st (tC (.int (-1)))):ED X B (.Subscript e (.Slice none none (some st) p2) pos) (Y5 ma):=by
 refine c8 (XN he hst) ?_
 rintro σ H Q ⟨G,env,d,env',rl,e,k⟩;obtain⟨⟨d1,a8⟩,e1,e2⟩:=C6 e;dsimp only at e2;split at e2
 ·rename_i ds
  cases e2;refine .bind rl e1 fun v G1 H1 m9 r1=>?_
  simp only[c4]at r1;obtain⟨p,xs,rfl,q,t⟩:=r1;exact⟨p,xs,rfl,m9.rel.sub.sqT q,fun l' hp=>k _ _ _ (m9.trans (m9.rel.alloc hp)) (Bj G7 (C3.mono (Le.upd (m9.rel.gnone hp)) _ t.reverse))⟩
 ·cases e2
theorem MY:PE X (.UnaryOp .USub (.Constant (.int 1) j p) pos) (tC (.int (-1))):=c8 (La Lb LO) fun σ H Q q=>⟨1,rfl,q⟩
end
theorem MZ(I:Inv X pins σ H s)(k:∀b o,b∉ch->s.heap.get? b=some o->h'.get? b=some o)(hf:∀b∈ch,S6 X pins H b):Inv X pins σ H {s with heap:=h',toks:=t'}:=by
 have nit:∀b u,H b=some u->b∉ch:=fun b u e z=>by rw[(hf b z).1]at e;cases e
 refine I.step (g':=s.gens) (d':=s.drawn) (ch:=ch) (fun b hb=>⟨(hf b hb).2.2.2.1,(hf b hb).2.1,(hf b hb).2.2.2.2.1,(hf b hb).2.2.2.2.2⟩) (fun b o _ _ hc e _=>k b o hc e) (fun b o _ _ hc e _=>⟨o.slots,k b o hc e⟩) (fun _ _ _ _ n=>n)
  (fun b o hc e=>⟨o,k b o hc e⟩) (fun _ _ e=>e) (fun _ _ _ e=>e) (fun b ps e=>⟨#[],by rw[e];simp⟩) (fun m hm=>?_) (fun b u e=>?_) I.bare
 ·obtain⟨o,es,ep,ho,r⟩:=hm
  exact⟨o,es,ep,k _ o (fun z=>(hf _ z).2.1 rfl) ho,r⟩
 ·refine(I.hok b u e).stay (fun c v hc q=>k c v ?_ q) (fun _ q=>q) fun _ _ q=>q
  rcases hc with z|z
  ·rw[z];exact nit b u e
  ·exact nit c _ z
theorem XO{p:Addr}(I:Inv X pins σ H s)(k:∀b o,b∉ch->s.heap.get? b=some o->h'.get? b=some o)(hf:∀b∈ch,S6 X pins H b)
  (hp:s.heap.objs.size≤p)(new:K1 X.prog X.w (upd H p o) h' p o):Inv X pins σ (upd H p o) {s with heap:=h',toks:=t'}:=by
 have nit:∀b u,H b=some u->b∉ch:=fun b u e z=>by rw[(hf b z).1]at e;cases e
 have hn:H p=none:=I.hok.fresh hp
 have np:∀b u,s.heap.get? b=some u->b≠p:=fun b u q=>Qs (Qr (Qu q) hp)
 refine I.step (g':=s.gens) (d':=s.drawn) (ch:=ch) (fun b hb=>⟨(hf b hb).2.2.2.1,(hf b hb).2.1,(hf b hb).2.2.2.2.1,(hf b hb).2.2.2.2.2⟩) (fun b o _ _ hc e _=>k b o hc e) (fun b o _ _ hc e _=>⟨o.slots,k b o hc e⟩) (fun b o _ e n=>by rw[D3 (np b o e)];exact n)
  (fun b o hc e=>⟨o,k b o hc e⟩) (fun b xs q=>by rw[D3 (O4 q hn)];exact q) (fun b u xs q=>by rw[D3 (O4 q hn)];exact q) (fun b ps e=>⟨#[],by rw[D3 (O4 e hn),e];simp⟩) (fun m hm=>?_) (fun b u e=>?_) I.bare
 ·obtain⟨o,es,ep,ho,r⟩:=hm
  exact⟨o,es,ep,k _ o (fun z=>(hf _ z).2.1 rfl) ho,r⟩
 ·by_cases hb:b=p
  ·subst hb;rw[G7]at e;cases e;exact new
  ·rw[D3 hb]at e
   refine(I.hok b u e).stay (fun c v hc q=>k c v ?_ q) (fun c q=>by rw[D3 (O4 q hn)];exact q) fun c xs q=>by rw[D3 (O4 q hn)];exact q
   rcases hc with z|z
   ·rw[z];exact nit b u e
   ·exact nit c _ z
def sD(k:Bool)(h:Heap)(l:Addr)(xs:Array Value):Prop:=if k then h.IsTuple l xs else h.IsList l xs
def rD(k:Bool)(h:Heap)(i l:Addr)(n:Nat):Prop:=if k then h.IsTupleIter i l n else h.IsListIter i l n
section
variable{k:Bool}{i b:Addr}
theorem sD.at'(x:sD k h l xs)(e:∀o,h.get? l=some o->h'.get? l=some o):sD k h' l xs:=by
 cases k
 ·exact Heap.IsList.at (show h.IsList l xs from x) e
 ·obtain⟨o,ho,r⟩:=(show h.IsTuple l xs from x)
  exact(⟨o,e _ ho,r⟩:h'.IsTuple l xs)
theorem rD.at'(x:rD k h i l n)(e:∀o,h.get? i=some o->h'.get? i=some o):rD k h' i l n:=by
 cases k
 ·exact Heap.IsListIter.at (show h.IsListIter i l n from x) e
 ·exact Heap.IsTupleIter.at (show h.IsTupleIter i l n from x) e
theorem rD.get(x:rD k h i l n):∃o,h.get? i=some o/\∀v,o.data≠.cell v:=by
 cases k
 ·obtain⟨o,ho,_,d⟩:=(show h.IsListIter i l n from x);exact⟨o,ho,fun v z=>by rw[d]at z;cases z⟩
 ·obtain⟨o,ho,_,d⟩:=(show h.IsTupleIter i l n from x);exact⟨o,ho,fun v z=>by rw[d]at z;cases z⟩
theorem rD.but(x:rD k h i l n)(hs:Heap.ExtBut b h h')(hb:i≠b):rD k h' i l n:=x.at' fun o e=>hs i o hb e
theorem sD.but(x:sD k h l xs)(hs:Heap.ExtBut b h h')(hb:l≠b):sD k h' l xs:=x.at' fun o e=>hs l o hb e
end
theorem XQ{items:Array Value}{x:Value}(hit:s.heap.IsTupleIter it l i)(hl:s.heap.IsTuple l items)(hx:items[i]? =some x)
  (hQ:∀h',h'.IsTupleIter it l (i+1)->Heap.SameBut it s.heap h'->Q x {s with heap:=h'}):wpAny (model prog w) A (Builtin.SmallTypes.nextOf (.ref it)) Q E s:=by
 obtain⟨o,ho,hc,hd⟩:=id hit;obtain⟨ol,hol,_,nl,hdl⟩:=hl;unfold Builtin.SmallTypes.nextOf;refine Qq (Yh (name:=Str.ofString "__next__") hit.typeIs Jv (Jk Jv hit.typeIs Vm ?_ (Vg _)));show wpAny _ _ (field (.ref it) 0>>=_) _ _ s;refine Qq (Zi ho hd (x:=.ref l) rfl ?_);rw[Ql (show ¬ ((Value.ref l==Value.none)=true)from Zs)]
 refine Qq (Zi ho hd (x:=.int i 0) rfl ?_);refine Qq (Yc hol hdl ?_);simp only[Jq,hx];refine Qq (wpAny_setField ho hd (by simp) (Qv ⟨x,rfl,Qv (hQ _ ⟨_,Ur _ ho (Obj.isFreed_of_fields (Obj.data_mapFields hd _)),(Obj.cls_mapFields ..).trans hc,?_⟩ (Heap.SameBut.update ..))⟩))
 rw[Obj.data_mapFields hd];simp[rawInt]
theorem XR{items:Array Value}(hh:A.handled=none)(hit:s.heap.IsTupleIter it l i)(hl:s.heap.IsTuple l items)(hx:items[i]? =none)
  (hE:∀h' e,Heap.ExtBut it s.heap h'->(∃o,h'.get? e=some o/\o.cls=.type "StopIteration")->E (.ref e) {s with heap:=h'}):wpAny (model prog w) A (Builtin.SmallTypes.nextOf (.ref it)) Q E s:=by
 obtain⟨o,ho,hc,hd⟩:=id hit;obtain⟨ol,hol,_,nl,hdl⟩:=hl;unfold Builtin.SmallTypes.nextOf;refine Qq (Yh (name:=Str.ofString "__next__") hit.typeIs Jv (Jk Jv hit.typeIs Vm ?_ (Vg _)));show wpAny _ _ (field (.ref it) 0>>=_) _ _ s;refine Qq (Zi ho hd (x:=.ref l) rfl ?_);rw[Ql (show ¬ ((Value.ref l==Value.none)=true)from Zs)]
 refine Qq (Zi ho hd (x:=.int i 0) rfl ?_);refine Qq (Yc hol hdl ?_);simp only[Jq,hx];refine Qq (Xq (Qq (wpAny_setField ho hd (by simp) ?_)))
 refine Qq ?_
 simp only[newExc,newTuple];refine Qq (Zd ?_ (by size_fits))
 refine Qq (m:=firstArgMember _ _) (wpAny_of_eq (a:=Value.none) (by first|rfl|(simp only[firstArgMember];rfl)) ?_)
 refine Zd ?_ (by size_fits)
 simp only[raiseNew];refine Qq (wpAny_handled ?_)
 first|rw[show A.in1.handled=none from hh]|rw[hh]
 refine Qq (Qv (wpAny_throw ?_));exact hE _ _ (((Heap.SameBut.update ..).extBut.push _).push _) ⟨_,Qd _ rfl,rfl⟩
theorem Hc{k:Bool}{items:Array Value}{x:Value}(hit:rD k s.heap it l i)(hl:sD k s.heap l items)(hx:items[i]? =some x)
  (hQ:∀h',rD k h' it l (i+1)->Heap.SameBut it s.heap h'->Q x {s with heap:=h'}):wpAny (model prog w) A (Builtin.SmallTypes.nextOf (.ref it)) Q E s:=by
 cases k
 ·exact wpAny_nextOf_list_item hit hl hx hQ
 ·exact XQ hit hl hx hQ
theorem Ma{k:Bool}{items:Array Value}(hh:A.handled=none)(hit:rD k s.heap it l i)(hl:sD k s.heap l items)(hx:items[i]? =none)
  (hE:∀h' e,Heap.ExtBut it s.heap h'->(∃o,h'.get? e=some o/\o.cls=.type "StopIteration")->E (.ref e) {s with heap:=h'}):wpAny (model prog w) A (Builtin.SmallTypes.nextOf (.ref it)) Q E s:=by
 cases k
 ·exact wpAny_nextOf_list_end hh hit hl hx hE
 ·exact XR hh hit hl hx hE
section
variable{c1:Bool}
theorem XS{TI TO:Addr}{x a:Value}(D:ZipApart z TI TO i1 i2 l1 l2)
  (hz:IsZip s.heap z TI TO .none)(hTI:IsPair s.heap TI (.ref i1) (.ref i2))(hTO:IsPair s.heap TO a b)
  (h1:rD c1 s.heap i1 l1 k1)(h2:rD c2 s.heap i2 l2 k2)(hl1:sD c1 s.heap l1 xs)(hl2:sD c2 s.heap l2 ys)(hx:xs[k1]? =some x)(hy:ys[k2]? =some y)
  (hQ:∀h',IsZip h' z TI TO (rawInt s.heap.objs.size)->IsPair h' TO x y->rD c1 h' i1 l1 (k1+1)->rD c2 h' i2 l2 (k2+1)->IsPair h' s.heap.objs.size x y->h'.objs.size=s.heap.objs.size+1->
   (∀c o,c≠z->c≠TO->c≠i1->c≠i2->s.heap.get? c=some o->h'.get? c=some o)->Q (.ref s.heap.objs.size) {s with heap:=h'}):
  wpAny (model prog w) A (Builtin.«zip.__next__» ⟨[.ref z],[]⟩) (fun fin s'=>∃v,fin=.done (.ret v)/\Q v s') E s:=by
 show wpAny _ _ (field (.ref z) 2>>=_) _ _ _;refine Qq (Zi hz rfl (x:=.bool false) rfl (Qq (Zi hz rfl (x:=.ref TI) rfl ?_)));refine Qq (Yc hTI rfl (Qq ?_));unfold Builtin.SmallTypes.ownedTupleIsFree;refine Qq (Zi hz rfl (x:=.none) rfl (Qv ?_));simp only[Zn];refine Qq (Xq (Qq (Zi hz rfl (x:=.ref TO) rfl ?_)));refine Qq (Jr hz (by simp) fun g1 (z1:IsZip g1 z TI TO .ellipsis) s1=>Qq ?_)
 simp only[List.zipIdx_cons,List.zipIdx_nil,List.forIn_cons,List.forIn_nil];refine Qq (Qq (Vc (Qq (m:=Builtin.SmallTypes.nextOf (.ref i1)) ?_)));refine Hc (h1.but s1.extBut D.i1z) (hl1.but s1.extBut D.l1z) hx fun g2 a2 s2=>Qv ?_
 have p2:IsPair g2 TO a b:=s2.extBut _ _ D.TOi1 (s1.extBut _ _ D.TOz hTO)
 refine Qq (Yc p2 rfl (Qq (Xz p2 fun g3 (p3:IsPair g3 TO x b) s3=>?_)))
 refine Qq (Vz (Qv (Qq (Qq (Vc (Qq (m:=Builtin.SmallTypes.nextOf (.ref i2)) ?_))))));refine Hc (((h2.but s1.extBut D.i2z).but s2.extBut D.i12.symm).but s3.extBut D.TOi2.symm) (((hl2.but s1.extBut D.l2z).but s2.extBut D.l2i1).but s3.extBut D.l2TO) hy fun g4 a4 s4=>Qv ?_
 have p4:IsPair g4 TO x b:=s4.extBut _ _ D.TOi2 p3
 refine Qq (Yc p4 rfl (Qq (Xz p4 fun g5 (p5:IsPair g5 TO x y) s5=>?_)))
 refine Qq (Vz (Qv (Qv (Qq (Yc p5 rfl (Qq (wpAny_newTuple ?_)))))));have hsz:g5.objs.size=s.heap.objs.size:=by rw[s5.1,s4.1,s3.1,s2.1,s1.1]
 have z5:IsZip g5 z TI TO .ellipsis:=s5.extBut _ _ D.TOz.symm (s4.extBut _ _ D.i2z.symm (s3.extBut _ _ D.TOz.symm (s2.extBut _ _ D.i1z.symm z1)))
 have k5:∀c o,c≠z->c≠TO->c≠i1->c≠i2->s.heap.get? c=some o->g5.get? c=some o:=fun c o n1 n2 n3 n4 e=>
  s5.extBut _ _ n2 (s4.extBut _ _ n4 (s3.extBut _ _ n2 (s2.extBut _ _ n3 (s1.extBut _ _ n1 e))))
 have b1:rD c1 g5 i1 l1 (k1+1):=((a2.but s3.extBut D.TOi1.symm).but s4.extBut D.i12).but s5.extBut D.TOi1.symm
 have b2:rD c2 g5 i2 l2 (k2+1):=a4.but s5.extBut D.TOi2.symm
 refine Qq (m:=Builtin.SmallTypes.ownedTupleHandOut (.ref z) (.ref g5.objs.size)) ?_
 unfold Builtin.SmallTypes.ownedTupleHandOut;have z6:IsZip (g5.push {cls:=.type "tuple",data:=.seq #[x,y]}) z TI TO .ellipsis:=Qx _ z5;refine Qq (Jr z6 (by simp) fun g7 (z7:IsZip g7 z TI TO (rawInt g5.objs.size)) s7=>?_)
 refine Jr z7 (by simp) fun g8 (z8:IsZip g8 z TI TO (rawInt g5.objs.size)) s8=>?_
 have up:∀c o,c≠z->g5.get? c=some o->g8.get? c=some o:=fun c o n1 e=>s8.extBut _ _ n1 (s7.extBut _ _ n1 (Qx _ e))
 have t8:IsPair g8 g5.objs.size x y:=s8.extBut _ _ (Xr (Qu z5)) (s7.extBut _ _ (Xr (Qu z5)) (Qd _ rfl))
 have e8:g8.objs.size=g5.objs.size+1:=by rw[s8.1,s7.1,Yq]
 rw[hsz]at z8 t8 e8;refine Qv ⟨_,rfl,?_⟩;show Q (.ref g5.objs.size) _;rw[hsz];exact hQ g8 z8 (up _ _ D.TOz p5) (b1.at' fun o e=>up _ o D.i1z e) (b2.at' fun o e=>up _ o D.i2z e) t8 e8 fun c o n1 n2 n3 n4 e=>up c o n1 (k5 c o n1 n2 n3 n4 e)
theorem XT{TI TO:Addr}{a:Value}{Q:PySem.Fin->Shared->Prop}(hh:A.handled=none)(D:ZipApart z TI TO i1 i2 l1 l2)
  (hz:IsZip s.heap z TI TO .none)(hTI:IsPair s.heap TI (.ref i1) (.ref i2))(hTO:IsPair s.heap TO a b)
  (h1:rD c1 s.heap i1 l1 k1)(h2:rD c2 s.heap i2 l2 k2)(hl1:sD c1 s.heap l1 xs)(hl2:sD c2 s.heap l2 ys)(hend:xs[k1]? =none\/ys[k2]? =none)
  (hE:∀h' e,(∀c o,c≠z->c≠TO->c≠i1->c≠i2->s.heap.get? c=some o->h'.get? c=some o)->(∃o,h'.get? e=some o/\o.cls=.type "StopIteration")->E (.ref e) {s with heap:=h'}):
  wpAny (model prog w) A (Builtin.«zip.__next__» ⟨[.ref z],[]⟩) Q E s:=by
 show wpAny _ _ (field (.ref z) 2>>=_) _ _ _;refine Qq (Zi hz rfl (x:=.bool false) rfl (Qq (Zi hz rfl (x:=.ref TI) rfl ?_)));refine Qq (Yc hTI rfl (Qq ?_));unfold Builtin.SmallTypes.ownedTupleIsFree;refine Qq (Zi hz rfl (x:=.none) rfl (Qv ?_));simp only[Zn];refine Qq (Xq (Qq (Zi hz rfl (x:=.ref TO) rfl ?_)));refine Qq (Jr hz (by simp) fun g1 (z1:IsZip g1 z TI TO .ellipsis) s1=>Qq ?_)
 simp only[List.zipIdx_cons,List.zipIdx_nil,List.forIn_cons,List.forIn_nil];refine Qq (Qq (Vc (Qq (m:=Builtin.SmallTypes.nextOf (.ref i1)) ?_)));cases hx:xs[k1]? with
 |none=>
  refine Ma hh (h1.but s1.extBut D.i1z) (hl1.but s1.extBut D.l1z) hx fun g2 e s2 he=>?_
  obtain⟨oe,q1,q2⟩:=he;have z2:IsZip g2 z TI TO .ellipsis:=s2 _ _ D.i1z.symm z1;have ne:e≠z:=fun x=>by subst x;rw[z2]at q1;cases q1;simp at q2
  exact Jr z2 (by simp) fun g3 _ s3=>hE g3 e (fun c o n1 _ n3 _ x=>s3.extBut _ _ n1 (s2 _ _ n3 (s1.extBut _ _ n1 x))) ⟨oe,s3.extBut _ _ ne q1,q2⟩
 |some x=>
  have hy:ys[k2]? =none:=by
   rcases hend with h|h
   ·rw[hx]at h;cases h
   ·exact h
  refine Hc (h1.but s1.extBut D.i1z) (hl1.but s1.extBut D.l1z) hx fun g2 a2 s2=>Qv ?_
  have p2:IsPair g2 TO a b:=s2.extBut _ _ D.TOi1 (s1.extBut _ _ D.TOz hTO)
  refine Qq (Yc p2 rfl (Qq (Xz p2 fun g3 p3 s3=>?_)))
  refine Qq (Vz (Qv (Qq (Qq (Vc (Qq (m:=Builtin.SmallTypes.nextOf (.ref i2)) ?_))))));refine Ma hh (((h2.but s1.extBut D.i2z).but s2.extBut D.i12.symm).but s3.extBut D.TOi2.symm) (((hl2.but s1.extBut D.l2z).but s2.extBut D.l2i1).but s3.extBut D.l2TO) hy fun g4 e s4 he=>?_
  obtain⟨oe,q1,q2⟩:=he;have z4:IsZip g4 z TI TO .ellipsis:=s4 _ _ D.i2z.symm (s3.extBut _ _ D.TOz.symm (s2.extBut _ _ D.i1z.symm z1));have ne:e≠z:=fun x=>by subst x;rw[z4]at q1;cases q1;simp at q2
  exact Jr z4 (by simp) fun g5 _ s5=>hE g5 e (fun c o n1 n2 n3 n4 x=>s5.extBut _ _ n1 (s4 _ _ n4 (s3.extBut _ _ n2 (s2.extBut _ _ n3 (s1.extBut _ _ n1 x))))) ⟨oe,s5.extBut _ _ ne q1,q2⟩
theorem XU{TI TO:Addr}{x a:Value}{Q:Option Value->Shared->Prop}(D:ZipApart z TI TO i1 i2 l1 l2)
  (hz:IsZip s.heap z TI TO .none)(hTI:IsPair s.heap TI (.ref i1) (.ref i2))(hTO:IsPair s.heap TO a b)
  (h1:rD c1 s.heap i1 l1 k1)(h2:rD c2 s.heap i2 l2 k2)(hl1:sD c1 s.heap l1 xs)(hl2:sD c2 s.heap l2 ys)(hx:xs[k1]? =some x)(hy:ys[k2]? =some y)
  (hQ:∀h',IsZip h' z TI TO (rawInt s.heap.objs.size)->IsPair h' TO x y->rD c1 h' i1 l1 (k1+1)->rD c2 h' i2 l2 (k2+1)->IsPair h' s.heap.objs.size x y->h'.objs.size=s.heap.objs.size+1->
   (∀c o,c≠z->c≠TO->c≠i1->c≠i2->s.heap.get? c=some o->h'.get? c=some o)->Q (some (.ref s.heap.objs.size)) {s with heap:=h'}):
  wpAny (model prog w) A (pyNext (.ref z)) Q E s:=by
 have hT:s.TypeIs (.ref z) "zip":=⟨_,hz,rfl⟩
 unfold pyNext;exact Qq (wpAny_attempt (Yh (name:=Str.ofString "__next__") hT Ui (Jk Ui hT PySem.F.entry_zip_next
  (XS D hz hTI hTO h1 h2 hl1 hl2 hx hy fun h' a1 a2 a3 a4 a5 a6 a7=>Qv (hQ h' a1 a2 a3 a4 a5 a6 a7)) (PySem.F.args_zip_next_1 _))))
theorem XV{TI TO:Addr}{a:Value}{Q:Option Value->Shared->Prop}(hh:A.handled=none)(D:ZipApart z TI TO i1 i2 l1 l2)
  (hz:IsZip s.heap z TI TO .none)(hTI:IsPair s.heap TI (.ref i1) (.ref i2))(hTO:IsPair s.heap TO a b)
  (h1:rD c1 s.heap i1 l1 k1)(h2:rD c2 s.heap i2 l2 k2)(hl1:sD c1 s.heap l1 xs)(hl2:sD c2 s.heap l2 ys)(hend:xs[k1]? =none\/ys[k2]? =none)
  (hQ:∀h',(∀c o,c≠z->c≠TO->c≠i1->c≠i2->s.heap.get? c=some o->h'.get? c=some o)->Q none {s with heap:=h'}):wpAny (model prog w) A (pyNext (.ref z)) Q E s:=by
 have hT:s.TypeIs (.ref z) "zip":=⟨_,hz,rfl⟩
 unfold pyNext;refine Qq (wpAny_attempt (Yh (name:=Str.ofString "__next__") hT Ui (Jk Ui hT PySem.F.entry_zip_next
  (XT hh D hz hTI hTO h1 h2 hl1 hl2 hend fun h' e hk he=>?_) (PySem.F.args_zip_next_1 _))))
 obtain⟨o,ho,hc⟩:=he;exact Qq (wpAny_isInstance (T:="StopIteration") (b:=true) ⟨o,ho,hc⟩ isSubtype_stop (Qv (hQ _ hk)))
end
def Mb(c:Bool):String:=if c then "tuple_iterator" else "list_iterator"
abbrev yE(c1:Bool)(h:Heap)(l1:Addr):Heap:=h.push {cls:=.type (Mb c1),data:=.fields #[.ref l1,.int 0 0]}
abbrev zO(c1 c2:Bool)(h:Heap)(l1 l2:Addr):Heap:=(yE c1 h l1).push {cls:=.type (Mb c2),data:=.fields #[.ref l2,.int 0 0]}
abbrev zP(c1 c2:Bool)(h:Heap)(l1 l2:Addr):Heap:=(zO c1 c2 h l1 l2).push {cls:=.type "tuple",data:=.seq #[.ref h.objs.size,.ref (yE c1 h l1).objs.size]}
abbrev zQ(c1 c2:Bool)(h:Heap)(l1 l2:Addr):Heap:=(zP c1 c2 h l1 l2).push {cls:=.type "tuple",data:=.seq #[.none,.none]}
abbrev xU(c1 c2:Bool)(h:Heap)(l1 l2:Addr):Heap:=(zQ c1 c2 h l1 l2).push {cls:=.type "zip",data:=.fields #[.none,.bool false,.bool false,.ref (zO c1 c2 h l1 l2).objs.size,.ref (zP c1 c2 h l1 l2).objs.size]}
theorem Mc{items:Array Value}(hl:sD c s.heap l items)(hQ:Q (.ref s.heap.objs.size) {s with heap:=yE c s.heap l}):wpAny (model prog w) A (pyIter (.ref l)) Q E s:=by
 cases c
 ·exact Ul hl hQ
 ·exact Xp hl hQ
theorem XX(c1 c2:Bool)(l1 l2:Addr)(xs ys:Array Value):
  Meets (Builtin.«zip.__new__» ⟨[.type "zip",.ref l1,.ref l2],[]⟩) (fun _ R s=>sD c1 s.heap l1 xs/\sD c2 s.heap l2 ys/\R (.ok (.ret (.ref (zQ c1 c2 s.heap l1 l2).objs.size))) {s with heap:=xU c1 c2 s.heap l1 l2}):=
 .of_wp fun prog w A R s h=>by
  obtain⟨hp,g,d,tk,os⟩:=s;obtain⟨hl1,hl2,h⟩:=h;have hsub:=sub_zip;have hL1:sD c1 (Shared.heap ⟨hp,g,d,tk,os⟩) l1 xs:=hl1;have hL2:sD c2 (Shared.heap ⟨yE c1 hp l1,g,d,tk,os⟩) l2 ys:=sD.at' hl2 fun o e=>Qx _ e
  wp_walk using Mc hL1,Mc hL2
  exact⟨_,rfl,h⟩
theorem XY{c1:Bool}(hl1:sD c1 s.heap l1 xs)(hl2:sD c2 s.heap l2 ys)
  (h:∀h',IsZip h' (s.heap.objs.size+4) (s.heap.objs.size+2) (s.heap.objs.size+3) .none->IsPair h' (s.heap.objs.size+2) (.ref s.heap.objs.size) (.ref (s.heap.objs.size+1))->
   IsPair h' (s.heap.objs.size+3) .none .none->rD c1 h' s.heap.objs.size l1 0->rD c2 h' (s.heap.objs.size+1) l2 0->h'.objs.size=s.heap.objs.size+5->
   (∀c o,s.heap.get? c=some o->h'.get? c=some o)->Q (.ref (s.heap.objs.size+4)) {s with heap:=h'}):
  wpAny (model prog w) A (call (.type "zip") [.ref l1,.ref l2]) Q E s:=by
 refine callType_new PySem.F.called_zip (by decide) (PySem.F.typeCall_zip_2 _ _) (PySem.F.newCall_zip_2 _ _) (fun obj=>PySem.F.args_object_init_3 obj _ _) PySem.F.entry_zip_new (XX c1 c2 l1 l2 xs ys) ⟨hl1,hl2,?_⟩
 have z1:(yE c1 s.heap l1).objs.size=s.heap.objs.size+1:=Yq ..
 have z2:(zO c1 c2 s.heap l1 l2).objs.size=s.heap.objs.size+2:=by rw[Yq,z1]
 have z3:(zP c1 c2 s.heap l1 l2).objs.size=s.heap.objs.size+3:=by rw[Yq,z2]
 have z4:(zQ c1 c2 s.heap l1 l2).objs.size=s.heap.objs.size+4:=by rw[Yq,z3]
 have z5:(xU c1 c2 s.heap l1 l2).objs.size=s.heap.objs.size+5:=by rw[Yq,z4]
 have g5:(xU c1 c2 s.heap l1 l2).get? (zQ c1 c2 s.heap l1 l2).objs.size=some _:=Qd _ rfl
 have g4:(xU c1 c2 s.heap l1 l2).get? (zP c1 c2 s.heap l1 l2).objs.size=some _:=Qx _ (Qd _ rfl)
 have g3:(xU c1 c2 s.heap l1 l2).get? (zO c1 c2 s.heap l1 l2).objs.size=some _:=Qx _ (Qx _ (Qd _ rfl))
 have g2:(xU c1 c2 s.heap l1 l2).get? (yE c1 s.heap l1).objs.size=some _:=Qx _ (Qx _ (Qx _ (Qd _ rfl)))
 have g1:(xU c1 c2 s.heap l1 l2).get? s.heap.objs.size=some _:=Qx _ (Qx _ (Qx _ (Qx _ (Qd _ rfl))))
 show _/\_;rw[z2,z3,z4]at g5;rw[z1,z2]at g3;rw[z3]at g4;rw[z1]at g2;rw[z4];refine⟨⟨_,g5,rfl⟩,h _ g5 g3 g4 ?_ ?_ z5 fun c o x=>Qx _ (Qx _ (Qx _ (Qx _ (Qx _ x))))⟩
 ·cases c1
  ·exact(⟨_,g1,rfl,rfl⟩:Heap.IsListIter _ _ _ _)
  ·exact(⟨_,g1,rfl,rfl⟩:Heap.IsTupleIter _ _ _ _)
 ·cases c2
  ·exact(⟨_,g2,rfl,rfl⟩:Heap.IsListIter _ _ _ _)
  ·exact(⟨_,g2,rfl,rfl⟩:Heap.IsTupleIter _ _ _ _)
def uY(c:Bool)(K:Qz)(H:Hp)(a:Addr)(xs:List V):Prop:=if c then qW K H a xs else qK K H a xs
theorem Le.sqA{G':Hp}(l:Le G G'){a:Addr}{xs:List V}(h:uY c K G a xs):uY c K G' a xs:=by
 cases c
 ·exact l.sqL h
 ·exact l.sqT' h
section
variable{a b:Addr}{xs:List V}
theorem Cm(I:Inv X pins σ H s)(h:uY c X.K H a xs):∃its:List Value,D2 xs its/\sD c s.heap a its.toArray/\xs.length≤sizeLine:=by
 cases c
 ·obtain⟨its,r,p,z⟩:=I.list h
  exact⟨its,r,p.isList,z⟩
 ·obtain⟨its,r,p,z⟩:=I.tuple h
  exact⟨its,r,p,z⟩
theorem FU(I:Inv X pins σ H s)(f:S6 X pins H b)(h:uY c X.K H a xs):a≠b:=by
 have k:∀{u:HO},Rd H a u->a≠b:=fun r z=>by
  subst z
  rcases r with r|⟨_,r⟩
  ·rw[f.1]at r;cases r
  ·rw[f.1]at r;cases r
 have m:∀{o:Obj},X.K.lookup a=some o->a≠b:=fun{o} q z=>by
  subst z;have e:X.base.get? a=some o:=I.mod.kin a o q
  rcases f.2.2.2.1 with z|z
  ·exact I.ok.noex a o e z
  ·exact absurd (Qr (Qu e) (Zp I.ok.bsz z)) (Yy _)
 cases c
 ·rcases h with h|⟨o,_,_,q,_⟩
  ·exact k h
  ·exact m q
 ·rcases h with h|⟨o,_,_,q,_⟩
  ·exact k h
  ·exact m q
end
def Itz(K:Qz)(c1 c2:Bool)(l1 l2:Addr)(xs ys:List V):It:=
 ⟨fun i H=>i<min xs.length ys.length/\uY c1 K H l1 xs/\uY c2 K H l2 ys,
  fun i H x H'=>∃p a b,H p=none/\x=.ref p/\H'=upd H p (.tup [a,b])/\xs[i]? =some a/\ys[i]? =some b,
  fun i H=>min xs.length ys.length≤i/\uY c1 K H l1 xs/\uY c2 K H l2 ys⟩
def XZ(c1 c2:Bool)(n:Nat)(l1 l2:Addr)(i:Nat)(h:Heap):Prop:=
 IsZip h (n+4) (n+2) (n+3) .none/\IsPair h (n+2) (.ref n) (.ref (n+1))/\(∃a b,IsPair h (n+3) a b)/\rD c1 h n l1 i/\rD c2 h (n+1) l2 i
theorem apart{n:Addr}(h1:∀j,j<5->l1≠n+j)(h2:∀j,j<5->l2≠n+j):ZipApart (n+4) (n+2) (n+3) n (n+1) l1 l2:=by
 constructor<;>first
  |(show(_:Nat)≠_;omega)
  |exact h1 4 (by decide)
  |exact h1 3 (by decide)
  |exact h1 1 (by decide)
  |exact h1 0 (by decide)
  |exact h2 4 (by decide)
  |exact h2 3 (by decide)
  |exact h2 1 (by decide)
  |exact h2 0 (by decide)
abbrev vT(n:Nat):List Addr:=[n+4,n+2,n+3,n,n+1]
abbrev fp4(n:Nat):List Addr:=[n+4,n+3,n,n+1]
theorem FV(n:Nat):∀{j:Nat},j<5->(n+j:Nat)∈vT n
 |0,_=>by simp[vT]
 |1,_=>by simp[vT]
 |2,_=>by simp[vT]
 |3,_=>by simp[vT]
 |4,_=>by simp[vT]
 |j+5,h=>by omega
theorem Me{c:Addr}(h:c∈fp4 n):c∈vT n:=by
 simp only[fp4,vT,Qb,Qo,Yb]at h ⊢
 rcases h with h|h|h|h<;>simp[h]
theorem YA{c:Addr}(h:c∈[n+4]):c∈vT n:=by
 simp only[Qb,Qo,Yb]at h;rw[h];simp
theorem le5{c:Addr}(h:c∈vT n):n≤c:=by
 simp only[vT,Qb,Qo,Yb]at h
 rcases h with rfl|rfl|rfl|rfl|rfl
 ·exact Vd _ _
 ·exact Vd _ _
 ·exact Vd _ _
 ·exact Qp _
 ·exact Vd _ _
theorem YB(c1 c2:Bool)(n l1 l2:Addr)(xs ys:List V):
  Turn P w K (.Tuple elts kk tp) (Itz K c1 c2 l1 l2 xs ys) [n+4,n+2,n+3,n,n+1] (n+4) (XZ c1 c2 n l1 l2)where
 mem:=by simp
 obj:=fun i h st b hb=>by
  obtain⟨hz,hI,⟨a,b',hO⟩,h1,h2⟩:=st;simp only[Qb,Qo,Yb]at hb
  rcases hb with rfl|rfl|rfl|rfl|rfl
  ·exact⟨_,hz,fun v z=>by cases z⟩
  ·exact⟨_,hI,fun v z=>by cases z⟩
  ·exact⟨_,hO,fun v z=>by cases z⟩
  ·exact h1.get
  ·exact h2.get
 keep:=fun i h h' st k=>by
  obtain⟨hz,hI,⟨a,b',hO⟩,h1,h2⟩:=st;exact⟨k _ (by simp) _ hz,k _ (by simp) _ hI,⟨a,b',k _ (by simp) _ hO⟩,h1.at' fun o e=>k _ (by simp) o e,h2.at' fun o e=>k _ (by simp) o e⟩
 item:=by
  intro X hP hw hK hc i pins s σ H E I hf st hg;subst hP hw hK;obtain⟨hi,q1,q2⟩:=hg;obtain⟨hz,hI,⟨a,b,hO⟩,h1,h2⟩:=st;obtain⟨its,r1,p1,_⟩:=Cm I q1;obtain⟨jts,r2,p2,_⟩:=Cm I q2;have ex:xs[i]? =some (xs[i]'(by omega)):=by simp
  have ey:ys[i]? =some (ys[i]'(by omega)):=by simp
  obtain⟨u,hu,ru⟩:=r1.get ex;obtain⟨v,hv,rv⟩:=r2.get ey;have D:ZipApart (n+4) (n+2) (n+3) n (n+1) l1 l2:=apart
   (fun j hj=>FU I (hf _ (FV n hj)) q1)
   (fun j hj=>FU I (hf _ (FV n hj)) q2)
  refine XU D hz hI hO h1 h2 p1 p2 (x:=u) (y:=v) (by simpa using hu) (by simpa using hv) fun h' a1 a2 a3 a4 a5 a6 a7=>?_
  have hn:H s.heap.objs.size=none:=I.fresh
  have I1:Inv X pins σ (upd H s.heap.objs.size (.tup [xs[i]'(by omega),ys[i]'(by omega)])) {s with heap:=h'}:=XO (ch:=[n+4,n+3,n,n+1]) (t':=s.toks) I
   (fun c o hc e=>a7 c o (fun z=>hc (by simp[z])) (fun z=>hc (by simp[z])) (fun z=>hc (by simp[z])) (fun z=>hc (by simp[z])) e)
   (fun c hc=>hf c (Me hc)) (Qp _)
   ⟨by show 2≤sizeLine;decide,[u,v],.cons ru (.cons rv .nil),_,a5,rfl,rfl,0,rfl⟩
  have lt5:∀c∈[n+4,n+2,n+3,n,n+1],c≠s.heap.objs.size:=fun c hc=>by
   have:∃o,s.heap.get? c=some o:=by
    simp only[Qb,Qo,Yb]at hc
    rcases hc with rfl|rfl|rfl|rfl|rfl
    ·exact⟨_,hz⟩
    ·exact⟨_,hI⟩
    ·exact⟨_,hO⟩
    ·obtain⟨o,e,_⟩:=h1.get;exact⟨o,e⟩
    ·obtain⟨o,e,_⟩:=h2.get;exact⟨o,e⟩
   obtain⟨o,e⟩:=this;exact Qs (Qu e)
  have hf2:∀c∈[n+4,n+2,n+3,n,n+1],S6 X pins (upd H s.heap.objs.size (.tup [xs[i]'(by omega),ys[i]'(by omega)])) c:=fun c hc=>⟨by rw[D3 (lt5 c hc)];exact(hf c hc).1,(hf c hc).2⟩
  have hI':IsPair h' (n+2) (.ref n) (.ref (n+1)):=a7 _ _ D.TIz D.TITO D.TIi1 D.TIi2 hI
  refine⟨.ref s.heap.objs.size,rfl,wpAny_letOwnedTupleGo_zip (s:={s with heap:=h'}) a1 fun h2' b1 b2=>?_⟩
  have I2:Inv X pins σ (upd H s.heap.objs.size (.tup [xs[i]'(by omega),ys[i]'(by omega)])) {s with heap:=h2'}:=MZ (s:={s with heap:=h'}) (ch:=[n+4]) (t':=s.toks) I1
   (fun c o hc e=>b2.extBut _ _ (fun z=>hc (by simp[z])) e) (fun c hc=>hf2 c (YA hc))
  exact⟨.ref s.heap.objs.size,_,I2,rfl,⟨_,_,_,hn,rfl,rfl,ex,ey⟩,
   ⟨b1,b2.extBut _ _ D.TIz hI',⟨_,_,b2.extBut _ _ D.TOz a2⟩,a3.but b2.extBut D.i1z,a4.but b2.extBut D.i2z⟩,fun c hc=>(hf2 c hc).1⟩
 done:=by
  intro X hP hw hK hc i pins s σ H E I hf st hg;subst hP hw hK;obtain⟨hi,q1,q2⟩:=hg;obtain⟨hz,hI,⟨a,b,hO⟩,h1,h2⟩:=st;obtain⟨its,r1,p1,_⟩:=Cm I q1;obtain⟨jts,r2,p2,_⟩:=Cm I q2;have D:ZipApart (n+4) (n+2) (n+3) n (n+1) l1 l2:=apart
   (fun j hj=>FU I (hf _ (FV n hj)) q1)
   (fun j hj=>FU I (hf _ (FV n hj)) q2)
  have e1:=r1.length
  have e2:=r2.length
  have hend:its.toArray[i]? =none\/jts.toArray[i]? =none:=by
   by_cases h:its.length≤i
   ·exact .inl (by simp;omega)
   ·exact .inr (by simp;omega)
  exact XV (I.ok.hd hc) D hz hI hO h1 h2 p1 p2 hend fun h' hk=>⟨rfl,MZ (ch:=[n+4,n+3,n,n+1]) (t':=s.toks) I
   (fun c o hc e=>hk c o (fun z=>hc (by simp[z])) (fun z=>hc (by simp[z])) (fun z=>hc (by simp[z])) (fun z=>hc (by simp[z])) e)
   (fun c hc=>hf c (Me hc))⟩
 self:=fun _ _ _ _ _ st h=>wpAny_pyIter_zip st.1 h
theorem YC:bootBuiltins "zip"=some (.type "zip"):=by rfl'
section
variable{pos:Pos}{b:Expr}
def YD(K:Qz)(ta:TA):TI:=fun σ H R=>ta σ H fun vs H1=>∃c1 c2 l1 l2 xs ys,vs=[.ref l1,.ref l2]/\uY c1 K H1 l1 xs/\uY c2 K H1 l2 ys/\R (Itz K c1 c2 l1 l2 xs ys) H1
theorem YE{ta:TA}(hg:Gl X "zip")(hm:X.mg "zip"=none)(ha:PA X [a,b] ta)(hs:starEach [a,b] X.env=[(false,eval a X.env),(false,eval b X.env)]:=by rfl)(hs2:starEach [b] X.env=[(false,eval b X.env)]:=by rfl):
  PI X (.Tuple elts kk tp) (.Call (.Name "zip" p) [a,b] [] pos) (YD X.K ta):=by
 intro pins s σ H R I h;refine Call_ (CQ I hg hm YC (Jd (i6 (ha pos pins s σ H _ I h) fun us s1 ⟨vs,H1,I1,r1,q1⟩=>?_) (by rw[hs,hs2]) (by rw[hs2];rfl)))
 obtain⟨c1,c2,l1,l2,xs,ys,rfl,h1,h2,q⟩:=q1;obtain⟨u,v,rfl,ru,rv⟩:=As r1;cases ru;cases rv;obtain⟨its,r1,p1,_⟩:=Cm I1 h1;obtain⟨jts,r2,p2,_⟩:=Cm I1 h2;refine XY p1 p2 fun h' a1 a2 a3 a4 a5 a6 a7=>?_
 refine wpAny_pyIter_zip a1 ?_
 refine⟨s1.heap.objs.size+4,_,_,_,H1,rfl,I1.kept (t':=s1.toks) a7,YB c1 c2 s1.heap.objs.size l1 l2 xs ys,⟨a1,a2,⟨_,_,a3⟩,a4,a5⟩,fun c hc=>?_,q⟩
 have hle:s1.heap.objs.size≤c:=le5 hc
 exact I1.fpOk hle (I1.hok.fresh hle)
def W9(xs ys:List D):List D:=(xs.zip ys).map fun p=>.tup [p.1,p.2]
def R9(ms:Mo (List D)):Mo (List D):=fun env=>(ms env).bind fun p=>match p.1 with
 |[d,e]=>d.items.bind fun xs=>e.items.map fun ys=>(W9 xs ys,p.2)
 |_=>none
theorem Mf{v:V}(r:c4 K G v d)(h:d.items=some ds):∃c a xs,v=.ref a/\uY c K G a xs/\C3 K G xs ds:=by
 cases d<;>first|(exact absurd (show(none:Option (List D))=some ds from h) (by simp))|skip
 ·cases h;simp only[c4]at r;obtain⟨a,xs,e,q,t⟩:=r;exact⟨true,a,xs,e,q.t,t⟩
 ·cases h;simp only[c4]at r;obtain⟨a,xs,e,q,t⟩:=r;exact⟨false,a,xs,e,q,t⟩
theorem YF{c1:Bool}{xs ys:List V}{es:List D}(h1:uY c1 K G l1 xs)(h2:uY c2 K G l2 ys)(r1:C3 K G xs ds)(r2:C3 K G ys es):xP K (Itz K c1 c2 l1 l2 xs ys) G (W9 ds es)where
 go:=fun i H l hi=>⟨by rw[r1.length,r2.length];simpa [W9]using hi,l.sqA h1,l.sqA h2⟩
 stop:=fun i H l hi=>⟨by rw[r1.length,r2.length];simpa [W9]using hi,l.sqA h1,l.sqA h2⟩
 yld:=fun i H x H' d l y e=>by
  obtain⟨p,a,b,hp,rfl,rfl,ea,eb⟩:=y;obtain⟨da,e1,ra⟩:=r1.get' ea;obtain⟨db,e2,rb⟩:=r2.get' eb;have ed:d=.tup [da,db]:=by
   unfold W9 at e;rw[Zw,List.getElem?_zip_eq_some.mpr (⟨e1,e2⟩:ds[i]? =some (da,db).1/\es[i]? =some (da,db).2)]at e;cases e;rfl
  subst ed;have gp:G p=none:=by
   cases q:G p with
   |none=>rfl
   |some o=>rw[l p o q]at hp;cases hp
  exact .inr ⟨p,_,xM,hp,rfl,Bj G7 (c9 (c4.mono (Le.upd gp) _ ra) (c9 (c4.mono (Le.upd gp) _ rb) d9))⟩
theorem Dq(hg:Gl X "zip")(hm:X.mg "zip"=none)(ha:uF X B [a,b] ms)(hs:starEach [a,b] X.env=[(false,eval a X.env),(false,eval b X.env)]:=by rfl)(hs2:starEach [b] X.env=[(false,eval b X.env)]:=by rfl):
  EI X B (.Tuple elts kk tp) (.Call (.Name "zip" p) [a,b] [] pos) (R9 ms):=by
 refine FJ (YE hg hm ha hs hs2) ?_
 rintro σ H R ⟨G,env,ds,env',rl,e,k⟩;obtain⟨⟨ds',a8⟩,e1,e2⟩:=C6 e;dsimp only at e2;split at e2
 ·rename_i d1 d2
  obtain⟨xs,e3,e4⟩:=C6 e2;obtain⟨ys,e5,e6⟩:=F4 e4;cases e6;refine⟨G,env,_,_,rl,e1,fun vs G1 H1 ev r=>?_⟩
  obtain⟨v,w,rfl,r1,r2⟩:=FF r;obtain⟨c1,l1,us,rfl,q1,t1⟩:=Mf r1 e3;obtain⟨c2,l2,ws,rfl,q2,t2⟩:=Mf r2 e5;exact⟨c1,c2,l1,l2,us,ws,rfl,ev.rel.sub.sqA q1,ev.rel.sub.sqA q2,k _ G1 H1 ev (YF q1 q2 t1 t2)⟩
 ·cases e2
end
def Bs{α:Type}(n:Nat)(lt:Nat->Nat->Bool):PySem.W.KasT α->Option α
 |.ret a=>some a
 |.ask i j k=>if i<n/\j<n then Bs n lt (k (lt i j))else none
theorem Hd{α:Type}{n:Nat}{lt:Nat->Nat->Bool}{cmp:Nat->Nat->(Bool->Shared->Prop)->Shared->Prop}{s:Shared}(hc:∀i j C,i<n->j<n->C (lt i j) s->cmp i j C s):
  ∀(t:PySem.W.KasT α) {Q:α->Shared->Prop}{a:α},Bs n lt t=some a->Q a s->t.kasWp cmp Q s
 |.ret a,Q,a',e,q=>by cases e;exact q
 |.ask i j k,Q,a',e,q=>by
  unfold Bs at e;split at e
  ·rename_i h
   exact hc i j _ h.1 h.2 (Hd hc (k (lt i j)) e q)
  ·cases e
def Q7(h:Heap):List Value->OI->Prop
 |[],[]=>True
 |v::vs,k::ks=>(∃a its,v=.ref a/\IsTup h a its.toArray/\IntsAre its k/\k≠[])/\Q7 h vs ks
 |_,_=>False
theorem YG{a:Addr}(x:K1 P w H h a o):∃ob,h.get? a=some ob:=by
 cases o with
 |lst xs=>obtain⟨_,_,_,_,e⟩:=x;exact⟨_,e⟩
 |tup xs=>obtain⟨_,_,_,ob,e,_⟩:=x;exact⟨_,e⟩
 |dK kvs=>obtain⟨_,_,_,_,o,_,_,e,_⟩:=x;exact⟨_,e⟩
 |dT C kvs=>obtain⟨_,_,_,_,o,_,_,e,_⟩:=x;exact⟨_,e⟩
 |set S n=>obtain⟨o,_,_,_,e,_⟩:=x;exact⟨_,e⟩
 |ins C dx fs=>obtain⟨_,_,_,e,_⟩:=x;exact⟨_,e⟩
 |own y=>obtain⟨_,e⟩:=x;exact⟨_,e⟩
 |xd fs=>obtain⟨_,⟨_,_,_,e,_⟩,_⟩:=x;exact⟨_,e⟩
 |rng lo hi=>obtain⟨_,_,_,e⟩:=x;exact⟨_,e⟩
 |frz ob u=>obtain⟨e,_⟩:=x;exact⟨_,e⟩
 |tbl ps=>exact⟨_,(show h.get? a=some _ from x)⟩
 |met f y=>exact⟨_,(show h.get? a=some _ from x)⟩
 |ext φ=>obtain⟨_,⟨_,e⟩,_⟩:=x;exact⟨_,e⟩
theorem Q7.mono{h h':Heap}:∀{vs:List Value}{ks:OI},Q7 h vs ks->(∀a its,IsTup h a its->IsTup h' a its)->Q7 h' vs ks
 |[],[],_,_=>trivial
 |v::vs,k::ks,⟨⟨a,its,e,t,i,n⟩,r⟩,f=>⟨⟨a,its,e,f _ _ t,i,n⟩,Q7.mono r f⟩
 |[],_::_,h,_=>h.elim
 |_::_,[],h,_=>h.elim
theorem Q7.len{h:Heap}:∀{vs:List Value}{ks:OI},Q7 h vs ks->vs.length=ks.length
 |[],[],_=>rfl
 |v::vs,k::ks,h=>by simp[Q7.len h.2]
 |[],_::_,h=>h.elim
 |_::_,[],h=>h.elim
theorem Q7.get{h:Heap}:∀{vs:List Value}{ks:OI}{i:Nat},Q7 h vs ks->i<vs.length->∃a its,vs.getD i Value.none=.ref a/\IsTup h a its.toArray/\IntsAre its (ks.getD i [])
 |v::vs,k::ks,0,⟨⟨a,its,e,t,i,n⟩,r⟩,_=>⟨a,its,by simpa using e,t,by simpa using i⟩
 |v::vs,k::ks,i+1,⟨_,r⟩,hi=>by
  obtain⟨a,its,e,t,j⟩:=Q7.get (i:=i) r (by simpa using hi)
  exact⟨a,its,by simpa using e,t,by simpa using j⟩
 |[],_,_,_,hi=>by simp at hi
 |_::_,[],_,h,_=>h.elim
theorem Q7.firsts{h:Heap}:∀{vs:List Value}{ks:OI},Q7 h vs ks->∃fs,PySem.W.KatTups h vs fs/\fs.length=vs.length/\∀v∈fs,∃i t,v=Value.int i t
 |[],[],_=>⟨[],.nil,rfl,fun _ h=>nomatch h⟩
 |_::vs,k::ks,⟨⟨a,its,rfl,⟨o,h1,h2,n,h3⟩,hi,hn⟩,r⟩=>by
  obtain⟨fs,f1,f2,f3⟩:=Q7.firsts r;cases hi with
  |nil=>exact absurd rfl hn
  |cons i t hi=>
   refine⟨.int i t::fs,.cons h1 h2 h3 (by simp) f1,by simp[f2],fun v hv=>?_⟩
   rcases Qb.mp hv with rfl|hv
   ·exact⟨i,t,rfl⟩
   ·exact f3 v hv
 |[],_::_,h=>h.elim
 |_::_,[],h=>h.elim
def BE(fin:Bool):List Int->List Int->Bool
 |a::as,b::bs=>if a=b then BE fin as bs else decide (a<b)
 |_,_=>fin
theorem Mg:∀(as bs:List Int),BE (decide (as.length<bs.length)) as bs=HT.lexLt as bs
 |[],[]=>rfl
 |[],_::_=>by simp[BE,HT.lexLt]
 |_::_,[]=>by simp[BE,HT.lexLt]
 |a::as,b::bs=>by
  rw[HT.sI,←Mg as bs]
  simp[BE]
section
variable{fin:Bool}{Q:Bool->Shared->Prop}
theorem YH{us:List Value}{as:List Int}(h1:IntsAre us as):∀{ws:List Value}{bs:List Int}{i:Nat},IntsAre ws bs->Q (BE fin as bs) s->PySem.W.KatLex prog w A true fin Q (us.zip ws) i s:=by
 induction h1 with
 |nil=>intro ws bs i _ q;exact q
 |cons a t ha ih=>
  intro ws bs i h2 q;cases h2 with
  |nil=>exact q
  |cons b u hb=>
   refine PySem.W.kat_cons (Xy a t b u prog w _ _ ?_)
   by_cases e:a=b
   ·subst e
    rw[Yr];exact PySem.W.kat_yes (ih hb (by simpa [BE]using q))
   ·have e':(a==b)=false:=by simpa using e
    rw[e'];refine PySem.W.kat_no ?_
    have q':Q (decide (a<b)) s:=by simpa [BE,e]using q
    cases i with
    |zero=>exact oneLt_int q'
    |succ i=>exact PySem.W.kat_one _ _ (PyProof.Rows.lt_int (show PySem.W.BoolBack Q (.bool (decide (a<b))) s from q'))
end
theorem YI{m:OU}(I:Inv X pins σ H s)(hm:s.heap.Ns X.env.locals m)(hm':h'.Ns X.env.locals m)(k:∀b o,b≠X.env.locals->s.heap.get? b=some o->h'.get? b=some o):Inv X pins σ H {s with heap:=h',toks:=t'}:=by
 refine I.step (g':=s.gens) (d':=s.drawn) (ch:=[]) (fun _ z=>nomatch z) (fun b o hL _ _ e _=>k b o hL e) (fun b o hL _ _ e _=>⟨o.slots,k b o hL e⟩) (fun _ _ _ _ n=>n) (fun b o _ e=>?_) (fun _ _ e=>e) (fun _ _ _ e=>e) (fun b ps e=>⟨#[],by rw[e];simp⟩) (fun m2 hm2=>?_) (fun b u e=>?_) I.bare
 ·by_cases hb:b=X.env.locals
  ·subst hb
   obtain⟨o',_,_,ho,_⟩:=hm';exact⟨o',ho⟩
  ·exact⟨o,k b o hb e⟩
 ·have e:m2=m:=by
   funext x
   obtain⟨o1,es1,ep1,h1,h2,_,h3⟩:=hm;obtain⟨o2,es2,ep2,g1,g2,_,g3⟩:=hm2;rw[h1]at g1;cases g1;rw[h2]at g2;injection g2 with g4 _
   subst g4;rw[←h3,←g3]
  rw[e];exact hm'
 ·refine(I.hok b u e).stay (fun c v hc q=>k c v ?_ q) (fun _ q=>q) fun _ _ q=>q
  rcases hc with z|z
  ·rw[z];intro z2;rw[z2,I.free]at e;cases e
  ·intro z2;rw[z2,I.free]at z;cases z
theorem He{p:Addr}(I:Inv X pins σ H s)(np:∀b u,s.heap.get? b=some u->b≠p):H p=none:=by
 cases e:H p with
 |none=>rfl
 |some o=>
  obtain⟨ob,q⟩:=YG (I.hok p o e);exact absurd rfl (np p ob q)
theorem Mh{m:OU}{p:Addr}{ys:List V}{its:List Value}(I:Inv X pins σ H s)(hm:s.heap.Ns X.env.locals m)(hm':h'.Ns X.env.locals m)(k:∀b o,b≠X.env.locals->s.heap.get? b=some o->h'.get? b=some o)
  (np:∀b u,s.heap.get? b=some u->b≠p)(hv:D2 ys its)(hz:ys.length≤sizeLine)(hn:h'.get? p=some {cls:=.type "list",data:=.seq its.toArray n}):Inv X pins σ (upd H p (.lst ys)) {s with heap:=h',toks:=t'}:=by
 have I1:Inv X pins σ H {s with heap:=h',toks:=t'}:=YI I hm hm' k
 have hf:H p=none:=He I np
 refine I.step (g':=s.gens) (d':=s.drawn) (ch:=[]) (fun _ z=>nomatch z) (fun b o hL _ _ e _=>k b o hL e) (fun b o hL _ _ e _=>⟨o.slots,k b o hL e⟩) (fun b o _ e n=>by rw[D3 (np b o e)];exact n) (fun b o _ e=>?_) (fun b xs q=>by rw[D3 (O4 q hf)];exact q) (fun b u xs q=>by rw[D3 (O4 q hf)];exact q) (fun b ps e=>⟨#[],by rw[D3 (O4 e hf),e];simp⟩) (fun m2 hm2=>?_) (fun b u e=>?_) I.bare
 ·by_cases hb:b=X.env.locals
  ·subst hb
   obtain⟨o',_,_,ho,_⟩:=hm';exact⟨o',ho⟩
  ·exact⟨o,k b o hb e⟩
 ·have e:m2=m:=by
   funext x
   obtain⟨o1,es1,ep1,h1,h2,_,h3⟩:=hm;obtain⟨o2,es2,ep2,g1,g2,_,g3⟩:=hm2;rw[h1]at g1;cases g1;rw[h2]at g2;injection g2 with g4 _
   subst g4;rw[←h3,←g3]
  rw[e];exact hm'
 ·by_cases hb:b=p
  ·subst hb
   rw[G7]at e;cases e;exact⟨hz,its,n,hv,hn⟩
  ·rw[D3 hb]at e
   exact(I1.hok b u e).stay (fun c v hc q=>q) (fun c q=>by rw[D3 (O4 q hf)];exact q) fun c xs q=>by rw[D3 (O4 q hf)];exact q
def keys(ds:List D):Option (OI):=ds.mapM fun d=>match d with
 |.tup es=>(i9 es).bind fun ns=>if ns.isEmpty then none else some ns
 |_=>none
def Mi(ks:OI):Option (List Nat):=if ks.length<2 then some (List.range ks.length)else if ks.length<64 then
 (Bs ks.length (fun i j=>HT.lexLt (ks.getD i []) (ks.getD j [])) (PySem.W.kas_sort ks.length)).bind fun p=>if p.toList.length≤1000 then some p.toList else none else none
def Hf(ds:List D):Option (List D):=(keys ds).bind fun ks=>(Mi ks).bind fun p=>p.mapM fun i=>ds[i]?
theorem YJ{ks:OI}{p:Array Nat}(I:Inv X pins σ H s)(hl:s.heap.IsList l vs.toArray)(ht:Q7 s.heap vs ks)(h2:2≤vs.length)(h64:vs.length<64)
  (hp:Bs vs.length (fun i j=>HT.lexLt (ks.getD i []) (ks.getD j [])) (PySem.W.kas_sort vs.length)=some p)
  (h:∀D c h' m,(∀b u,s.heap.get? b=some u->b≠D)->s.heap.Ns X.env.locals m->h'.Ns X.env.locals m->(∀b o,b≠X.env.locals->s.heap.get? b=some o->h'.get? b=some o)->
   h'.get? D=some {cls:=.type "list",data:=.seq (p.toList.map fun i=>vs.getD i Value.none).toArray c}->Q (.ref D) {s with heap:=h'}):
  wpAny (model X.prog X.w) X.A (call (.builtin "sorted") [.ref l]) Q E s:=by
 obtain⟨m,F⟩:=I.fr;have hm:s.heap.Ns X.env.locals m:=F.ns;have hbk:=I.bk;have keepOf:∀{h':Heap}{pre:OX},Fr X.base X.env.locals h' m->News X.base X.env.locals h' (pre++CO X.base s.heap X.env.locals)->∀b o,b≠X.env.locals->s.heap.get? b=some o->h'.get? b=some o:=fun{h' pre} F' N' b o hL e=>by
  cases q:X.base.get? b with
  |some u=>
   have:=hbk b u q;rw[e]at this;cases this;exact F'.keep b _ q
  |none=>exact(N' (b,o) (Qe _ (En hL q e))).1
 have tl:∀{h':Heap},(∀b o,b≠X.env.locals->s.heap.get? b=some o->h'.get? b=some o)->∀a its,IsTup s.heap a its->IsTup h' a its:=fun{h'} k a its ⟨o,e,c,r⟩=>by
  refine⟨o,k a o ?_ e,c,r⟩;intro z;subst z;obtain⟨o',es,ep,g1,g2,_⟩:=hm;rw[e]at g1;cases g1;obtain⟨n,r⟩:=r;rw[g2]at r;cases r
 refine PySem.W.kat_sorted F Eo hl h2 h64 fun D e1 h' F' N' hD=>?_
 have k1:=keepOf (pre:=[(D,seqObj "list" #[] e1)]) F' N'
 have t1:Q7 h' vs ks:=ht.mono (tl k1)
 obtain⟨fs,f1,f2,f3⟩:=t1.firsts;refine PySem.W.kat_kind (s:={s with heap:=h'}) (T:=.type "int") f1 (by omega) (fun v hv=>?_) (by decide) ?_
 ·obtain⟨i,t,rfl⟩:=f3 v hv
  exact PySem.W.Looks.of_pure rfl
 ·have hDs:∀b o,s.heap.get? b=some o->b≠D:=fun b o e z=>by
   subst z
   by_cases hL:b=X.env.locals
   ·have:=(N' (b,seqObj "list" #[] e1) (Zl ..)).2.1
    exact this hL
   ·cases q:X.base.get? b with
    |some u=>
     have:=(N' (b,seqObj "list" #[] e1) (Zl ..)).2.2;simp only at this;rw[q]at this;cases this
    |none=>exact absurd (hD (b,o) (En hL q e)) (Yy _)
  refine Hd (s:={s with heap:=h'}) (lt:=fun i j=>HT.lexLt (ks.getD i []) (ks.getD j [])) (fun i j C hi hj hc=>?_) _ hp ?_
  ·obtain⟨a,its,ea,⟨oa,p1,_,na,p2⟩,ia⟩:=t1.get hi
   obtain⟨b,jts,eb,⟨ob,q1,_,nb,q2⟩,ib⟩:=t1.get hj;unfold PySem.W.kas_ask;rw[ea,eb];have hb:(Value.type "int" !=Value.type "tuple")=true:=by decide
   rw[hb];refine PySem.W.kat_lt (s:={s with heap:=h'}) p1 p2 q1 q2 ?_
   have la:=ia.length
   have lb:=ib.length
   refine YH ia ib ?_
   have e:decide (its.toArray.size<jts.toArray.size)=decide ((ks.getD i []).length<(ks.getD j []).length):=by
    rw[Qm,Qm,la,lb]
   rw[e,Mg];exact hc
  ·refine PySem.W.KasFin.intro (s:={s with heap:=h'}) F' N' (.head fun q hq=>?_) fun h2' c F2 N2=>?_
   ·exact hDs q.1 q.2 (Eo q hq).1
   ·have k2:=keepOf (pre:=[(D,PySem.W.listOf (List.toArray (p.toList.map fun i=>vs.getD i Value.none)) c)]) F2 N2
    exact h D c h2' m hDs hm F2.ns k2 (N2 _ (Zl ..)).1
theorem Mj(I:Inv X pins σ H s)(hl:s.heap.IsList l vs.toArray)(h2:vs.length<2)
  (h:∀D c h' m,(∀b u,s.heap.get? b=some u->b≠D)->s.heap.Ns X.env.locals m->h'.Ns X.env.locals m->(∀b o,b≠X.env.locals->s.heap.get? b=some o->h'.get? b=some o)->
   h'.get? D=some {cls:=.type "list",data:=.seq vs.toArray c}->Q (.ref D) {s with heap:=h'}):
  wpAny (model X.prog X.w) X.A (call (.builtin "sorted") [.ref l]) Q E s:=by
 obtain⟨m,F⟩:=I.fr;have hm:s.heap.Ns X.env.locals m:=F.ns;refine Calls.call_function_entry kind_sorted plain_sorted entry_sorted (args_sorted1 _) ?_
 unfold Builtin.«sorted»;refine Qq (m:=checkCount "sorted" 1 1 _) (Qv (Qq (collect_list hl ?_ (by rw[Je];omega))))
 refine Qq (wpAny_newList ?_ (by rw[Je];omega))
 have hsz:((s.heap.push (seqObj "list" #[] 0)).update s.heap.objs.size (Obj.mapSeq (· ++vs.toArray))).objs.size=s.heap.objs.size+1:=by rw[Heap.size_update,size_push']
 generalize eg:((s.heap.push (seqObj "list" #[] 0)).update s.heap.objs.size (Obj.mapSeq (· ++vs.toArray)))=g1 at hsz
 have k1:∀b o,s.heap.get? b=some o->g1.get? b=some o:=fun b o q=>by
  have hlt:b<s.heap.objs.size:=Qu q
  rw[←eg,Xx _ _ _ _ (Qs hlt),Heap.get?_push_ne _ _ _ (Qs hlt)];exact q
 generalize eg2:g1.push (seqObj "list" vs.toArray 0)=g2;have hg2:({cls:=.type "list",data:=.seq vs.toArray}:Obj)=seqObj "list" vs.toArray 0:=rfl;show wpAny _ _ _ _ _ {s with heap:=g2}
 dsimp only;rw[hsz];have k2:∀b o,s.heap.get? b=some o->g2.get? b=some o:=fun b o q=>by rw[←eg2];exact Qx _ (k1 b o q)
 have hD:g2.get? (s.heap.objs.size+1)=some (seqObj "list" vs.toArray 0):=by rw[←eg2,←hsz];exact Qd _ rfl
 have hs2:g2.objs.size=s.heap.objs.size+2:=by rw[←eg2,size_push',hsz]
 refine Qq (Yi (Jk slot_list_sort ⟨_,hD,rfl⟩ entry_list_sort ?_ (args_list_sort _)));rw[list_sort_plain];refine Qq (listItems_at hD rfl (Qq (listUpdate_at hD rfl ?_ (by rw[Qm,Je];omega) (Jo _))))
 obtain⟨e1,ho1⟩:∃e1,(g2.update (s.heap.objs.size+1) (Obj.mapSeq fun _=>#[])).get? (s.heap.objs.size+1)=some (seqObj "list" #[] e1):=⟨_,get?_update_seq hD fun _=>#[]⟩
 refine Qq (seqEpoch_at ho1 rfl (Qq (wpAny_newTuple (Qq (wpAny_newList (Yi ?_) (by rw[Je];simp))) (by rw[Je];simp;omega))))
 generalize eg3:(g2.update (s.heap.objs.size+1) (Obj.mapSeq fun _=>#[]))=g3 at ho1 ⊢
 have hs3:g3.objs.size=s.heap.objs.size+2:=by rw[←eg3,Heap.size_update];exact hs2
 have k3:∀b o,s.heap.get? b=some o->g3.get? b=some o:=fun b o q=>by
  rw[←eg3,Xx _ _ _ _ (Qs (Jh (Qu q)))];exact k2 b o q
 generalize eg4:(g3.push {cls:=.type "tuple",data:=.seq vs.toArray}).push {cls:=.type "list",data:=.seq #[]}=g4;have up4:∀b o,g3.get? b=some o->g4.get? b=some o:=fun b o q=>by rw[←eg4];exact Qx _ (Qx _ q)
 have ho4:g4.get? (s.heap.objs.size+1)=some (seqObj "list" #[] e1):=up4 _ _ ho1
 dsimp only;have hlt2:vs.toArray.size<2:=by simpa using h2
 rw[Qn hlt2,Qn hlt2];refine Qq (Qv ?_);rw[StateT.run_pure];refine Qq (Qv ?_);dsimp only;have ez:Array.map (fun(x:Keyed)=>x.snd) (arrOf (SortSt.mk' general' (vs.toArray.zip vs.toArray) #[] 7 none))=vs.toArray:=by
  show Array.map (fun(x:Keyed)=>x.snd) (vs.toArray.zip vs.toArray)=vs.toArray
  apply Array.toList_inj.mp
  rw[Array.toList_map,Array.toList_zip];exact List.map_snd_zip (Qp _)
 rw[ez];refine Qq (seqEpoch_at ho4 rfl (Qq (listUpdate_at ho4 rfl ?_ (by rw[Je];simp) (by rw[Qm,Je];omega))))
 rw[Ql (by simp)]
 have ho5:=get?_update_seq ho4 fun _=>vs.toArray
 refine Qv ⟨_,rfl,Qv ⟨_,rfl,?_⟩⟩;have k5:∀b o,s.heap.get? b=some o->(g4.update (s.heap.objs.size+1) (Obj.mapSeq fun _=>vs.toArray)).get? b=some o:=fun b o q=>by
  rw[Xx _ _ _ _ (Qs (Jh (Qu q)))];exact up4 b o (k3 b o q)
 obtain⟨ol,es,ep,q1,q2⟩:=id hm;exact h (s.heap.objs.size+1) _ _ m (fun b u q=>Qs (Jh (Qu q))) hm ⟨ol,es,ep,k5 _ _ q1,q2⟩ (fun b o _ q=>k5 b o q) ho5
theorem Ml{K:Qz}{G:Hp}:∀{es:List D}{xs:List V}{us:List Value}{ns:List Int},C3 K G xs es->D2 xs us->i9 es=some ns->IntsAre us ns
 |[],_,us,ns,r,v,e=>by simp only[C3]at r;subst r;cases v;cases e;exact .nil
 |d::es,_,us,ns,r,v,e=>by
  simp only[C3]at r;obtain⟨x,t,rfl,q,r⟩:=r;cases d<;>first|(exact absurd (show(none:Option (List Int))=some ns from e) (by simp))|skip
  obtain⟨l,e1,e2⟩:=F4 (show(i9 es).map _=some ns from e)
  subst e2;simp only[c4]at q;subst q;cases v with
  |cons v1 v2=>
   obtain⟨tk,rfl⟩:=v1;exact .cons _ _ (Ml r v2 e1)
theorem Mm{pins:OX}{σ:St}{G H:Hp}{s:Shared}(I:Inv X pins σ H s)(l:Le G H):∀{ds:List D}{xs:List V}{us:List Value}{ks:OI},C3 X.K G xs ds->D2 xs us->keys ds=some ks->Q7 s.heap us ks
 |[],_,us,ks,r,v,e=>by simp only[C3]at r;subst r;cases v;cases e;trivial
 |d::ds,_,us,ks,r,v,e=>by
  simp only[C3]at r;obtain⟨x,t,rfl,q,r⟩:=r;unfold keys at e;rw[List.mapM_cons]at e;obtain⟨k,e1,e2⟩:=C6 e;obtain⟨ks',e3,e4⟩:=C6 e2;cases e4;cases v with
  |cons v1 v2=>
   refine⟨?_,Mm I l r v2 e3⟩;split at e1
   ·rename_i es
    obtain⟨ns,e5,e6⟩:=C6 e1;split at e6
    ·cases e6
    ·rename_i hne
     cases e6;simp only[c4]at q;obtain⟨a,ys,rfl,q1,q2⟩:=q;cases v1;obtain⟨its,rv,p,_⟩:=I.tuple (l.sqT q1);exact⟨a,its,rfl,p,Ml q2 rv e5,fun z=>hne (by rw[z];rfl)⟩
   ·cases e1
theorem Hg{K:Qz}{G:Hp}{ds:List D}{xs:List V}{us:List Value}(r:C3 K G xs ds)(v:D2 xs us):∀{p:List Nat}{es:List D},(p.mapM fun i=>ds[i]?)=some es->∃ys,D2 ys (p.map fun i=>us.getD i Value.none)/\C3 K G ys es
 |[],es,e=>by cases e;exact⟨[],.nil,d9⟩
 |i::p,es,e=>by
  rw[List.mapM_cons]at e;obtain⟨d,e1,e2⟩:=C6 e;obtain⟨es',e3,e4⟩:=C6 e2;cases e4;obtain⟨ys,h1,h2⟩:=Hg r v e3;obtain⟨x,g1,g2⟩:=r.get e1;obtain⟨u,g3,g4⟩:=v.get g1;refine⟨x::ys,?_,c9 g2 h2⟩;rw[Qh];have:us.getD i Value.none=u:=by simp[g3]
  rw[this];exact .cons g4 h1
theorem YK:M0 X (.builtin "sorted") (fun xs H Q=>∃p G ys ds es,xs=[.ref p]/\Le G H/\qK X.K G p ys/\C3 X.K G ys ds/\Hf ds=some es/\∀l zs,H l=none->C3 X.K G zs es->Q (.ref l) (upd H l (.lst zs))):=by
 intro pins s σ H xs us Q I r h;obtain⟨p,G,ys,ds,es,rfl,l,hq,rp,es',q⟩:=h;obtain⟨u,rfl,rx⟩:=X9 r;cases rx;obtain⟨vs,rv,pl,hz⟩:=I.list (l.sqL hq);obtain⟨ks,e1,e2⟩:=C6 es';obtain⟨pm,e3,e4⟩:=C6 e2;have ht:Q7 s.heap vs ks:=Mm I l rp rv e1;have hlen:=ht.len;have hlen2:vs.length=ds.length:=by rw[←rv.length,rp.length]
 obtain⟨zs,h1,h2⟩:=Hg rp rv e4;have fin:∀(D:Addr) (c:Nat) (h':Heap) (m:OU),(∀b u,s.heap.get? b=some u->b≠D)->s.heap.Ns X.env.locals m->h'.Ns X.env.locals m->(∀b o,b≠X.env.locals->s.heap.get? b=some o->h'.get? b=some o)->
   h'.get? D=some {cls:=.type "list",data:=.seq (pm.map fun i=>vs.getD i Value.none).toArray c}->pm.length≤1000->EP X pins σ Q (.ref D) {s with heap:=h'}:=fun D c h' m a1 a2 a3 a4 a5 hpl=>by
  have hzl:zs.length≤sizeLine:=by
   have:=h1.length;rw[Qk]at this;rw[this];exact Jj (Bf hpl)
  exact⟨.ref D,_,Mh (t':=s.toks) I a2 a3 a4 a1 h1 hzl a5,rfl,q D zs (He I a1) h2⟩
 unfold Mi at e3;split at e3
 ·rename_i hn
  cases e3;refine Mj I pl.isList (by omega) fun D c h' m a1 a2 a3 a4 a5=>fin D c h' m a1 a2 a3 a4 ?_ (by simp;omega)
  have:((List.range ks.length).map fun i=>vs.getD i Value.none)=vs:=by
   apply Ua
   ·simp[hlen]
   ·intro i h1 h2
    simp[h2]
  rw[this];exact a5
 ·rename_i hn
  split at e3
  ·rename_i h64
   obtain⟨pa,e5,e6⟩:=C6 e3;split at e6
   case isFalse=>cases e6
   rename_i hpl;cases e6;refine YJ (p:=pa) I pl.isList ht (by omega) (by omega) (by rw[hlen];exact e5) fun D c h' m a1 a2 a3 a4 a5=>fin D c h' m a1 a2 a3 a4 a5 hpl
  ·cases e3
section
variable{pos:Pos}
theorem YL(I:Inv X pins σ H s):sysModules<s.heap.objs.size:=by
 have h:mainGlobals<s.heap.objs.size:=(I.mod.glob.keeps I.bk).lt
 exact Us (by decide) h
theorem YM:PE X (.Dict [] [] pos) (fun _ H Q=>∀p,H p=none->Q (.ref p) (upd H p (.dK []))):=fun pins s σ H Q I h=>
 wpAny_Dict_empty ⟨.ref s.heap.objs.size,_,I.laid (a:=s.heap.objs.size) (o:=.dK []) (t':=s.toks) (fun _ _ q=>Qx _ q) (Qp _)
  ⟨Jo _,Zb.mpr (Zg (Qs (YL I))),[],.nil,Heap.DictOf.new s.heap⟩,rfl,h _ (I.hok.fresh (Qp _))⟩
theorem Mn:ED X B (.Dict [] [] pos) (mC .emp):=by
 refine c8 YM ?_
 rintro σ H Q ⟨G,env,d,env',rl,e,k⟩;cases e;exact fun p hp=>k _ _ _ (rl.alloc hp) (by simp only[c4];exact⟨p,[],rfl,G7⟩)
end
section
variable{pos:Pos}{fn:Fn}{f:Addr}
structure Def(P:Program)(w:World)(K:Qz)(mg:OU)(base:Heap)(x:Str)(k n:Nat)(fn:Fn):Prop where
 ex:∃(f:Addr) (fd:FuncData) (ps:List Str),c6 P w K mg base j7 k f fd ps (k9 K n fn)/\ps.length=n/\mg x=some (.ref f)/\PySem.W.keepIn K (.ref f)=true/\Q2 K fd ps []
theorem D9(D:Def X.prog X.w X.K X.mg X.base x k n fn)(hr:g6 k X.A)(hg:Gl X x)(ha:vA X B (e::es) as)(hdb:(x==("__debug__":Str))=false:=by decide)
  (he:starEach (e::es) X.env=(false,eval e X.env)::starEach es X.env:=by rfl)(hpl:(backTo pos (starEach es X.env)).any (·.1)=false:=by rfl):
  ED X B (.Call (.Name x p) (e::es) [] pos) (c7 n fn as):=by
 obtain⟨f,fd,ps,F,rfl,hm,hk,hb⟩:=D.ex;exact WZ F hr hg hm hk hb ha hdb he hpl
theorem S0(D:Def X.prog X.w X.K X.mg X.base x k n fn)(hr:g6 k X.A)(hg:Gl X x)(ha:vA X B (e::es) as)(hdb:(x==("__debug__":Str))=false:=by decide)
  (he:starEach (e::es) X.env=(false,eval e X.env)::starEach es X.env:=by rfl)(hpl:(backTo pos (starEach es X.env)).any (·.1)=false:=by rfl):
  EL X B (.Call (.Name x p) (e::es) [] pos) (J7 n fn as):=by
 obtain⟨f,fd,ps,F,rfl,hm,hk,hb⟩:=D.ex;exact Wa F hr hg hm hk hb ha hdb he hpl
def BF:Option NameKind->Option NameKind->Bool:=fun a b=>decide (a=b)
def Mp(outN N':List Str)(outNames:List (Str×NameKind))(cells:List (Str×Addr))(scope:Scope)(keep:List Bool)(more:Nat):Bool:=
 (decide (scope.kind=.function)&&(scope.names.all (fun y=>BF (scope.names.lookup y.1) (some y.2))&&(scope.names.all (fun y=>!BF (some y.2) (some .free)||(cells.lookup y.1).isSome)&&(decide (keep.length=outN.length)&&(decide (N'.length=outN.length+more)&&
  (List.range keep.length).all fun i=>!(keep.getD i false)||match N'[i]?,outN[i]? with
   |some x,some y=>decide (x=y)&&(!BF (scope.names.lookup x) (some .local)&&(!BF (scope.names.lookup x) (some .cell)&&(!BF (scope.names.lookup x) (some .free)||(BF (outNames.lookup x) (some .cell)||BF (outNames.lookup x) (some .free)))))
   |_,_=>false)))))
theorem YN{N':List Str}{keep:List Bool}(c:closureFor scope X.env=pure (P7 X.env.cells scope.names []))(h:Mp X.N N' X.env.scope.names X.env.cells scope keep more=true):pO X N' scope keep more:=by
 unfold Mp at h;simp only[Qy,Zh,Qw,BF]at h;obtain⟨h1,h2,h3,h4,h5,h6⟩:=h;have gt:∀(i:Nat) (x:Str),keep[i]? =some true->N'[i]? =some x->∃y,X.N[i]? =some y/\x=y/\ ¬ (scope.names.lookup x=some .local)/\ ¬ (scope.names.lookup x=some .cell)/\(scope.names.lookup x=some .free->X.env.scope.names.lookup x=some .cell\/X.env.scope.names.lookup x=some .free):=fun i x e1 e2=>by
  have hi:i<keep.length:=(Qg.mp e1).1
  have q:=h6 i (Zo.mpr hi)
  have e3:keep.getD i false=true:=by simp[e1]
  rw[e3,e2]at q;cases e4:X.N[i]? with
  |none=>rw[e4]at q;simp at q
  |some y=>
   rw[e4]at q;simp only[Bool.not_true,Xg,Qy,Zh,Xl,decide_eq_false_iff_not,Tz]at q;obtain⟨q1,q2,q3,q4⟩:=q;exact⟨y,rfl,q1,q2,q3,fun z=>q4.elim (fun n=>absurd z n) id⟩
 refine⟨h1,h2,c,fun y hy hf=>?_,h4,h5,fun i x e1 e2=>?_,fun i x e1 e2 e3=>?_⟩
 ·have q:=h3 y hy
  rw[hf]at q
  simpa using q
 ·obtain⟨y,g1,g2,g3,g4,_⟩:=gt i x e1 e2
  exact⟨by rw[g1,g2],g3,g4⟩
 ·have hi:i<keep.length:=(Qg.mp e1).1
  have hN:i<N'.length:=by omega
  obtain⟨y,g1,g2,g3,g4,g5⟩:=gt i _ e1 (Zf hN);rw[e2]at g1;cases g1;rw[g2]at g5;exact g5 e3
end
section
variable{pos:Pos}
theorem BG{i:Int}(hg:Gl X x)(hm:∃t,X.mg x=some (.int i t))(hd:(x==("__debug__":Str))=false:=by decide):ED X B (.Name x pos) (mC (.int i)):=by
 obtain⟨t,hm⟩:=hm;exact WB hg hm hd
def Kp(i:Nat)(m:Mo D):Prop:=∀env d env' w ds,m env=some (d,env')->env'[i]? =some w->w.mut=some ds->∃w0 ds0,env[i]? =some w0/\w0.mut=some ds0
theorem Mq:Kp i (mC d):=fun env d' env' w ds e h1 h2=>by cases e;exact⟨w,ds,h1,h2⟩
theorem YO(hj:j≠i):Kp i (A0 j):=fun env d' env' w ds e h1 h2=>by
 unfold A0 at e;split at e
 ·cases e;exact⟨w,ds,h1,h2⟩
 ·cases e
  rw[Qc hj]at h1;exact⟨w,ds,h1,h2⟩
 ·cases e
  rw[Qc hj]at h1;exact⟨w,ds,h1,h2⟩
 ·cases e
theorem YQ:bootBuiltins "int"=some (.type "int"):=by rfl'
theorem YR:bootBuiltins "bool"=some (.type "bool"):=by rfl'
theorem YS:bootBuiltins "str"=some (.type "str"):=by rfl'
theorem YT:bootBuiltins "tuple"=some (.type "tuple"):=by rfl'
theorem YU:bootBuiltins "list"=some (.type "list"):=by rfl'
theorem YV:bootBuiltins "all"=some (.builtin "all"):=by rfl'
theorem YW:bootBuiltins "max"=some (.builtin "max"):=by rfl'
theorem YX:bootBuiltins "min"=some (.builtin "min"):=by rfl'
theorem YY:bootBuiltins "sorted"=some (.builtin "sorted"):=by rfl'
end
theorem FW{K:Qz}{G:Hp}:∀ns:List Int,C3 K G (ns.map V.int) (ns.map D.int)
 |[]=>d9
 |n::ns=>c9 (by simp only[c4]) (FW ns)
def Dr:Expr->Bool
 |.Starred _ _=>true
 |_=>false
theorem FX{env:Env}(h:Dr e=false):starEach (e::es) env=(false,eval e env)::starEach es env:=by
 cases e<;>first|rfl|cases h
theorem se1{env:Env}(h:Dr a=false):starEach [a] env=[(false,eval a env)]:=by rw[FX h];rfl
theorem se2{b:Expr}{env:Env}(h:Dr a=false)(h2:Dr b=false):starEach [a,b] env=[(false,eval a env),(false,eval b env)]:=by rw[FX h,se1 h2]
theorem Mr{pos:Pos}{env:Env}:∀{es:List Expr},es.all (fun e=>!Dr e)=true->(backTo pos (starEach es env)).any (·.1)=false
 |[],_=>rfl
 |e::es,h=>by
  rw[Vq,Qy,Xl]at h;rw[FX h.1];show(false||(backTo pos (starEach es env)).any (·.1))=false
  rw[Mr h.2];rfl
theorem J3{m n:Mo Fl}{e:c5}(h:m e=some (.nx,e1)):C4 m n e=n e1:=by unfold C4;rw[h];rfl
theorem Q8{m n:Mo Fl}{e:c5}(h:m e=some (.ret d,e1)):C4 m n e=some (.ret d,e1):=by unfold C4;rw[h];rfl
theorem X0{t:Mo Bool}{m n:Mo Fl}{e:c5}(h:t e=some (true,e1)):F1 t m n e=m e1:=by unfold F1;rw[h];rfl
theorem U2{t:Mo Bool}{m n:Mo Fl}{e:c5}(h:t e=some (false,e1)):F1 t m n e=n e1:=by unfold F1;rw[h];rfl
theorem YZ(neg:Bool)(i j:Int):j0 neg (.int i) (.int j)=some (.bl (if neg then !(i==j)else(i==j))):=rfl
theorem Hh{g:OZ}{m:Mo D}{P:c5->Prop}{f:D->D}:∀{ds:List D}{env:c5},(∀d∈ds,∀e,P e->∃e1 e2,g d e=some e1/\m e1=some (f d,e2)/\P e2)->P env->
  ∃env',M1 g E7 m ds env=some (ds.map f,env')/\P env'
 |[],env,_,p=>⟨env,rfl,p⟩
 |d::ds,env,h,p=>by
  obtain⟨e1,e2,h1,h2,h3⟩:=h d (by simp) env p
  obtain⟨e3,h4,h5⟩:=Hh (ds:=ds) (fun x hx=>h x (by simp[hx])) h3
  refine⟨e3,?_,h5⟩;unfold M1;rw[h1];simp only[Qj,E7,Zn];rw[h2];simp only[Qj];rw[h4];rfl
theorem Hi{g:OZ}{b:Mo Fl}{P:c5->Prop}:∀{ds:List D}{env:c5},(∀d∈ds,∀e,P e->∃e1 e2,g d e=some e1/\b e1=some (.nx,e2)/\P e2)->P env->∃env',loop g b ds env=some (.nx,env')/\P env'
 |[],env,_,p=>⟨env,rfl,p⟩
 |d::ds,env,h,p=>by
  obtain⟨e1,e2,h1,h2,h3⟩:=h d (by simp) env p
  obtain⟨e3,h4,h5⟩:=Hi (ds:=ds) (fun x hx=>h x (by simp[hx])) h3
  refine⟨e3,?_,h5⟩;unfold loop;rw[h1];simp only[Qj];rw[h2];exact h4
theorem Bt{α:Type}(f:α->Bool):∀l:List α,U1 (l.map fun x=>D.bl (f x))=some (l.all f)
 |[]=>rfl
 |x::l=>by simp[U1,Bt f l]
theorem M5{N:Nat}{env:List W}(h:mb (ws++List.replicate (N-ws.length) .nil)=some (.ret d,env)):k8 N mb ws=some (.d d,S8 ws env):=by unfold k8;rw[h]
theorem Ds{N:Nat}{env:List W}{d:List D}(h:mb (ws++List.replicate (N-ws.length) .nil)=some (.retL d,env)):k8 N mb ws=some (.l d,S8 ws env):=by unfold k8;rw[h]
def stop(b:Bool)(d:D):Fl:=if b then .nx else .ret d
theorem Hj{g:OZ}{b:Mo Fl}{P:c5->Prop}{ok:D->Bool}{r:D}:∀{ds:List D}{env:c5},(∀d∈ds,∀e,P e->∃e1 e2,g d e=some e1/\b e1=some (stop (ok d) r,e2)/\P e2)->P env->∃env',loop g b ds env=some (stop (ds.all ok) r,env')/\P env'
 |[],env,_,p=>⟨env,rfl,p⟩
 |d::ds,env,h,p=>by
  obtain⟨e1,e2,h1,h2,h3⟩:=h d (by simp) env p
  by_cases hk:ok d=true
  ·obtain⟨e3,h4,h5⟩:=Hj (ds:=ds) (fun x hx=>h x (by simp[hx])) h3
   refine⟨e3,?_,h5⟩;unfold loop;rw[h1];simp only[Qj];rw[h2,hk,Vq,hk,Yn];exact h4
  ·have hk':ok d=false:=by simpa using hk
   refine⟨e2,?_,h3⟩;unfold loop;rw[h1];simp only[Qj];rw[h2,hk',Vq,hk',Uq];rfl
theorem Ad{keep:List Bool}{g:OZ}{t:Mo Bool}{e3:c5}{r:List D}(h:mi env=some (ds,e1))(hl:ds.length≤100000)(hc:M1 g t m ds (P9 keep more e1)=some (r,e2))(ho:O7 keep e1 e2=some e3):
  D6 mi keep more g t m env=some (r,e3):=by
 unfold D6;rw[h];show(if ds.length≤100000 then(M1 g t m ds (P9 keep more e1)).bind _ else none)=_
 rw[Qn hl,hc];show(O7 keep e1 e2).map _=_;rw[ho];rfl
theorem Dt{j:Int}(h:ms env=some ([.int j],e1))(h1: -1000000<j)(h2:j<1000000):J4 ms env=some (R8 0 j.toNat,e1):=by
 unfold J4;rw[h];exact Qn ⟨h1,h2⟩
theorem O0{f:List D->Option D}(h:ms env=some (ds,e1))(hf:f ds=some d):d6 f ms env=some (d,e1):=by unfold d6;rw[h];show(f ds).map _=_;rw[hf];rfl
theorem ZA{f:List D->Option (List D)}{d:List D}(h:ms env=some (ds,e1))(hf:f ds=some d):uX f ms env=some (d,e1):=by unfold uX;rw[h];show(f ds).map _=_;rw[hf];rfl
theorem E5(h:m env=some (d,e1))(h2:ms e1=some (ds,e2)):B0 m ms env=some (d::ds,e2):=by unfold B0;rw[h];show(ms e1).map _=_;rw[h2];rfl
theorem BH{ms:Mo (List Ar)}{ds:List Ar}(h:m env=some (d,e1))(h2:ms e1=some (ds,e2)):B7 m ms env=some (.d d::ds,e2):=by unfold B7;rw[h];show(ms e1).map _=_;rw[h2];rfl
theorem K4{m:Mo (List D)}(h:m env=some (ds,e1)):mF m env=some (.lst ds,e1):=by unfold mF;rw[h];rfl
theorem V2(h:m env=some (d,e1))(hd:d.items=some ds):F3 m env=some (ds,e1):=by unfold F3;rw[h];show d.items.map _=_;rw[hd];rfl
theorem D8{f:D->D->Option D}{mb:Mo D}{a b c:D}(h1:ma env=some (a,e1))(h2:mb e1=some (b,e2))(hf:f a b=some c):B6 f ma mb env=some (c,e2):=by
 unfold B6;rw[h1];show(mb e1).bind _=_;rw[h2];show(f a b).map _=_;rw[hf];rfl
theorem L8(h:m env=some (d,e1)):D1 m env=some (.ret d,e1):=by unfold D1;rw[h];rfl
theorem Du{m:Mo (List D)}{d:List D}(h:m env=some (d,e1)):T7 m env=some (.retL d,e1):=by unfold T7;rw[h];rfl
theorem P1(h:m env=some (d,e1)):D7 i m env=some (.nx,e1.set i (.dat d)):=by unfold D7;rw[h];rfl
theorem Ms{m:Mo (List D)}{d:List D}(h:m env=some (d,e1)):K7 i m env=some (.nx,e1.set i (.own d)):=by unfold K7;rw[h];rfl
theorem O3{b:Bool}(h:m env=some (.bl b,e1)):mT m env=some (b,e1):=by unfold mT;rw[h];rfl
theorem Y6{m:Mo Bool}{b:Bool}(h:m env=some (b,e1)):G8 m env=some (!b,e1):=by unfold G8;rw[h];rfl
theorem U3{g:OZ}{b:Mo Fl}(h:mi env=some (ds,e1)):K3 mi g b env=loop g b ds e1:=by unfold K3;rw[h];rfl
theorem S1{f:Fn}(h:as env=some (av,e1))(hn:av.length=n)(hs:slots av=[])(hf:f (av.map (P0 (.l [])))=some (r,ws')):Y3 n f as env=some (r,e1):=by
 unfold Y3;rw[h];show(if av.length=n then _ else none)=_
 rw[Qn hn];simp only[hs];rw[hf];rfl
theorem Ae{f:Fn}{w:W}{c c':List D}(h:as env=some (av,e1))(hn:av.length=n)(hs:slots av=[i])(hw:e1[i]? =some w)(hm:w.mutL=some c)(hf:f (av.map (P0 (.l c)))=some (r,ws'))(hp:Aa ws'=some (.l c')):
  Y3 n f as env=some (r,e1.set i (w.put c')):=by
 unfold Y3;rw[h];show(if av.length=n then _ else none)=_
 rw[Qn hn];simp only[hs];rw[hw];simp only[Qj];rw[W.mutL_of hm];simp only[Qj];rw[hf];simp only[Qj];rw[hp,W.put_eq hm];rfl
theorem ZB{f:Fn}{w:W}{c c':Mu}(h:as env=some (av,e1))(hn:av.length=n)(hs:slots av=[i])(hw:e1[i]? =some w)(hm:w.mut=some c)(hf:f (av.map (P0 c))=some (r,ws'))(hp:Aa ws'=some c'):
  Y3 n f as env=some (r,e1.set i (w.putM c')):=by
 unfold Y3;rw[h];show(if av.length=n then _ else none)=_
 rw[Qn hn];simp only[hs];rw[hw];simp only[Qj];rw[hm];simp only[Qj];rw[hf];simp only[Qj];rw[hp];rfl
theorem S2{f:Fn}(h:Y3 n f as env=some (.d d,e1)):c7 n f as env=some (d,e1):=by unfold c7;rw[h];rfl
theorem AH{f:Fn}{d:List D}(h:Y3 n f as env=some (.l d,e1)):J7 n f as env=some (d,e1):=by unfold J7;rw[h];rfl
section
variable{pos:Pos}
def V3(m:Mo D):Mo Fl:=fun env=>(m env).map fun p=>(.nx,p.2)
theorem Y7(h:ED X B e ma)(hsw:swapsWith e none pos.line X.env=pure false:=by rfl):ES X B (.Expr e pos) (V3 ma):=by
 refine m5 (Gj (te:=TD X.K B ma) h hsw) ?_
 rintro D σ H ⟨G,env,fl,env',rl,e,k⟩;obtain⟨⟨d,a8⟩,e1,e2⟩:=F4 e;cases e2;exact .bind rl e1 fun v G' H' ev r=>k σ G' H' ev
theorem Cn(h:m env=some (d,e1)):V3 m env=some (.nx,e1):=by unfold V3;rw[h];rfl
theorem Mt{N:Nat}{env:List W}(h:mb (ws++List.replicate (N-ws.length) .nil)=some (.nx,env)):k8 N mb ws=some (.d .non,S8 ws env):=by unfold k8;rw[h]
end
def Bu(x:Int):List Int->List Int
 |[]=>[x]
 |y::l=>if x≤y then x::y::l else y::Bu x l
def Af:List Int->List Int
 |[]=>[]
 |x::l=>Bu x (Af l)
theorem Hk(x:Int):∀l,(Bu x l).Perm (x::l)
 |[]=>.refl _
 |y::l=>by
  unfold Bu;split
  ·exact .refl _
  ·exact((Hk x l).cons y).trans (.swap x y l)
theorem Hl:∀l,(Af l).Perm l
 |[]=>.refl _
 |x::l=>(Hk x (Af l)).trans ((Hl l).cons x)
theorem Mv{x:Int}:∀{l:List Int},l.Pairwise (· ≤ ·)->(Bu x l).Pairwise (· ≤ ·)
 |[],_=>by simp[Bu]
 |y::l,h=>by
  unfold Bu;obtain⟨h1,h2⟩:=Uu.mp h;split
  ·rename_i hx
   refine Uu.mpr ⟨fun z hz=>?_,h⟩
   rcases Qb.mp hz with rfl|hz
   ·exact hx
   ·exact Int.le_trans hx (h1 z hz)
  ·rename_i hx
   refine Uu.mpr ⟨fun z hz=>?_,Mv h2⟩
   rcases Qb.mp ((Hk x l).mem_iff.mp hz)with rfl|hz
   ·omega
   ·exact h1 z hz
theorem Mw:∀l,(Af l).Pairwise (· ≤ ·)
 |[]=>.nil
 |x::l=>Mv (Mw l)
theorem My:∀{l k:List Int},l.Perm k->l.Pairwise (· ≤ ·)->k.Pairwise (· ≤ ·)->l=k
 |[],k,p,_,_=>p.nil_eq
 |x::l,k,p,h1,h2=>by
  cases k with
  |nil=>exact absurd p.symm.nil_eq (by simp)
  |cons y k=>
   obtain⟨a1,a2⟩:=Uu.mp h1;obtain⟨b1,b2⟩:=Uu.mp h2;have e:x=y:=by
    have m1:x∈y::k:=p.mem_iff.mp (by simp)
    have m2:y∈x::l:=p.mem_iff.mpr (by simp)
    rcases Qb.mp m1 with z|z
    ·exact z
    ·rcases Qb.mp m2 with w|w
     ·exact w.symm
     ·have:=a1 y w;have:=b1 x z;omega
   subst e;rw[My (p.cons_inv) a2 b2]
def Mz(X:Cx):List V->Hp->VK->Prop:=fun xs H Q=>∃p ns,xs=[.ref p]/\qK X.K H p (ns.map V.int)/\ns.length<64/\∀l,H l=none->Q (.ref l) (upd H l (.lst ((Af ns).map V.int)))
theorem NA:∀{us:List Value}{ns:List Int},IntsAre us ns->D2 (ns.map V.int) us
 |_,_,.nil=>.nil
 |_,_,.cons n t r=>.cons ⟨t,rfl⟩ (NA r)
theorem ZC:M0 X (.builtin "sorted") (Mz X):=by
 intro pins s σ H xs us Q I r h;obtain⟨p,ns,rfl,hq,h64,q⟩:=h;obtain⟨u,rfl,rx⟩:=X9 r;cases rx;obtain⟨vs,rv,pl,hz⟩:=I.list hq;have hi:IntsAre vs ns:=Ew rv;have hlen:vs.length=ns.length:=hi.length;refine sorted_ints pl.isList hi (by omega) fun out ns' a1 a2 a3=>?_
 obtain⟨e,he⟩:=sortedAll_at s.heap vs out;have es:ns'=Af ns:=My (a2.trans (Hl ns).symm) a3 (Mw ns);subst es;have hl2:((Af ns).map V.int).length≤sizeLine:=by
  rw[Qk,(Hl ns).length_eq];exact Jj (Bf (by omega))
 exact⟨.ref (s.heap.objs.size+1),_,I.laid (t':=s.toks) (a:=s.heap.objs.size+1) (o:=.lst ((Af ns).map V.int)) (fun _ _ q=>sortedAll_old q) (Nat.le_succ _) ⟨hl2,out.toList,e,NA a1,by simpa using he⟩,rfl,q _ (I.hok.fresh (Nat.le_succ _))⟩
def NB(X:Cx):List V->Hp->VK->Prop:=fun xs H Q=>Mz X xs H Q\/ ∃p G ys ds es,xs=[.ref p]/\Le G H/\qK X.K G p ys/\C3 X.K G ys ds/\Hf ds=some es/\∀l zs,H l=none->C3 X.K G zs es->Q (.ref l) (upd H l (.lst zs))
theorem Hm:M0 X (.builtin "sorted") (NB X):=M0.or ZC YK
def Hn:List D->Option (List D)
 |[.lst ds]=>match i9 ds with
  |some ns=>if ns.length<64 then some ((Af ns).map .int)else none
  |none=>Hf ds
 |_=>none
theorem ZD:Cd X B (NB X) Hn:=by
 intro G σ env H xs ds c Q rl r e k;unfold Hn at e;split at e
 ·rename_i ds
  obtain⟨x,rfl,q⟩:=T6 r;simp only[c4]at q;obtain⟨a,ys,rfl,h1,h2⟩:=q;split at e
  ·rename_i ns en
   split at e
   ·rename_i h64
    cases e;have hx:=BC h2 en;subst hx;exact .inl ⟨a,ns,rfl,rl.sub.sqL h1,h64,fun l hl=>k l _ G H (.refl rl) hl (FW _)⟩
   ·cases e
  ·exact .inr ⟨a,G,ys,ds,c,rfl,rl.sub,h1,h2,e,fun l zs hl rz=>k l zs G H (.refl rl) hl rz⟩
 ·cases e
section
variable{pos:Pos}{b c:Expr}{mb mc:Mo D}
theorem Dv{t:Value}{U:String}{b c:Bool}(h1:PySem.W.kitOne K t (.type T)=some b)(h2:PySem.W.kitOne K t (.type U)=some c):PySem.W.kitAny K t [.type T,.type U]=some (b||c):=by
 unfold PySem.W.kitAny;rw[h1];cases b with
 |true=>rfl
 |false=>
  dsimp only;unfold PySem.W.kitAny;rw[h2];cases c<;>rfl
theorem ZE{tp:Addr}{U:String}{x:V}{u:Value}(I:Inv X pins σ H s)(l:Le G H)(rx:E2 x u)(rp:c4 X.K G x d)
  (ht:IsTup s.heap tp [Value.type T,.type U].toArray)(kt:L7 X.K T)(ku:L7 X.K U)(h:∀tk,Q (.bool (T0 (uK d) T||T0 (uK d) U)) {s with toks:=tk}):wpAny (model X.prog X.w) A (call (.builtin "isinstance") [u,.ref tp]) Q E s:=by
 obtain⟨⟨oc,od,odt,os⟩,t1,t2,n,t3⟩:=ht;dsimp only at t2 t3;subst t2 t3;have e:(∀o,d≠.obj o)->_:=fun hd=>Dv (HY kt d hd) (HY ku d hd)
 cases d with
 |non=>simp only[c4]at rp;subst rp;cases (show u=Value.none from rx);exact Yx PySem.W.kitx_none I.kIn True.intro t1 (e nofun) (fun z=>nomatch z) h
 |bl b=>simp only[c4]at rp;subst rp;cases (show u=Value.bool b from rx);exact Yx PySem.W.kitx_bool I.kIn True.intro t1 (e nofun) (fun z=>nomatch z) h
 |int i=>simp only[c4]at rp;subst rp;obtain⟨t,q⟩:=(show∃t,u=Value.int i t from rx);cases q;exact Yx PySem.W.kitx_int I.kIn True.intro t1 (e nofun) (fun z=>nomatch z) h
 |str z=>simp only[c4]at rp;obtain⟨rp,_⟩:=rp;subst rp;obtain⟨t,q⟩:=(show∃t,u=Value.str z t from rx);cases q;exact Yx PySem.W.kitx_str I.kIn True.intro t1 (e nofun) (fun z=>nomatch z) h
 |tup ds=>
  simp only[c4]at rp;obtain⟨a,xs,rfl,q,_⟩:=rp;cases rx;obtain⟨its,_,⟨o,h1,h2,_⟩,_⟩:=I.tuple (l.sqT q);exact Yx Xw I.kIn ⟨o,h1,h2⟩ t1 (e nofun) (fun z=>nomatch z) h
 |lst ds=>
  simp only[c4]at rp;obtain⟨a,xs,rfl,q,_⟩:=rp;cases rx;obtain⟨its,_,⟨o,n,h1,h2,_⟩,_⟩:=I.list (l.sqL q);exact Yx Vb I.kIn ⟨o,h1,h2⟩ t1 (e nofun) (fun z=>nomatch z) h
 |emp=>
  simp only[c4]at rp;obtain⟨a,kvs,rfl,q⟩:=rp;cases rx;obtain⟨_,_,vs,_,dd⟩:=(show K1 X.prog X.w H s.heap a (.dK _)from I.hok a _ (l _ _ q))
  obtain⟨o,h1,h2⟩:∃o,s.heap.get? a=some o/\o.cls=.type "dict":=by
   obtain⟨o,es,ep,g1,g2,_⟩:=dd;exact⟨o,g1,g2.1⟩
  exact Yx Yo I.kIn ⟨o,h1,h2⟩ t1 (e nofun) (fun z=>nomatch z) h
 |dct ks vs=>
  simp only[c4]at rp;obtain⟨a,kvs,rfl,q,_⟩:=rp;cases rx;obtain⟨_,_,_,_,o,_,_,h1,h2,_⟩:=(show K1 X.prog X.w H s.heap a (.dT _ _)from I.hok a _ (l _ _ q))
  exact Yx Yo I.kIn ⟨o,h1,h2.1⟩ t1 (e nofun) (fun z=>nomatch z) h
 |obj o=>
  have h0:∀{T:String},L7 X.K T->T0 "object" T=false:=fun{T} kt=>by
   unfold L7 at kt;simp only[Qb,Qo,Yb]at kt
   rcases kt with rfl|rfl|rfl|rfl|rfl<;>rfl
  have hf:∀{T:String},L7 X.K T->PySem.W.kitOne X.K (.type "function") (.type T)=some false:=fun{T} kt=>by
   unfold L7 at kt;simp only[Qb,Qo,Yb]at kt
   rcases kt with rfl|rfl|rfl|rfl|rfl<;>rfl
  have h':∀tk,Q (.bool false) {s with toks:=tk}:=fun tk=>by have:=h tk;rwa [show T0 (uK (.obj o)) T=false from h0 kt,show T0 (uK (.obj o)) U=false from h0 ku]at this
  simp only[c4]at rp;cases o with
  |exc n=>
   obtain⟨a,C,HP,rfl,_,h3,h4,h5⟩:=rp;cases rx;exact Yx h4 I.kIn (I.hok a _ (l _ _ h3)).1 t1 (Dv (h5 T kt) (h5 U ku)) (fun z=>nomatch z) h'
  |fn n=>
   obtain⟨f,rfl,_,h4⟩:=rp;cases rx;exact Yx h4 I.kIn True.intro t1 (Dv (hf kt) (hf ku)) (fun z=>nomatch z) h'
  |dk kvs=>
   obtain⟨a,rfl,q⟩:=rp;cases rx;obtain⟨_,_,vs,_,dd⟩:=(show K1 X.prog X.w H s.heap a (.dK _)from I.hok a _ (l _ _ q))
   obtain⟨o,h1,h2⟩:∃o,s.heap.get? a=some o/\o.cls=.type "dict":=by
    obtain⟨o,es,ep,g1,g2,_⟩:=dd;exact⟨o,g1,g2.1⟩
   have hd:∀{T:String},L7 X.K T->PySem.W.kitOne X.K (.type "dict") (.type T)=some false:=fun{T} kt=>by
    unfold L7 at kt;simp only[Qb,Qo,Yb]at kt
    rcases kt with rfl|rfl|rfl|rfl|rfl<;>rfl
   exact Yx Yo I.kIn ⟨o,h1,h2⟩ t1 (Dv (hd kt) (hd ku)) (fun z=>nomatch z) h'
  |dt kvs=>
   obtain⟨a,ps,rfl,q,_⟩:=rp;cases rx;obtain⟨_,_,vs,_,dd⟩:=(show K1 X.prog X.w H s.heap a (.dK _)from I.hok a _ (l _ _ q))
   obtain⟨o,h1,h2⟩:∃o,s.heap.get? a=some o/\o.cls=.type "dict":=by
    obtain⟨o,es,ep,g1,g2,_⟩:=dd;exact⟨o,g1,g2.1⟩
   have hd:∀{T:String},L7 X.K T->PySem.W.kitOne X.K (.type "dict") (.type T)=some false:=fun{T} kt=>by
    unfold L7 at kt;simp only[Qb,Qo,Yb]at kt
    rcases kt with rfl|rfl|rfl|rfl|rfl<;>rfl
   exact Yx Yo I.kIn ⟨o,h1,h2⟩ t1 (Dv (hd kt) (hd ku)) (fun z=>nomatch z) h'
def NC(T U:String)(m:Mo D):Mo D:=fun env=>(m env).map fun p=>(.bl (T0 (uK p.1) T||T0 (uK p.1) U),p.2)
theorem ND{U:String}{y z:Str}{p3 p4:Pos}{x1:Nat}(kt:L7 X.K T)(ku:L7 X.K U)(ha:ED X B a ma)(hg:Gl X "isinstance")(hm:X.mg "isinstance"=none)(hgT:Gl X y)(hmT:X.mg y=none)(hvT:bootBuiltins y=some (.type T))(hgU:Gl X z)(hmU:X.mg z=none)(hvU:bootBuiltins z=some (.type U))
  (hnT:y≠"__name__":=by decide)(hdT:(y==("__debug__":Str))=false:=by decide)(hnU:z≠"__name__":=by decide)(hdU:(z==("__debug__":Str))=false:=by decide)
  (he:starEach [a,.Tuple [.Name y p2,.Name z p3] x1 p4] X.env=[(false,eval a X.env),(false,eval (.Tuple [.Name y p2,.Name z p3] x1 p4) X.env)]:=by rfl):ED X B (.Call (.Name "isinstance" p) [a,.Tuple [.Name y p2,.Name z p3] x1 p4] [] pos) (NC T U ma):=by
 have hT:PE X (.Name y p2) (tC (.ty T)):=Ep hgT hmT hvT rfl hnT hdT
 have hU:PE X (.Name z p3) (tC (.ty U)):=Ep hgU hmU hvU rfl hnU hdU
 have htup:PE X (.Tuple [.Name y p2,.Name z p3] x1 p4) (Lg (Gv (tC (.ty T)) (Gv (tC (.ty U)) Gu))):=Lh (R0 hT (R0 hU AA))
 have hc:M0 X (.builtin "isinstance") (fun xs H Q=>∃x q G d,xs=[x,.ref q]/\H q=some (.tup [.ty T,.ty U])/\Le G H/\c4 X.K G x d/\Q (.bl (T0 (uK d) T||T0 (uK d) U)) H):=by
  intro pins s σ H xs us Q I r h;obtain⟨x,q,G,d,rfl,hq,l,rp,qq⟩:=h;obtain⟨u,w',rfl,r1,r2⟩:=As r;cases r2;obtain⟨_,its,v,ht⟩:=(show K1 X.prog X.w H s.heap q (.tup [.ty T,.ty U])from I.hok q _ hq)
  obtain⟨v1,v2,rfl,e1,e2⟩:=As v;cases e1;cases e2;exact ZE I l r1 rp ht.tup kt ku fun tk=>⟨.bl _,H,I.tok _,rfl,qq⟩
 refine c8 (CZ (pos:=pos) (p:=p) hc hg hm (by rfl') (R0 ha (R0 htup AA) he) (he:=he)) ?_
 rintro σ H Q ⟨G,env,d,env',rl,e,k⟩;obtain⟨⟨d1,a8⟩,e1,e2⟩:=F4 e;cases e2;refine .bind rl e1 fun v G1 H1 ev r=>⟨(by decide:2≤sizeLine),fun q hq=>?_⟩
 have al:=ev.rel.allocM (o:=.tup [.ty T,.ty U]) hq
 exact⟨v,q,G1,d1,rfl,G7,al.rel.sub,r,k _ G1 _ (ev.trans al) (by simp only[c4])⟩
end
def NF:List D->Option Bool
 |[]=>some false
 |.bl b::r=>(NF r).map fun k=>b||k
 |_::_=>none
def a1O:List D->Option D
 |[.lst ds]=>(NF ds).map fun k=>.bl k
 |_=>none
def Co:List D->Option D
 |[.lst ds]=>(i9 ds).map fun ns=>.int ns.sum
 |[.tup ds]=>(i9 ds).map fun ns=>.int ns.sum
 |_=>none
theorem Ho:∀{us:List Value}{ns:List Int},IntsAre us ns->∀(i:Nat) (v:Value),us[i]? =some v->∃t,v=.int (ns.getD i 0) t
 |_,_,.nil,i,v,h=>by simp at h
 |_,_,.cons n t r,i,v,h=>by
  cases i with
  |zero=>simp at h;exact⟨t,by simp[←h]⟩
  |succ i=>exact Ho r i v (by simpa using h)
def NG(X:Cx):List V->Hp->VK->Prop:=fun xs H Q=>∃(p:Addr) (ns:List Int),xs=[.ref p]/\(qK X.K H p (ns.map V.int)\/qW X.K H p (ns.map V.int))/\Q (.int ns.sum) H
theorem Dw(hc:X.calm=true):M0 X (.builtin "sum") (NG X):=by
 intro pins s σ H xs us Q I r h;obtain⟨p,ns,rfl,hq,q⟩:=h;obtain⟨u,rfl,rx⟩:=X9 r;cases rx;have hh:X.A.handled=none:=I.ok.hd hc
 rcases hq with hq|hq
 ·obtain⟨its,r',pl,hz⟩:=I.list hq
  have hi:IntsAre its ns:=Ew r'
  have hl:=pl.isList
  have hlt:p<s.heap.objs.size:=by obtain⟨_,e,_⟩:=hl;exact Qu e
  refine call_sum_walkG (Ul hl ?_);refine⟨s.heap.objs.size,[s.heap.objs.size,p],[s.heap.objs.size],its.toArray.size,_,_,fun i=>ns.getD i 0,rfl,Walks.list (A:=X.A.in1) hh _ p (Qs hlt) its.toArray,
   ⟨⟨_,Qd _ rfl,rfl,rfl⟩,hl.push _⟩,fun b hb=>?_,fun i v hP=>Ho hi i v (by simpa using hP),fun h' tk t' hk'=>?_⟩
  ·have hs:=Qu (Qd s.heap (o:={cls:=.type "list_iterator",data:=.fields #[.ref p,.int 0 0]}) rfl)
   rcases Qb.mp hb with rfl|hb
   ·exact hs
   ·rcases Qb.mp hb with rfl|hb
    ·exact Us hlt hs
    ·cases hb
  ·rw[Qm,hi.length,PyProof.Rows.preSum_getD,List.take_of_length_le (Qp _)]
   exact⟨.int ns.sum,H,I.kept (t':=tk) (LSm.kept_iter hk'),⟨t',rfl⟩,q⟩
 ·obtain⟨its,r',pl,hz⟩:=I.tuple hq
  have hi:IntsAre its ns:=Ew r'
  have hl:s.heap.IsTuple p its.toArray:=pl
  have hlt:p<s.heap.objs.size:=by obtain⟨_,e,_⟩:=hl;exact Qu e
  refine call_sum_walkG (Xp hl ?_);refine⟨s.heap.objs.size,[s.heap.objs.size,p],[s.heap.objs.size],its.toArray.size,_,_,fun i=>ns.getD i 0,rfl,Walks.tuple (A:=X.A.in1) hh _ p (Qs hlt) its.toArray,
   ⟨⟨_,Qd _ rfl,rfl,rfl⟩,hl.push _⟩,fun b hb=>?_,fun i v hP=>Ho hi i v (by simpa using hP),fun h' tk t' hk'=>?_⟩
  ·have hs:=Qu (Qd s.heap (o:={cls:=.type "tuple_iterator",data:=.fields #[.ref p,.int 0 0]}) rfl)
   rcases Qb.mp hb with rfl|hb
   ·exact hs
   ·rcases Qb.mp hb with rfl|hb
    ·exact Us hlt hs
    ·cases hb
  ·rw[Qm,hi.length,PyProof.Rows.preSum_getD,List.take_of_length_le (Qp _)]
   exact⟨.int ns.sum,H,I.kept (t':=tk) (LSm.kept_iter hk'),⟨t',rfl⟩,q⟩
theorem ZF:Y1 X B (NG X) Co:=by
 intro G σ env H xs ds c Q rl r e k;unfold Co at e;split at e
 ·rename_i ds
  obtain⟨x,rfl,q⟩:=T6 r;obtain⟨ns,e1,e2⟩:=F4 e;subst e2;simp only[c4]at q;obtain⟨a,ys,rfl,h1,h2⟩:=q;have:=BC h2 e1;subst this;exact⟨a,ns,rfl,.inl (rl.sub.sqL h1),k _ G H (.refl rl) (by simp only[c4])⟩
 ·rename_i ds
  obtain⟨x,rfl,q⟩:=T6 r;obtain⟨ns,e1,e2⟩:=F4 e;subst e2;simp only[c4]at q;obtain⟨a,ys,rfl,h1,h2⟩:=q;have:=BC h2 e1;subst this;exact⟨a,ns,rfl,.inr (rl.sub.sqT h1),k _ G H (.refl rl) (by simp only[c4])⟩
 ·cases e
theorem ZG:bootBuiltins "sum"=some (.builtin "sum"):=by rfl'
theorem NH{f:Addr}:c6 P w K mg base j7 k f fd ps (k9 K n fun _=>none):=
 ⟨fun _ _ _ _ h=>(by obtain⟨_,_,_,_,_,_,_,e,_⟩:=h;cases e),fun _ _ _ _ _ _ _ _ _ _ _ _ _ h=>(by obtain⟨_,_,_,_,_,_,_,e,_⟩:=h;cases e)⟩
section
variable{pos:Pos}{b c:Expr}
end
def yW(t:Mo Bool)(b:Mo Fl):Nat->Mo Fl
 |0,_=>none
 |n+1,env=>(t env).bind fun p=>if p.1=true then(b p.2).bind fun q=>match q.1 with
  |.nx=>yW t b n q.2
  |.ct=>yW t b n q.2
  |.bk=>some (.nx,q.2)
  |f=>some (f,q.2)else some (.nx,p.2)
def Hq(n:Nat)(t:Mo Bool)(b:Mo Fl):Mo Fl:=yW t b n
section
variable{pos:Pos}{c:Expr}{t:Mo Bool}
theorem Hr{body:List Stmt}{mbd:Mo Fl}(hp:PassesOwn (model X.prog X.w) X.A X.env X.xe)(hc:ET X B c t)(hb:vM X B body mbd):ES X B (.While c body [] pos) (Hq n t mbd):=by
 refine m5 (Tt hp hc hb) ?_
 rintro D σ H ⟨G,env,fl,env',rl,e,k⟩;refine⟨fun m σ2 H2=>∃G2 i5,Ev X.K B G σ env H G2 σ2 i5 H2/\yW t mbd m i5=some (fl,env'),⟨n,G,env,.refl rl,e⟩,?_⟩
 rintro m σ2 H2 ⟨G2,i5,f7,e2⟩;cases m with
 |zero=>cases e2
 |succ m=>
  obtain⟨⟨b1,sW⟩,e3,e4⟩:=C6 e2;refine⟨G2,i5,b1,sW,f7.rel,e3,fun G3 H3 qX=>?_⟩
  have uZ:=f7.trans qX
  cases b1 with
  |false=>
   simp only[Zx,Ys]at e4 ⊢;cases e4;exact k σ2 G3 H3 uZ
  |true=>
   simp only[Zn]at e4 ⊢;refine⟨fun σ' H'=>∃G4 tG,Ev X.K B G σ env H G4 σ' tG H'/\yW t mbd m tG=some (fl,env'),fun σ' H' q=>⟨m,Xa m,q⟩,?_⟩
   obtain⟨⟨xQ,sC⟩,e6,e7⟩:=C6 e4;refine⟨G3,sW,xQ,sC,qX.rel,e6,?_⟩;cases xQ with
   |nx=>exact fun σ6 G6 H6 rP=>⟨G6,sC,uZ.trans rP,e7⟩
   |ct=>exact fun σ6 G6 H6 rP=>⟨G6,sC,uZ.trans rP,e7⟩
   |bk=>cases e7;exact fun σ6 G6 H6 rP=>k σ6 G6 H6 (uZ.trans rP)
   |ret d=>cases e7;exact fun v σ6 G6 H6 rP=>k v σ6 G6 H6 (uZ.trans rP)
   |retL d=>cases e7;exact fun a xs σ6 G6 H6 rP=>k a xs σ6 G6 H6 (uZ.trans rP)
end
section
variable{pos:Pos}{ml:Mo (List D)}
end
section
variable{pos:Pos}
end
theorem NI(x:qV P w H h)(k:∀b u o,H b=some u->h.get? b=some o->h'.get? b=some o):qV P w H h':=fun a o e=>
 (x a o e).stay (fun b u hb q=>by
  rcases hb with rfl|hb
  ·exact k _ _ _ e q
  ·exact k _ _ _ hb q) (fun _ q=>q) fun _ _ q=>q
def sE(P:Program)(w:World):wN:=fun outer H s E ev s'=>
 ∃(e t C:Addr) (H':Hp) (Bh:Heap),ev=.ref e/\s'.os=s.os/\AllBare s'.gens/\Heap.FlyingW Bh outer e (.ref C) (.ref t) s'.heap/\
  Un (qA outer) [] H H' s.heap s'.heap/\qV P w H' Bh/\(∀b o,s.heap.get? b=some o->H b=none->b∉qA outer->Bh.get? b=some o)/\
  (∀b o,s.heap.get? b=some o->b∉qA outer->∃o',Bh.get? b=some o')/\E (.ref C) none H'
section
variable{H':Hp}{s':Shared}{E:XK}{e t:Addr}{Bh:Heap}
theorem FY(hst:X.stack=X.env::X.outer)(hfr:X.env.frame=some X.env.locals)(hex:X.ex=[])(I:Inv X pins σ H s)(os:s'.os=s.os)(bare:AllBare s'.gens)(fly:Heap.FlyingW Bh X.outer e (.ref C) (.ref t) s'.heap)
  (kept:∀b o,s.heap.get? b=some o->H b=none->b∉qA X.stack->Bh.get? b=some o)
  (thr:∀b o,s.heap.get? b=some o->b∉qA X.stack->∃o',Bh.get? b=some o')
  (slots:∀b o,s.heap.get? b=some o->H b=none->b∈X.fs->∃sl,s'.heap.get? b=some {o with slots:=sl})
  (free:∀b o,s.heap.get? b=some o->H b=none->H' b=none)(tups:∀b xs,H b=some (.tup xs)->H' b=some (.tup xs))(frzs:∀b o u,H b=some (.frz o u)->H' b=some (.frz o u))
  (tbls:∀b ps,H b=some (.tbl ps)->∃more,H' b=some (.tbl (ps++more)))(hok:qV X.prog X.w H' Bh)(hE:E (.ref C) none H'):
  sE X.prog X.w X.outer X.H₀ X.s₀ E (.ref e) s':=by
 have nb:∀b o,X.s₀.heap.get? b=some o->b∉X.fs->b∉qA X.stack:=fun b o q n z=>by
  rw[hst]at z;unfold qA at z;rw[Jn,hfr]at z
  rcases Qb.mp z with z|z
  ·exact absurd (Qu q) (Nat.not_lt.mpr (by rw[z];exact I.ok.above))
  ·exact n z
 have nx:∀b,b∉X.ex:=fun b z=>by rw[hex]at z;cases z
 refine⟨e,t,C,H',Bh,rfl,os.trans I.os,bare,fly,⟨fun b o q n hb _=>?_,fun b o q n hb _=>?_,fun b o q n _=>?_,fun b o q _=>?_,fun b xs q=>tups b xs (I.base.tups b xs q),fun b o u q=>frzs b o u (I.base.frzs b o u q),fun b ps q=>?_⟩,hok,fun b o q n hb=>?_,fun b o q hb=>?_,hE⟩
 ·exact fly.1 b o (kept b o (I.base.keep b o q n hb (nx b)) (I.base.free b o q n (nx b)) (nb b o q hb))
 ·obtain⟨sl,q1⟩:=I.base.slot b o q n hb (nx b)
  obtain⟨sl',q2⟩:=slots b _ q1 (I.base.free b o q n (nx b)) hb;exact⟨sl',q2⟩
 ·obtain⟨o',q1⟩:=I.base.there b o q (nx b)
  exact free b o' q1 (I.base.free b o q n (nx b))
 ·obtain⟨o',q1⟩:=I.base.there b o q (nx b)
  by_cases hb:b∈X.fs
  ·obtain⟨sl,q2⟩:=slots b _ q1 (I.base.free b o q (I.ok.frf b hb) (nx b)) hb
   exact⟨_,q2⟩
  ·obtain⟨o2,q2⟩:=thr b o' q1 (nb b o q hb)
   exact⟨o2,fly.1 b o2 q2⟩
 ·obtain⟨m1,e1⟩:=I.base.tbls b ps q
  obtain⟨m2,e2⟩:=tbls b _ e1;exact⟨m1++m2,by rw[e2,Array.append_assoc]⟩
 ·exact kept b o (I.base.keep b o q n hb (nx b)) (I.base.free b o q n (nx b)) (nb b o q hb)
 ·obtain⟨o',q1⟩:=I.base.there b o q (nx b)
  exact thr b o' q1 (nb b o q hb)
structure yF(X:Cx)(E:XK):Prop where
 pass:CY (sE X.prog X.w) X E
 made:∀(pins:OX) (σ:St) (H:Hp) (s:Shared) (h':Heap) (e C:Addr) (vs:List Value),Inv X pins σ H s->Heap.MadeExcOf s.heap h' e (.ref C) vs->E (.ref C) none H->X.xe (.ref e) {s with heap:=h'}
end
theorem ZH{f:Addr}{cd:Value}{outer:List Env}{s₀:Shared}{H₀:Hp}{E:XK}:
  yF (O8 (sE P w) P w K mg base N qual scope f cd A outer s₀ H₀ E) E:=by
 refine⟨fun pins σ H s ev s' I h=>?_,fun pins σ H s h' e C vs I hm hE=>?_⟩
 ·obtain⟨e,t,C,H',Bh,rfl,os,bare,fly,un,hok,kept,thr,hE⟩:=h
  refine wpAny_leaves_onW (L:=s₀.heap.objs.size) I.ok.frames rfl fly fun h2 fly2 ups=>?_
  refine FY (X:=O8 (sE P w) P w K mg base N qual scope f cd A outer s₀ H₀ E) rfl rfl rfl I os bare fly2 kept thr (fun b o q n hb=>?_) (fun b o q n=>un.free b o q n (by simp)) un.tups un.frzs un.tbls hok hE
  obtain⟨sl,q1⟩:=un.any q n (by simp)
  obtain⟨_,o1,g1,g2⟩:=I.funs.mem hb;rw[q]at g1;cases g1;obtain⟨sl2,q2⟩:=ups b _ q1 g2;exact⟨sl2,q2⟩
 ·have hst:=I.stack
  have hmem:∀{b:Addr},b∈qA (O8 (sE P w) P w K mg base N qual scope f cd A outer s₀ H₀ E).stack->H b=none:=fun{b} hb=>I.stkFree b hb
  refine wpAny_leaves_madeW (L:=s₀.heap.objs.size) (base:=PySem.W.hideAll s.heap (qA (O8 (sE P w) P w K mg base N qual scope f cd A outer s₀ H₀ E).stack)) (h:=s.heap) I.ok.frames rfl (fun b o q=>PySem.W.of_hideAll _ q)
   (PySem.W.funFrames_hide hst fun env he b hb=>Jl.mpr ⟨env,he,hb⟩) hm fun h2 t fly _ hn ups=>?_
  refine FY (X:=O8 (sE P w) P w K mg base N qual scope f cd A outer s₀ H₀ E) (s:=s) (s':={s with heap:=h2}) rfl rfl rfl I rfl I.bare fly (fun b o q _ hb=>Jc _ q hb) (fun b o q hb=>⟨o,Jc _ q hb⟩) (fun b o q n hb=>?_) (fun b o q n=>n) (fun _ _ q=>q) (fun _ _ _ q=>q) (fun b ps q=>⟨#[],by rw[q];simp⟩) ?_ hE
  ·obtain⟨_,o1,g1,g2⟩:=I.funs.mem hb
   rw[q]at g1;cases g1;obtain⟨sl2,q2⟩:=ups b _ (hm.keeps b o q) g2;exact⟨sl2,q2⟩
  ·exact NI (P:=P) (w:=w) I.hok fun b u o q1 q2=>Jc _ q2 fun z=>by rw[hmem z]at q1;cases q1
theorem PS.nox{t:TS}(h:PS X.nox st t):PS X st t:=fun pins s σ H D I hw=>
 Qi (h pins s σ H D (I.wish _) hw) (fun _ _ q=>q.unwish) fun _ _ z=>False.elim z
theorem PA.nox{t:TA}(h:PA X.nox es t):PA X es t:=fun pos pins s σ H Q I hw=>
 Qi (h pos pins s σ H Q (I.wish _) hw) (fun _ _ ⟨v,H',I',r,q⟩=>⟨v,H',I'.unwish,r,q⟩) fun _ _ z=>False.elim z
def yX:List Value:=[.type "ValueError",.type "Exception",.type "BaseException",.type "object"]
def BI(K:Qz)(n:Str):Bool:=match PySem.W.nsIn K mainGlobals n with
 |some (some (.ref C))=>PySem.W.excIn K C yX "ValueError.__new__"
 |_=>false
theorem NJ{n:Str}(h:BI K n=true):∃C,PySem.W.nsIn K mainGlobals n=some (some (.ref C))/\PySem.W.excIn K C yX "ValueError.__new__"=true:=by
 unfold BI at h;split at h
 ·rename_i C hC;exact⟨C,hC,h⟩
 ·cases h
theorem ZI{h₀:Heap}{bmB:List Value}{newId:String}(X:K.In h₀)(G:h₀.Ns mainGlobals mg)(e:PySem.W.nsIn K mainGlobals x=some (some (.ref C)))(q:PySem.W.excIn K C bmB newId=true):OwnCls x C bmB newId mg h₀:=by
 refine⟨Yz X G e,?_⟩;unfold PySem.W.excIn at q;split at q
 ·rename_i dd cd sl ho
  split at q
  ·rename_i C' bm k0 k1 k2 k3 n k5 hm hs
   simp only[Qy,Za,Xl]at q;obtain⟨⟨⟨⟨⟨rfl,rfl⟩,hdel⟩,ht⟩,hok⟩,hni⟩:=q;obtain⟨nm,bs,mro,ns,qn,hd,sn,sub,ab,col,del⟩:=cd;dsimp only at hm hdel hok hni;subst hm hdel;have sS:sl= #[k0,k1,k2,k3,some (.builtin n),k5]:=by
    obtain⟨l⟩:=sl;simp only at hs;rw[hs]
   subst sS;exact⟨bm,ns,nm,qn,bs,hd,sn,sub,ab,col,dd,k0,k1,k2,k3,k5,_,X _ _ ho,.of_isNs (PySem.W.isNs_of_in X hok),PySem.W.nsMap_none_of_in X hok hni,PySem.W.tail_of_in X ht⟩
  ·cases q
 ·cases q
abbrev Mx:=c5->Option Str
section
variable(K:Qz)(B:OA)(E:XK)
def XW(G:Hp)(σ:St)(env:c5)(H:Hp)(n:Str):Prop:=∃C,PySem.W.nsIn K mainGlobals n=some (some (.ref C))/\∀σ' G' env' H',Ev K B G σ env H G' σ' env' H'->E (.ref C) none H'
def TX(m:Mx)(σ:St)(H:Hp):Prop:=∃G env n,Rel K B G σ env H/\m env=some n/\XW K B E G σ env H n
end
theorem XW.after{E:XK}{G1:Hp}{σ1:St}{a8:c5}{H1:Hp}{n:Str}(w:XW K B E G σ env H n)(ev:Ev K B G σ env H G1 σ1 a8 H1):XW K B E G1 σ1 a8 H1 n:=by
 obtain⟨C,h,k⟩:=w;exact⟨C,h,fun σ' G' env' H' f7=>k σ' G' env' H' (ev.trans f7)⟩
def yG(X:Cx)(B:OA)(E:XK)(e:Expr)(m:Mx):Prop:=PE X e fun σ H _=>TX X.K B E m σ H
def ETx(X:Cx)(B:OA)(E:XK)(e:Expr)(m:Mx):Prop:=PT X e fun σ H _=>TX X.K B E m σ H
def EAx(X:Cx)(B:OA)(E:XK)(es:List Expr)(m:Mx):Prop:=PA X es fun σ H _=>TX X.K B E m σ H
def xV(X:Cx)(B:OA)(E:XK)(st:Stmt)(m:Mx):Prop:=PS X st fun _ σ H=>TX X.K B E m σ H
def BJ(X:Cx)(B:OA)(E:XK)(st:List Stmt)(m:Mx):Prop:=sT X st fun _ σ H=>TX X.K B E m σ H
def v9:Mx:=fun _=>none
def xOr(x y:Mx):Mx:=fun env=>match x env with
 |some n=>some n
 |none=>y env
def X1(x:Mx)(s:Mo Fl)(y:Mx):Mx:=fun env=>match x env with
 |some n=>some n
 |none=>match s env with
  |some (.nx,a8)=>y a8
  |_=>none
def yH(t:Mo Bool)(x y:Mx):Mx:=fun env=>(t env).bind fun p=>if p.1 then x p.2 else y p.2
section
variable{E:XK}{pos:Pos}{rest:List Stmt}{x1 x2:Mx}{s1:Mo Fl}
theorem Cp:xV X B E st v9:=fun _ _ _ _ _ _ ⟨_,_,_,_,e,_⟩=>nomatch e
theorem FZ:BJ X B E [] v9:=fun _ _ _ _ _ _ ⟨_,_,_,_,e,_⟩=>nomatch e
theorem Bv(h1:xV X B E st x1)(n1:ES X B st s1)(h2:BJ X B E rest x2):BJ X B E (st::rest) (X1 x1 s1 x2):=by
 intro pins s σ H D I ⟨G,env,n,rl,e,w⟩;unfold X1 at e;cases q:x1 env with
 |some m=>
  rw[q]at e;cases e;exact CT h1 LW pins s σ H D I ⟨G,env,_,rl,q,w⟩
 |none=>
  rw[q]at e;dsimp only at e;split at e
  ·rename_i a8 q1
   exact CT n1 h2 pins s σ H D I ⟨G,env,.nx,a8,rl,q1,fun σ1 G1 H1 ev=>⟨G1,a8,n,ev.rel,e,w.after ev⟩⟩
  ·cases e
theorem Y8(h1:xV X B E st x1):BJ X B E [st] x1:=by
 intro pins s σ H D I h;exact CT h1 LW pins s σ H D I h
theorem Fa{c:Expr}{s t:List Stmt}{tc:Mo Bool}(hc:ET X B c tc)(h1:BJ X B E s x1)(h2:BJ X B E t x2):xV X B E (.If c s t pos) (yH tc x1 x2):=by
 intro pins sh σ H D I ⟨G,env,n,rl,e,w⟩;obtain⟨⟨b1,a8⟩,e1,e2⟩:=C6 e;dsimp only at e2;refine LU hc h1 h2 pins sh σ H D I ⟨G,env,b1,a8,rl,e1,fun G1 H1 ev=>?_⟩
 cases b1 with
 |true=>simp only[Zn]at e2 ⊢;exact⟨G1,a8,n,ev.rel,e2,w.after ev⟩
 |false=>simp only[Zx,Ys]at e2 ⊢;exact⟨G1,a8,n,ev.rel,e2,w.after ev⟩
theorem Cq(h:yG X B E e x1)(hsw:swapsWith e none pos.line X.env=pure false:=by rfl):xV X B E (.Expr e pos) x1:=fun pins s σ H D I q=>Gj h hsw pins s σ H D I q
def Fb(n:Str)(ms:Mo (List D)):Mx:=fun env=>(ms env).bind fun p=>if p.1.length≤1000 then some n else none
theorem Fc{n:Str}{np cpos:Pos}(hx:yF X E)(hc:X.calm=true)(ho:BI X.K n=true)(hg:Gl X n)(ha:uF X B (e::es) ms)
  (he:starEach (e::es) X.env=(false,eval e X.env)::starEach es X.env:=by rfl)(hpl:(backTo cpos (starEach es X.env)).any (·.1)=false:=by rfl)(hd:(n==("__debug__":Str))=false:=by decide):
  xV X B E (.Raise (some (.Call (.Name n np) (e::es) [] cpos)) none pos) (Fb n ms):=by
 intro pins s σ H D I ⟨G,env,c,rl,em,w⟩;obtain⟨⟨ds,a8⟩,e1,e2⟩:=C6 em;dsimp only at e2;split at e2
 ·rename_i hl
  cases e2;obtain⟨C,hC,hw⟩:=w;obtain⟨C',hC',hex⟩:=NJ ho;rw[hC]at hC';cases hC';have O:=ZI I.mod.kin I.mod.glob hC hex;obtain⟨tl,N,nm,q,bs,hdct,sn,sub,ab,col,dd,k0,k1,k2,k3,k5,mN,hCo,hN,hni,T⟩:=O.obj;refine wpAny_Raise_call_subU (C:=C) (nm:=nm) (q:=q) (N:=N) (bs:=bs) (bm:=tl) (hdct:=hdct) (sn:=sn) (sub:=sub) (ab:=ab) (col:=col) (dd:=dd) (k0:=k0) (k1:=k1) (k2:=k2) (k3:=k3) (k5:=k5)
   PySem.F.excBase_ValueError (by rfl') PySem.F.excBase_ValueError (mN:=mN) (T.hasType PySem.F.excBase_ValueError.hasBase) (I.ok.hd hc) (by rw[he];show(false||(backTo cpos (starEach es X.env)).any (·.1))=false;rw[hpl];rfl) hni (CP I hg O.bound ⟨rfl,?_⟩ hd)
  have h1:=ha cpos pins s σ H (fun vs H1=>vs.length≤sizeLine/\E (.ref C) none H1) I ⟨G,env,ds,a8,rl,e1,fun vs G1 H1 ev r=>⟨by rw[r.length];exact Jj (Bf hl),hw σ G1 a8 H1 ev⟩⟩
  rw[he]at h1 ⊢;refine Calls.evalArgs_plain (Qi h1 (fun us s2 ⟨vs,H2,I2,r2,q1,q2⟩=>⟨rfl,by rw[←r2.length];exact q1,I2.bk _ _ hCo,hN.keeps I2.bk,T.keeps I2.bk,fun h' e hm=>?_⟩) fun _ _ y=>y)
  exact hx.made pins σ H2 s2 h' e C us I2 hm q2
 ·cases e2
def vB(K:Qz)(n:Nat)(g:List W->Option Str):Sp:=fun vs H _ E=>∃G ws c C,ws.length=n/\Dj ws/\Rel K P6 G (vs.map some) ws H/\g ws=some c/\PySem.W.nsIn K mainGlobals c=some (some (.ref C))/\
 ∀G' ws' H',Ev K P6 G (vs.map some) ws H G' (vs.map some) ws' H'->E (.ref C) none H'
structure rE(P:Program)(w:World)(K:Qz)(mg:OU)(base:Heap)(x:Str)(k n:Nat)(g:List W->Option Str):Prop where
 ex:∃(f:Addr) (fd:FuncData) (ps:List Str),c6 P w K mg base (sE P w) k f fd ps (vB K n g)/\ps.length=n/\mg x=some (.ref f)/\PySem.W.keepIn K (.ref f)=true/\Q2 K fd ps []
def S3(n:Nat)(g:List W->Option Str)(as:Mo (List Ar)):Mx:=fun env=>(as env).bind fun p=>if p.1.length=n then(match slots p.1 with
 |[]=>g (p.1.map (P0 (.l [])))
 |_=>none)else none
theorem Ag{g:List W->Option Str}(hx:yF X E)(Df:rE X.prog X.w X.K X.mg X.base x k n g)(hr:g6 k X.A)(hg:Gl X x)(ha:vA X B (e::es) as)(hdb:(x==("__debug__":Str))=false:=by decide)
  (he:starEach (e::es) X.env=(false,eval e X.env)::starEach es X.env:=by rfl)(hpl:(backTo pos (starEach es X.env)).any (·.1)=false:=by rfl):
  yG X B E (.Call (.Name x p) (e::es) [] pos) (S3 n g as):=by
 obtain⟨f,fd,ps,F,rfl,hm,hk,hb⟩:=Df.ex;intro pins s σ H Q I ⟨G,env,c,rl,em,C,hC,w⟩;refine DU F hr hg hm hk hb .nil hx.pass ha hdb he hpl pins s σ H Q I ?_
 obtain⟨⟨av,a8⟩,e1,e2⟩:=C6 em;dsimp only at e2;split at e2
 ·rename_i hn
  split at e2
  ·rename_i hs
   refine⟨G,env,av,a8,rl,e1,fun vs G1 H1 ev ra=>?_⟩
   show vB X.K ps.length g (vs++[]) H1 Q E;rw[Yg];exact⟨G1,av.map (P0 (.l [])),c,C,by rw[Qk];exact hn,FL,FM (i:=0) (w:=.nil) ev.rel ra (fun k j e=>absurd e (AG hs k j)) (fun k k' j j' e=>absurd e (AG hs k j)),e2,hC,
    fun G2 ws' H2 f7=>w σ G2 a8 H2 (ev.trans (FN ev.rel ra hs f7))⟩
  ·cases e2
 ·cases e2
end
def wU(N:Nat)(mx:Mx):List W->Option Str:=fun ws=>mx (ws++List.replicate (N-ws.length) .nil)
theorem Bw{f:Addr}{mx:Mx}(F:k7 K x qual st f fd)(S:a9 N ps (E1 st))
  (hb:∀(cdv:Value) (A:Around) (outer:List Env) (s:Shared) (H:Hp) (E:XK),g6 k (A.deeper (envOfC qual (E1 st) s.heap.objs.size f cdv))->
   BJ (O8 (sE P w) P w K mg base N qual (E1 st) f cdv A outer s H E) (fun b=>H b≠none) E (W3 st) mx):c6 P w K mg base (sE P w) (k+1) f fd ps (vB K ps.length (wU N.length mx)):=by
 have hpl:ps.length≤N.length:=by have:=Yu List.length S.pre;rw[Jx]at this;omega
 obtain⟨oc,od,kV,doc,pm,an,cdv,ct,osl,rfl,lk,hcd⟩:=F.ex;refine Gx lk hcd S (fun vs H Q E h=>?_) fun A outer s H vs Q E hr h=>?_
 ·obtain⟨G,ws,c,C,hl,ok,rl,_⟩:=h
  have:=rl.len;rw[Qk]at this;omega
 ·obtain⟨G,ws,c,C,hl,ok,rl,e,hC,k⟩:=h
  have hv:ws.length=vs.length:=by have:=rl.len;rwa [Qk]at this
  exact⟨_,hb cdv A outer s H E hr,G,_,c,HN (N:=N) rl ok (by omega),e,C,hC,fun σ' G' env' H' ev=>k G' (S8 ws env') H' (Bn rl ok (by omega) ev)⟩
open PySem.W Builtin Builtin.ObjectAttr Builtin.Getset_descriptor PySem.Calls
def T1(e C:Addr)(h:Heap):Prop:=∃o,h.get? e=some o/\o.cls=.ref C
theorem T1.type{e:Addr}(p:T1 e C h):Looks M h (typeOf (.ref e)) (.ref C):=by
 obtain⟨o,h1,h2⟩:=p;exact h2 ▸ (Looks.ld h1).andThen .now
section
variable{K:Frag}{x:Addr}{g:Array GenState}{d:Drawn}{t:Nat}{os:OsState}
theorem ZJ{R:Result->Shared->Prop}{tp:Value}(X:K.In h)(I:T1 x C h)(hm:mroIn K C (.type "object")=some true)
  (hq:R (.ok (.ret (.ref C))) ⟨h,g,d,t,os⟩):codeAny (model prog w) A (.call (.builtin "getset_descriptor.__get__") ⟨[.builtin "object.__class__",.ref x,tp],[]⟩) R ⟨h,g,d,t,os⟩:=by
 have L0:=I.type (M:=model prog w)
 have L1:=looks_mroIn (M:=model prog w) X hm
 refine Ue KF.slot_gs.plain KF.entry_gs (KF.slot_gs.check _ _ _ _ _ _ _ _ KF.type_class (KF.args_gs _ _ _) ?_);unfold Builtin.«getset_descriptor.__get__» descrGet;rw[dga_obj];refine Qq (Qv ?_);unfold descrGetter descrCheckInstance descrNameAndClass isInstance;simp only[KF.owner_class]
 repeat (first|with_reducible refine L0.at ?_|with_reducible refine L1.at ?_|wp_step)
 refine⟨Code.quiet_builtin _ (by rfl'),Vx KF.entry_class ?_⟩
 unfold Builtin.«object.__class__» shownTypeOf
 repeat (first|with_reducible refine L0.at ?_|with_reducible refine L1.at ?_|wp_step)
 exact hq
theorem ZK(X:K.In h)(I:T1 x C h)(ha:findIn K (.ref C) "__class__"=some (some (.builtin "object.__class__")))
  (hn:specialIn K (.builtin "object.__class__") "__get__"=some (some (.builtin "getset_descriptor.__get__")))(htk:takesIn K (.builtin "object.__class__")=some true)(M:Model):
  Looks M h (find (.ref x) (.ref C) "__class__") (.bind (.builtin "getset_descriptor.__get__") (.builtin "object.__class__")):=by
 have L1:=looks_findIn (M:=M) X ha
 have L2:Looks M h (getOf (some (.builtin "object.__class__"))) (some (.builtin "getset_descriptor.__get__")):=looks_specialIn X hn
 have L3:=looks_takesIn (M:=M) X htk
 exact L1.andThen (L2.andThen ((show Looks M h (dataDescriptor? (some (.builtin "object.__class__")) (some (.builtin "getset_descriptor.__get__"))) (some (.builtin "getset_descriptor.__get__",.builtin "object.__class__"))from L3.andThen .now).andThen (Looks.tag .now)))
theorem ZL{Q:Fin->Shared->Prop}(X:K.In h)(I:T1 x C h)(hm:mroIn K C (.type "object")=some true)(ha:findIn K (.ref C) "__class__"=some (some (.builtin "object.__class__")))
  (hn:specialIn K (.builtin "object.__class__") "__get__"=some (some (.builtin "getset_descriptor.__get__")))(htk:takesIn K (.builtin "object.__class__")=some true)(hq:Q (.done (.ret (.ref C))) ⟨h,g,d,t,os⟩):
  wpAny (model prog w) A (Builtin.«object.__getattribute__» ⟨[.ref x,.str "__class__" tk],[]⟩) Q E ⟨h,g,d,t,os⟩:=by
 have L0:=I.type (M:=model prog w)
 have L1:=ZK X I ha hn htk (model prog w)
 unfold Builtin.«object.__getattribute__»
 repeat (any_goals (first|assumption|with_reducible refine L0.at ?_|with_reducible refine L1.at ?_|wp_step))
 refine ZJ X I hm ?_
 repeat (any_goals (first|assumption|wp_step))
theorem ZM{nameV:Value}{Q:Unit->Shared->Prop}(X:K.In h)(I:T1 x C h)(hm:mroIn K C (.type "BaseException")=some true)(hq:Q () ⟨h,g,d,t,os⟩):
  wpAny M A (checkBuiltinCall "BaseException.__getattribute__" ⟨[.ref x,nameV],[]⟩) Q E ⟨h,g,d,t,os⟩:=by
 have hk:builtinKind "BaseException.__getattribute__"=some .slot:=by rfl'
 have hsplit:splitId "BaseException.__getattribute__"=some ("BaseException","__getattribute__"):=by rfl'
 have L0:=I.type (M:=M)
 have L1:=looks_mroIn (M:=M) X hm
 have ha:=F.args_bexc_ga (.ref x) nameV
 simp only[checkBuiltinCall,hk,hsplit];refine Qq ?_
 unfold isInstance
 repeat (first|with_reducible refine L0.at ?_|with_reducible refine L1.at ?_|wp_step)
 exact hq
theorem ZN{fill expr:Bool}(X:K.In h)(I:T1 x C h)(hmB:mroIn K C (.type "BaseException")=some true)(hm:mroIn K C (.type "object")=some true)(ha:findIn K (.ref C) "__class__"=some (some (.builtin "object.__class__")))
  (hn:specialIn K (.builtin "object.__class__") "__get__"=some (some (.builtin "getset_descriptor.__get__")))(htk:takesIn K (.builtin "object.__class__")=some true)
  (hga:findIn K (.ref C) "__getattribute__"=some (some (.builtin "BaseException.__getattribute__")))(hno:findIn K (.ref C) "__getattr__"=some none)(hq:Q (.ref C) ⟨h,g,d,t,os⟩):
  wpAny (model prog w) A (getAttrBy (.ref x) (.str "__class__" tk) fill expr) Q E ⟨h,g,d,t,os⟩:=by
 have L0:=I.type (M:=model prog w)
 have L1:=looks_findIn (M:=model prog w) X hga
 have L2:=looks_findIn (M:=model prog w) X hno
 have f3:=F.attrBase_ValueError.ga.bind (.ref x)
 have hx0:(expr&&onTheHeap (Value.builtin "BaseException.__getattribute__"))=false:=by cases expr<;>rfl
 have hx2:(Value.builtin "BaseException.__getattribute__"==Value.builtin "object.__getattribute__")=false:=by rfl'
 have hx1:(onTheHeap (Value.ref C)&&Value.builtin "BaseException.__getattribute__"==Value.builtin "object.__getattribute__")=false:=by rw[hx2];rfl
 repeat (any_goals (first|assumption|with_reducible refine L0.at ?_|with_reducible refine L1.at ?_|with_reducible refine L2.at ?_|wp_step))
 refine Ue F.attrBase_ValueError.ga.plain F.entry_bexc_ga (ZM X I hmB (ZL X I hm ha hn htk ?_))
 repeat (any_goals (first|assumption|wp_step))
theorem ZO{Q:Option Value->Shared->Prop}(X:K.In h)(I:T1 x C h)(hmB:mroIn K C (.type "BaseException")=some true)(hm:mroIn K C (.type "object")=some true)(ha:findIn K (.ref C) "__class__"=some (some (.builtin "object.__class__")))
  (hn:specialIn K (.builtin "object.__class__") "__get__"=some (some (.builtin "getset_descriptor.__get__")))(htk:takesIn K (.builtin "object.__class__")=some true)
  (hga:findIn K (.ref C) "__getattribute__"=some (some (.builtin "BaseException.__getattribute__")))(hno:findIn K (.ref C) "__getattr__"=some none)(hq:Q (some (.ref C)) ⟨h,g,d,t+1,os⟩):
  wpAny (model prog w) A (getAttr? (.ref x) "__class__") Q E ⟨h,g,d,t,os⟩:=by
 unfold getAttr? getAttrBy?
 repeat (any_goals (first|assumption|with_reducible apply ZN X I hmB hm ha hn htk hga hno|wp_step))
end
def ZP:List String:=["tuple","list","int","bool","str"]
def X2(K:Frag)(C:Addr):Bool:=
 (mroIn K C (.type "BaseException")==some true)&&((mroIn K C (.type "object")==some true)&&((findIn K (.ref C) "__class__"==some (some (.builtin "object.__class__")))&&((specialIn K (.builtin "object.__class__") "__get__"==some (some (.builtin "getset_descriptor.__get__")))&&
 ((takesIn K (.builtin "object.__class__")==some true)&&((findIn K (.ref C) "__getattribute__"==some (some (.builtin "BaseException.__getattribute__")))&&((findIn K (.ref C) "__getattr__"==some none)&&((clsIn K C).isSome&&((kitOne K (.ref C) (.type "ValueError")==some true)&&ZP.all fun T=>kitOne K (.ref C) (.type T)==some false))))))))
theorem ZQ{K:Frag}{e:Addr}(h:X2 K C=true):KitX K (.ref e) (.ref C) (T1 e C):=by
 unfold X2 at h;simp only[Qy,Za]at h;obtain⟨h1,h2,h3,h4,h5,h6,h7,h8,_,_⟩:=h;obtain⟨cdD,hcD⟩:=Yp.mp h8;refine⟨fun _ _ _ p=>p.type,fun _ _ X _=>?_,fun h tp dd its n sl X htp=>?_,fun{prog w A E Q s} X I k=>?_⟩
 ·unfold clsIn at hcD
  split at hcD
  ·rename_i c' d' cd' sl' ho
   intro A' Q' E' s' k q;unfold isType loadHead;exact Qq (wpAny_loadPart (k _ _ (X _ _ ho)) (Qv q))
  ·cases hcD
 ·refine Bool.eq_false_iff.mpr fun q=>?_
  have e:C=tp:=Value.ref.inj (Za.mp q)
  subst e;unfold clsIn at hcD;split at hcD
  ·rename_i c' d' cd' sl' ho
   have z:=(X _ _ ho).symm.trans htp
   cases z
  ·cases hcD
 ·obtain⟨hh,g,d,t,os⟩:=s
  exact ZO X I h1 h2 h3 h4 h5 h6 h7 k
theorem ZR{K:Frag}(h:X2 K C=true):ME K (.ref C):=by
 unfold X2 at h;simp only[Qy]at h;obtain⟨_,_,_,_,_,_,_,_,_,h9⟩:=h;intro T hT;have:=Qw.mp h9 T hT
 simpa using this
theorem ZS{K:Frag}(h:X2 K C=true):kitOne K (.ref C) (.type "ValueError")=some true:=by
 unfold X2 at h;simp only[Qy]at h;obtain⟨_,_,_,_,_,_,_,_,h9,_⟩:=h
 simpa using h9
def AI(K:Frag)(S:Str)(names:List Str):Bool:=names.all fun n=>BI K n&&match nsIn K mainGlobals n with
 |some (some (.ref C))=>X2 K C&&((match nsIn K mainGlobals S with
   |some (some (.ref D))=>mroIn K C (.ref D)==some true&&(BI K S&&X2 K D)
   |_=>false)&&names.all fun m=>match nsIn K mainGlobals m with
   |some (some (.ref D))=>kitOne K (.ref C) (.ref D)==some (n==m)
   |_=>false)
 |_=>false
structure a0N(K:Frag)(S:Str)(names:List Str)(n:Str)(C:Addr):Prop where
 nm:nsIn K mainGlobals n=some (some (.ref C))
 one:BI K n=true
 kit:X2 K C=true
 sub:∃D,nsIn K mainGlobals S=some (some (.ref D))/\mroIn K C (.ref D)=some true/\BI K S=true/\X2 K D=true
 pair:∀m∈names,∃D,nsIn K mainGlobals m=some (some (.ref D))/\kitOne K (.ref C) (.ref D)=some (n==m)
theorem Cr{K:Frag}{S:Str}{names:List Str}(h:AI K S names=true){n:Str}(hn:n∈names):∃C,a0N K S names n C:=by
 have q:=Qw.mp h n hn
 simp only[Qy]at q;obtain⟨h1,h2⟩:=q;split at h2
 ·rename_i C hC
  simp only[Qy]at h2;obtain⟨h3,h4,h5⟩:=h2;split at h4
  ·rename_i D hD
   simp only[Qy,Za]at h4;refine⟨C,hC,h1,h3,⟨D,hD,h4.1,h4.2.1,h4.2.2⟩,fun m hm=>?_⟩
   have:=Qw.mp h5 m hm;split at this
   ·rename_i D' hD'
    exact⟨D',hD',by simpa using this⟩
   ·cases this
  ·cases h4
 ·cases h2
def U4(names:List Str)(m:Str)(ma:Mo D):Mo D:=fun env=>(ma env).bind fun p=>match p.1 with
 |.obj (.exc n)=>if names.contains n then some (.bl (n==m),p.2)else none
 |_=>none
def NK(names:List Str)(ma:Mo D):Mo D:=fun env=>(ma env).bind fun p=>match p.1 with
 |.obj (.exc n)=>if names.contains n then some (.bl true,p.2)else none
 |_=>none
section
variable{pos:Pos}{S m:Str}{names:List Str}
theorem U5(hx:AI X.K S names=true)(hm:m∈names)(ha:ED X B a ma)(hg:Gl X "isinstance")(hi:X.mg "isinstance"=none)(hgm:Gl X m)(hdm:(m==("__debug__":Str))=false:=by decide)
  (he:starEach [a,.Name m p2] X.env=[(false,eval a X.env),(false,eval (.Name m p2) X.env)]:=by rfl):ED X B (.Call (.Name "isinstance" p) [a,.Name m p2] [] pos) (U4 names m ma):=by
 obtain⟨C0,F0⟩:=Cr hx hm;intro pins0 s0 σ0 H0 Q0 I0;have hT:PE X (.Name m p2) (tC (.ref C0)):=CS hgm (Yz I0.mod.kin I0.mod.glob F0.nm) rfl hdm;have hc:M0 X (.builtin "isinstance") (fun xs H Q=>∃x G n,xs=[x,.ref C0]/\Le G H/\c4 X.K G x (.obj (.exc n))/\n∈names/\Q (.bl (n==m)) H):=by
  intro pins s σ H xs us Q I r h;obtain⟨x,G,n,rfl,l,rp,hn,q⟩:=h;obtain⟨u,w',rfl,r1,r2⟩:=As r;cases r2;simp only[c4]at rp;obtain⟨e,C,HP,rfl,h2,h3,h4,h5⟩:=rp;cases r1;obtain⟨C',F⟩:=Cr hx hn;have:=F.nm;rw[h2]at this;cases this;obtain⟨D,hD,hk⟩:=F.pair m hm;have:=F0.nm;rw[hD]at this;cases this;exact Zu h4 I.kIn (I.hok e _ (l _ _ h3)).1 hk (fun z=>nomatch z) fun tk=>⟨.bl _,H,I.tok _,rfl,q⟩
 refine c8 (CZ (pos:=pos) (p:=p) hc hg hi (by rfl') (R0 ha (R0 hT AA) he) (he:=he)) ?_ pins0 s0 σ0 H0 Q0 I0
 rintro σ H Q ⟨G,env,d,env',rl,e,k⟩;obtain⟨⟨d1,a8⟩,e1,e2⟩:=C6 e;dsimp only at e2;split at e2
 ·rename_i n
  split at e2
  ·rename_i hn
   cases e2;exact .bind rl e1 fun v G1 H1 ev r=>⟨v,G1,n,rfl,ev.rel.sub,r,by simpa using hn,k _ G1 H1 ev (by simp only[c4])⟩
  ·cases e2
 ·cases e2
theorem NL(hx:AI X.K S names=true)(ha:ED X B a ma)(hg:Gl X "isinstance")(hi:X.mg "isinstance"=none)(hgm:Gl X "ValueError")(hmv:X.mg "ValueError"=none)
  (he:starEach [a,.Name "ValueError" p2] X.env=[(false,eval a X.env),(false,eval (.Name "ValueError" p2) X.env)]:=by rfl):ED X B (.Call (.Name "isinstance" p) [a,.Name "ValueError" p2] [] pos) (NK names ma):=by
 have hT:PE X (.Name "ValueError" p2) (tC (.ty "ValueError")):=Ep hgm hmv PyProof.Rows.Boot.«ValueError» rfl
 have hc:M0 X (.builtin "isinstance") (fun xs H Q=>∃x G n,xs=[x,.ty "ValueError"]/\Le G H/\c4 X.K G x (.obj (.exc n))/\n∈names/\Q (.bl true) H):=by
  intro pins s σ H xs us Q I r h;obtain⟨x,G,n,rfl,l,rp,hn,q⟩:=h;obtain⟨u,w',rfl,r1,r2⟩:=As r;cases r2;simp only[c4]at rp;obtain⟨e,C,HP,rfl,h2,h3,h4,h5⟩:=rp;cases r1;obtain⟨C',F⟩:=Cr hx hn;have:=F.nm;rw[h2]at this;cases this;exact Zu h4 I.kIn (I.hok e _ (l _ _ h3)).1 (ZS F.kit) (fun z=>nomatch z) fun tk=>⟨.bl _,H,I.tok _,rfl,q⟩
 refine c8 (CZ (pos:=pos) (p:=p) hc hg hi (by rfl') (R0 ha (R0 hT AA) he) (he:=he)) ?_
 rintro σ H Q ⟨G,env,d,env',rl,e,k⟩;obtain⟨⟨d1,a8⟩,e1,e2⟩:=C6 e;dsimp only at e2;split at e2
 ·rename_i n
  split at e2
  ·rename_i hn
   cases e2;exact .bind rl e1 fun v G1 H1 ev r=>⟨v,G1,n,rfl,ev.rel.sub,r,by simpa using hn,k _ G1 H1 ev (by simp only[c4])⟩
  ·cases e2
 ·cases e2
def NM:D->Bool
 |.non=>true
 |_=>false
def Hs:D->D->Option D
 |a,.non=>some (.bl (NM a))
 |_,_=>none
theorem ZT{K:Frag}{x:V}{a:D}(r:c4 K G x a):decide (x=.non)=NM a:=by
 cases a with
 |non=>simp only[c4]at r;subst r;rfl
 |bl _=>simp only[c4]at r;subst r;rfl
 |int _=>simp only[c4]at r;subst r;rfl
 |str _=>simp only[c4]at r;obtain⟨r,_⟩:=r;subst r;rfl
 |tup _=>simp only[c4]at r;obtain⟨_,_,r,_⟩:=r;subst r;rfl
 |lst _=>simp only[c4]at r;obtain⟨_,_,r,_⟩:=r;subst r;rfl
 |emp=>simp only[c4]at r;obtain⟨_,_,r,_⟩:=r;subst r;rfl
 |dct _ _=>simp only[c4]at r;obtain⟨_,_,r,_⟩:=r;subst r;rfl
 |obj o=>
  simp only[c4]at r;cases o with
  |exc n=>obtain⟨_,_,_,r,_⟩:=r;subst r;rfl
  |fn n=>obtain⟨_,r,_⟩:=r;subst r;rfl
  |dk n=>obtain⟨_,r,_⟩:=r;subst r;rfl
  |dt n=>obtain⟨_,_,r,_⟩:=r;subst r;rfl
theorem ZU:qB X B (fun x y H Q=>y=.non/\Q (.bl (decide (x=.non))) H) Hs:=by
 intro G σ env H x y a b d Q rl ra rb e k;unfold Hs at e;split at e
 ·cases e
  simp only[c4]at rb;subst rb;rw[ZT ra];exact⟨rfl,k _ G H (.refl rl) (by simp only[c4])⟩
 ·cases e
end
end L2.Mir
namespace L2.Mir
open PySem PySem.Spec PyProof.Rows PySem.W
variable{A:Around}{B:OA}{C a:Addr}{E:OE}{G H H':Hp}{K:Frag}{M:Model}{N N' names ps:List Str}{P:Program}{X:Cx}{base:Heap}{body:Expr}{c cd:Value}{cl:List (Str×Addr)}{env a8:c5}{fd:FuncData}{i k kc tk:Nat}{mg:OU}{n qual x:Str}{o:Option Str}{od:Option Addr}{params:Arguments}{pins:OX}{s s₁:Shared}{scope:Scope}{st:Stmt}{ts:List Addr}{w:World}{σ σ1:St}
section
variable{σ':St}{e:Addr}{φ:Heap->Prop}
theorem ZV(I:Inv X pins σ H s)(hn:H e=none)(h0:X.s₀.heap.get? e=none)(hL:e≠X.env.locals)(hc:∀x c,X.env.cells.lookup x=some c->c≠e)(hp:∀p∈X.pn++pins,p.1≠e)
  (ph:φ s.heap)(po:∃o,s.heap.get? e=some o)(ps:∀h1 h2:Heap,φ h1->(∀o,h1.get? e=some o->h2.get? e=some o)->φ h2):Inv X pins σ (upd H e (.ext φ)) s:=by
 have ne:∀{b u},H b=some u->b≠e:=fun q z=>by rw[z,hn]at q;cases q
 refine⟨I.ok,I.os,I.bare,⟨I.base.keep,I.base.slot,fun b o q n hx=>?_,I.base.there,fun b xs q=>?_,fun b o u q=>?_,fun b ps q=>?_⟩,I.loc,I.cell,?_,fun x c q=>?_,fun p q=>?_,fun b u q=>?_,I.len⟩
 ·have hb:b≠e:=fun z=>by rw[z,h0]at q;cases q
  rw[D3 hb];exact I.base.free b o q n hx
 ·have:=I.base.tups b xs q;rw[D3 (ne this)];exact this
 ·have:=I.base.frzs b o u q;rw[D3 (ne this)];exact this
 ·obtain⟨m,q'⟩:=I.base.tbls b ps q;exact⟨m,by rw[D3 (ne q')];exact q'⟩
 ·rw[D3 (Zg hL)];exact I.free
 ·rw[D3 (hc x c q)];exact I.freeC x c q
 ·obtain⟨h1,h2,h3,h4,h5⟩:=I.pin p q
  exact⟨h1,by rw[D3 (hp p q)];exact h2,h3,h4,h5⟩
 ·by_cases hb:b=e
  ·subst hb;rw[G7]at q;cases q;exact⟨ph,po,ps⟩
  ·rw[D3 hb]at q
   exact(I.hok b u q).stay (fun _ _ _ z=>z) (fun c z=>by rw[D3 (ne z)];exact z) fun c xs z=>by rw[D3 (ne z)];exact z
theorem ZW{h':Heap}{m':OU}(I:Inv X pins σ H s)(hn':h'.Ns X.env.locals m')(hs:Heap.SameBut X.env.locals s.heap h')(hl:σ'.length=σ.length)
  (hσ:∀(i:Nat) (x:Str) (v:V),X.N[i]? =some x->σ'[i]? =some (some v)->wD X.env.scope x->∃u,E2 v u/\LM X.env h' m' x u):Inv X pins σ' H {s with heap:=h',toks:=tk}:=by
 have cne:=I.cne
 refine⟨I.ok,I.os,I.bare,⟨fun b o e n hb hx=>?_,fun b o e n hb hx=>?_,I.base.free,fun b o e hx=>?_,I.base.tups,I.base.frzs,I.base.tbls⟩,⟨_,hn',hσ⟩,fun y c e=>?_,I.free,I.freeC,fun p hp=>?_,fun b ob e=>?_,hl.trans I.len⟩
 ·exact(hs.2 b (Qs (Qr (Qu e) I.ok.above))).trans (I.base.keep b o e n hb hx)
 ·obtain⟨sl,e1⟩:=I.base.slot b o e n hb hx
  exact⟨sl,(hs.2 b (Qs (Qr (Qu e) I.ok.above))).trans e1⟩
 ·obtain⟨o',e1⟩:=I.base.there b o e hx
  exact⟨o',(hs.2 b (Qs (Qr (Qu e) I.ok.above))).trans e1⟩
 ·obtain⟨w',z⟩:=I.cell y c e
  exact⟨w',z.sameBut hs (cne y c e)⟩
 ·obtain⟨e,n,ne,nf,d⟩:=I.pin p hp
  exact⟨(hs.2 p.1 ne).trans e,n,ne,nf,d⟩
 ·refine(I.hok b ob e).stay (fun c w' hc q=>(hs.2 c ?_).trans q) (fun _ q=>q) fun _ _ q=>q
  rintro rfl
  rcases hc with rfl|hc
  ·rw[I.free]at e;cases e
  ·rw[I.free]at hc;cases hc
theorem ZX{pos:Pos}{Q:Unit->Shared->Prop}(I:Inv X pins σ H s)(hN:X.N.Nodup)(hi:X.N[i]? =some n)(hk:X.env.scope.names.lookup n=some .local)
  (h:∀s',Inv X pins (σ.set i none) H s'->Q () s'):wpAny M A (do bindName X.env n .none;unbindBehindTheSuite X.env n pos) Q E s:=by
 have hcls:(X.env.scope.kind==.class||(X.env.scope.kind==.module&&X.env.locals !=X.env.globals))=false:=by rw[I.ok.kind];rfl
 have hiσ:i<σ.length:=by rw[I.len];exact(Qg.mp hi).1
 refine Qq (wpAny_bindName (DQ (v:=.non) (u:=.none) I hN hi (.inl hk) rfl (fun s1 I1=>?_) (.inr hk)))
 unfold unbindBehindTheSuite;refine Vc ?_
 obtain⟨m,hn,hl⟩:=I1.loc;obtain⟨u,ru,lk⟩:=hl i n .non hi (Zr hiσ) (.inl hk);have hm:m n=some u:=by
  rcases lk with⟨_,z⟩|⟨z,_⟩
  ·exact z
  ·have:X.env.kindOf n=some .local:=hk
   rcases z with z|z<;>(rw[this]at z;cases z)
 refine wpAny_unbindName_local hk hn hm hcls fun h' u' hn' hs=>?_
 obtain⟨hh,g,d,t,o⟩:=s1;refine h _ (ZW (tk:=t) I1 hn' hs (by simp) fun j y v e1 e2 e3=>?_)
 by_cases hj:j=i
 ·subst hj;rw[Zr hiσ]at e2;cases e2
 ·rw[Qc (Zg hj)]at e2
  obtain⟨w,rw',q⟩:=hl j y v e1 (by rw[Qc (Zg hj)];exact e2) e3
  refine⟨w,rw',?_⟩
  rcases q with⟨k,e⟩|⟨k,c,e,z⟩
  ·refine .inl ⟨k,?_⟩
   have:y≠n:=fun e=>hj (Gh hN e1 (e ▸ hi))
   simp[this,e]
  ·exact .inr ⟨k,c,e,z.sameBut hs (I1.cne y c e)⟩
end
theorem Ev.setNone{G1:Hp}{H1:Hp}(ev:Ev K B G σ env H G1 σ1 a8 H1):Ev K B G σ env H G1 (σ1.set i none) (a8.set i .nil) H1:=by
 have e0:=ev.setNil (i:=i)
 have rl:=e0.rel
 have ne:∀(j:Nat) (w:W),(a8.set i .nil)[j]? =some w->w≠.nil->(σ1.set i none)[j]? =σ1[j]?:=fun j w q1 q2=>by
  rcases N3 q1 with⟨_,z⟩|z
  ·exact absurd z q2
  ·exact Qc (Zg z.1)
 have nm:∀(w:W) (es:Mu),w.mut=some es->w≠.nil:=fun w es h z=>by rw[z]at h;cases h
 refine⟨⟨rl.sub,by rw[rl.len];simp,fun j d q=>?_,fun j w es q1 q2=>?_,fun j k w w' es fs b q1 q2 q3 q4 q5 q6=>?_,fun j w b q1 qo q2=>?_,rl.old,rl.tabs,rl.gnt⟩,e0.same,e0.keep,e0.live,e0.stay,fun b z=>?_,fun j w q qp=>?_,by rw[Zm];exact e0.slen⟩
 ·rw[ne j _ q (by simp)];exact rl.dat j d q
 ·rw[ne j _ q1 (nm w es q2)];exact rl.own j w es q1 q2
 ·rw[ne j _ q1 (nm w es q2)]at q5;rw[ne k _ q3 (nm w' fs q4)]at q6;exact rl.inj j k w w' es fs b q1 q2 q3 q4 q5 q6
 ·rw[ne j _ q1 (by rintro rfl;cases qo)]at q2;exact rl.fresh j w b q1 qo q2
 ·obtain⟨j,w,es,q1,q2,q3⟩:=z
  rw[ne j _ q1 (nm w es q2)]at q3;exact e0.sub b ⟨j,w,es,q1,q2,q3⟩
 ·rw[ne j _ q (by rintro rfl;cases qp)];exact e0.par j w q qp
theorem ZY{l:List Env}{h h1 h2 Bh:Heap}(un:Un (qA l) [] H H' h h1)(kept:∀b o,h.get? b=some o->H b=none->b∉qA l->Bh.get? b=some o)(thr:∀b o,h.get? b=some o->b∉qA l->∃o',Bh.get? b=some o')
  (stay:Bh.StaysIn h2)(ups:h1.UpToSlots h2)(fr:∀b∈qA l,H b=none/\∃o,h.get? b=some o/\∀vs,o.data≠.fields vs):Un (qA l) [] H H' h h2:=by
 have sl:∀b o,h.get? b=some o->b∈qA l->∃sl,h2.get? b=some {o with slots:=sl}:=fun b o q hb=>by
  obtain⟨n,o1,g1,g2⟩:=fr b hb;rw[q]at g1;cases g1;obtain⟨s1,q1⟩:=un.slot b o q n hb (by simp)
  obtain⟨s2,q2⟩:=ups b _ q1 g2;exact⟨s2,q2⟩
 exact⟨fun b o q n hb _=>stay b o (kept b o q n hb),fun b o q n hb _=>sl b o q hb,un.free,fun b o q _=>by
  by_cases hb:b∈qA l
  ·obtain⟨s1,q1⟩:=sl b o q hb;exact⟨_,q1⟩
  ·obtain⟨o',q1⟩:=thr b o q hb;exact⟨o',stay b o' q1⟩,un.tups,un.frzs,un.tbls⟩
section
variable{e Dd:Addr}{h:Heap}{g:Array GenState}{d:Drawn}{t:Nat}{os:OsState}
theorem ZZ{Q:Bool->Shared->Prop}{cd:ClassData}{sl:Array (Option Value)}(X:K.In h)(I:T1 e C h)(hsub:mroIn K C (.ref Dd)=some true)(hD:mroIn K Dd (.type "BaseException")=some true)(hk:K.lookup Dd=some ⟨.type "type",od,.cls cd,sl⟩)
  (hq:Q true ⟨h,g,d,t,os⟩):wpAny M A (excMatches (.ref e) (.ref Dd)) Q E ⟨h,g,d,t,os⟩:=by
 have L0:=I.type (M:=M)
 have L1:=looks_mroIn (M:=M) X hsub
 have L2:=looks_mroIn (M:=M) X hD
 have f:=tc_notTuple
 have hC:=X _ _ hk
 unfold excMatches
 repeat (first|with_reducible refine L0.at ?_|with_reducible refine L1.at ?_|with_reducible refine L2.at ?_|with_reducible refine wpAny_loadPart_at hC ?_|wp_step)
 exact hq
end
theorem aA{bm:List Value}{nid:String}(h:excIn K C bm nid=true):∃od cd sl,K.lookup C=some ⟨.type "type",od,.cls cd,sl⟩:=by
 unfold excIn at h;split at h
 ·rename_i dd cd sl ho;exact⟨dd,cd,sl,ho⟩
 ·cases h
theorem aB(h:X2 K C=true):mroIn K C (.type "BaseException")=some true:=by
 unfold X2 at h;simp only[Qy,Za]at h;exact h.1
def Cs(a:Addr)(h:Heap):Prop:=∃o fd,h.get? a=some o/\o.data=.func fd
theorem aC(h:Heap)(p:Cs a h):∃k,(k=Keeper.frame\/k=Keeper.machine\/k=Keeper.boundFrame)/\Looks M h (keeperOf (.ref a)) k:=by
 obtain⟨o,fd,h1,h2⟩:=p;refine⟨.frame,.inl rfl,(Looks.ld (part:=none) h1).andThen ?_⟩;rw[h2];exact .now
def Ht(X:Cx)(B:OA)(fl:Addr)(o:Option Str)(G:Hp):Prop:=
 ∀(pins:OX) (s:Shared) (σ:St) (env:c5) (Q:VK) (E:XK),Inv X pins σ X.H₀ s->Rel X.K B G σ env X.H₀->
  (o=none->∀v G' H',Ev X.K B G σ env X.H₀ G' σ env H'->Q v H')->
  (∀n C,o=some n->nsIn X.K mainGlobals n=some (some (.ref C))->∀G' H',Ev X.K B G σ env X.H₀ G' σ env H'->E (.ref C) none H')->
  codeAny (model X.prog X.w) X.A (.call (.ref fl) ⟨[],[]⟩) (CR (sE X.prog X.w) X.stack X.prog X.w X.H₀ s Q E) s
section
variable{S y:Str}{i0 j:Nat}{fl:Addr}{G₀:Hp}{cp cpos epos sp yp np apos hpos tpos:Pos}
abbrev xW(n:Str):D:=.obj (.exc n)
def aD(X:Cx)(B:OA)(names:List Str)(fl:Addr)(i0 i j:Nat)(o:Option Str)(G:Hp):TS:=fun D σ H=>σ[i0]? =some (some (.ref fl))/\H=X.H₀/\∃env,Rel X.K B G σ env H/\
 (o=none->∀G' H',Ev X.K B G σ env H G' σ env H'->D.nx σ H')/\∀c,o=some c->c∈names/\∀σ' G' H',Ev X.K B G σ env H G' σ' (((env.set i (.dat (xW c))).set j (.dat (xW c))).set i .nil) H'->D.nx σ' H'
theorem xX{s':Shared}{D:Ends}{ev:Value}(hst:X.stack=X.env::X.outer)(hfr:X.env.frame=some X.env.locals)(hex:X.ex=[])(hx:AI X.K S names=true)(hN:X.N.Nodup)
  (hi:X.N[i]? =some n)(hil:X.env.scope.names.lookup n=some .local)(hj:X.N[j]? =some y)(hjl:X.env.scope.names.lookup y=some .local)(hgS:Gl X S)
  (I:Inv X pins σ H s)(rl:Rel X.K B G σ env H)(hX:∀c,o=some c->c∈names/\∀σ' G' H',Ev X.K B G σ env H G' σ' (((env.set i (.dat (xW c))).set j (.dat (xW c))).set i .nil) H'->D.nx σ' H')
  (cx:sE X.prog X.w X.stack H s (fun cls _ H'=>∃c C G',o=some c/\nsIn X.K mainGlobals c=some (some (.ref C))/\cls=.ref C/\Ev X.K B G σ env H G' σ env H') ev s')
  (hdS:(S==("__debug__":Str))=false)(hdn:(n==("__debug__":Str))=false)(hcdn:(n==("__classdict__":Str))=false)(hsw:swapsWith (.Name n np) (some (.Name y yp)) apos.line X.env=pure false):
  wpAny (model X.prog X.w) X.A (noteFrame ev X.env) (fun _ s₂=>wpAny (model X.prog X.w) X.A (setFlight ev none) (fun _ s₃=>
   wpAny (model X.prog X.w) X.A (handleBy ev X.env [.ExceptHandler (some (.Name S sp)) (some n) [.Assign [.Name y yp] (.Name n np) apos] hpos]) (SP X pins D) X.xe s₃) X.xe s₂) X.xe s':=by
 obtain⟨e,t,C,H',Bh,rfl,os,bare,fly,un,hok,kept,thr,c,C',G',ho,hC,hcc,evx⟩:=cx;cases hcc;obtain⟨hcn,hD⟩:=hX c ho;obtain⟨C2,F⟩:=Cr hx hcn;have:=F.nm;rw[hC]at this;cases this;obtain⟨Sd,hS,hsub,hoS,hkS⟩:=F.sub;have frF:∀b∈qA X.stack,H b=none/\∃o,s.heap.get? b=some o/\∀vs,o.data≠.fields vs:=fun b hb=>⟨I.stkFree b hb,(I.stack.mem hb).2⟩
 have eB:Bh.get? e=none:=fly.2.1
 obtain⟨oe0,vs0,he0,_,hd0,_⟩:=fly.first
 have eS:s.heap.get? e=none:=by
  cases q:s.heap.get? e with
  |none=>rfl
  |some o0=>
   by_cases hb:e∈qA X.stack
   ·obtain⟨_,o1,g1,g2⟩:=fly.2.2.1.mem hb
    rw[he0]at g1;cases g1;exact absurd hd0 (g2 vs0)
   ·obtain⟨o',q'⟩:=thr e o0 q hb
    rw[eB]at q';cases q'
 have e0:X.s₀.heap.get? e=none\/e∈X.ex:=by
  by_cases hx:e∈X.ex
  ·exact .inr hx
  ·refine .inl ?_
   cases q:X.s₀.heap.get? e with
   |none=>rfl
   |some o0=>obtain⟨o',q'⟩:=I.base.there e o0 q hx;rw[eS]at q';cases q'
 have eH:H' e=none:=by
  cases q:H' e with
  |none=>rfl
  |some u=>
   have ok:=hok e u q
   have:∃o,Bh.get? e=some o:=by
    cases u with
    |lst xs=>obtain⟨_,_,_,_,z⟩:=ok;exact⟨_,z⟩
    |tup xs=>obtain⟨_,_,_,ob,z,_⟩:=ok;exact⟨_,z⟩
    |dK kvs=>obtain⟨_,_,_,_,o,_,_,z,_⟩:=ok;exact⟨_,z⟩
    |dT C kvs=>obtain⟨_,_,_,_,o,_,_,z,_⟩:=ok;exact⟨_,z⟩
    |set S n=>obtain⟨o,_,_,_,z,_⟩:=ok;exact⟨_,z⟩
    |ins C dx fs=>obtain⟨_,_,_,z,_⟩:=ok;exact⟨_,z⟩
    |own y=>obtain⟨_,z⟩:=ok;exact⟨_,z⟩
    |xd fs=>obtain⟨_,⟨_,_,_,z,_⟩,_⟩:=ok;exact⟨_,z⟩
    |rng lo hi=>obtain⟨_,_,_,z⟩:=ok;exact⟨_,z⟩
    |frz ob u=>obtain⟨z,_⟩:=ok;exact⟨_,z⟩
    |tbl ps=>exact⟨_,(show Bh.get? e=some _ from ok)⟩
    |met f y=>exact⟨_,(show Bh.get? e=some _ from ok)⟩
    |ext φ=>obtain⟨_,z,_⟩:=ok;exact z
   rw[eB]at this;obtain⟨_,z⟩:=this;cases z
 have invAt:∀h2:Heap,Bh.StaysIn h2->s'.heap.UpToSlots h2->Inv X pins σ H' {s' with heap:=h2}:=fun h2 st ups=>
  I.call' (s':={s' with heap:=h2}) (ch:=[]) os (ZY un kept thr st ups frF) (hok.kept fun b u q=>st b u q) bare (fun b z=>absurd z (by simp))
 rw[hst]at fly;have frames:X.A.frames=some (X.env::X.outer):=by rw[I.ok.frames,hst]
 refine wpAny_looks_onW (L:=X.env.locals) frames hfr fly fun h4 held4 ups4=>?_
 refine wpAny_landsW held4 fun h5 fly5 ups5=>?_
 have I5:=invAt h5 fly5.1 (ups4.trans ups5)
 refine wpAny_handleBy_cons (codeAny_handlers_test ?_) (by intro q;cases q)
 have markI:∀{σ:St}{H:Hp}{s:Shared},Inv X pins σ H s->Inv ({X with A:=X.A.mark (some (.ref e)),calm:=false,xe:=fun _ _=>False}:Cx) pins σ H s:=fun J=>
  ⟨⟨J.ok.mod,J.ok.kind,J.ok.glob,J.ok.blt,J.ok.above,J.ok.inj,J.ok.has,J.ok.cab,(fun z=>nomatch z),J.ok.frames,J.ok.stk,J.ok.exf,J.ok.bs,J.ok.bsz,J.ok.noex,J.ok.exfs,J.ok.funs,J.ok.frf⟩,J.os,J.bare,J.base,J.loc,J.cell,J.free,J.freeC,J.pin,J.hok,J.len⟩
 have unmark:∀{σ:St}{H:Hp}{s:Shared},Inv ({X with A:=X.A.mark (some (.ref e)),calm:=false,xe:=fun _ _=>False}:Cx) pins σ H s->Inv X pins σ H s:=fun J=>⟨I.ok,J.os,J.bare,J.base,J.loc,J.cell,J.free,J.freeC,J.pin,J.hok,J.len⟩
 refine CP (X:=({X with A:=X.A.mark (some (.ref e)),calm:=false,xe:=fun _ _=>False}:Cx)) (markI I5) hgS (mg_of I.mod.kin I.mod.glob hS) ?_ hdS
 obtain⟨od,cd,sl,hlk⟩:=aA (let ⟨Z,z1,z2⟩:=NJ hoS;by rw[hS]at z1;cases z1;exact z2)
 obtain⟨oe5,vs5,he5,hc5,_,_⟩:=fly5.first
 refine ZZ I5.kIn ⟨oe5,he5,hc5⟩ hsub (aB hkS) hlk ?_
 dsimp only[if_true];refine codeAny_handlers_suite_as ?_
 refine lands_againW fly5 fun h6 fly6 ups6=>?_
 have I6:=invAt h6 fly6.1 ((ups4.trans ups5).trans ups6)
 obtain⟨oe6,vs6,he6,hc6,_,_⟩:=fly6.first
 have hexN:e∉X.ex:=fun z=>by rw[hex]at z;cases z
 have I7:Inv X pins σ (upd H' e (.ext (T1 e C))) {s' with heap:=h6}:=by
  refine ZV I6 eH (e0.elim id fun z=>absurd z hexN) (fun z=>?_) (fun x c q z=>?_) (fun p q z=>?_) ⟨oe6,he6,hc6⟩ ⟨_,he6⟩ fun h1 h2 p k=>?_
  ·obtain⟨m,⟨o1,_,_,g,_⟩,_⟩:=I.loc
   rw[←z,eS]at g;cases g
  ·obtain⟨v,o1,g,_⟩:=I.cell x c q
   rw[z,eS]at g;cases g
  ·obtain⟨g,_⟩:=I.pin p q
   rw[z,eS]at g;cases g
  ·obtain⟨o1,g1,g2⟩:=p
   exact⟨o1,k o1 g1,g2⟩
 refine DQ I7 hN hi (.inl hil) (show E2 (.ref e) (.ref e)from rfl) (fun s8 I8=>?_) (.inr hil)
 have hiσ:i<σ.length:=by rw[I.len];exact(Qg.mp hi).1
 refine Qi (LR (DR (X:=({X with A:=X.A.mark (some (.ref e)),calm:=false,xe:=fun _ _=>False}:Cx)) (pos:=apos) (pos':=yp) hN hj (.inl hjl) (Gi (pos:=np) hi (.inl hil) hdn hcdn) hsw (.inr hjl)) pins s8 (σ.set i (some (.ref e))) (upd H' e (.ext (T1 e C)))
  {nx:=fun σ' H2=>σ'=(σ.set i (some (.ref e))).set j (some (.ref e))/\H2=upd H' e (.ext (T1 e C)),rt:=fun _ _=>False} (markI I8) ⟨_,Zr hiσ,rfl,rfl⟩) (fun f s9 q=>?_) fun _ _ z=>z.elim
 cases f with
 |ret u=>obtain⟨_,_,_,_,_,z⟩:=q;exact z.elim
 |brk=>obtain⟨_,_,_,z⟩:=q;exact z.elim
 |cont=>obtain⟨_,_,_,z⟩:=q;exact z.elim
 |next=>
  obtain⟨σ9,H9,I9,rfl,rfl⟩:=q;refine ZX (unmark I9) hN hi hil fun s10 I10=>?_
  refine⟨_,_,I10,?_⟩;have f7:=evx.trans (evx.rel.alloc (o:=.ext (T1 e C)) eH);have rp:c4 X.K (upd G' e (.ext (T1 e C))) (.ref e) (xW c):=by
   simp only[c4];exact⟨e,C,_,rfl,hC,G7,ZQ F.kit,ZR F.kit⟩
  exact hD _ _ _ (((f7.setDat (i:=i) rp).setDat (i:=j) rp).setNone (i:=i))
theorem aE(hst:X.stack=X.env::X.outer)(hfr:X.env.frame=some X.env.locals)(hex:X.ex=[])(hx:AI X.K S names=true)(hN:X.N.Nodup)(h0:X.N[i0]? =some x)(hv:wD X.env.scope x)
  (hi:X.N[i]? =some n)(hil:X.env.scope.names.lookup n=some .local)(hj:X.N[j]? =some y)(hjl:X.env.scope.names.lookup y=some .local)(hgS:Gl X S)
  (fn:∀pins σ H s,Inv X pins σ H s->Cs fl s.heap)(clo:Ht X B fl o G₀)
  (hdx:(x==("__debug__":Str))=false:=by decide)(hcdx:(x==("__classdict__":Str))=false:=by decide)(hdS:(S==("__debug__":Str))=false:=by decide)(hdn:(n==("__debug__":Str))=false:=by decide)(hcdn:(n==("__classdict__":Str))=false:=by decide)
  (hsw:swapsWith (.Name n np) (some (.Name y yp)) apos.line X.env=pure false:=by rfl)(hsw2:swapsWith (.Call (.Name x cp) [] [] cpos) none epos.line X.env=pure false:=by rfl):
  PS X (.Try [.Expr (.Call (.Name x cp) [] [] cpos) epos] [.ExceptHandler (some (.Name S sp)) (some n) [.Assign [.Name y yp] (.Name n np) apos] hpos] [] [] tpos) (aD X B names fl i0 i j o G₀):=by
 intro pins s σ H D I ⟨hσ,hH,env,rl,hN0,hX0⟩;subst hH;refine wpAny_Try_except ?_
 refine wpAny_execs_cons (wpAny_Expr_any ?_ I.quiet hsw2);refine Jy ?_
 have name:=fun(W:OE)=>Gi (X:=X.wish W) (pos:=cp) h0 hv hdx hcdx pins s σ X.H₀ (fun v H'=>v=.ref fl/\H'=X.H₀) (I.wish W) ⟨_,hσ,rfl,rfl⟩
 refine Qi (name fun _ _=>False) (fun u s1 ⟨v,H1,I1,r1,q1,q2⟩=>?_) fun _ _ z=>False.elim z
 subst q1;subst q2;cases (show u=Value.ref fl from r1)
 have I1:=I1.unwish
 refine callWith_of (P:=Cs fl) rfl (fun h p=>aC h p) (evalArgs_nil3 ⟨fn pins σ _ s1 I1,?_⟩)
 refine wpAny_call (Vi (clo pins s1 σ env (fun _ H'=>D.nx σ H') (fun cls _ H'=>∃c C G',o=some c/\nsIn X.K mainGlobals c=some (some (.ref C))/\cls=.ref C/\Ev X.K B G₀ σ env _ G' σ env H') I1 rl (fun z v G' H' ev=>hN0 z G' H' ev) (fun c C z hC G' H' ev=>⟨c,C,G',z,hC,rfl,ev⟩)) fun r s' hq=>?_)
 cases r with
 |error ev=>exact xX hst hfr hex hx hN hi hil hj hjl hgS I1 rl hX0 hq hdS hdn hcdn hsw
 |ok f=>
  cases f with
  |next=>exact False.elim hq
  |brk=>exact False.elim hq
  |cont=>exact False.elim hq
  |ret u=>
   obtain⟨v,H',I',_,q⟩:=I1.after hq;exact Uv (Uv ⟨σ,H',I',q⟩)
end
def Hu(names:List Str)(i j:Nat)(o:Option Str):Mo Fl:=fun env=>match o with
 |none=>some (.nx,env)
 |some c=>if names.contains c then some (.nx,((env.set i (.dat (xW c))).set j (.dat (xW c))).set i .nil)else none
section
variable{S y:Str}{i0 j:Nat}{fl:Addr}{G₀:Hp}{cp cpos epos sp yp np apos hpos tpos yp0 spos0 npos0:Pos}{rest:List Stmt}{m:Mo Fl}{kk:Nat}
theorem aF(hst:X.stack=X.env::X.outer)(hfr:X.env.frame=some X.env.locals)(hex:X.ex=[])(hx:AI X.K S names=true)(hN:X.N.Nodup)(h0:X.N[i0]? =some x)(hv:wD X.env.scope x)
  (hi:X.N[i]? =some n)(hil:X.env.scope.names.lookup n=some .local)(hj:X.N[j]? =some y)(hjl:X.env.scope.names.lookup y=some .local)(hij:i0≠j)(hgS:Gl X S)
  (fn:∀pins σ H s,Inv X pins σ H s->Cs fl s.heap)(clo:Ht X B fl o G₀)(hr:vM X B rest m)
  (hdx:(x==("__debug__":Str))=false:=by decide)(hcdx:(x==("__classdict__":Str))=false:=by decide)(hdS:(S==("__debug__":Str))=false:=by decide)(hdn:(n==("__debug__":Str))=false:=by decide)(hcdn:(n==("__classdict__":Str))=false:=by decide)
  (hsw:swapsWith (.Name n np) (some (.Name y yp)) apos.line X.env=pure false:=by rfl)(hsw2:swapsWith (.Call (.Name x cp) [] [] cpos) none epos.line X.env=pure false:=by rfl)
  (hsw3:swapsWith (.Constant .none kk npos0) (some (.Name y yp0)) spos0.line X.env=pure false:=by rfl):
  sT X (.Assign [.Name y yp0] (.Constant .none kk npos0) spos0::.Try [.Expr (.Call (.Name x cp) [] [] cpos) epos] [.ExceptHandler (some (.Name S sp)) (some n) [.Assign [.Name y yp] (.Name n np) apos] hpos] [] [] tpos::rest)
   (fun D σ H=>σ[i0]? =some (some (.ref fl))/\H=X.H₀/\∃env f env',Rel X.K B G₀ σ env H/\(C4 (D7 j (mC .non)) (C4 (Hu names i j o) m)) env=some (f,env')/\Post X.K B G₀ σ env H env' D f):=by
 refine tF (CT (DR hN hj (.inl hjl) LP hsw3 (.inr hjl)) (CT (aE hst hfr hex hx hN h0 hv hi hil hj hjl hgS fn clo hdx hcdx hdS hdn hcdn hsw hsw2) hr)) ?_
 rintro D σ H ⟨hσ,hH,env,f,env',rl,e,k⟩;obtain⟨⟨f1,a8⟩,e1,e2⟩:=C6 e;cases e1;dsimp only at e2;obtain⟨⟨f2,i5⟩,e3,e4⟩:=C6 e2;have m9:Ev X.K B G₀ σ env H G₀ (σ.set j (some .non)) (env.set j (.dat .non)) H:=(Ev.refl rl).setDat (i:=j) (v:=.non) (d:=.non) (by simp only[c4])
 refine⟨by rw[Qc (Zg hij)];exact hσ,hH,_,m9.rel,fun z G' H' ev=>?_,fun c z=>?_⟩
 ·subst z
  cases e3;exact⟨G',_,f,env',ev.rel,e4,Post.after _ _ k (m9.trans ev)⟩
 ·subst z
  unfold Hu at e3;dsimp only at e3;split at e3
  ·rename_i hc
   cases e3;exact⟨by simpa using hc,fun σ' G' H' ev=>⟨G',_,f,env',ev.rel,e4,Post.after _ _ k (m9.trans ev)⟩⟩
  ·cases e3
end
theorem aG{E:XK}(hst:X.stack=X.env::X.outer)(hfr:X.env.frame=some X.env.locals)(hex:X.ex=[])
  (hxe:∀e s',wpAny (model X.prog X.w) X.A (leaving X.env e) (fun _ s''=>sE X.prog X.w X.outer X.H₀ X.s₀ E e s'') (fun e' s''=>sE X.prog X.w X.outer X.H₀ X.s₀ E e' s'') s'->X.xe e s'):yF X E:=by
 refine⟨fun pins σ H s ev s' I h=>hxe _ _ ?_,fun pins σ H s h' e C vs I hm hE=>hxe _ _ ?_⟩
 ·obtain⟨e,t,C,H',Bh,rfl,os,bare,fly,un,hok,kept,thr,hE⟩:=h
  rw[hst]at fly;refine wpAny_leaves_onW (L:=X.env.locals) (by rw[I.ok.frames,hst]) hfr fly fun h2 fly2 ups=>?_
  refine FY hst hfr hex I os bare fly2 kept thr (fun b o q n hb=>?_) (fun b o q n=>un.free b o q n (by simp)) un.tups un.frzs un.tbls hok hE
  obtain⟨sl,q1⟩:=un.any q n (by simp)
  obtain⟨_,o1,g1,g2⟩:=I.funs.mem hb;rw[q]at g1;cases g1;obtain⟨sl2,q2⟩:=ups b _ q1 g2;exact⟨sl2,q2⟩
 ·have hs:=I.stack
  rw[hst]at hs;refine wpAny_leaves_madeW (L:=X.env.locals) (base:=hideAll s.heap (qA X.stack)) (h:=s.heap) (by rw[I.ok.frames,hst]) hfr (fun b o q=>of_hideAll _ q)
   (funFrames_hide hs fun env he b hb=>by rw[hst];exact Jl.mpr ⟨env,he,hb⟩) hm fun h2 t fly _ hn ups=>?_
  refine FY (s:=s) (s':={s with heap:=h2}) hst hfr hex I rfl I.bare fly (fun b o q _ hb=>Jc _ q hb) (fun b o q hb=>⟨o,Jc _ q hb⟩) (fun b o q n hb=>?_) (fun b o q n=>n) (fun _ _ q=>q) (fun _ _ _ q=>q) (fun b ps q=>⟨#[],by rw[q];simp⟩) ?_ hE
  ·obtain⟨_,o1,g1,g2⟩:=I.funs.mem hb
   rw[q]at g1;cases g1;obtain⟨sl2,q2⟩:=ups b _ (hm.keeps b o q) g2;exact⟨sl2,q2⟩
  ·exact NI (P:=X.prog) (w:=X.w) I.hok fun b u o q1 q2=>Jc _ q2 fun z=>by rw[I.stkFree b z]at q1;cases q1
theorem Dx{B1 B2:OA}{G':Hp}{σ1' σ2:St}{wV i5:c5}(ev:Ev K B1 G σ1 a8 H G' σ1' wV H')(no:∀a,¬ d5 σ1 a8 a)(rl:Rel K B2 G σ2 i5 H):Ev K B2 G σ2 i5 H G' σ2 i5 H':=by
 refine⟨⟨ev.rel.sub,rl.len,fun i d e=>?_,fun i w ds e1 e2=>?_,rl.inj,rl.fresh,fun b h=>ev.live b (rl.old b h),ev.rel.tabs,ev.rel.gnt⟩,ev.same,fun b o _ t e=>ev.keep b o (no b) t e,ev.live,fun b e _ g=>ev.stay b e (no b) g,fun a z=>.inl z,fun i w e hp=>⟨rfl,w,e,hp⟩,rfl⟩
 ·obtain⟨v,q1,q2⟩:=rl.dat i d e
  exact⟨v,q1,c4.mono ev.same d q2⟩
 ·obtain⟨a,xs,q1,q2,q3,q4⟩:=rl.own i w ds e1 e2
  exact⟨a,xs,q1,ev.keep a _ (no a) q3.nt q2,q3.mono ev.same,ev.stay a (by rw[q2];simp) (no a) q4⟩
theorem NN(rl:Rel K B G σ env H):Rel K P6 G [] [] H:=
 ⟨rl.sub,rfl,fun i d e=>by simp at e,fun i w ds e=>by simp at e,fun i j w w' ds es a e=>by simp at e,fun i ds a e=>by simp at e,fun b h=>h.elim,rl.tabs,rl.gnt⟩
theorem Hv:¬ d5 [] [] a:=fun⟨i,w,ds,e,_⟩=>by simp at e
def BK(P:Program)(w:World)(K:Frag)(mg:OU)(base:Heap)(N':List Str)(q:Str)(scope:Scope)(fl:Addr)(cd:Value)(cl:List (Str×Addr))(A:Around)(outer:List Env)(s:Shared)(H:Hp)(E:XK):Cx where
 prog:=P
 w:=w
 K:=K
 mg:=mg
 base:=base
 A:=A.deeper (envX q scope s.heap.objs.size fl cd cl)
 N:=N'
 s₀:=s
 H₀:=H
 env:=envX q scope s.heap.objs.size fl cd cl
 outer:=outer
 stack:=envX q scope s.heap.objs.size fl cd cl::outer
 ex:=[]
 fn:=fun _=>false
 calm:=true
 pn:=[]
 xe:=fun e s'=>wpAny (model P w) (A.deeper (envX q scope s.heap.objs.size fl cd cl)) (leaving (envX q scope s.heap.objs.size fl cd cl) e) (fun _ s''=>sE P w outer H s E e s'') (fun e' s''=>sE P w outer H s E e' s'') s'
section
variable{q:Str}{fl:Addr}{outer:List Env}{E:XK}
theorem aH:yF (BK P w K mg base N' q scope fl cd cl A outer s H E) E:=aG rfl rfl rfl fun _ _ h=>h
theorem aI{h₁:Heap}{m:OU}(e0:tR P w K mg base A outer s H)(hd:A.handled=none)(hk:scope.kind=.function)(hnc:∀x,scope.names.lookup x≠some .cell)
  (inj:∀x y c,cl.lookup x=some c->cl.lookup y=some c->x=y)(has:∀x,scope.names.lookup x=some .free->∃c,cl.lookup x=some c)
  (cell:∀x c,cl.lookup x=some c->(∃v,s.heap.IsCell c v)/\H c=none)
  (val:∀(i:Nat) (x:Str) (v:V),N'[i]? =some x->σ[i]? =some (some v)->wD scope x->scope.names.lookup x=some .free/\∃c u,cl.lookup x=some c/\E2 v u/\s.heap.IsCell c (some u))
  (hl:σ.length=N'.length)(hns:h₁.Ns s.heap.objs.size m)(kp:∀b o,s.heap.get? b=some o->h₁.get? b=some o):
  Inv (BK P w K mg base N' q scope fl cd cl A outer s H E) [] σ H {s with heap:=h₁,toks:=tk}:=by
 have noA:∀b:Addr,b∉(BK P w K mg base N' q scope fl cd cl A outer s H E).ex:=fun b z=>absurd (show b∈([]:List Addr)from z) (by simp)
 refine⟨⟨e0.mod,hk,rfl,rfl,Qp _,inj,fun y hy=>?_,fun y c z=>absurd (show(false:Bool)=true from z) (by decide),fun _=>hd,Around.frames_deeper e0.frames,.inr ⟨rfl,rfl⟩,fun b z=>absurd z (noA b),e0.bs,e0.bsz,fun b _ _=>noA b,fun b z=>absurd z (noA b),e0.funs,e0.frf⟩,
  rfl,e0.bare,Un.kept kp,⟨_,hns,fun i x v h1 h2 h3=>?_⟩,fun x c e=>?_,e0.hok.fresh (Qp _),fun x c e=>(cell x c e).2,fun p hp=>absurd (show p∈([]:OX)from hp) (by simp),e0.hok.kept kp,hl⟩
 ·rcases hy with hy|hy
  ·exact absurd hy (hnc y)
  ·exact has y hy
 ·obtain⟨k,c,u,g1,g2,g3⟩:=val i x v h1 h2 h3
  exact⟨u,g2,.inr ⟨.inr k,c,g1,g3.keeps kp⟩⟩
 ·obtain⟨⟨v,z⟩,_⟩:=cell x c e
  exact⟨v,z.keeps kp⟩
end
structure wW(K:Frag)(params:Arguments)(body:Expr)(scope:Scope)(N':List Str)(lq:Str)(fl c':Addr)(cl:List (Str×Addr))(σ:St)(s₁:Shared)(H₁:Hp)(outer₁:List Env):Prop where
 obj:∃pm ctv,s₁.heap.get? fl=some (kla_obj "<lambda>" lq params body scope cl pm c' ctv)
 free:H₁ fl=none
 nfr:fl∉qA outer₁
 code:∃φ,H₁ c'=some (.ext φ)/\∀h:Heap,φ h->h.CodeRec (.ref c') lq
 inj:∀x y c,cl.lookup x=some c->cl.lookup y=some c->x=y
 has:∀x,scope.names.lookup x=some .free->∃c,cl.lookup x=some c
 cell:∀x c,cl.lookup x=some c->(∃v,s₁.heap.IsCell c v)/\H₁ c=none/\c∉qA outer₁
 val:∀(i:Nat) (x:Str) (v:V),N'[i]? =some x->σ[i]? =some (some v)->wD scope x->scope.names.lookup x=some .free/\∃c u,cl.lookup x=some c/\E2 v u/\s₁.heap.IsCell c (some u)
 len:σ.length=N'.length
def Hw(P:Program)(w:World)(K:Frag)(mg:OU)(base:Heap)(kc:Nat)(fl:Addr)(s₁:Shared)(H₁:Hp)(outer₁:List Env)(o:Option Str)(G:Hp):Prop:=
 (∀(H':Hp) (s:Shared),Un (qA outer₁) [] H₁ H' s₁.heap s.heap->Cs fl s.heap)/\
 ∀(A:Around) (outer:List Env) (s:Shared) (Q:VK) (E:XK),g6 kc A->tR P w K mg base A outer s H₁->Un (qA outer₁) [] H₁ H₁ s₁.heap s.heap->
  (o=none->∀v G' H',Ev K P6 G [] [] H₁ G' [] [] H'->Q v H')->
  (∀n C,o=some n->nsIn K mainGlobals n=some (some (.ref C))->∀G' H',Ev K P6 G [] [] H₁ G' [] [] H'->E (.ref C) none H')->
  codeAny (model P w) A (.call (.ref fl) ⟨[],[]⟩) (CR (sE P w) outer P w H₁ s Q E) s
def outcome(names:List Str)(mb:Mo D)(xb:Mx)(env:c5):Option (Option Str):=match xb env with
 |some n=>if names.contains n then some (some n)else none
 |none=>(mb env).map fun _=>none
theorem aJ{lq:Str}{fl c':Addr}{H₁:Hp}{outer₁:List Env}{lw:c5}{mb:Mo D}{xb:Mx}
  (L:wW K params body scope N' lq fl c' cl σ s₁ H₁ outer₁)(hk:scope.kind=.function)(hco:scope.isCoroutine=false)(hgen:scope.isGenerator=false)(hnc:∀x∈scope.names,x.2≠.cell)
  (hbind:∀pm ctv,bindArgs (kla_fn "<lambda>" lq params body scope cl pm (.ref c') ctv) ⟨[],[]⟩=pure [])
  (rl:Rel K (fun b=>H₁ b≠none) G σ lw H₁)(no:∀a,¬ d5 σ lw a){S:Str}(hex:AI K S names=true)(ho:outcome names mb xb lw=some o)
  (hb:∀(A:Around) (outer:List Env) (s:Shared) (E:XK),g6 kc (A.deeper (envX lq scope s.heap.objs.size fl (.ref c') cl))->ED (BK P w K mg base N' lq scope fl (.ref c') cl A outer s H₁ E) (fun b=>H₁ b≠none) body mb)
  (hx:∀(A:Around) (outer:List Env) (s:Shared) (E:XK),g6 kc (A.deeper (envX lq scope s.heap.objs.size fl (.ref c') cl))->yG (BK P w K mg base N' lq scope fl (.ref c') cl A outer s H₁ E) (fun b=>H₁ b≠none) E body xb):
  Hw P w K mg base (kc+1) fl s₁ H₁ outer₁ o G:=by
 obtain⟨pm,ctv,hobj⟩:=L.obj;have hnc':∀x,scope.names.lookup x≠some .cell:=fun x z=>hnc _ (Zz z) rfl
 refine⟨fun H' s un=>⟨_,_,un.keep fl _ hobj L.free L.nfr (by simp),rfl⟩,fun A outer s Q E hr e0 un hN hX=>?_⟩
 have cellK:∀x c v,cl.lookup x=some c->s₁.heap.IsCell c v->s.heap.IsCell c v:=fun x c v e ⟨oc,h1,h2⟩=>⟨oc,un.keep c oc h1 (L.cell x c e).2.1 (L.cell x c e).2.2 (by simp),h2⟩
 have hcd:s.heap.CodeRec (.ref c') lq:=by
  obtain⟨φ,h1,h2⟩:=L.code;exact h2 _ (e0.hok c' _ h1).1
 have lim:s.heap.NoLimit:=e0.mod.nolimit.keeps fun b o e=>(e0.bs b o e).1
 refine kla_callFunE hr.depth (un.keep fl _ hobj L.free L.nfr (by simp)) rfl hco hgen rfl hcd ?_
 rw[hbind];refine Qv (wpAny_newFunctionEnv hnc (fun x z=>by simp at z) (fun h₁ hns hsb=>⟨lim.fresh _ hsb,?_⟩) hk)
 show codeAny _ _ (.expr body (envX lq scope s.heap.objs.size fl (.ref c') cl)) _ _;have kp:∀b o,s.heap.get? b=some o->h₁.get? b=some o:=fun b o e=>hsb.extBut b o (Qs (Qu e)) (Qx _ e)
 have I:Inv (BK P w K mg base N' lq scope fl (.ref c') cl A outer s H₁ E) [] σ H₁ {s with heap:=h₁,toks:=s.toks+([]:List (Str×Value)).length}:=by
  refine aI e0 hr.hd hk hnc' L.inj L.has (fun x c e=>?_) (fun i x v h1 h2 h3=>?_) L.len hns kp
  ·obtain⟨⟨v,z⟩,z2,_⟩:=L.cell x c e
   exact⟨⟨v,cellK x c v e z⟩,z2⟩
  ·obtain⟨k,c,u,g1,g2,g3⟩:=L.val i x v h1 h2 h3
   exact⟨k,c,u,g1,g2,cellK x c _ g1 g3⟩
 have side:∀{G' H':Hp}{σ':St}{lw':c5},Ev K (fun b=>H₁ b≠none) G σ lw H₁ G' σ' lw' H'->Ev K P6 G [] [] H₁ G' [] [] H':=fun ev=>Dx ev no (NN rl)
 refine kla_codeExpr ?_
 unfold outcome at ho;cases hxb:xb lw with
 |some n=>
  rw[hxb]at ho;dsimp only at ho;split at ho
  ·rename_i hn
   cases ho;obtain⟨C,F⟩:=Cr hex (by simpa using hn)
   exact Qi (hx A outer s E (hr.deeper _) [] _ σ H₁ (fun _ _=>False) I ⟨G,lw,n,rl,hxb,C,F.nm,fun σ' G' env' H' ev=>hX n C rfl F.nm G' H' (side ev)⟩) (fun v s' ⟨_,_,_,_,z⟩=>z.elim) fun _ _ z=>z
  ·cases ho
 |none=>
  rw[hxb]at ho;obtain⟨⟨d,lw'⟩,e1,e2⟩:=F4 ho;cases e2;refine Qi (hb A outer s E (hr.deeper _) [] _ σ H₁ Q I ⟨G,lw,d,lw',rl,e1,fun v G' H' ev rp=>hN rfl v G' H' (side ev)⟩) (fun v s' ⟨x,H',J,rv,z⟩=>?_) fun _ _ z=>z
  exact⟨x,H',J.os,J.bare,J.base,J.hok,rv,z⟩
theorem aK{c P:Addr}{q:Str}(h1:codeHdIn K c P=true)(h2:codeIn K (.ref c) qual=true)(h3:vL K P q=true):q=qual:=by
 unfold codeHdIn at h1;unfold codeIn at h2;split at h1
 ·rename_i vs _ hk
  have m:=Qw.mp h3 _ (mem_of_lookupK hk)
  simp only[hk]at h2;simp only[Qy]at h1;obtain⟨⟨⟨⟨⟨e1,_⟩,_⟩,_⟩,_⟩,_⟩:=h1
  replace m:((match (vs[11]? :Option Value)with|some (.ref P')=>P' !=P|_=>true)||(match vs.toList with|_::.str n _::_=>n==q|_=>false))=true:=by
   split at m
   ·rename_i heq;cases heq;exact m
   ·rename_i hne;exact absurd rfl (hne _ _ _)
  split at e1
  ·rename_i P' h11
   have hP:P'=P:=Za.mp e1
   subst hP;rw[h11]at m;simp only[bne_self_eq_false,Xg]at m;split at h2
   ·rename_i n t r hl
    simp only[hl]at m;rw[←Za.mp m,←Za.mp h2]
   ·cases h2
  ·cases e1
 ·cases h1
def Ah(mg:OU)(base:Heap):Prop:=∃bm o,mg "__builtins__"=some (.ref bm)/\bm≠builtinsNs/\bm≠mainGlobals/\base.get? bm=some o/\o.cls=.type "module"/\o.dict=some builtinsNs/\o.data=.plain
theorem aL{l:List Value}(h:TriplesOk l):l=[]\/ ∃a t b u d rest,l=.int a t::.int b u::d::rest/\TriplesOk rest:=by
 cases l with
 |nil=>exact .inl rfl
 |cons x l=>
  cases x<;>first|exact False.elim h|skip
  cases l with
  |nil=>exact False.elim h
  |cons y l=>
   cases y<;>first|exact False.elim h|skip
   cases l with
   |nil=>exact False.elim h
   |cons d rest=>exact .inr ⟨_,_,_,_,_,_,rfl,h⟩
theorem NO{M:List Value->Prop}(h0:M [])(h1:∀a t b u d rest,TriplesOk rest->M rest->M (.int a t::.int b u::d::rest))(l:List Value)(h:TriplesOk l):M l:=by
 have:∀(n:Nat) (l:List Value),l.length≤n->TriplesOk l->M l:=by
  intro n
  induction n with
  |zero=>
   intro l hl h;cases l with
   |nil=>exact h0
   |cons x l=>exact absurd hl (Nat.not_succ_le_zero _)
  |succ n ih=>
   intro l hl h
   rcases aL h with rfl|⟨a,t,b,u,d,rest,rfl,hr⟩
   ·exact h0
   ·exact h1 _ _ _ _ _ _ hr (ih rest (by simp only[Zj]at hl;omega) hr)
 exact this l.length l (Qp _) h
theorem aM(l:List Value){a b:Int}{t u:Tok}(h:TriplesOk l):TriplesOk (l++[.int a t,.int b u,c]):=
 NO (M:=fun l=>TriplesOk (l++[.int a t,.int b u,c])) trivial (fun _ _ _ _ _ _ _ ih=>ih) l h
theorem aN(l:List Value){pos pos':Pos}{v:Value}(hk:TriplesOk l):codeAmong pos' (l++[rawInt pos.line,rawInt pos.col,c])=some v->codeAmong pos' l=some v\/v=c:=by
 refine NO (M:=fun l=>codeAmong pos' (l++[rawInt pos.line,rawInt pos.col,c])=some v->codeAmong pos' l=some v\/v=c) (fun h=>?_) (fun a t b u d rest _ ih h=>?_) l hk
 ·change (if(pos.line:Int)==pos'.line&&(pos.col:Int)==pos'.col then some c else none)=some v at h
  split at h
  ·cases h;exact .inr rfl
  ·cases h
 ·change (if a==pos'.line&&b==pos'.col then some d else codeAmong pos' (rest++[rawInt pos.line,rawInt pos.col,c]))=some v at h
  show(if a==pos'.line&&b==pos'.col then some d else codeAmong pos' rest)=some v\/v=c
  split at h
  ·rename_i z;rw[Qn z];exact .inl h
  ·rename_i z;rw[Ql z];exact ih h
section
variable{P c:Addr}{ps:Array Value}{pos:Pos}
structure Made(X:Cx)(pins:OX)(σ:St)(H:Hp)(s:Shared)(P:Addr)(qual:Str)(params:Arguments)(body:Expr)(scope:Scope)(cl:List (Str×Addr))(fl c':Addr)(H1:Hp)(s1:Shared):Prop where
 inv:Inv X pins σ H1 s1
 ev:∀(B:OA) (G:Hp) (env:c5),Rel X.K B G σ env H->Ev X.K B G σ env H G σ env H1
 obj:∃pm ctv,s1.heap.get? fl=some (kla_obj "<lambda>" (rO qual) params body scope cl pm c' ctv)
 new:s.heap.objs.size≤fl
 free:H1 fl=none
 code:H1 c'=some (tT X.K P c')
 keep:∀b o,H b=none->s.heap.get? b=some o->s1.heap.get? b=some o/\H1 b=none
theorem aO{Q:OE}(I:Inv X pins σ H s)(hcode:X.env.code=.ref c)(hc:codeHdIn X.K c P=true)(hq:codeIn X.K (.ref c) qual=true)(htq:vL X.K P qual=true)(henv:X.env.qual=qual++".<locals>.")
  (bm:Ah X.mg X.base)(hP:H P=some (.tbl ps))(tabs:pU X.K H)(hcl:closureFor scope X.env=pure cl)(hdef:defaultsOf params X.env=([],[]))
  (h:∀fl c' H1 s1,Made X pins σ H s P qual params body scope cl fl c' H1 s1->Q (.ref fl) s1):wpAny M A (eval (.Lambda params body scope pos) X.env) Q E s:=by
 obtain⟨ht,hent⟩:=tabs P ps hP;have hPo:s.heap.get? P=some (tabObj ps):=I.hok P _ hP;have C:=codeHd_of_K I.kIn hc;have nbase:∀{b o},X.base.get? b=some o->b≠P:=fun{b o} e z=>by rw[z]at e;have:=(I.bs P o e).2;rw[hP]at this;cases this
 have hgs:s.heap.Ns mainGlobals X.mg:=I.mod.glob.keeps I.bk
 have hgP:mainGlobals≠P:=by
  obtain⟨o,_,_,e,_⟩:=I.mod.glob;exact nbase e
 obtain⟨b,ob,b1,b2,b3,b4,b5,b6,b7⟩:=bm;have hB:s.heap.BuiltinsAt X.mg P:=⟨b,ob,b1,b2,b3,nbase b4,I.bk _ _ b4,b5,b6,b7⟩;have hlq:X.env.qual++"<lambda>"=rO qual:=by rw[henv];rfl
 refine kla_eval hdef ?_
 rw[hlq];cases hca:codeAmong pos ps.toList with
 |some cv=>
  obtain⟨c',rfl,hc'⟩:=hent pos cv hca;refine kla_makeFunctionHit hcl I.ok.glob hgs hcode C hPo ht hca hB fun ctv h' tk hk hsz=>?_
  have kp:∀b o,s.heap.get? b=some o->(h'.push ({cls:=.type "function",data:=.func (kla_fn "<lambda>" (rO qual) params body scope cl ((X.mg "__name__").getD .none) (.ref c') ctv)}:Obj)).get? b=some o:=fun b o e=>Qx _ (hk b o e)
  refine h h'.objs.size c' H _ ⟨?_,fun B G env rl=>.refl rl,⟨_,_,Qd _ rfl⟩,hsz,I.hok.fresh hsz,hc',fun b o n e=>⟨kp b o e,n⟩⟩
  exact I.kept kp
 |none=>
  refine kla_makeFunction hcl I.ok.glob hgs hcode C hPo ht hca hgP hB fun c' ctv h' tk hx hge hlt hrec htb=>?_
  have hfsz:s.heap.objs.size≤h'.objs.size:=Jj (Nat.lt_of_le_of_lt hge hlt)
  have r8:P≠c':=Qs (Qr (Qu hPo) hge)
  have hnc:H c'=none:=I.hok.fresh hge
  have hcf:c'≠h'.objs.size:=Qs hlt
  have hPf:P≠h'.objs.size:=Qs (Qr (Qu hPo) hfsz)
  have get1:∀{b},(upd (upd H P (.tbl (ps++ #[rawInt pos.line,rawInt pos.col,.ref c']))) c' (tT X.K P c')) b=if b=c' then some (tT X.K P c')else if b=P then some (.tbl (ps++ #[rawInt pos.line,rawInt pos.col,.ref c']))else H b:=fun{b}=>rfl
  have kp:∀b o,b≠P->s.heap.get? b=some o->(h'.push (kla_obj "<lambda>" (rO qual) params body scope cl ((X.mg "__name__").getD .none) c' ctv)).get? b=some o:=fun b o n e=>Qx _ (hx b o n e)
  have other:∀{b u},H b=some u->b≠P->(upd (upd H P (.tbl (ps++ #[rawInt pos.line,rawInt pos.col,.ref c']))) c' (tT X.K P c')) b=some u:=fun{b u} e n=>by
   rw[D3 (O4 e hnc),D3 n];exact e
  have free1:∀{b o},H b=none->s.heap.get? b=some o->(upd (upd H P (.tbl (ps++ #[rawInt pos.line,rawInt pos.col,.ref c']))) c' (tT X.K P c')) b=none:=fun{b o} n e=>by
   rw[D3 (Qs (Qr (Qu e) hge)),D3 (fun z=>by rw[z,hP]at n;cases n)];exact n
  have tab1:pU X.K (upd (upd H P (.tbl (ps++ #[rawInt pos.line,rawInt pos.col,.ref c']))) c' (tT X.K P c')):=by
   intro P2 ps2 e2;rw[get1]at e2;split at e2
   ·cases e2
   ·split at e2
    ·rename_i z
     subst z;cases e2;refine⟨by rw[Array.toList_append];exact aM _ ht,fun p v e=>?_⟩
     rw[Array.toList_append]at e
     rcases aN _ ht e with q|q
     ·obtain⟨a,q1,q2⟩:=hent p v q
      exact⟨a,q1,other q2 (fun z=>by rw[z,hP]at q2;cases q2)⟩
     ·exact⟨c',q,G7⟩
    ·obtain⟨q1,q2⟩:=tabs P2 ps2 e2
     refine⟨q1,fun p v e=>?_⟩
     obtain⟨a,q3,q4⟩:=q2 p v e;exact⟨a,q3,other q4 (fun z=>by rw[z,hP]at q4;cases q4)⟩
  have live1:∀b,H b≠none->(upd (upd H P (.tbl (ps++ #[rawInt pos.line,rawInt pos.col,.ref c']))) c' (tT X.K P c')) b≠none:=fun b e=>by
   rw[get1];split
   ·simp
   ·split
    ·simp
    ·exact e
  refine h h'.objs.size c' _ _ ⟨?_,fun B G env rl=>?_,⟨_,_,Qd _ rfl⟩,hfsz,?_,G7,fun b o n e=>⟨kp b o (fun z=>by rw[z,hP]at n;cases n) e,free1 n e⟩⟩
  ·refine I.un (h':=h'.push (kla_obj "<lambda>" (rO qual) params body scope cl ((X.mg "__name__").getD .none) c' ctv)) (t':=tk) ⟨fun b o e n _ _=>?_,fun b o e n _ _=>⟨o.slots,?_⟩,fun b o e n _=>free1 n e,fun b o e _=>?_,fun b xs e=>?_,fun b o u e=>?_,fun b ps2 e=>?_⟩ fun b u e=>?_
   ·exact kp b o (fun z=>by rw[z,hP]at n;cases n) e
   ·exact kp b o (fun z=>by rw[z,hP]at n;cases n) e
   ·by_cases z:b=P
    ·subst z;exact⟨_,Qx _ htb⟩
    ·exact⟨o,kp b o z e⟩
   ·exact other e (fun z=>by rw[z,hP]at e;cases e)
   ·exact other e (fun z=>by rw[z,hP]at e;cases e)
   ·by_cases z:b=P
    ·subst z
     rw[hP]at e;cases e;exact⟨#[rawInt pos.line,rawInt pos.col,.ref c'],by rw[D3 r8,G7]⟩
    ·exact⟨#[],by rw[other e z];simp⟩
   ·rw[get1]at e
    split at e
    ·rename_i z
     subst z;cases e;have hrec2:=hrec.push (kla_obj "<lambda>" (rO qual) params body scope cl ((X.mg "__name__").getD .none) b ctv);obtain⟨c2,oc,vs,t,e2,hoc,hd,hv⟩:=id hrec2;cases e2;refine⟨fun q hq2=>?_,⟨oc,hoc⟩,fun h1 h2 p k q hq2=>?_⟩
     ·rw[aK hc hq hq2];exact hrec2
     ·obtain⟨c3,oc3,vs3,t3,e3,g1,g2⟩:=p q hq2
      cases e3;exact⟨_,oc3,vs3,t3,rfl,k oc3 g1,g2⟩
    ·split at e
     ·rename_i z
      subst z;cases e;exact Qx _ htb
     ·rename_i z1 z2
      refine(I.hok b u e).stay (fun b2 o2 hb q=>kp b2 o2 (fun z=>?_) q) (fun b2 q=>other q (fun z=>by rw[z,hP]at q;cases q)) fun b2 xs q=>other q (fun z=>by rw[z,hP]at q;cases q)
      rcases hb with hb|hb
      ·exact z2 (hb.symm.trans z)
      ·rw[z,hP]at hb;cases hb
  ·refine⟨⟨fun b o e=>?_,rl.len,rl.dat,fun i wv ds e1 e2=>?_,rl.inj,rl.fresh,fun b hb=>live1 b (rl.old b hb),tab1,rl.gnt⟩,Le.refl,fun b o _ nt e=>?_,live1,fun b e _ g=>g,fun a z=>.inl z,fun i w e hp=>⟨rfl,w,e,hp⟩,rfl⟩
   ·exact other (rl.sub b o e) (fun z=>by have q:=rl.sub b o e;rw[z,hP]at q;cases q;exact rl.gnt b _ e _ rfl)
   ·obtain⟨a,xs,q1,q2,q3,q4⟩:=rl.own i wv ds e1 e2
    exact⟨a,xs,q1,other q2 (fun z=>by rw[z,hP]at q2;cases q2;exact q3.nt _ rfl),q3,q4⟩
   ·exact other e (fun z=>by rw[z,hP]at e;cases e;exact nt _ rfl)
  ·rw[D3 (Zg hcf),D3 (Zg hPf)];exact I.hok.fresh hfsz
end
theorem aP{CX:wN}{f:Addr}{name:Str}{body:List Stmt}{dV kV doc pm cdv ct oc:Value}{an:Option Addr}
  {osl:Array (Option Value)}(lk:K.lookup f=some ⟨oc,od,.func (fnOf name qual params body scope dV kV doc pm an cdv ct),osl⟩)(hcd:codeIn K cdv qual=true)(S:a9 N ps scope)
  {outer:List Env}{args:Args}{us:List Value}{vs:List V}{Q:VK}{E:XK}(hr:g6 (k+1) A)(e0:tR P w K mg base A outer s H)(hb:BindsTo s (fnOf name qual params body scope dV kV doc pm an cdv ct) args (ps.zip us))(r:D2 vs us)(hl:vs.length=ps.length)
  (hbody:g6 k (A.deeper (envOfC qual scope s.heap.objs.size f cdv))->∃t,sT (O8 CX P w K mg base N qual scope f cdv A outer s H E) body t/\t {nx:=fun _ H'=>Q .non H',rt:=Q} (start N vs) H):
  codeAny (model P w) A (.call (.ref f) args) (CR CX outer P w H s Q E) s:=by
 have KX:K.In s.heap:=e0.mod.kin.keeps fun b o e=>(e0.bs b o e).1
 have lim:s.heap.NoLimit:=e0.mod.nolimit.keeps fun b o e=>(e0.bs b o e).1
 have hkind:∀y∈ps.zip us,scope.names.lookup y.1=some .local\/(scope.names.lookup y.1=some .cell/\((cellsFrom (s.heap.objs.size+1) scope.names []).lookup y.1).isSome=true):=fun⟨n,v⟩ hy=>by
  rcases S.par n (Va hy).1 with q|q
  ·exact .inl q
  ·exact .inr ⟨q,cellsFrom_some _ _ _ (.inl q)⟩
 refine codeAny_call_function hr.depth (KX _ _ lk) rfl S.co S.gen rfl (codeRec_of KX hcd) (hb _ _ _ _ ?_);refine wpAny_newFunctionEnv_cells S.kind hkind fun env he s1 x=>?_
 subst he;refine⟨lim.keeps x.toInCall.keep,codeAny_func ?_⟩;obtain⟨t,ht,hq⟩:=hbody (hr.deeper _);have I:Inv (O8 CX P w K mg base N qual scope f cdv A outer s H E) [] (start N vs) H s1:=Ln S hr.hd e0 hl r x;refine Qi (ht [] s1 (start N vs) H _ I hq) (fun fl s' hs=>?_) fun e s' hs=>hs
 have fin:∀{σ':St}{H':Hp}{v:V}{u:Value},Inv (O8 CX P w K mg base N qual scope f cdv A outer s H E) [] σ' H' s'->E2 v u->Q v H'->CE outer P w H s Q u s':=
  fun{σ' H' v u} J rv q=>⟨v,H',J.os,J.bare,J.base,J.hok,rv,q⟩
 cases fl with
 |ret u=>
  obtain⟨v,σ',H',J,rv,q⟩:=hs;exact fin J rv q
 |next=>
  obtain⟨σ',H',J,q⟩:=hs;exact fin (v:=V.non) (u:=Value.none) J rfl q
 |brk=>
  obtain⟨_,_,_,q⟩:=hs;exact False.elim q
 |cont=>
  obtain⟨_,_,_,q⟩:=hs;exact False.elim q
structure tI(P:Program)(w:World)(K:Frag)(mg:OU)(base:Heap)(x:Str)(k kc:Nat)(fr:Option Str->Option D):Prop where
 ex:∃f:Addr,mg x=some (.ref f)/\keepIn K (.ref f)=true/\∀(A:Around) (outer:List Env) (s:Shared) (H:Hp) (fl:Addr) (o:Option Str) (G:Hp) (Q:VK),g6 k A->tR P w K mg base A outer s H->Hw P w K mg base kc fl s H outer o G->Rel K P6 G [] [] H->
  (∃d,fr o=some d/\∀v G' H',Ev K P6 G [] [] H G' [] [] H'->c4 K G' v d->Q v H')->codeAny (model P w) A (.call (.ref f) ⟨[.ref fl],[]⟩) (CR j7 outer P w H s Q E0) s
def Hx(N:Nat)(mb:Option Str->Mo Fl)(o:Option Str):Option D:=match mb o (List.replicate N .nil)with
 |some (.ret d,_)=>some d
 |some (.nx,_)=>some .non
 |_=>none
theorem aQ{B':OA}{σ':St}(rl:Rel K B G σ env H)(old:∀b,B' b->H b≠none):Rel K B' G σ' (List.replicate σ'.length .nil) H:=by
 have nn:∀{i:Nat}{w:W},(List.replicate σ'.length W.nil)[i]? =some w->w=.nil:=fun{i w} e=>by
  rw[Jm]at e;split at e
  ·cases e;rfl
  ·cases e
 exact⟨rl.sub,by simp,(fun i d e=>by cases nn e),(fun i w ds e1 e2=>by rw[nn e1]at e2;cases e2),(fun i j w w' ds es a e1 e2=>by rw[nn e1]at e2;cases e2),(fun i w a e eo=>by rw[nn e]at eo;cases eo),old,rl.tabs,rl.gnt⟩
theorem aR{n:Nat}:¬ d5 σ (List.replicate n .nil) a:=fun⟨i,w,ds,e1,e2,_⟩=>by
 rw[Jm]at e1;split at e1
 ·cases e1;cases e2
 ·cases e1
theorem aS{v:V}(h:1≤N.length):(start N [v]).length=N.length:=by
 unfold start;simp only[Qa,Qk,Ze,Zj,Jz]
 omega
theorem aT{p1:Str}{f:Addr}{mb:Option Str->Mo Fl}(F:k7 K x qual st f fd)(S:a9 N [p1] (E1 st))(hm:mg x=some (.ref f))(hbi:Q2 K fd [p1] [])(hkc:kc≤k)
  (hb:∀(cdv:Value) (A:Around) (outer:List Env) (s:Shared) (H:Hp) (E:XK) (fl:Addr) (o:Option Str) (G:Hp),g6 k (A.deeper (envOfC qual (E1 st) s.heap.objs.size f cdv))->
   (∀pins σ H' s',Inv (O8 j7 P w K mg base N qual (E1 st) f cdv A outer s H E).nox pins σ H' s'->Cs fl s'.heap)->Ht (O8 j7 P w K mg base N qual (E1 st) f cdv A outer s H E).nox (fun b=>H b≠none) fl o G->
   sT (O8 j7 P w K mg base N qual (E1 st) f cdv A outer s H E).nox (W3 st) (fun D σ H'=>σ[0]? =some (some (.ref fl))/\H'=H/\∃env fw env',Rel K (fun b=>H b≠none) G σ env H'/\mb o env=some (fw,env')/\Post K (fun b=>H b≠none) G σ env H' env' D fw)):
  tI P w K mg base x (k+1) kc (Hx N.length mb):=by
 have hN:1≤N.length:=by have:=Yu List.length S.pre;rw[Jx]at this;simp only[Zj,Jz]at this;omega
 refine⟨f,hm,F.kp,fun A outer s H fl o G Q hr e0 clo rl hfr=>?_⟩
 obtain⟨oc,od,kV,doc,pm,an,cdv,ct,osl,rfl,lk,hcd⟩:=F.ex;obtain⟨d,hd,hQ⟩:=hfr;have KX:K.In s.heap:=e0.mod.kin.keeps fun b o e=>(e0.bs b o e).1
 refine aP (us:=[.ref fl]) (vs:=[.ref fl]) lk hcd S hr e0 ?_ (.cons rfl .nil) rfl fun hr'=>?_
 ·have:=hbi s [.ref fl] KX rfl
  simpa using this
 ·have un0:∀{pins:OX}{σ:St}{H':Hp}{s':Shared},Inv (O8 j7 P w K mg base N qual (E1 st) f cdv A outer s H E0).nox pins σ H' s'->Un (qA outer) [] H H' s.heap s'.heap:=fun I=>I.base
  have q:=hb cdv A outer s H E0 fl o G hr' (fun pins σ H' s' I=>clo.1 H' s' (un0 I)) (fun pins s' σ env Q' E' I rl' hN' hX'=>?_)
  ·refine⟨_,q.nox,?_⟩
   have rl0:Rel K (fun b=>H b≠none) G (start N [.ref fl]) (List.replicate N.length .nil) H:=by
    have:=aQ (B':=fun b=>H b≠none) (σ':=start N [.ref fl]) rl (fun b h=>h)
    rwa [aS hN]at this
   have side:∀{G' H':Hp}{σ':St}{env':c5},Ev K (fun b=>H b≠none) G (start N [.ref fl]) (List.replicate N.length .nil) H G' σ' env' H'->Ev K P6 G [] [] H G' [] [] H':=fun ev=>Dx ev (fun a=>aR) rl
   unfold Hx at hd;split at hd
   ·rename_i d' env' em
    cases hd;exact⟨by rw[AF (by simp)];rfl,rfl,_,_,env',rl0,em,fun v σ' G' H' ev rp=>hQ v G' H' (side ev) rp⟩
   ·rename_i env' em
    cases hd;exact⟨by rw[AF (by simp)];rfl,rfl,_,_,env',rl0,em,fun σ' G' H' ev=>hQ .non G' H' (side ev) (by simp only[c4])⟩
   ·cases hd
  ·exact clo.2 _ _ s' Q' E' (hr'.mono hkc) I.uT (un0 I) (fun z v G' H' ev=>hN' z v G' H' (Dx ev (fun a=>Hv) rl')) fun n C z hC G' H' ev=>hX' n C z hC G' H' (Dx ev (fun a=>Hv) rl')
def aU(k:Bool)(w:W):W:=if k then(match w with|.dat d=>.dat d|_=>.nil)else .nil
def BL(keep:List Bool)(env:c5):c5:=List.zipWith aU keep env
theorem Hy{keep:List Bool}{w:W}(h:(BL keep env)[i]? =some w)(hw:w≠.nil):∃d,w=.dat d/\keep[i]? =some true/\env[i]? =some (.dat d):=by
 unfold BL at h;rw[Ju]at h;cases e1:keep[i]? with
 |none=>rw[e1]at h;cases h
 |some k=>
  cases e2:env[i]? with
  |none=>rw[e1,e2]at h;cases h
  |some w0=>
   rw[e1,e2]at h;cases k with
   |false=>cases h;exact absurd rfl hw
   |true=>
    cases w0 with
    |dat d=>cases h;exact⟨d,rfl,rfl,rfl⟩
    |nil=>cases h;exact absurd rfl hw
    |own _=>cases h;exact absurd rfl hw
    |par _=>cases h;exact absurd rfl hw
    |ownD _ _=>cases h;exact absurd rfl hw
    |parD _ _=>cases h;exact absurd rfl hw
theorem aV{keep:List Bool}(rl:Rel K B G σ env H)(hk:keep.length=σ.length):Rel K (fun b=>H b≠none) G (P8 keep 0 σ) (BL keep env) H:=by
 have nm:∀(w:W) (es:Mu),w.mut=some es->w≠.nil:=fun w es h z=>by rw[z]at h;cases h
 have no:∀(i:Nat) (w:W) (ds:Mu),(BL keep env)[i]? =some w->w.mut=some ds->False:=fun i w ds e1 e2=>by
  obtain⟨d,z,_⟩:=Hy e1 (nm w ds e2);rw[z]at e2;cases e2
 refine⟨rl.sub,?_,fun i d e=>?_,fun i w ds e1 e2=>(no i w ds e1 e2).elim,fun i j w w' ds es a e1 e2=>(no i w ds e1 e2).elim,fun i w a e eo=>(let ⟨m,q⟩:=sG eo;no i _ m e q).elim,fun b h=>h,rl.tabs,rl.gnt⟩
 ·unfold BL P8
  rw[Qa,Yd,Yd,Ze,rl.len];rfl
 ·obtain⟨d',z,k1,k2⟩:=Hy e (by simp)
  cases z;obtain⟨v,e1,e2⟩:=rl.dat i d k2;exact⟨v,Dm k1 e1,e2⟩
theorem aW{keep:List Bool}:¬ d5 σ (BL keep env) a:=fun⟨i,w,ds,e1,e2,_⟩=>by
 have:w≠.nil:=fun z=>by rw[z]at e2;cases e2
 obtain⟨d,z,_⟩:=Hy e1 this;rw[z]at e2;cases e2
def Y9(names:List Str)(keep:List Bool)(mb:Mo D)(xb:Mx)(fr:Option Str->Option D):Mo D:=fun env=>(outcome names mb xb (BL keep env)).bind fun o=>(fr o).map fun d=>(d,env)
structure sF(K:Frag)(mg:OU)(base:Heap)(cd:Value)(qual:Str)(P:Addr):Prop where
 ex:∃c,cd=.ref c/\codeHdIn K c P=true/\codeIn K (.ref c) qual=true
 tq:vL K P qual=true
 bm:Ah mg base
section
variable{S:Str}{fr:Option Str->Option D}{P:Addr}{keep:List Bool}{mb:Mo D}{xb:Mx}{p lpos pos:Pos}{ps0:Array Value}
theorem Fd(Rd:tI X.prog X.w X.K X.mg X.base x k (kc+1) fr)(hr:g6 k X.A)(hg:Gl X x)(T:sF X.K X.mg X.base X.env.code qual P)(hq:X.env.qual=qual++".<locals>.")(hP:X.H₀ P=some (.tbl ps0))(hfn:∀y,X.fn y=true)(hx:AI X.K S names=true)
  (ok:pO X N' scope keep 0)(hco:scope.isCoroutine=false)(hgen:scope.isGenerator=false)(hnc:∀x∈scope.names,x.2≠.cell)(hdef:defaultsOf params X.env=([],[]))
  (hbind:∀cl pm c' ctv,bindArgs (kla_fn "<lambda>" (rO qual) params body scope cl pm (.ref c') ctv) ⟨[],[]⟩=pure [])
  (hb:∀(fl c':Addr) (cl:List (Str×Addr)) (H₁:Hp) (A:Around) (outer:List Env) (s:Shared) (E:XK),g6 kc (A.deeper (envX (rO qual) scope s.heap.objs.size fl (.ref c') cl))->ED (BK X.prog X.w X.K X.mg X.base N' (rO qual) scope fl (.ref c') cl A outer s H₁ E).nox (fun b=>H₁ b≠none) body mb)
  (hxb:∀(fl c':Addr) (cl:List (Str×Addr)) (H₁:Hp) (A:Around) (outer:List Env) (s:Shared) (E:XK),g6 kc (A.deeper (envX (rO qual) scope s.heap.objs.size fl (.ref c') cl))->yG (BK X.prog X.w X.K X.mg X.base N' (rO qual) scope fl (.ref c') cl A outer s H₁ E) (fun b=>H₁ b≠none) E body xb)
  (hdb:(x==("__debug__":Str))=false:=by decide)(he:starEach [.Lambda params body scope lpos] X.env=(false,eval (.Lambda params body scope lpos) X.env)::starEach [] X.env:=by rfl)(hpl:(backTo pos (starEach [] X.env)).any (·.1)=false:=by rfl):
  ED X B (.Call (.Name x p) [.Lambda params body scope lpos] [] pos) (Y9 names keep mb xb fr):=by
 intro pins s σ H Q I ⟨G,env,d,env',rl,em,k⟩;obtain⟨o,eo,e2⟩:=C6 em;obtain⟨d',ed,e3⟩:=F4 e2;cases e3;obtain⟨f,hm,hkp,xG⟩:=Rd.ex;obtain⟨more,hPs⟩:=I.base.tbls P ps0 hP;obtain⟨c,hcd,hc1,hc2⟩:=T.ex;refine Jy (CP I hg hm ?_ hdb);refine callWith_K (h₀:=X.base) I.ok.mod.kin hkp ?_ he hpl;rw[he];show wpAny _ _ (spliced ((false,eval (.Lambda params body scope lpos) X.env)::backTo pos (starEach [] X.env))) _ _ s;refine Calls.spliced_cons (aO I hcd hc1 hc2 T.tq hq T.bm hPs rl.tabs ok.clos hdef fun fl c' H1 s1 Md=>?_)
 refine Calls.spliced_nil ⟨Md.inv.kIn,?_⟩;have m9:=Md.ev B G env rl;have kl:keep.length=σ.length:=by rw[ok.klen,I.len]
 have stk:∀{b},b∈qA X.stack->b<s.heap.objs.size:=fun{b} hb=>by obtain⟨_,o,g,_⟩:=I.stack.mem hb;exact Qu g
 have L:wW X.K params body scope N' (rO qual) fl c' (P7 X.env.cells scope.names []) (P8 keep 0 σ) s1 H1 X.stack:=by
  have sub:∀{y c},(P7 X.env.cells scope.names []).lookup y=some c->X.env.cells.lookup y=some c:=fun{y c} z=>(BA z).elim (fun q=>by cases q) id
  refine⟨Md.obj,Md.free,fun z=>absurd (stk z) (Nat.not_lt.mpr Md.new),⟨_,Md.code,fun h p=>p qual T.tq⟩,fun y z c q1 q2=>I.ok.inj y z c (sub q1) (sub q2),fun y z=>Yp.mp (Bp (Zz z) (ok.free _ (Zz z) rfl)),fun y c q=>?_,fun i y v q1 q2 q3=>?_,?_⟩
  ·obtain⟨v,oc,g1,g2⟩:=I.cell y c (sub q)
   have g:=Md.keep c oc (I.freeC y c (sub q)) g1
   refine⟨⟨v,oc,g.1,g2⟩,g.2,fun z=>?_⟩
   rcases Qb.mp (I.stkSub c z)with z|z
   ·exact I.cne y c (sub q) z
   ·obtain⟨_,o2,g3,_⟩:=I.ok.funs.mem z
    exact absurd (Qu g3) (Nat.not_lt.mpr (I.ok.cab y c (hfn y) (sub q)))
  ·obtain⟨k1,k2⟩:=Bq q2
   obtain⟨h1,h2,h3⟩:=ok.kept i y k1 q1;have hfree:scope.names.lookup y=some .free:=by
    rcases q3 with z|z|z
    ·exact absurd z h2
    ·exact absurd z h3
    ·exact z
   obtain⟨m,hn,hl⟩:=I.loc;have ov:=ok.outVis i y k1 h1 hfree;obtain⟨u,r,l⟩:=hl i y v h1 k2 (.inr ov);obtain⟨c0,hc0⟩:=Yp.mp (Bp (acc:=[]) (Zz hfree) (ok.free _ (Zz hfree) rfl));refine⟨hfree,c0,u,hc0,r,?_⟩
   rcases l with⟨kl,_⟩|⟨_,c1,hc1,oc,g1,g2⟩
   ·have kl':X.env.scope.names.lookup y=some .local:=kl
    rcases ov with z|z<;>(rw[z]at kl';cases kl')
   ·have hc0':=sub hc0
    rw[hc1]at hc0';cases hc0';exact⟨oc,(Md.keep c0 oc (I.freeC y c0 (sub hc0)) g1).1,g2⟩
  ·unfold P8
   rw[Qa,Yd,Ze,ok.len,ok.klen,I.len];omega
 have clo:Hw X.prog X.w X.K X.mg X.base (kc+1) fl s1 H1 X.stack o G:=
  aJ L ok.kind hco hgen hnc (fun pm ctv=>hbind _ pm c' ctv) (aV m9.rel kl) (fun a=>aW) hx eo (fun A outer s E hr=>(hb fl c' _ H1 A outer s E hr).nox) (fun A outer s E hr=>hxb fl c' _ H1 A outer s E hr)
 refine wpAny_call (Vi (xG X.A X.stack s1 H1 fl o G Q hr Md.inv.uT clo (NN m9.rel) ⟨_,ed,fun v G' H' ev rp=>k v G' H' (m9.trans (Dx ev (fun a=>Hv) m9.rel)) rp⟩) fun r s' hq=>?_)
 cases r with
 |error e=>exact False.elim hq
 |ok fw=>
  cases fw with
  |ret u=>exact Md.inv.after hq
  |next=>exact False.elim hq
  |brk=>exact False.elim hq
  |cont=>exact False.elim hq
end
def NP(ts:List Addr)(H:Hp):Prop:=∀P∈ts,∃ps,H P=some (.tbl ps)
def xY(K:Frag)(ts:List Addr)(n:Nat)(f:Fn):Sp:=fun vs H Q E=>NP ts H/\k9 K n f vs H Q E
theorem aX{f:Addr}{mb:Mo Fl}{cdv0:Value}(F:k7 K x qual st f fd)(hcd0:fd.code=cdv0)(S:a9 N ps (E1 st))
  (hb:∀(A:Around) (outer:List Env) (s:Shared) (H:Hp) (E:XK),NP ts H->g6 k (A.deeper (envOfC qual (E1 st) s.heap.objs.size f cdv0))->
   vM (O8 j7 P w K mg base N qual (E1 st) f cdv0 A outer s H E).nox (fun b=>H b≠none) (W3 st) mb):c6 P w K mg base j7 (k+1) f fd ps (xY K ts ps.length (k8 N.length mb)):=by
 have hpl:ps.length≤N.length:=by have:=Yu List.length S.pre;rw[Jx]at this;omega
 obtain⟨oc,od,kV,doc,pm,an,cdv,ct,osl,rfl,lk,hcd⟩:=F.ex;obtain rfl:cdv=cdv0:=hcd0;refine Gx lk hcd S (fun vs H Q E h=>?_) (fun A outer s H vs Q E hr h=>?_)
 ·obtain⟨_,G,ws,r,ws',hl,ok,rl,_⟩:=h
  have:=rl.len;rw[Qk]at this;omega
 ·obtain⟨tb,G,ws,r,ws',hl,ok,rl,e,k⟩:=h
  have hv:ws.length=vs.length:=by have:=rl.len;rwa [Qk]at this
  refine⟨_,(hb A outer s H E tb hr).nox,?_⟩;have rl':=HN (N:=N) rl ok (by omega)
  unfold k8 at e;split at e
  ·rename_i d env em
   cases e;refine⟨G,_,_,env,rl',em,?_⟩;exact fun v σ' G' H' ev rp=>k v G' H' (Bn rl ok (by omega) ev) rp
  ·rename_i ds env em
   cases e;refine⟨G,_,_,env,rl',em,?_⟩;intro a xs σ' G' H' ev nb no h' g' rp;refine k a xs G' H' (Bn rl ok (by omega) ev) (Ja nb) ?_ h' g' rp
   rintro⟨i,w',es,e1,e2,e3⟩;obtain⟨w1,w2,q1,q2,q3⟩:=FK e1;subst q3;obtain⟨q4,q5,q6,q7⟩:=HQ (ok _ (Jb q1)) e2;have hi:i<vs.length:=by have:=(Qg.mp q1).1;omega
   exact no ⟨i,_,es,q2,q4,by rw[(ev.par i w2 q2 q5).1,AF hi];exact e3⟩
  ·rename_i env em
   cases e;refine⟨G,_,_,env,rl',em,?_⟩;exact fun σ' G' H' ev=>k .non G' H' (Bn rl ok (by omega) ev) (by simp only[c4])
  ·cases e
theorem aY{mb:OU}{fa:Addr}{fn:Fn}{vs:List Value}{ns:List Int}
  (KX:K.In s₁.heap)(hnt:noTabs K=true)(hts:∀p∈ts,s₁.heap.get? p=some (tabObj #[]))(hcs:∀p∈ts,∃c,codeHdIn K c p=true)(hns:s₁.heap.Ns mainGlobals mg)(hb:s₁.heap.Ns builtinsNs mb)(hbb:∀x:Str,x≠"__name__"->mb x=bootBuiltins x)(hlim:s₁.heap.NoLimit)(hbm:Ah mg s₁.heap)(hg:s₁.gens= #[])
  (ha:s₁.heap.get? a=some {cls:=.type "list",data:=.seq vs.toArray})(hi:IntsAre vs ns)(hl:ns.length≤sizeLine)(hr:g6 k callerA)
  (F:∀base:Heap,K.In base->base.Ns mainGlobals mg->Ah mg base->c6 P w K mg base j7 k fa fd [x] (xY K ts 1 fn))(hbind:∀(s:Shared) (u:Value),BindsTo s fd ⟨[u],[]⟩ [(x,u)])
  (ht:∃ws',fn [.dat (.lst (ns.map D.int))]=some (.d (.bl true),ws')):
  codeAny (model P w) callerA (.call (.ref fa) ⟨[.ref a],[]⟩) (fun r s'=>r=.ok (.ret (.bool true))/\OldK s₁.heap s'.heap/\s'.os=s₁.os/\AllBare s'.gens) s₁:=by
 have rv:=MB hi
 have lenV:=hi.length
 have nat:a∉ts:=fun z=>by have:=hts a z;rw[ha]at this;cases this
 have kno:∀{b:Addr}{o:Obj},K.lookup b=some o->b∉ts:=fun{b o} e z=>by
  have h2:=Qw.mp hnt (b,o) (mem_of_lookupK e)
  have h3:=KX b o e
  rw[hts b z]at h3;cases h3;cases h2
 have core:∀(H:Hp),(∀b,H b=none\/(b=a/\∃o xs,H b=some (.frz o (.lst xs)))\/(b∈ts/\H b=some (.tbl #[])))->(∀b∈ts,H b=some (.tbl #[]))->qK K H a (ns.map V.int)->qV P w H s₁.heap->(H a≠none->K.lookup a=none)->
   codeAny (model P w) callerA (.call (.ref fa) ⟨[.ref a],[]⟩) (fun r s'=>r=.ok (.ret (.bool true))/\OldK s₁.heap s'.heap/\s'.os=s₁.os/\AllBare s'.gens) s₁:=by
  intro H hO hT hS hok hK;have base_of:∀{b:Addr}{o:Obj},s₁.heap.get? b=some o->H b=none->(Z9 s₁.heap H).get? b=some o:=fun e n=>Sk e n
  have noA:∀{b:Addr}{o:Obj},s₁.heap.get? b=some o->o.cls≠.type "list"->o.cls≠.none->H b=none:=fun{b o} e d1 d2=>by
   rcases hO b with q|⟨q,_⟩|⟨q,_⟩
   ·exact q
   ·subst q;rw[ha]at e;cases e;exact absurd rfl d1
   ·rw[hts b q]at e;cases e;exact absurd rfl d2
  have noD:∀{b:Addr}{o:Obj}{es:Array DictEntry}{ep:Nat},s₁.heap.get? b=some o->o.data=.dict es ep->H b=none:=fun{b o es ep} e d=>by
   rcases hO b with q|⟨q,_⟩|⟨q,_⟩
   ·exact q
   ·subst q;rw[ha]at e;cases e;cases d
   ·rw[hts b q]at e;cases e;cases d
  have nsK:∀{b:Addr}{m:OU},s₁.heap.Ns b m->(Z9 s₁.heap H).Ns b m:=fun{b m} ⟨o,es,ep,e,d,r⟩=>⟨o,es,ep,base_of e (noD e d),d,r⟩
  have hKb:K.In (Z9 s₁.heap H):=fun b o e=>base_of (KX b o e) (by
   rcases hO b with q|⟨q,o',xs,z⟩|⟨q,_⟩
   ·exact q
   ·subst q;rw[hK (by rw[z];simp)]at e;cases e
   ·exact absurd q (kno e))
  have hM:Mod K mg (Z9 s₁.heap H):=⟨hKb,nsK hns,⟨mb,nsK hb,hbb⟩,let ⟨mc,h1,h2⟩:=hlim;⟨mc,nsK h1,h2⟩⟩
  have hBm:Ah mg (Z9 s₁.heap H):=by
   obtain⟨bm,o,b1,b2,b3,b4,b5,b6,b7⟩:=hbm;exact⟨bm,o,b1,b2,b3,base_of b4 (noA b4 (by rw[b5];simp) (by rw[b5];simp)),b5,b6,b7⟩
  have e0:tR P w K mg (Z9 s₁.heap H) callerA [] s₁ H:=⟨rfl,hM,fun b o e=>Sl e,Nat.le_of_eq (Sj _ _),trivial,fun b hb=>absurd (show b∈([]:List Addr)from hb) (by simp),hok,.of_eq hg⟩
  have sp:xY K ts 1 fn [.ref a] H (fun v _=>v=.bl true) (fun _ _ _=>False):=by
   obtain⟨ws',e⟩:=ht;refine⟨fun p hp=>⟨#[],hT p hp⟩,fun b=>if b∈ts then none else H b,[.dat (.lst (ns.map D.int))],.d (.bl true),ws',rfl,fun v hv=>.inl ?_,⟨fun b o z=>?_,rfl,fun i d z=>?_,fun i v ds e1 e2=>?_,fun i j v v' ds es a e1 e2=>?_,fun i w a e1 e2=>?_,fun b h=>h.elim,fun p ps z=>?_,fun b o z ps y=>?_⟩,e,?_⟩
   ·simp at hv;exact⟨_,hv⟩
   ·split at z
    ·cases z
    ·exact z
   ·cases i with
    |zero=>
     simp at z
     subst z;refine⟨.ref a,rfl,?_⟩;simp only[c4];refine⟨a,_,rfl,?_,FW ns⟩
     rcases hS with(q|⟨o,q⟩)|q
     ·exact .inl (.inl ((Ql nat).trans q))
     ·exact .inl (.inr ⟨o,(Ql nat).trans q⟩)
     ·exact .inr q
    |succ i=>simp at z
   ·cases i with
    |zero=>simp at e1;subst e1;cases e2
    |succ i=>simp at e1
   ·cases i with
    |zero=>simp at e1;subst e1;cases e2
    |succ i=>simp at e1
   ·cases i with
    |zero=>simp at e1;subst e1;cases e2
    |succ i=>simp at e1
   ·rcases hO p with q|⟨_,o,xs,q⟩|⟨_,q⟩
    ·rw[q]at z;cases z
    ·rw[q]at z;cases z
    ·rw[q]at z;cases z
     exact⟨trivial,fun pos v y=>by cases y⟩
   ·split at z
    ·cases z
    ·rename_i hb
     rcases hO b with q|⟨_,o',xs,q⟩|⟨q,_⟩
     ·rw[q]at z;cases z
     ·rw[q]at z;cases z;cases y
     ·exact hb q
   ·intro v G' H' _ rp
    simpa only[c4]using rp
  refine Vi ((F _ hKb (nsK hns) hBm).run callerA [] s₁ H ⟨[.ref a],[]⟩ [.ref a] [.ref a] _ _ hr e0 (hbind s₁ (.ref a)) (.cons rfl .nil) sp) fun r s' h=>?_
  cases r with
  |error e=>exact False.elim h
  |ok fl=>
   cases fl with
   |next=>exact False.elim h
   |brk=>exact False.elim h
   |cont=>exact False.elim h
   |ret u=>
    obtain⟨v,H',os,bare,un,hok',r',q⟩:=h;have q':v=.bl true:=q;subst q';obtain rfl:u=Value.bool true:=r';refine⟨rfl,⟨fun b o e=>?_,fun b o e=>un.there b o e (by simp)⟩,os,bare⟩
    rcases hO b with q|⟨_,ob,xs,z⟩|⟨hb,z⟩
    ·exact .inl (un.keep b o e q (by intro z;exact absurd (show b∈([]:List Addr)from z) (by simp)) (by simp))
    ·have z2:=un.frzs b ob _ z
     obtain⟨e1,_⟩:=hok b _ z;obtain⟨e2,_⟩:=hok' b _ z2;rw[e]at e1;cases e1;exact .inl e2
    ·obtain⟨more,z2⟩:=un.tbls b #[] z
     have e2:s'.heap.get? b=some {cls:=.none,data:=.fields (#[]++more)}:=hok' b _ z2
     have e3:=hts b hb
     rw[e]at e3;cases e3;obtain⟨c,hc⟩:=hcs b hb;exact .inr (.inl ⟨((codeHd_of_K KX hc).tab (hts b hb)).isCodeTable,rfl,#[],more,rfl,e2⟩)
 cases hk:K.lookup a with
 |some o=>
  have e:=KX a o hk
  rw[ha]at e;cases e;refine core (fun b=>if b∈ts then some (.tbl #[])else none) (fun b=>?_) (fun b hb=>Qn hb) (.inr ⟨_,vs.toArray,_,hk,rfl,rfl,rfl,by rw[Qm,lenV];exact hl,by simpa using rv⟩) (fun b u z=>?_) fun z=>absurd (Ql nat) z
  ·by_cases hb:b∈ts
   ·exact .inr (.inr ⟨hb,Qn hb⟩)
   ·exact .inl (Ql hb)
  ·dsimp only at z
   split at z
   ·rename_i hb;cases z;exact hts b hb
   ·cases z
 |none=>
  refine core (fun b=>if b=a then some (.frz {cls:=.type "list",data:=.seq vs.toArray} (.lst (ns.map V.int)))else if b∈ts then some (.tbl #[])else none) (fun b=>?_) (fun b hb=>by
   have hne:b≠a:=fun z=>nat (by rw[←z];exact hb)
   show(if b=a then _ else if b∈ts then _ else _)=_
   rw[Ql hne,Qn hb]) (.inl (.inr ⟨{cls:=.type "list",data:=.seq vs.toArray},Qn rfl⟩)) (fun b u z=>?_) fun _=>hk
  ·by_cases hb:b=a
   ·exact .inr (.inl ⟨hb,_,_,Qn hb⟩)
   ·by_cases hb2:b∈ts
    ·exact .inr (.inr ⟨hb2,by rw[Ql hb,Qn hb2]⟩)
    ·exact .inl (by rw[Ql hb,Ql hb2])
  ·dsimp only at z
   split at z
   ·rename_i hb
    cases z;subst hb;exact⟨ha,by rw[Qk];exact hl,vs,_,rv,ha⟩
   ·split at z
    ·rename_i hb;cases z;exact hts b hb
    ·cases z
theorem aZ{l:OpenLaw}{q:Program}{loose:List Str}{XP:(OU)->Heap->Prop}{YP:World->Heap->Prop}{d:DefRec}{K:Params->Frag}{fn:Fn}
  (hn:l.most=some 63)(hdf:d.params.defaults=[])(hr:g6 k callerA)(hY:∀(w:World) (h:Heap),YP w h->(K w.params).In h/\∀p∈ts,h.get? p=some (tabObj #[]))
  (F:∀(w:World) (mg:OU) (fa:Addr) (h:Heap),(K w.params).In h->h.Ns mainGlobals mg->mg d.name=some (.ref fa)->
   ∃fd:FuncData,(∀(s:Shared) (u:Value),BindsTo s fd ⟨[u],[]⟩ [(x,u)])/\noTabs (K w.params)=true/\(∀p∈ts,∃c,codeHdIn (K w.params) c p=true)/\∀base:Heap,(K w.params).In base->base.Ns mainGlobals mg->Ah mg base->c6 l.prog w (K w.params) mg base j7 k fa fd [x] (xY (K w.params) ts 1 fn))
  (ht:∀ns:List Int,ns.length≤63->∃ws',fn [.dat (.lst (ns.map D.int))]=some (.d (.bl true),ws')):
  WalkO q loose XP YP l.row.toRowW d [] (fun f vs=>PySem.call f vs):=by
 refine Att.tS hn hdf fun w s₀ s₁ mg mb fa o pm cd doc a vs ns G Y ho hd hcd hmg hobj hints hlen hg=>?_
 obtain⟨KX,hT⟩:=hY w _ Y;obtain⟨fd,hb,hnt,hcs,hF⟩:=F w mg fa _ KX G.T.g hmg;have hbm:Ah mg s₁.heap:=by
  obtain⟨bm,ob,b1,b2,b3,b4,b5,b6⟩:=G.T.bmain;refine⟨bm,ob,b1,b2,fun z=>?_,b3,b4,b5,b6⟩
  obtain⟨o,es,ep,e,hd,_⟩:=G.T.g;rw[z,e]at b3;cases b3;rw[hd]at b6;cases b6
 exact aY KX hnt hT hcs G.T.g G.T.b G.T.builtins G.T.nolimit hbm hg hobj hints (Zp hlen (by decide)) hr hF hb (ht ns hlen)
theorem bD{S:Str}(h:AI K S names=true)(hn:n∈names):BI K n=true:=let ⟨_,F⟩:=Cr h hn;F.one
def Fe(K:Frag)(cd:Value)(P:Addr):Bool:=match cd with
 |.ref c=>codeHdIn K c P
 |_=>false
theorem NQ{P:Addr}(h:Fe K cd P=true):∃c,cd=.ref c/\codeHdIn K c P=true:=by
 unfold Fe at h;split at h
 ·exact⟨_,rfl,h⟩
 ·cases h
theorem bE{P:Addr}(h1:Fe K cd P=true)(h2:codeIn K cd qual=true)(h3:vL K P qual=true)(hb:Ah mg base):sF K mg base cd qual P:=by
 obtain⟨c,rfl,hc⟩:=NQ h1;exact⟨⟨c,rfl,hc,h2⟩,h3,hb⟩
end L2.Mir
namespace L2.Mir
open PySem PySem.Spec PyProof.Rows PySem.W
variable{A:Around}{B:OA}{C:Addr->List Key->Prop}{E Q:OE}{H:Hp}{J:It}{K:Qz}{P prog:Program}{X:Cx}{a mi ms:Mo (List D)}{acc it:Value}{b:Addr}{d i more n:Nat}{e elt iter target tg:Expr}{env:Env}{gens:List Comprehension}{ifs:List Expr}{k:List Key}{m ma:Mo D}{p:Pos}{pins:OX}{s:Shared}{scope:Scope}{v:V}{w:World}{wi:TI}{x:Str}{σ:St}
def tJ:List D->Option (List Bool)
 |[]=>some []
 |.bl i::r=>(tJ r).map fun l=>i::l
 |_::_=>none
theorem NR{K:Qz}{G:Hp}:∀{ds:List D}{xs:List V}{ns:List Bool},C3 K G xs ds->tJ ds=some ns->xs=ns.map V.bl
 |[],_,ns,r,e=>by simp only[C3]at r;subst r;cases e;rfl
 |d::ds,_,ns,r,e=>by
  simp only[C3]at r;obtain⟨x,t,rfl,q,r⟩:=r;cases d<;>first|(exact absurd (show(none:Option (List Bool))=some ns from e) (by simp))|skip
  obtain⟨l,e1,e2⟩:=F4 (show(tJ ds).map _=some ns from e)
  subst e2;simp only[c4]at q;subst q;rw[NR r e1];rfl
def Hz:D->D->Option D
 |.lst ds,.bl b=>(tJ ds).bind fun bs=>(bs.findIdx? fun y=>y==b).map fun(j:Nat)=>D.int (j:Int)
 |_,_=>none
section
variable{pos:Pos}{o:Expr}{mb:Mo D}
theorem bF(ns:List Bool):(ns.map V.bl).all W2=true:=by
 induction ns with
 |nil=>rfl
 |cons n ns ih=>simp[W2,ih]
def bG(K:Frag):V->List V->Hp->VK->Prop:=fun x vs H Q=>∃(p:Addr) (bs:List Bool) (b:Bool) (j:Nat),x=.ref p/\vs=[.bl b]/\qK K H p (bs.map V.bl)/\(bs.findIdx? fun y=>y==b)=some j/\Q (.int j) H
theorem bH:MtM X "list.index" (bG X.K):=by
 intro pins s σ H x vs v us Q I rx rv h;obtain⟨p,bs,b,j,rfl,rfl,hq,hj,q⟩:=h;cases rx;obtain⟨u,rfl,ru⟩:=rv.one;have ru':=ru;cases ru;obtain⟨its,r,pl,hz⟩:=I.list hq;obtain⟨⟨oc,od,odt,osl⟩,n,e,hc,hd,hdt⟩:=pl;dsimp only at hc hd hdt;subst hc hd hdt;obtain⟨hjl,hj1,hj2⟩:=List.findIdx?_eq_some_iff_getElem.mp hj;have hlen:its.length=bs.length:=by have:=r.length;simpa using this.symm
 have item:∀(m:Nat) (hm:m<its.length),its[m]=.bool (bs[m]'(by omega)):=fun m hm=>by
  obtain⟨u,h1,h2⟩:=r.get (i:=m) (x:=.bl (bs[m]'(by omega))) (by simp[show m<bs.length by omega])
  rw[Zf hm]at h1;cases h1;exact h2
 refine Xd PySem.F.slot_list_index ⟨_,e,rfl⟩ PySem.F.entry_list_index (PySem.F.args_list_index_2 _ _)
  (SeqAt.list_indexAt p its.toArray n none osl (.bool b) (t7 (.bl b)) j (by simpa using (by omega:j<its.length)) ?_ ?_ ?_) ⟨?_,fun w hw=>Ca (x:=.bl b) ru' rfl r (bF bs) w (by simpa using hw),⟨.int j,H,I.tok _,⟨_,rfl⟩,q⟩⟩
 ·have:its.length≤sizeLine:=by rw[hlen];simpa using hz
  rw[Je]at this
  omega
 ·rw[List.getElem_toArray,item j (by omega)]
  show(bs[j]==b)=true;exact hj1
 ·intro m hm hlt
  rw[List.getElem_toArray,item m (by simpa using hm)]
  show(bs[m]==b)=false;exact Bool.eq_false_iff.mpr (hj2 m hlt)
 ·exact e
theorem NU{apos cpos:Pos}(ho:ED X B o ma)(he:ED X B e mb)
  (hbase:attributeBase o "index" X.env (eval o X.env)=eval o X.env:=by rfl)
  (hfew:((backTo cpos (starEach [e] X.env)).all (fun x=>!x.1)&&(backToKw cpos (keywordEach [] X.env)).all (fun x=>x.1.isSome)
   &&decide ([e].length+([]:List Keyword).length+(if([]:List Keyword).isEmpty then 0 else 1)<30))=true:=by rfl)
  (hline:(apos.endLine==cpos.line)=true:=by rfl)(hs:starEach [e] X.env=(false,eval e X.env)::starEach [] X.env:=by rfl)(hplain:(backTo cpos (starEach [] X.env)).any (·.1)=false:=by rfl):
  ED X B (.Call (.Attribute o "index" apos) [e] [] cpos) (B6 Hz ma mb):=by
 refine c8 (Gz PySem.F.plainAttrs_list PySem.F.slot_list_index PySem.F.type_list_index bH ho (R0 he AA hs) hbase hfew hline hs hplain) ?_
 rintro σ H Q ⟨G,env,d,env',rl,e,k⟩;obtain⟨⟨d1,a8⟩,e1,e2⟩:=C6 e;obtain⟨⟨d2,i5⟩,e3,e4⟩:=C6 e2;obtain⟨d3,e5,e6⟩:=F4 e4;cases e6;dsimp only at e3 e5;unfold Hz at e5;split at e5
 ·rename_i ds b
  obtain⟨bs,e7,e8⟩:=C6 e5;obtain⟨j,e9,e10⟩:=F4 e8;cases e10;refine .bind rl e1 fun v G1 H1 m9 r1=>?_
  simp only[c4]at r1;obtain⟨a,xs,rfl,hq,rp⟩:=r1;refine⟨.inl ⟨rfl,xs,m9.rel.sub.sqL hq⟩,.bind m9.rel e3 fun v2 G2 H2 f7 r2=>?_⟩
  simp only[c4]at r2;subst r2;have hb:=NR rp e7;subst hb;exact⟨a,bs,b,j,rfl,rfl,(f7.same.trans f7.rel.sub).sqL hq,e9,k _ G2 H2 (m9.trans f7) (by simp only[c4])⟩
 ·cases e5
end
open AutoSeq1 (wpAny_loadPart')
section
variable{pos:Pos}{a b c:Expr}
end
section
variable{pos:Pos}
end
def X3(elt:Expr)(gens:List Comprehension)(scope:Scope)(pos:Pos)(d:Nat)(acc:Value)(env:Env):Sem Unit:=match gens[d+1]? with
 |some g'=>do
  let x←eval g'.iter env
  standAt g'.iter.pos
  let x←if g'.is_async !=0 then foldedIterable g'.iter x else foldedSetIterable g'.iter env x
  let _←runOwn (.compStart (.ListComp elt gens scope pos) (d+1) (←holding [x] (if g'.is_async !=0 then asyncIter x else pyIter x)) acc env) env
 |none=>do let _←call (.builtin "list.append") [acc,←eval elt env]
theorem bI{pos:Pos}(hd:gens[d]? =some ⟨target,iter,ifs,0⟩):
  compTurn (.ListComp elt gens scope pos) d it acc env=(do
   standAt iter.pos
   match←pyNext it with
   |none=>pure (.done .next)
   |some v=>
    letOwnedTupleGo target it v
    assign target env v
    let mut ok:=true
    for c in ifs do
     if ok then ok←isTrue c env (eval c env)
    if ok then
     X3 elt gens scope pos d acc env
    again (.compLoop (.ListComp elt gens scope pos) d it acc env)):=by
 unfold compTurn X3;dsimp only;rw[hd];cases gens[d+1]? with
 |none=>rfl
 |some g'=>
  show(standAt iter.pos>>=fun _=>pyNext it>>=fun r=>_)=_
  refine Yu (standAt iter.pos>>= ·) (funext fun _=>Yu (pyNext it>>= ·) (funext fun r=>?_))
  cases r with
  |none=>rfl
  |some v=>
   refine Yu (letOwnedTupleGo target it v>>= ·) (funext fun _=>Yu (assign target env v>>= ·) (funext fun _=>Yu (_>>= ·) (funext fun ok=>?_)))
   cases ok with
   |false=>rfl
   |true=>
    by_cases ha:(g'.is_async !=0)=true
    ·simp only[ha,Zn,bind_assoc,pure_bind]
    ·simp only[ha,Zn,Ys,bind_assoc,pure_bind,Zx]
section
variable{R:Result->Shared->Prop}
theorem NV{pos:Pos}(hd:gens[d]? =some ⟨target,iter,ifs,0⟩)(I:Nat->Shared->Prop)
  (turn:∀n s,I n s->wpAny (model prog w) A (pyNext it) (fun r s₁=>match r with
   |none=>R (.ok .next) s₁
   |some v=>wpAny (model prog w) A (letOwnedTupleGo target it v) (fun _ s₁'=>wpAny (model prog w) A (assign target env v) (fun _ s₂=>
     wpAny (model prog w) A (forIn ifs true fun c r=>if r=true then do let ok←isTrue c env (eval c env);pure (ForInStep.yield ok)else pure (ForInStep.yield r)) (fun ok s₃=>
      if ok=true then wpAny (model prog w) A (X3 elt gens scope pos d acc env) (fun _ s₅=>∃m,m<n/\I m s₅) (fun _ _=>False) s₃
      else∃m,m<n/\I m s₃) (fun _ _=>False) s₂) (fun _ _=>False) s₁') (fun _ _=>False) s₁) (fun _ _=>False) s)
  (n:Nat)(h:I n s):
  codeAny (model prog w) A (.compLoop (.ListComp elt gens scope pos) d it acc env) R s:=by
 refine codeAny_loop rfl I (fun n s hI=>?_) n h
 show wpAny _ A ((compTurn (.ListComp elt gens scope pos) d it acc env).onRaise (fun x=>do noteFrame x env;theTreesLotGoes x)) _ _ s
 refine wpAny_noted ?_
 rw[bI hd];refine Qq (Uo (Qq (Qi (turn n s hI) (fun r s₁ h₁=>?_) fun _ _ h'=>h'.elim)))
 cases r with
 |none=>exact Qv h₁
 |some v=>
  refine Qq (Qi h₁ (fun _ s₁' h₁'=>?_) fun _ _ h'=>h'.elim)
  refine Qq (Qi h₁' (fun _ s₂ h₂=>Qq (Qi h₂ (fun ok s₃ h₃=>?_) fun _ _ h'=>h'.elim)) fun _ _ h'=>h'.elim)
  cases ok with
  |false=>exact Qv ⟨rfl,h₃⟩
  |true=>exact Qq (Qi h₃ (fun _ s₅ h₅=>Qv ⟨rfl,h₅⟩) fun _ _ h'=>h'.elim)
theorem bJ{pos:Pos}(hd:gens[d]? =some ⟨target,iter,ifs,0⟩)
  (h0:codeAny (model prog w) A (.compLoop (.ListComp elt gens scope pos) d it acc env) R s)
  (h:wpAny (model prog w) A (pyIter it) (fun it' s'=>codeAny (model prog w) A (.compLoop (.ListComp elt gens scope pos) d it' acc env) R s')
   (notedBy (model prog w) A env fun x s'=>R (.error x) s') s):
  codeAny (model prog w) A (.compStart (.ListComp elt gens scope pos) d it acc env) R s:=by
 refine codeAny_of_tree ?_
 show wpAny _ _ ((compStart (.ListComp elt gens scope pos) d it acc env).onRaise (fun x=>do noteFrame x env;standAt theWindowsPlace)) _ _ s
 refine wpAny_notedAt ?_
 unfold compStart;rw[show clausesOf (.ListComp elt gens scope pos)=gens from rfl,hd]
 show wpAny _ _ (ask>>=_) _ _ s;refine Qq (wpAny_askSetting (wpAny_ite ?_));split
 ·first
   |exact Qq (Qv (Qv (And.intro rfl h0)))
   |exact Qv (And.intro rfl h0)
 ·first
   |exact Qq (Xq (Qq (Uo (Qq (Qi h (fun it' s' h'=>Qv (And.intro rfl h')) fun _ _ x=>x)))))
   |(refine Qq (Xq ?_);show wpAny _ _ (standAt iter.pos>>=_) _ _ s;exact Qq (Uo (Qq (Qi h (fun it' s' h'=>Qv (And.intro rfl h')) fun _ _ x=>x))))
end
abbrev Z0:=St->Hp->(St->Hp->Prop)->Prop
def Ff(J:It)(g:TG)(tt:TT)(act:Z0)(σ₀:St)(H₀:Hp)(Q:St->Hp->Prop):Prop:=
 ∃W:Nat->Nat->St->Hp->Prop,(∃m,W 0 m σ₀ H₀)/\∀i m σ H,W i m σ H->
  (J.stop i H/\Q σ H)\/(J.go i H/\∀x H',J.yld i H x H'->g x σ H' fun σ2 H2=>tt σ2 H2 fun b H3=>
   if b=true then act σ2 H3 fun σ4 H4=>∃m',m'<m/\W (i+1) m' σ4 H4 else∃m',m'<m/\W (i+1) m' σ2 H3)
def Ai(X:Cx)(sem:Sem Unit)(act:Z0):Prop:=∀(pins:OX) (s:Shared) (σ:St) (H:Hp) (Q:St->Hp->Prop),Inv X pins σ H s->act σ H Q->
 wpAny (model X.prog X.w) X.A sem (fun _ s'=>∃σ' H',Inv X pins σ' H' s'/\Q σ' H') (fun _ _=>False) s
def NW(te:TE)(p:Addr):Z0:=fun σ H Q=>te σ H fun y H4=>∃ys,H4 p=some (.lst ys)/\ys.length<sizeLine/\Q σ (upd H4 p (.lst (ys++[y])))
def NX(wi:TI)(g:TG)(tt:TT)(act:Z0):Z0:=fun σ H Q=>wi σ H fun J H1=>Ff J g tt act σ H1 Q
section
variable{pos:Pos}
theorem bL{te:TE}{p:Addr}(hx:∀e s,¬ X.xe e s)(hn:gens[d+1]? =none)(he:PE X elt te):Ai X (X3 elt gens scope pos d (.ref p) X.env) (NW te p):=by
 intro pins s σ H Q I h;unfold X3;rw[hn];refine Qq (Qi (he pins s σ H _ I h) (fun v s1 ⟨y,H1,I1,r1,ys,hys,hl,q⟩=>?_) fun e s' z=>(hx e s' z).elim)
 refine Qq (Qi (Lz (X:=X) _ s1 σ H1 (.ref p) [y] (.ref p) [v] (fun _ H2=>Q σ H2) I1 rfl (.cons r1 .nil) ⟨p,ys,y,rfl,rfl,hys,hl,q⟩) (fun _ s2 ⟨_,H2,I2,_,w2⟩=>Qv ⟨σ,H2,I2,w2⟩) fun e s' z=>(hx e s' z).elim)
theorem bM{g:TG}{tt:TT}{act:Z0}(hx:∀e s,¬ X.xe e s)(hc:X.calm=true)(hd:gens[d+1]? =some ⟨tg,iter,ifs,0⟩)(hi:PI X tg iter wi)(hg:PG X tg g)(ht:U0 X ifs tt)
  (ha:Ai X (X3 elt gens scope pos (d+1) acc X.env) act)(hs:∀x,foldedSetIterable iter X.env x=pure x):Ai X (X3 elt gens scope pos d acc X.env) (NX wi g tt act):=by
 intro pins s σ H Q I h;unfold X3;rw[hd];have nof:∀(e:Value) (s:Shared),X.xe e s->False:=fun e s z=>hx e s z
 refine Qq (Qi (hi pins s σ H _ I h) (fun v s1 h1=>?_) fun e s' z=>(hx e s' z).elim)
 refine Qq (Uo ?_);show wpAny _ _ (foldedSetIterable iter X.env v>>=_) _ _ s1;refine Qq (wpAny_of_eq (hs v) ?_);show wpAny _ _ (holding [v] (pyIter v)>>=_) _ _ s1;refine Qq (Yi (Qi h1 (fun itv s2 h2=>?_) fun e s' z=>(hx e s' z).elim))
 obtain⟨it,fp,tn,J,H2,e,I2,T,st2,f2,W,⟨m0,w0⟩,turn⟩:=h2;subst e;have stat:∀{H':Hp},(∀b∈fp,H' b=none)->∀b∈fp,S6 X pins H' b:=fun hn b hb=>⟨hn b hb,(f2 b hb).2⟩
 have loop:codeAny (model X.prog X.w) X.A (.compLoop (.ListComp elt gens scope pos) (d+1) (.ref it) acc X.env) (fun r s'=>match r with|.ok f=>wpAny (model X.prog X.w) X.A (pure ()) (fun _ s'=>∃σ' H',Inv X pins σ' H' s'/\Q σ' H') (fun _ _=>False) s'|.error e=>cameBackBy (model X.prog X.w) X.A X.env (fun _ _=>False) e s') s2:=by
  refine NV hd (fun n s'=>∃i σ' H',Inv X pins σ' H' s'/\tn i s'.heap/\(∀b∈fp,H' b=none)/\W i n σ' H') ?_ m0 ⟨0,σ,H2,I2,st2,fun b hb=>(f2 b hb).1,w0⟩
  rintro n s3 ⟨i,σ3,H3,I3,st3,fr3,w3⟩
  rcases turn i n σ3 H3 w3 with⟨stop,qn⟩|⟨go,step⟩
  ·refine Qi (T.done X rfl rfl rfl hc i pins s3 σ3 H3 (fun _ _=>False) I3 (stat fr3) st3 stop) (fun r s4 ⟨hr,I4⟩=>?_) fun _ _ z=>z
   subst hr;exact Qv ⟨σ3,H3,I4,qn⟩
  ·refine Qi (T.item X rfl rfl rfl hc i pins s3 σ3 H3 (fun _ _=>False) I3 (stat fr3) st3 go) (fun r s4 ⟨u,hr,h4⟩=>?_) fun _ _ z=>z
   subst hr;refine Qi h4 (fun _ s5 ⟨x,H5,I5,r5,y5,st5,fr5⟩=>?_) fun _ _ z=>z
   have I5':=I5.pinned (stat fr5) (T.obj _ _ st5)
   have back:∀{σ8:St}{H8:Hp}{s8:Shared}{m':Nat},Inv X (pins++CU fp s5.heap) σ8 H8 s8->m'<n->W (i+1) m' σ8 H8->∃m,m<n/\∃i σ' H',Inv X pins σ' H' s8/\tn i s8.heap/\(∀b∈fp,H' b=none)/\W i m σ' H':=fun{σ8 H8 s8 m'} I8 hm w8=>by
    refine⟨m',hm,i+1,σ8,H8,I8.unpinned,T.keep _ _ _ st5 fun b hb o e=>(I8.pin (b,o) (Qe _ (Qe _ (CV hb e)))).1,fun b hb=>?_,w8⟩
    obtain⟨o,e,d⟩:=T.obj _ _ st5 b hb;exact(I8.pin (b,o) (Qe _ (Qe _ (CV hb e)))).2.1
   refine Qi (hg _ s5 σ3 H5 x u _ I5' r5 (step x H5 y5)) (fun _ s6 ⟨σ6,H6,I6,q6⟩=>?_) nof
   refine Qi (ht _ s6 σ6 H6 _ I6 q6) (fun b s7 ⟨H7,I7,q7⟩=>?_) nof
   cases b with
   |false=>
    simp only[Zx,Ys]at q7 ⊢;obtain⟨m',hm,w7⟩:=q7;exact back I7 hm w7
   |true=>
    simp only[Zn]at q7 ⊢;exact Qi (ha _ s7 σ6 H7 _ I7 q7) (fun _ s8 ⟨σ8,H8,I8,m',hm,w8⟩=>back I8 hm w8) fun _ _ z=>z
 refine Qq (wpAny_runOwn (h:=none) (bJ hd loop (Qi (T.self X.A 0 s2 _ (fun _ _=>False) st2 loop) (fun _ _ q=>q) fun _ _ q=>q.elim)))
end
section
variable{N':List Str}{keep:List Bool}{gs:List Comprehension}{g:TG}{tt:TT}{act:Addr->Z0}{pos:Pos}
theorem NY{it:Addr}{fp:List Addr}{tn:Nat->Heap->Prop}{Qf:Addr->Hp->Prop}{RR:Value->Addr->Result->Shared->Prop}
  (ok:pO X N' scope keep more)(hc:X.calm=true)(hg:∀s H fp,PG (J5 X N' scope s H fp) tg g)(ht:∀s H fp,U0 (J5 X N' scope s H fp) ifs tt)(he:∀s H fp p,Ai (J5 X N' scope s H fp) (X3 elt (⟨tg,iter,ifs,0⟩::gs) scope pos 0 (.ref p) (J5 X N' scope s H fp).env) (act p))
  (I:Inv X pins σ H s)(T:Turn X.prog X.w X.K tg J fp it tn)(st:tn 0 s.heap)(hf:∀b∈fp,S6 X pins H b)
  (run:∀p,H p=none->Ff J g tt (act p) (P8 keep more σ) (upd H p (.lst [])) (fun _ H'=>Qf p H'))
  (hRR:∀p C s' H' m,Inv X pins σ H' s'->Qf p H'->s'.heap.Ns C m->C≠X.env.locals->(∀x c,X.env.cells.lookup x=some c->c≠C)->H' C=none->(∀σ'' H'' s'' h',Inv X pins σ'' H'' s''->H'' C=none->Heap.SameBut C s''.heap h'->Inv X pins σ'' H'' {s'' with heap:=h'})->RR (.ref p) C (.ok .next) s'):
  wpAny (model X.prog X.w) X.A (newList []) (fun acc s₃=>wpAny (model X.prog X.w) X.A (newFunctionEnv scope X.env.globals (P7 X.env.cells scope.names []) [] X.env.qual none .none (some X.env)) (fun cenv s₄=>
   codeAny (model X.prog X.w) X.A (.compStart (.ListComp elt (⟨tg,iter,ifs,0⟩::gs) scope pos) 0 (.ref it) acc {cenv with scope:=relabel scope X.env}) (RR acc cenv.locals) s₄) E s₃) E s:=by
 have hp0:H s.heap.objs.size=none:=I.hok.fresh (Qp _)
 refine Zd ?_
 have I3:Inv X pins σ (upd H s.heap.objs.size (.lst [])) {s with heap:=s.heap.push {cls:=.type "list",dict:=none,data:=.seq ([]:List Value).toArray}}:=
  I.laid (t':=s.toks) (fun b u e=>Qx _ e) (Qp _) ⟨Jo _,[],0,.nil,Qd _ rfl⟩
 have fpOld:∀b∈fp,b<s.heap.objs.size:=fun b hb=>by
  obtain⟨o,e,_⟩:=T.obj 0 _ st b hb;exact Qu e
 have hf3:∀b∈fp,S6 X pins (upd H s.heap.objs.size (.lst [])) b/\b<(s.heap.push {cls:=.type "list",dict:=none,data:=.seq ([]:List Value).toArray}).objs.size:=fun b hb=>by
  refine⟨⟨by rw[D3 (Qs (fpOld b hb))];exact(hf b hb).1,(hf b hb).2⟩,?_⟩
  rw[Yq];exact Jh (fpOld b hb)
 have st3:tn 0 (s.heap.push {cls:=.type "list",dict:=none,data:=.seq ([]:List Value).toArray}):=T.keep 0 _ _ st fun b hb o e=>Qx _ e
 generalize hs3:({s with heap:=s.heap.push {cls:=.type "list",dict:=none,data:=.seq ([]:List Value).toArray}}:Shared)=s3 at I3 ⊢
 have hs3h:s3.heap=s.heap.push {cls:=.type "list",dict:=none,data:=.seq ([]:List Value).toArray}:=by rw[←hs3]
 rw[←hs3h]at hf3 st3;generalize hp:s.heap.objs.size=p at hp0 I3 hf3 ⊢;generalize hH3:upd H p (.lst [])=H3 at I3 hf3;refine Wc _ ?_
 have I4:=Wb ok I3 hf3
 generalize hs4:({s3 with heap:=pushCells (s3.heap.push {cls:=.type "dict",data:=.dict #[]}) scope.names}:Shared)=s4 at I4 ⊢
 have st4:tn 0 s4.heap:=T.keep 0 _ _ st3 fun b hb o e=>by rw[←hs4];exact Vo _ _ _ _ (Qx _ e)
 obtain⟨W,⟨m0,w0⟩,turn⟩:=run p hp0;have stat:∀{H':Hp},(∀b∈fp,H' b=none)->∀b∈fp,S6 (J5 X N' scope s3 H3 fp) [] H' b:=fun hn b hb=>by
  have z:=I4.ok.exf b hb
  exact⟨hn b hb,z.1,I4.ok.exfs b hb,.inl hb,z.2,fun p hp=>absurd (show p∈([]:OX)from hp) (by simp)⟩
 have loop:codeAny (model X.prog X.w) X.A (.compLoop (.ListComp elt (⟨tg,iter,ifs,0⟩::gs) scope pos) 0 (.ref it) (.ref p) (Cg scope X.env s3.heap.objs.size)) (RR (.ref p) s3.heap.objs.size) s4:=by
  refine NV (d:=0) rfl (fun n s'=>∃i σ' H',Inv (J5 X N' scope s3 H3 fp) [] σ' H' s'/\tn i s'.heap/\(∀b∈fp,H' b=none)/\W i n σ' H') ?_ m0 ⟨0,_,H3,I4,st4,fun b hb=>(hf3 b hb).1.1,by rw[←hH3];exact w0⟩
  rintro n s5 ⟨i,σ5,H5,I5,st5,fr5,w5⟩
  rcases turn i n σ5 H5 w5 with⟨stop,qf⟩|⟨go,step⟩
  ·refine i6 (T.done (J5 X N' scope s3 H3 fp) rfl rfl rfl hc i [] s5 σ5 H5 (fun _ _=>False) I5 (stat fr5) st5 stop) fun r s6 ⟨hr,I6⟩=>?_
   subst hr;obtain⟨m6,hn6,_⟩:=I6.loc;have hch:∀b∈fp,(b∈X.ex\/X.s₀.heap.objs.size≤b)/\b≠X.env.locals/\(∀x c,X.env.cells.lookup x=some c->c≠b)/\∀p∈X.pn++pins,p.1≠b:=fun b hb=>by
    obtain⟨_,f1,_,f3,f4,f5⟩:=hf b hb;exact⟨f3,f1,f4,f5⟩
   have IX:Inv X pins σ H5 s6:=I3.call' (s':=s6) (I6.os) (I6.base) I6.hok I6.bare hch
   have szC:X.s₀.heap.objs.size≤s3.heap.objs.size:=I3.sz
   have hCL:s3.heap.objs.size≠X.env.locals:=Xr I3.lt
   have hCc:∀x c,X.env.cells.lookup x=some c->c≠s3.heap.objs.size:=fun x c e=>by
    obtain⟨v,q⟩:=I3.cell x c e;exact Qs q.lt
   have hCp:∀q∈X.pn++pins,q.1≠s3.heap.objs.size:=fun q hq=>Qs (Qu (I3.pin q hq).1)
   refine hRR p s3.heap.objs.size s6 H5 m6 IX qf hn6 hCL hCc I6.free fun σ'' H'' s'' h' I'' hn hs=>?_
   exact I''.turned (t':=s''.toks) (it:=s3.heap.objs.size) (fun b o hb e=>(hs.2 b hb).trans e) hn hCL (.inr szC) hCc hCp
  ·refine i6 (T.item (J5 X N' scope s3 H3 fp) rfl rfl rfl hc i [] s5 σ5 H5 (fun _ _=>False) I5 (stat fr5) st5 go) fun r s6 ⟨u,hr,h6⟩=>?_
   subst hr;refine i6 h6 fun _ s7 ⟨x,H7,I7,r7,y7,st7,fr7⟩=>?_
   have I7':=I7.pinned (stat fr7) (T.obj _ _ st7)
   have back:∀{σ8:St}{H8:Hp}{s8:Shared}{m':Nat},Inv (J5 X N' scope s3 H3 fp) ([]++CU fp s7.heap) σ8 H8 s8->m'<n->W (i+1) m' σ8 H8->∃m,m<n/\∃i σ' H',Inv (J5 X N' scope s3 H3 fp) [] σ' H' s8/\tn i s8.heap/\(∀b∈fp,H' b=none)/\W i m σ' H':=fun{σ8 H8 s8 m'} I8 hm w8=>by
    refine⟨m',hm,i+1,σ8,H8,I8.unpinned,T.keep _ _ _ st7 fun b hb o e=>(I8.pin (b,o) (Qe _ (Qe _ (CV hb e)))).1,fun b hb=>?_,w8⟩
    obtain⟨o,e,d⟩:=T.obj _ _ st7 b hb;exact(I8.pin (b,o) (Qe _ (Qe _ (CV hb e)))).2.1
   refine i6 (hg s3 H3 fp _ s7 σ5 H7 x u _ I7' r7 (step x H7 y7)) fun _ s8 ⟨σ8,H8,I8,q8⟩=>?_
   refine i6 (ht s3 H3 fp _ s8 σ8 H8 _ I8 q8) fun b s9 ⟨H9,I9,q9⟩=>?_
   cases b with
   |false=>
    simp only[Zx,Ys]at q9 ⊢;obtain⟨m',hm,w9⟩:=q9;exact back I9 hm w9
   |true=>
    simp only[Zn]at q9 ⊢;exact i6 (he s3 H3 fp p _ s9 σ8 H9 _ I9 q9) fun _ s10 ⟨σ10,H10,I10,m',hm,w10⟩=>back I10 hm w10
 refine codeAny_compStart_list loop ?_
 exact Qi (T.self X.A 0 s4 _ (fun _ _=>False) st4 loop) (fun _ _ q=>q) fun _ _ q=>q.elim
def IA(wi:TI)(keep:List Bool)(more:Nat)(g:TG)(tt:TT)(act:Addr->Z0):TE:=fun σ H Q=>wi σ H fun J H1=>∀p,H1 p=none->Ff J g tt (act p) (P8 keep more σ) (upd H1 p (.lst [])) (fun _ H'=>Q (.ref p) H')
theorem bN(ok:pO X N' scope keep more)(hc:X.calm=true)(hi:PI X tg iter wi)(hg:∀s H fp,PG (J5 X N' scope s H fp) tg g)(ht:∀s H fp,U0 (J5 X N' scope s H fp) ifs tt)
  (he:∀s H fp p,Ai (J5 X N' scope s H fp) (X3 elt (⟨tg,iter,ifs,0⟩::gs) scope pos 0 (.ref p) (J5 X N' scope s H fp).env) (act p))
  (hs:∀x,foldedSetIterable iter X.env x=pure x:=by intro _;rfl):PE X (.ListComp elt (⟨tg,iter,ifs,0⟩::gs) scope pos) (IA wi keep more g tt act):=by
 intro pins s σ H Q I h;rw[eval_ListComp];refine wpAny_comprehension_free (use:=none) rfl hs ok.clos ok.kind (fun x hx hl=>by have:=ok.uniq x hx;rwa [hl]at this) (i6 (hi pins s σ H _ I h) fun v s1 h1=>i6 h1 fun itv s2 h2=>?_)
 obtain⟨it,fp,tn,J,H2,e,I2,T,st2,f2,run⟩:=h2;subst e;refine NY (Qf:=fun p H'=>Q (.ref p) H') (RR:=fun acc C=>compPost (model X.prog X.w) X.A X.xe none (EP X pins σ Q) acc C) ok hc hg ht he I2 T st2 f2 run ?_
 intro p C s' H' m IX qf hn hCL hCc hCn turn;exact⟨m,hn,fun h' hs'=>⟨.ref p,H',turn σ H' s' h' IX hCn hs',rfl,qf⟩⟩
end
def V4(m:Mo D):Mo (List D):=fun env=>(m env).map fun q=>([q.1],q.2)
def V5(g:OZ)(t:Mo Bool)(a:Mo (List D)):List D->Mo (List D)
 |[],env=>some ([],env)
 |d::ds,env=>(g d env).bind fun e1=>(t e1).bind fun p=>if p.1 then(a p.2).bind fun q=>(V5 g t a ds q.2).map fun r=>(q.1++r.1,r.2)else V5 g t a ds p.2
def aIn(mi:Mo (List D))(g:OZ)(t:Mo Bool)(a:Mo (List D)):Mo (List D):=fun env=>(mi env).bind fun p=>V5 g t a p.1 p.2
def Bx(mi:Mo (List D))(keep:List Bool)(more:Nat)(g:OZ)(t:Mo Bool)(a:Mo (List D)):Mo (List D):=fun env=>(mi env).bind fun p=>
 (V5 g t a p.1 (P9 keep more p.2)).bind fun q=>if q.1.length≤100000 then(O7 keep p.2 q.2).map fun e=>(q.1,e)else none
theorem bO{p:Addr}{o:HO}(h:H p=some o):upd H p o=H:=by
 funext b
 by_cases hb:b=p
 ·subst hb;rw[G7,h]
 ·rw[D3 hb]
def wX(K:Qz)(B:OA)(n:Nat)(a:Mo (List D))(p:Addr):Z0:=fun σ H Q=>∃G env zs env' ys,Rel K B G σ env H/\ ¬ d5 σ env p/\G p=none/\H p=some (.lst ys)/\a env=some (zs,env')/\ys.length+zs.length≤100000/\
 ∀σ' G' H' vs,Ev K B G σ env (upd H p (.lst (ys++vs))) G' σ' env' H'->(∀j,j<n->σ'[j]? =σ[j]?)->H' p=some (.lst (ys++vs))->C3 K G' vs zs->Q σ' H'
theorem bP{p:Addr}:∀σ H Q,wX K B n (V4 m) p σ H Q->NW (TD K B m) p σ H Q:=by
 rintro σ H Q ⟨G,env,zs,env',ys,rl,no,gp,hp,e,hl,k⟩;obtain⟨⟨d,a8⟩,e1,e2⟩:=F4 e;cases e2;refine⟨G,env,d,a8,rl,e1,fun v G' H' ev r=>?_⟩
 have hp':H' p=some (.lst ys):=ev.keep p _ no pT hp
 refine⟨ys,hp',Qr (by simp at hl;omega) (show 100000≤sizeLine by decide),?_⟩
 exact k σ G' _ [v] (ev.swapAt no (by rw[hp];simp) gp pT (fun φ z=>by rw[hp']at z;cases z)) (fun _ _=>rfl) G7 (c9 r d9)
theorem NZ{g:OZ}{t:Mo Bool}{p:Addr}{G1:Hp}{a8 envF:c5}{H1:Hp}{items zs:List D}{ys:List V}{Q:St->Hp->Prop}(rl:Rel K B G1 σ a8 H1)(itd:xP K J G1 items)(no:¬ d5 σ a8 p)(gp:G1 p=none)
  (hp:H1 p=some (.lst ys))(e3:V5 g t a items a8=some (zs,envF))(hl:ys.length+zs.length≤100000)
  (k:∀σ' G' H' vs,Ev K B G1 σ a8 (upd H1 p (.lst (ys++vs))) G' σ' envF H'->(∀j,j<n->σ'[j]? =σ[j]?)->H' p=some (.lst (ys++vs))->C3 K G' vs zs->Q σ' H'):
  Ff J (zM K B n g) (sY K B t) (wX K B n a p) σ H1 Q:=by
 have hpS:∀us,(upd H1 p (.lst us)) p=some (.lst us):=fun us=>G7
 refine⟨fun i m' σ2 H2=>m'=items.length-i/\i≤items.length/\∃G2 i5 vs acc rest,Ev K B G1 σ a8 (upd H1 p (.lst (ys++vs))) G2 σ2 i5 H2/\(∀j,j<n->σ2[j]? =σ[j]?)/\
   C3 K G2 vs acc/\V5 g t a (items.drop i) i5=some (rest,envF)/\acc++rest=zs,⟨_,rfl,Jo _,G1,a8,[],[],zs,?_,fun _ _=>rfl,d9,by simpa using e3,by simp⟩,?_⟩
 ·rw[Yg,bO hp];exact .refl rl
 rintro i m' σ2 H2 ⟨rfl,hi,G2,i5,vs,acc,rest,f7,y2,r2,c2,t2⟩;have hp2:H2 p=some (.lst (ys++vs)):=f7.keep p _ no pT (hpS _);have lH:Le G1 H2:=f7.same.trans f7.rel.sub
 by_cases hlt:i<items.length
 ·refine .inr ⟨itd.go i H2 lH hlt,fun x H3 y=>?_⟩
  have ed:items.drop i=items[i]::items.drop (i+1):=List.drop_eq_getElem_cons hlt
  rw[ed]at c2;obtain⟨tG,e7,e8⟩:=C6 c2;obtain⟨⟨b,sC⟩,e9,e10⟩:=C6 e8;have hget:items[i]? =some items[i]:=by simp[hlt]
  have st:∃G3,Ev K B G1 σ a8 (upd H1 p (.lst (ys++vs))) G3 σ2 i5 H3/\Le G2 G3/\c4 K G3 x items[i]:=by
   rcases itd.yld i H2 x H3 items[i] lH y hget with⟨rfl,r⟩|⟨q,o,hno,hq,rfl,r⟩
   ·exact⟨G2,f7,Le.refl,c4.mono f7.same _ r⟩
   ·have gq:=f7.rel.gnone hq
    refine⟨upd G2 q o,f7.trans (f7.rel.alloc hq hno),Le.upd gq,c4.mono (fun b u z=>?_) _ r⟩
    by_cases hb2:b=q
    ·subst hb2;rw[G7]at z ⊢;exact z
    ·rw[D3 hb2]at z ⊢;exact f7.same b u z
  obtain⟨G3,qX,l3,r3⟩:=st;refine⟨G3,i5,items[i],tG,qX.rel,r3,e7,fun σ4 G4 H4 tN y4=>?_⟩
  refine⟨G4,tG,b,sC,tN.rel,e9,fun G5 H5 vN=>?_⟩
  have rP:=(qX.trans tN).trans vN
  have r5:C3 K G5 vs acc:=C3.mono ((l3.trans tN.same).trans vN.same) acc r2
  have y5:∀j,j<n->σ4[j]? =σ[j]?:=fun j hj=>(y4 j hj).trans (y2 j hj)
  have zG:H5 p=some (.lst (ys++vs)):=rP.keep p _ no pT (hpS _)
  cases b with
  |true=>
   simp only[Zn]at e10 ⊢;obtain⟨⟨z7,yY⟩,e11,e12⟩:=C6 e10;obtain⟨⟨rest8,a1R⟩,e13,e14⟩:=F4 e12;cases e14;have lz:zs.length=acc.length+(z7.length+rest8.length):=by rw[←t2];simp
   have no5:¬ d5 σ4 sC p:=fun z=>(rP.sub p z).elim no fun q=>by rw[hpS]at q;cases q
   refine⟨G5,sC,z7,yY,ys++vs,vN.rel,no5,rP.stay p (by rw[hpS];simp) no gp,zG,e11,by rw[Qa,r2.length];omega,fun σ6 G6 H6 us ev7 y7 h7 r7=>?_⟩
   have nx:∀φ,H5 p≠some (.ext φ):=fun φ z=>by rw[zG]at z;cases z
   have sw:=rP.swapAt (o:=.lst (ys++vs++us)) no (by rw[hpS];simp) gp pT nx
   rw[LK]at sw;refine⟨items.length-(i+1),by omega,rfl,hlt,G6,yY,vs++us,acc++z7,rest8,?_,fun j hj=>(y7 j hj).trans (y5 j hj),(C3.mono ev7.same acc r5).append r7,e13,by rw[Uc];exact t2⟩
   rw[←Uc];exact sw.trans ev7
  |false=>
   simp only[Zx,Ys]at e10 ⊢;exact⟨items.length-(i+1),by omega,rfl,hlt,G5,sC,vs,acc,rest,rP,y5,r5,e10,t2⟩
 ·have ei:i=items.length:=by omega
  subst ei;rw[List.drop_length]at c2;cases c2;rw[Yg]at t2;subst t2;exact .inl ⟨itd.stop _ H2 lH (Qp _),k σ2 G2 H2 vs f7 y2 hp2 r2⟩
theorem bQ{g:OZ}{t:Mo Bool}{p:Addr}:∀σ H Q,wX K B n (aIn mi g t a) p σ H Q->NX (TIm K B mi) (zM K B n g) (sY K B t) (wX K B n a p) σ H Q:=by
 rintro σ H Q ⟨G,env,zs,env',ys,rl,no,gp,hp,e,hl,k⟩;obtain⟨⟨items,a8⟩,e1,e2⟩:=C6 e;refine⟨G,env,items,a8,rl,e1,fun J G1 H1 m9 itd=>?_⟩
 have hp1:H1 p=some (.lst ys):=m9.keep p _ no pT hp
 refine NZ m9.rel itd (fun z=>(m9.sub p z).elim no fun q=>by rw[hp]at q;cases q) (m9.stay p (by rw[hp];simp) no gp) hp1 e2 hl fun σ' G' H' vs ev y h r=>?_
 have nx:∀φ,H1 p≠some (.ext φ):=fun φ z=>by rw[hp1]at z;cases z
 exact k σ' G' H' vs ((m9.swapAt (o:=.lst (ys++vs)) no (by rw[hp];simp) gp pT nx).trans ev) y h r
theorem Na{keep:List Bool}{g:OZ}{t:Mo Bool}(hkl:keep.length=n):
  ∀(σ:St) H Q,σ.length=n->TL K B (Bx mi keep more g t a) σ H Q->IA (TIm K B mi) keep more (zM K B n g) (sY K B t) (wX K B n a) σ H Q:=by
 rintro σ H Q hσn ⟨G,env,total,env',rl,e,k⟩;obtain⟨⟨items,a8⟩,e1,e2⟩:=C6 e;obtain⟨⟨total',envF⟩,e3,e4⟩:=C6 e2;dsimp only at e4;split at e4
 ·rename_i hlen
  obtain⟨env'',e5,e6⟩:=F4 e4;cases e6;refine⟨G,env,items,a8,rl,e1,fun J G1 H1 m9 itd p hp=>?_⟩
  have hk:keep.length=σ.length:=by rw[hkl,hσn]
  have gp:G1 p=none:=m9.rel.gnone hp
  have no1:¬ d5 σ a8 p:=m9.rel.unowned hp
  have no:¬ d5 (P8 keep more σ) (P9 keep more a8) p:=fun z=>no1 (HX z)
  have relS:∀ys,Rel K B G1 σ a8 (upd H1 p (.lst ys)):=fun ys=>(m9.rel.allocM hp).rel
  refine NZ (ys:=[]) ((relS []).ext hk) itd no gp G7 e3 (by simpa using hlen) fun σ2 G2 H2 ys f7 y2 hp2 r2=>?_
  rw[Tq,LK]at f7;rw[Tq]at hp2;have evO:=Ev.out (relS ys) hk f7 (fun j hj=>y2 j (by omega)) e5
  have evA:=m9.trans ((m9.rel.allocM (o:=.lst ys) hp).trans evO)
  have hpn:H p=none:=by
   cases q:H p with
   |none=>rfl
   |some o=>exact absurd hp (m9.live p (by rw[q];simp))
  have hpS:(upd H1 p (.lst ys)) p=some (.lst ys):=G7
  refine k p ys G2 H2 evA hpn (fun z=>?_) hp2 (f7.stay p (by rw[hpS];simp) no gp) r2
  rcases evO.sub p z with q|q
  ·exact no1 q
  ·rw[hpS]at q;cases q
 ·cases e4
def yI(X:Cx)(B:OA)(n:Nat)(elt:Expr)(gens:List Comprehension)(scope:Scope)(pos:Pos)(d:Nat)(p:Addr)(a:Mo (List D)):Prop:=Ai X (X3 elt gens scope pos d (.ref p) X.env) (wX X.K B n a p)
theorem Nb{sem:Sem Unit}{t t':Z0}(h:Ai X sem t)(i:∀σ H Q,t' σ H Q->t σ H Q):Ai X sem t':=fun pins s σ H Q I q=>h pins s σ H Q I (i σ H Q q)
section
variable{N':List Str}{pV:Scope}{keep:List Bool}{gs:List Comprehension}{g:OZ}{t:Mo Bool}{pos:Pos}{fp:List Addr}{p:Addr}
theorem Fg(hn:gens[d+1]? =none)(he:ED (J5 X N' pV s H fp) B elt m):yI (J5 X N' pV s H fp) B n elt gens scope pos d p (V4 m):=Nb (bL (fun _ _ z=>z) hn he) bP
theorem Nc(hd:gens[d+1]? =some ⟨tg,iter,ifs,0⟩)(hc:X.calm=true)(hi:EI (J5 X N' pV s H fp) B tg iter mi)(hg:EG (J5 X N' pV s H fp) B n tg g)(ht:U0 (J5 X N' pV s H fp) ifs (sY X.K B t))
  (ha:yI (J5 X N' pV s H fp) B n elt gens scope pos (d+1) p a)(hs:∀x,foldedSetIterable iter (J5 X N' pV s H fp).env x=pure x:=by intro _;rfl):
  yI (J5 X N' pV s H fp) B n elt gens scope pos d p (aIn mi g t a):=Nb (bM (fun _ _ z=>z) hc hd hi hg ht ha hs) bQ
theorem bS(ok:pO X N' scope keep more)(hc:X.calm=true)(hi:EI X B tg iter mi)(hg:∀s H fp,EG (J5 X N' scope s H fp) B X.N.length tg g)(ht:∀s H fp,U0 (J5 X N' scope s H fp) ifs (sY X.K B t))
  (he:∀s H fp p,yI (J5 X N' scope s H fp) B X.N.length elt (⟨tg,iter,ifs,0⟩::gs) scope pos 0 p a)
  (hs:∀x,foldedSetIterable iter X.env x=pure x:=by intro _;rfl):EL X B (.ListComp elt (⟨tg,iter,ifs,0⟩::gs) scope pos) (Bx mi keep more g t a):=by
 intro pins s σ H Q I h;exact bN (act:=wX X.K B X.N.length a) ok hc hi hg ht (fun s H fp p=>he s H fp p) hs pins s σ H Q I (Na ok.klen σ H Q I.len h)
end
section
variable{pos:Pos}{o:Expr}{mb:Mo D}
end
section
variable{pos:Pos}
end
section
variable{c1 c2:Bool}
end
section
variable{R:Result->Shared->Prop}{c1 c2:Bool}{n l1 l2 S:Addr}{xs ys:List V}
end
section
variable{pos:Pos}{a b:Expr}
end
section
variable{pos:Pos}{es:List Expr}{gs:List D->c5->Option c5}
end
def yJ:OI->List D->List Int->Option D
 |k'::ks,v::vs,k=>if k'=k then some v else yJ ks vs k
 |_,_,_=>none
def xZ:OI->List D->List Int->D->List D
 |k'::ks,v::vs,k,d=>if k'=k then d::xZ ks vs k d else v::xZ ks vs k d
 |_,vs,_,_=>vs
def Fh:D->Option (List Int)
 |.tup ds=>i9 ds
 |_=>none
section
variable{G:Hp}
theorem IB:∀ns:List Int,(N0 ns).map kV=ns.map V.int
 |[]=>rfl
 |n::ns=>by show V.int n::(N0 ns).map kV=_;rw[IB ns];rfl
theorem IC:∀{a b:List Int},N0 a=N0 b->a=b
 |[],[],_=>rfl
 |[],_::_,e=>by simp[N0]at e
 |_::_,[],e=>by simp[N0]at e
 |x::a,y::b,e=>by
  simp only[N0,Qh,Ve,Sum.inl.injEq]at e;rw[e.1,IC e.2]
def Ct(K:Qz)(H:Hp)(b:Addr)(k:List Int):Prop:=H b=some (.tup ((N0 k).map kV))\/O2 K b (N0 k)
theorem Ct.mono{H':Hp}{k:List Int}(l:Le H H')(h:Ct K H b k):Ct K H' b k:=h.imp (fun e=>l _ _ e) id
theorem Fi{d:D}{k:List Int}(r:c4 K G v d)(h:Fh d=some k):∃b,v=.ref b/\Ct K G b k:=by
 cases d<;>first|(exact absurd (show(none:Option (List Int))=some k from h) (by simp))|skip
 rename_i ds;simp only[c4]at r;obtain⟨a,xs,rfl,q,t⟩:=r;have hx:=BC t (show i9 ds=some k from h)
 subst hx;refine⟨a,rfl,?_⟩
 rcases q with q|q
 ·exact .inl (by rw[IB];exact q)
 ·exact .inr (.inr (by rw[IB];exact q))
theorem Dy{h:Heap}(ok:qV P w H h)(kin:K.In h)(e:H b=some (.tup (k.map kV))\/O2 K b k):(tupleKind (L5 P w)).is h k b:=by
 rcases e with e|e
 ·exact VZ ok e
 ·rcases e with e|⟨o,its,n,h1,h2,_,h3,_,h4⟩
  ·cases e
  ·exact⟨o,its,n,kin b o h1,h2,h3,HC h4⟩
end
section
variable{a:Addr}{kvs:List (List Key×V)}
theorem Dz(I:Inv X pins σ H s)(e:H a=some (.dT (O2 X.K) kvs)):kvs.length≤sizeLine/\(a==sysModules)=false/\∃xs,KT (O2 X.K) H kvs xs/\s.heap.DictOfH (tupleKind (L5 X.prog X.w)) a xs:=by
 obtain⟨z,y,xs,r,o,es,ep,h1,h2,h3,h4,h5⟩:=(show K1 X.prog X.w H s.heap a (.dT (O2 X.K) kvs)from I.hok a _ e)
 refine⟨z,y,xs,r,o,es,ep,h1,h2,h3,h4,fun x hx=>?_,h5⟩
 have all:∀{l:List (List Key×V)}{m:List (List Key×Addr×Value)},KT (O2 X.K) H l m->∀x∈m,(tupleKind (L5 X.prog X.w)).is s.heap x.1 x.2.1:=by
  intro l m q
  induction q with
  |nil=>intro x hx;exact nomatch hx
  |@cons p q ps qs hq t ih=>
   intro x hx
   rcases Qb.mp hx with e|hx
   ·subst e
    exact Dy (K:=X.K) I.hok I.kIn (by rw[←hq.1];exact hq.2.1)
   ·exact ih x hx
 exact all r x hx
theorem bT(hu:A.units+1<cLine)(I:Inv X pins σ H s)(e:H a=some (.dT (O2 X.K) kvs))(eb:H b=some (.tup (k.map kV))\/O2 X.K b k)(l:W4 kvs k=some v)
  (h:∀w' s',Inv X pins σ H s'->E2 v w'->Q w' s'):wpAny (model X.prog X.w) A (getItem (.ref a) (.ref b)) Q E s:=by
 obtain⟨z,hd,xs,rel,dd⟩:=Dz I e;obtain⟨w',hw,rw'⟩:=W0.some_of (v:=v) (o:=(atKey xs k).map (·.2)) (by rw[←l];exact rel.val k)
 obtain⟨p,hp,hp2⟩:=Uh.mp hw;refine wpAny_getItem_heap (Vy hu) (Dy (K:=X.K) I.hok I.kIn eb) dd hp ?_
 rw[hp2];exact h w' _ (I.tok _) rw'
theorem bU(hu:A.units+1<cLine)(I:Inv X pins σ H s)(e:H a=some (.dT (O2 X.K) kvs))(eb:H b=some (.tup (k.map kV))\/O2 X.K b k)
  (h:∀s',Inv X pins σ H s'->Q (.bool (W4 kvs k).isSome) s'):wpAny (model X.prog X.w) A (compareOp .In (.ref b) (.ref a)) Q E s:=by
 obtain⟨z,hd,xs,rel,dd⟩:=Dz I e;refine wpAny_in_heap (Vy hu) (Dy (K:=X.K) I.hok I.kIn eb) hd dd ?_
 have q:=(rel.val k).isSome_eq
 rw[Xn]at q;rw[←q];exact h _ (I.tok _)
theorem bV(hu:A.units+1<cLine)(I:Inv X pins σ H s)(e:H a=some (.dT (O2 X.K) kvs))(eb:H b=some (.tup (k.map kV))\/O2 X.K b k)
  (h:∀s',Inv X pins σ H s'->Q (.bool (!(W4 kvs k).isSome)) s'):wpAny (model X.prog X.w) A (compareOp .NotIn (.ref b) (.ref a)) Q E s:=by
 obtain⟨z,hd,xs,rel,dd⟩:=Dz I e;refine wpAny_notIn_heap (Vy hu) (Dy (K:=X.K) I.hok I.kIn eb) hd dd ?_
 have q:=(rel.val k).isSome_eq
 rw[Xn]at q;rw[←q];exact h _ (I.tok _)
theorem bW{r:Value}{Q:Unit->Shared->Prop}(hu:A.units+1<cLine)(I:Inv X pins σ H s)(e:H a=some (.dT (O2 X.K) kvs))(eb:H b=some (.tup (k.map kV))\/O2 X.K b k)(l:kvs.length<sizeLine)(rv:E2 v r)
  (h:∀s',Inv X pins σ (upd H a (.dT (O2 X.K) (AB kvs k v))) s'->Q () s'):wpAny (model X.prog X.w) A (setItem (.ref a) (.ref b) r) Q E s:=by
 obtain⟨z,hd,xs,rel,dd⟩:=Dz I e;have hz:xs.length≤sizeLine:=by rw[←Paired.length rel];exact z
 have hl:(AB kvs k v).length≤sizeLine:=by have:=VY kvs k v;omega
 refine wpAny_setItem_heap (hsz:=hz) (Vy hu) (Dy (K:=X.K) I.hok I.kIn eb) dd fun h' dd' hs=>h _ ?_
 obtain⟨q,es,ep,hq,h2,h3,h4,_,h5⟩:=dd';refine MC I (by rw[e];exact True.intro) hs ⟨q,hq⟩ ⟨hl,hd,_,(rel.put k eb rv).keeps fun c ys ec=>?_,q,es,ep,hq,h2,h3,h4,h5⟩
 rw[D3 (Si ec e (fun z=>nomatch z))]
 exact ec
theorem bX(I:Inv X pins σ H s)(e:H a=some (.dT (O2 X.K) kvs)):s.TypeIs (.ref a) "dict":=by
 obtain⟨_,_,xs,_,dd⟩:=Dz I e;exact dd.typeIs
end
section
variable{G:Hp}
theorem EA:∀{kvs:List (List Key×V)}{ks:OI}{vs:List D}(k:List Int),kvs.map (·.1)=ks.map N0->C3 K G (kvs.map (·.2)) vs->
  (∀d,yJ ks vs k=some d->∃v,W4 kvs (N0 k)=some v/\c4 K G v d)/\((W4 kvs (N0 k)).isSome=ks.contains k)
 |[],[],vs,k,_,r=>⟨fun d h=>by simp[yJ]at h,rfl⟩
 |[],_::_,_,_,e,_=>by simp at e
 |_::_,[],_,_,e,_=>by simp at e
 |p::kvs,k'::ks,[],k,e,r=>by have:=r.length;simp at this
 |p::kvs,k'::ks,d'::vs,k,e,r=>by
  simp only[Qh,Ve]at e;obtain⟨e1,e2⟩:=e;rw[Qh]at r;simp only[C3]at r;obtain⟨x,t,z,r1,r2⟩:=r;cases z;obtain⟨h1,h2⟩:=EA (ks:=ks) (vs:=vs) k e2 r2
  by_cases hk:k'=k
  ·subst hk
   refine⟨fun d h=>?_,?_⟩
   ·simp only[yJ,Zn,Zc]at h
    subst h;exact⟨p.2,Ex e1,r1⟩
   ·rw[Ex e1];simp
  ·have ne:¬ p.1=N0 k:=fun z=>hk (IC (e1.symm.trans z))
   refine⟨fun d h=>?_,?_⟩
   ·simp only[yJ,Ql hk]at h
    obtain⟨v,q1,q2⟩:=h1 d h;exact⟨v,by rw[Ey ne];exact q1,q2⟩
   ·have hb:(k==k')=false:=by simpa using fun z=>hk (Eq.symm z)
    rw[Ey ne,h2,Vv,hb,Xg]
theorem Nd:∀{kvs:List (List Key×V)}{ks:OI}{vs:List D}(k:List Int) {v:V}{d:D},kvs.map (·.1)=ks.map N0->C3 K G (kvs.map (·.2)) vs->c4 K G v d->
  (kvs.map fun kv=>if kv.1=N0 k then(kv.1,v)else kv).map (·.1)=ks.map N0/\C3 K G ((kvs.map fun kv=>if kv.1=N0 k then(kv.1,v)else kv).map (·.2)) (xZ ks vs k d)
 |[],[],vs,k,v,d,_,r,_=>⟨rfl,by simpa [xZ]using r⟩
 |[],_::_,_,_,_,_,e,_,_=>by simp at e
 |_::_,[],_,_,_,_,e,_,_=>by simp at e
 |p::kvs,k'::ks,[],k,v,d,e,r,_=>by have:=r.length;simp at this
 |p::kvs,k'::ks,d'::vs,k,v,d,e,r,rd=>by
  simp only[Qh,Ve]at e;obtain⟨e1,e2⟩:=e;rw[Qh]at r;simp only[C3]at r;obtain⟨x,t,z,r1,r2⟩:=r;cases z;obtain⟨h1,h2⟩:=Nd (ks:=ks) (vs:=vs) k e2 r2 rd
  by_cases hk:k'=k
  ·subst hk
   simp only[Qh,Qn e1,xZ,Zn];exact⟨by rw[e1,h1],c9 rd h2⟩
  ·have ne:¬ p.1=N0 k:=fun z=>hk (IC (e1.symm.trans z))
   simp only[Qh,Ql ne,xZ,Ql hk];exact⟨by rw[e1,h1],c9 r1 h2⟩
def ID(ks:OI)(k:List Int):OI:=if ks.contains k then ks else ks++[k]
def IE(ks:OI)(vs:List D)(k:List Int)(d:D):List D:=if ks.contains k then xZ ks vs k d else vs++[d]
theorem bY{kvs:List (List Key×V)}{ks:OI}{vs:List D}(k:List Int){d:D}(e:kvs.map (·.1)=ks.map N0)(r:C3 K G (kvs.map (·.2)) vs)(rd:c4 K G v d):
  (AB kvs (N0 k) v).map (·.1)=(ID ks k).map N0/\C3 K G ((AB kvs (N0 k) v).map (·.2)) (IE ks vs k d):=by
 have h:=(EA (K:=K) (G:=G) k e r).2
 unfold AB ID IE;rw[HA,h];cases ks.contains k with
 |true=>simp only[Zn];exact Nd k e r rd
 |false=>
  simp only[Zx,Ys,Jf,Qh,Ud];exact⟨by rw[e],r.append (c9 rd d9)⟩
end
theorem bZ(h:Heap)(hb:sysModules<h.objs.size):K1 P w H (h.push {cls:=.type "dict",data:=.dict #[]}) h.objs.size (.dT C []):=
 ⟨Jo _,Zb.mpr (Zg (Qs hb)),[],.nil,_,#[],0,Qd _ rfl,⟨rfl,rfl,rfl⟩,rfl,rfl,List.nodup_nil⟩
def cA(C:Addr->List Key->Prop):TE:=fun _ H Q=>∀p,H p=none->Q (.ref p) (upd H p (.dT C []))
section
variable{pos:Pos}{a b:Expr}{mb:Mo D}
theorem cB:PE X (.Dict [] [] pos) (cA C):=fun pins s σ H Q I h=>
 wpAny_Dict_empty ⟨.ref s.heap.objs.size,_,I.laid (a:=s.heap.objs.size) (o:=.dT C []) (t':=s.toks) (fun _ _ q=>Qx _ q) (Qp _) (bZ s.heap I.big),rfl,h _ (I.hok.fresh (Qp _))⟩
def IF(i:Nat):Mo Fl:=fun env=>some (.nx,env.set i (.ownD [] []))
theorem IG{pos' dpos:Pos}(hN:X.N.Nodup)(hi:X.N[i]? =some x)(hx:Loc X.env.scope x)(hs:swapsWith (.Dict [] [] dpos) (some (.Name x pos')) pos.line X.env=pure false:=by rfl)(hf:X.fn x=true\/X.env.scope.names.lookup x=some .local:=by first|exact .inl rfl|exact .inr rfl|assumption):
  ES X B (.Assign [.Name x pos'] (.Dict [] [] dpos) pos) (IF i):=by
 refine m5 (DR hN hi hx (cB (C:=O2 X.K)) hs hf) ?_
 rintro D σ H ⟨G,env,fl,env',rl,e,k⟩;cases e;intro p hp;have ev:=rl.allocM (o:=.dT (O2 X.K) []) hp;exact k _ _ _ (ev.setOwnM (m:=.d [] []) (fun z=>rl.old p z hp) hp (rl.unowned hp) G7 (rl.gnone hp) ⟨[],rfl,rfl,d9⟩ rfl rfl)
def Nf(i:Nat)(mb:Mo D):Mo D:=fun env=>(mb env).bind fun p=>((p.2[i]?).bind W.mutD).bind fun q=>(Fh p.1).bind fun k=>(yJ q.1 q.2 k).map fun d=>(d,p.2)
theorem Ng(hu:X.A.units+64<cLine)(ha:PE X (.Name x p) (Q4 i))(hb:ED X B b mb)(hs:DV b)(hr:∀env d env' w ds,mb env=some (d,env')->env'[i]? =some w->w.mut=some ds->∃w0 ds0,env[i]? =some w0/\w0.mut=some ds0):
  ED X B (.Subscript (.Name x p) b pos) (Nf i mb):=by
 intro pins s σ H Q I h;obtain⟨G,env,d,env',rl,e,k⟩:=h;obtain⟨⟨d1,a8⟩,e1,e2⟩:=C6 e;obtain⟨⟨ks,vs⟩,e3,e4⟩:=C6 e2;obtain⟨w,e5,e6⟩:=C6 e3;obtain⟨key,e7,e8⟩:=C6 e4;obtain⟨d2,e9,e10⟩:=F4 e8;cases e10;obtain⟨w0,m0,e11,e12⟩:=hr env d1 _ w (.d ks vs) e1 e5 (W.mutD_of e6);obtain⟨q,o,h1,_⟩:=rl.own i w0 m0 e11 e12;refine MD PySem.F.slot_dict_getitem.lookup hs (i6 (ha pins s σ H (fun v H1=>v=.ref q/\H1=H) I ⟨_,h1,rfl,rfl⟩) fun u s1 ⟨x,H1,I1,rx,z1,z2⟩=>?_)
 subst z1 z2;cases rx;refine i6 (hb pins s1 σ H1 (fun v H2=>∃G2,Ev X.K B G σ env H1 G2 σ a8 H2/\c4 X.K G2 v d1) I1 ⟨G,env,d1,a8,rl,e1,fun v G2 H2 ev r=>⟨G2,ev,r⟩⟩) fun iv s2 ⟨y,H2,I2,ry,G2,ev,r⟩=>?_
 obtain⟨q',kvs,g1,g2,g3,g4,g5⟩:=ev.rel.ownD i w ks vs e5 e6;rw[h1]at g1;cases g1;obtain⟨b',rfl,kb⟩:=Fi r e7;cases ry;obtain⟨v,l1,l2⟩:=(EA key g3 g4).1 _ e9;exact⟨bX I2 g2,bT (by omega) I2 g2 (kb.mono ev.rel.sub) l1 fun w' s3 I3 rw'=>⟨v,H2,I3,rw',k v G2 H2 ev l2⟩⟩
def Fj(neg:Bool)(i:Nat)(ma:Mo D):Mo D:=fun env=>(ma env).bind fun p=>((p.2[i]?).bind W.mutD).bind fun q=>(Fh p.1).map fun k=>(.bl (if neg then !q.1.contains k else q.1.contains k),p.2)
theorem pJ(hu:X.A.units+64<cLine)(ha:ED X B a ma)(hn:PE X (.Name x p) (Q4 i)):PC X .In a (.Name x p) (TD X.K B (Fj false i ma)):=by
 intro pins s σ H Q I h;obtain⟨G,env,d,env',rl,e,k⟩:=h;obtain⟨⟨d1,a8⟩,e1,e2⟩:=C6 e;obtain⟨⟨ks,vs⟩,e3,e4⟩:=C6 e2;obtain⟨w,e5,e6⟩:=C6 e3;obtain⟨key,e7,e8⟩:=F4 e4;cases e8;refine i6 (ha pins s σ H (fun v H1=>∃G1,Ev X.K B G σ env H G1 σ a8 H1/\c4 X.K G1 v d1) I ⟨G,env,d1,a8,rl,e1,fun v G2 H2 ev r=>⟨G2,ev,r⟩⟩) fun iv s1 ⟨y,H1,I1,ry,G1,ev,r⟩=>?_
 obtain⟨q,kvs,g1,g2,g3,g4,g5⟩:=ev.rel.ownD i w ks vs e5 e6;refine i6 (hn pins s1 σ H1 (fun v H2=>v=.ref q/\H2=H1) I1 ⟨_,g1,rfl,rfl⟩) fun u s2 ⟨x,H2,I2,rx,z1,z2⟩=>?_
 subst z1 z2;cases rx;obtain⟨b',rfl,kb⟩:=Fi r e7;cases ry;exact bU (by omega) I2 g2 (kb.mono ev.rel.sub) fun s3 I3=>⟨.bl _,H2,I3,rfl,k _ G1 H2 ev (by rw[(EA key g3 g4).2];simp only[c4];rfl)⟩
theorem cC(hu:X.A.units+64<cLine)(ha:ED X B a ma)(hn:PE X (.Name x p) (Q4 i)):PC X .NotIn a (.Name x p) (TD X.K B (Fj true i ma)):=by
 intro pins s σ H Q I h;obtain⟨G,env,d,env',rl,e,k⟩:=h;obtain⟨⟨d1,a8⟩,e1,e2⟩:=C6 e;obtain⟨⟨ks,vs⟩,e3,e4⟩:=C6 e2;obtain⟨w,e5,e6⟩:=C6 e3;obtain⟨key,e7,e8⟩:=F4 e4;cases e8;refine i6 (ha pins s σ H (fun v H1=>∃G1,Ev X.K B G σ env H G1 σ a8 H1/\c4 X.K G1 v d1) I ⟨G,env,d1,a8,rl,e1,fun v G2 H2 ev r=>⟨G2,ev,r⟩⟩) fun iv s1 ⟨y,H1,I1,ry,G1,ev,r⟩=>?_
 obtain⟨q,kvs,g1,g2,g3,g4,g5⟩:=ev.rel.ownD i w ks vs e5 e6;refine i6 (hn pins s1 σ H1 (fun v H2=>v=.ref q/\H2=H1) I1 ⟨_,g1,rfl,rfl⟩) fun u s2 ⟨x,H2,I2,rx,z1,z2⟩=>?_
 subst z1 z2;cases rx;obtain⟨b',rfl,kb⟩:=Fi r e7;cases ry;exact bV (by omega) I2 g2 (kb.mono ev.rel.sub) fun s3 I3=>⟨.bl _,H2,I3,rfl,k _ G1 H2 ev (by rw[(EA key g3 g4).2];simp only[c4];rfl)⟩
theorem cD(σ:St)(H:Hp)(Q:Bool->Hp->Prop)(h:sY X.K B (mT m) σ H Q):tB (TD X.K B m) σ H Q:=by
 obtain⟨G,env,b,env',rl,e,k⟩:=h;unfold mT at e;obtain⟨⟨d,a8⟩,e1,e2⟩:=C6 e;cases d<;>first|(exact absurd (show(none:Option (Bool×c5))=some _ from e2) (by simp))|skip
 cases e2;exact⟨G,env,_,_,rl,e1,fun v G1 H1 ev r=>⟨_,by simpa only[c4]using r,k G1 H1 ev⟩⟩
theorem Nh(hu:X.A.units+64<cLine)(ha:ED X B a ma)(hn:PE X (.Name x p) (Q4 i))(hm:behindInMarks .NotIn (.Name x p)=false):ET X B (.Compare a [.NotIn] [.Name x p] pos) (mT (Fj true i ma)):=
 sN (Sq (cC hu ha hn) hm) cD
def cE(K:Qz):Er:=fun o i v H Q=>∃a b kvs k,o=.ref a/\i=.ref b/\H a=some (.dT (O2 K) kvs)/\Ct K H b k/\kvs.length<sizeLine/\Q (upd H a (.dT (O2 K) (AB kvs (N0 k) v)))
theorem cF(hu:X.A.units+64<cLine):Gk X (cE X.K):=by
 intro pins s σ H o i v ov iv u Q I ro ri rv h;obtain⟨a,b,kvs,k,rfl,rfl,e,kb,hl,q⟩:=h;cases ro;cases ri;exact bW (by omega) I e kb hl rv fun s' I'=>⟨_,I',q⟩
def gSD(s:Nat)(mi:Mo D):OZ:=fun d env=>((env[s]?).bind W.mutD).bind fun _=>(mi env).bind fun p=>(p.2[s]?).bind fun w=>w.mutD.bind fun q=>(Fh p.1).bind fun k=>
 if q.1.length<100000 then some (p.2.set s (w.putM (.d (ID q.1 k) (IE q.1 q.2 k d))))else none
theorem Ni{s:Nat}(hu:X.A.units+64<cLine)(ho:PE X (.Name x p) (Q4 s))(hi:ED X B b mb)
  (ha:∀v,assign (.Subscript (.Name x p) b pos) X.env v=(do
   let ov←holding [v] (eval (.Name x p) X.env)
   let iv←holding [v,ov] (eval b X.env)
   standAt pos
   holding [v,ov,iv] (setItem ov iv v)
   release [v,ov,iv] []):=by intro _;rfl):EG X B n (.Subscript (.Name x p) b pos) (gSD s mb):=by
 refine FI (LX ho hi (cF hu) ha) ?_
 rintro v σ H Q ⟨G,env,d,env',rl,r,e,k⟩;obtain⟨⟨ks0,vs0⟩,e0,e⟩:=C6 e;obtain⟨w0,e00,em0⟩:=C6 e0;obtain⟨⟨d1,a8⟩,e1,e2⟩:=C6 e;obtain⟨w,e3,e4⟩:=C6 e2;obtain⟨⟨ks,vs⟩,e5,e6⟩:=C6 e4;obtain⟨key,e7,e8⟩:=C6 e6;dsimp only at e8 e3;split at e8
 case isFalse=>cases e8
 rename_i hl;cases e8;obtain⟨q,kvs0,h1,_⟩:=rl.ownD s w0 ks0 vs0 e00 em0;refine⟨_,h1,.bind rl e1 fun iv G1 H1 ev r1=>?_⟩
 obtain⟨q',kvs,g1,g2,g3,g4,g5⟩:=ev.rel.ownD s w ks vs e3 e5;rw[h1]at g1;cases g1;obtain⟨b',rfl,kb⟩:=Fi r1 e7;obtain⟨p1,p2⟩:=bY (K:=X.K) (G:=G1) key g3 g4 (c4.mono ev.same _ r);have hz:kvs.length<sizeLine:=by
  have:=Yu List.length g3;rw[Qk,Qk]at this;rw[this];exact Us hl (by decide)
 exact⟨q,b',kvs,key,rfl,rfl,g2,kb.mono ev.rel.sub,hz,k _ G1 _ (ev.writeM e3 (W.mutD_of e5) h1 ⟨_,rfl,p1,p2⟩) fun _ _=>rfl⟩
end
section
variable{pos:Pos}{es:List Expr}
end
section
variable{G G1 G2:Hp}{env a8:c5}{H1 H2:Hp}{vs:List V}{ds:List D}{a:Addr}
end
section
variable{pos:Pos}{es:List Expr}{fn:Fn}{k:Nat}
end
end L2.Mir
namespace L2.Mir
open PySem PySem.Spec PyProof.Rows
variable{B:OA}{X:Cx}{d:D}{ds:List D}{i:Int}{py spos:Pos}{vs:List V}{x y:Str}
def EB:D->Option Str
 |.str x=>if x.length≤1000 then some x else none
 |.int i=>if-1000000000000000000<i/\i<1000000000000000000 then some (Str.ofString (toString i))else none
 |_=>none
def Fk:List D->Option Str
 |[]=>some Str.empty
 |d::ds=>(EB d).bind fun x=>(Fk ds).map fun y=>x++y
def Nj(ms:Mo (List D)):Mo D:=fun env=>(ms env).bind fun p=>if p.1.length≤100 then(Fk p.1).map fun s=>(.str s,p.2)else none
theorem Nk(h: -1000000000000000000<i/\i<1000000000000000000):i.natAbs<10^18:=by omega
theorem cG(hi: -1000000000000000000<i/\i<1000000000000000000):i.natAbs.log2<1920:=by
 have h1:=Nk hi
 by_cases h0:i.natAbs=0
 ·rw[h0];decide
 ·exact(Nat.log2_lt h0).mpr (Qr h1 (Zp (by decide:10^18≤2^60) (Nat.pow_le_pow_right (by decide) (by decide))))
theorem IH(h:EB (.str x)=some y):y=x/\x.length≤1000:=by
 have h':(if x.length≤1000 then some x else none)=some y:=h
 by_cases hx:x.length≤1000
 ·rw[Qn hx]at h';cases h';exact⟨rfl,hx⟩
 ·rw[Ql hx]at h';cases h'
theorem Nl(h:EB (.int i)=some y):y=Str.ofString (toString i)/\(-1000000000000000000<i/\i<1000000000000000000):=by
 have h':(if-1000000000000000000<i/\i<1000000000000000000 then some (Str.ofString (toString i))else none)=some y:=h
 by_cases hx: -1000000000000000000<i/\i<1000000000000000000
 ·rw[Qn hx]at h';cases h';exact⟨rfl,hx⟩
 ·rw[Ql hx]at h';cases h'
theorem II(h:EB d=some x):x.length≤1000:=by
 cases d<;>first|(exact absurd (show(none:Option Str)=some x from h) (by simp))|skip
 ·obtain⟨rfl,hi⟩:=Nl h
  have:=int_text_length_le10 (k:=18) (by decide) (Nk hi)
  rw[PySem.ofString_length];omega
 ·obtain⟨rfl,hx⟩:=IH h
  exact hx
theorem Nm:∀{ds:List D}{y:Str},Fk ds=some y->y.length≤1000 * ds.length
 |[],y,h=>by cases h;exact Jo _
 |d::ds,y,h=>by
  obtain⟨x,h1,h2⟩:=C6 h;obtain⟨z,h3,h4⟩:=F4 h2;subst h4;have:=II h1;have:=Nm h3;rw[strLen_append,Zj];omega
section
variable{pos p:Pos}{e:Expr}{vs:List Expr}{ma:Mo D}{ms:Mo (List D)}
def PJ(X:Cx)(B:OA)(vs:List Expr)(ms:Mo (List D)):Prop:=∀(pins:OX) (s:Shared) (σ:St) (H:Hp) (acc:Str) (Q:Str->Hp->Prop),Inv X pins σ H s->
 (∃G env ds env' y,Rel X.K B G σ env H/\ms env=some (ds,env')/\Fk ds=some y/\acc.length+1000 * ds.length≤sizeLine/\∀G' H',Ev X.K B G σ env H G' σ env' H'->Q (acc++y) H')->
 Joins (model X.prog X.w) X.A X.xe (evalEach vs X.env) acc (fun out s1=>∃H',Inv X pins σ H' s1/\Q out H') s
theorem Nn:PJ X B [] B4:=by
 rintro pins s σ H acc Q I ⟨G,env,ds,env',y,rl,e,f,hl,k⟩;cases e;cases f;refine⟨H,I,?_⟩;have:=k G H (.refl rl);rw[Str.append_empty]at this;exact this
theorem Np{ev:Expr}(h:∀(pins:OX) (s:Shared) (σ:St) (H:Hp) (x:Str) (G:Hp) (env:c5) (d:D) (env':c5) (Q:OE),Inv X pins σ H s->Rel X.K B G σ env H->ma env=some (d,env')->EB d=some x->
   (∀t s1 G' H',Inv X pins σ H' s1->Ev X.K B G σ env H G' σ env' H'->Q (.str x t) s1)->wpAny (model X.prog X.w) X.A (eval ev X.env) Q X.xe s)(t:PJ X B vs ms):PJ X B (ev::vs) (B0 ma ms):=by
 rintro pins s σ H acc Q I ⟨G,env,ds,env',y,rl,e,f,hl,k⟩;obtain⟨⟨d1,a8⟩,e1,e2⟩:=C6 e;obtain⟨⟨ds2,i5⟩,e3,e4⟩:=F4 e2;cases e4;obtain⟨x,f1,f2⟩:=C6 f;obtain⟨z,f3,f4⟩:=F4 f2;subst f4;show wpAny _ _ (eval ev X.env) _ _ s;refine h pins s σ H x G env d1 a8 _ I rl e1 f1 fun tk s1 G1 H1 I1 m9=>⟨x,tk,rfl,?_,?_⟩
 ·have:=II f1
  rw[Zj]at hl;dsimp only at hl;rw[strLen_append];omega
 ·refine t pins s1 σ H1 (acc++x) Q I1 ⟨G1,a8,ds2,_,z,m9.rel,e3,f3,?_,fun G2 H2 f7=>?_⟩
  ·have:=II f1
   rw[Zj]at hl;dsimp only at hl;rw[strLen_append];omega
  ·rw[Str.append_assoc]
   exact k G2 H2 (m9.trans f7)
theorem Fm{j}(t:PJ X B vs ms):PJ X B (.Constant (.str x) j p::vs) (B0 (mC (.str x)) ms):=by
 refine Np (fun pins s σ H y G env d env' Q I rl e f k=>?_) t
 cases e;obtain⟨rfl,_⟩:=IH f;exact Calls.Constant_str (k _ _ G H (I.tok _) (.refl rl))
theorem Fo(h:ED X B e ma)(t:PJ X B vs ms):PJ X B (.FormattedValue e (-1) none p::vs) (B0 ma ms):=by
 refine Np (fun pins s σ H y G env d env' Q I rl em f k=>?_) t
 refine PyProof.Rows.FormattedValue_plain (i6 (h pins s σ H (fun v H1=>∃G1,Ev X.K B G σ env H G1 σ env' H1/\c4 X.K G1 v d) I ⟨G,env,d,env',rl,em,fun v G1 H1 ev r=>⟨G1,ev,r⟩⟩) fun u s1 ⟨x,H1,I1,rx,G1,ev,r⟩=>?_)
 cases d<;>first|(exact absurd (show(none:Option Str)=some y from f) (by simp))|skip
 ·simp only[c4]at r
  subst r;obtain⟨tk,rfl⟩:=rx;obtain⟨rfl,hi⟩:=Nl f;exact formatField_int_small (cG hi) (k _ _ G1 H1 ((I1.tok _)) ev)
 ·rename_i z
  simp only[c4]at r;obtain⟨r,hz⟩:=r;subst r;obtain⟨tk,rfl⟩:=rx;obtain⟨rfl,_⟩:=IH f;exact formatField_str (fun t' tk'=>k _ _ G1 H1 (I1.tok _) ev) hz
theorem Nq{M:Model}{A:Around}{E:OE}:∀{l:List (Sem Value)}{acc:Str}{Q Q':Str->Shared->Prop}{s:Shared},Joins M A E l acc Q s->(∀x s,Q x s->Q' x s)->Joins M A E l acc Q' s
 |[],acc,Q,Q',s,h,f=>f _ _ h
 |x::l,acc,Q,Q',s,h,f=>Qi h (fun v s1 ⟨y,t,e,z,r⟩=>⟨y,t,e,z,Nq r f⟩) fun _ _ e=>e
theorem Nr{v1 v2:Expr}(h:PJ X B (v1::v2::vs) ms):ED X B (.JoinedStr (v1::v2::vs) pos) (Nj ms):=by
 rintro pins s σ H Q I ⟨G,env,d,env',rl,e,k⟩;obtain⟨⟨ds,a8⟩,e1,e2⟩:=C6 e;dsimp only at e2;split at e2
 case isFalse=>cases e2
 rename_i hl;obtain⟨y,e3,e4⟩:=F4 e2;cases e4;have hy:=Nm e3;have hb:1000 * ds.length≤100000:=by omega
 have hz:(100000:Nat)≤sizeLine:=by decide
 refine wpAny_JoinedStr ?_
 have:=h pins s σ H Str.empty (fun out H1=>out.length≤sizeLine/\Q (.str out) H1) I ⟨G,env,ds,env',y,rl,e1,e3,by show 0+_≤_;omega,fun G1 H1 ev=>⟨?_,?_⟩⟩
 ·exact Nq this fun out s1 ⟨H1,I1,q1,q2⟩=>⟨q1,.str out,H1,I1.tok _,⟨_,rfl⟩,q2⟩
 ·rw[Str.empty_append];omega
 ·rw[Str.empty_append]
  exact k _ G1 H1 ev (by simp only[c4];exact⟨trivial,by omega⟩)
end
section
variable{N':List Str}{scope:Scope}{keep:List Bool}{more:Nat}{tg iter elt:Expr}{ifs:List Expr}{gs:List Comprehension}{g:TG}{tt:TT}{act:Addr->Z0}{pos:Pos}
theorem cH{wi:TI}{i:Nat}(ok:pO X N' scope keep more)(hc:X.calm=true)(hN:X.N.Nodup)(hy:X.N[i]? =some y)(hyl:X.env.scope.names.lookup y=some .local)
  (hsw:swapsWith (.ListComp elt (⟨tg,iter,ifs,0⟩::gs) scope pos) (some (.Name y py)) spos.line X.env=pure true)
  (hi:PI X tg iter wi)(hg:∀s H fp,PG (J5 X N' scope s H fp) tg g)(ht:∀s H fp,U0 (J5 X N' scope s H fp) ifs tt)(he:∀s H fp p,Ai (J5 X N' scope s H fp) (X3 elt (⟨tg,iter,ifs,0⟩::gs) scope pos 0 (.ref p) (J5 X N' scope s H fp).env) (act p))
  (hs:∀x,foldedSetIterable iter X.env x=pure x:=by intro _;rfl):PS X (.Assign [.Name y py] (.ListComp elt (⟨tg,iter,ifs,0⟩::gs) scope pos) spos) (Gn (IA wi keep more g tt act) (Gm i)):=by
 intro pins s σ H D I h;rw[exec_Assign_Name_used _ _ _ _ hsw];refine Qq (Uo (Qq ?_));show wpAny _ X.A (do let _←comprehension (.ListComp elt (⟨tg,iter,ifs,0⟩::gs) scope pos) scope X.env _ (newList []) false (eval iter X.env) (some (assign (.Name y py) X.env))) _ _ s
 refine Qq (Qi (wpAny_comprehension_free (use:=some (assign (.Name y py) X.env)) (Q:=fun _ s'=>SP X pins D .next s') rfl hs ok.clos ok.kind (fun x hx hl=>by have:=ok.uniq x hx;rwa [hl]at this) (i6 (hi pins s σ H _ I h) fun v s1 h1=>i6 h1 fun itv s2 h2=>?_)) (fun _ s' hq=>Qv (Qv hq)) fun _ _ e=>e)
 obtain⟨it,fp,tn,J,H2,e,I2,T,st2,f2,run⟩:=h2;subst e;refine NY (Qf:=fun p H'=>D.nx (σ.set i (some (.ref p))) H') (RR:=fun acc C=>compPost (model X.prog X.w) X.A X.xe (some (assign (.Name y py) X.env)) (fun _ s'=>SP X pins D .next s') acc C) ok hc hg ht he I2 T st2 f2 run ?_
 intro p C s' H' m IX qf hn hCL hCc hCn turn;refine wpAny_assign_Name (LN (v:=.ref p) (u:=.ref p) IX hN hy (.inl hyl) rfl (fun s'' I'' hs''=>?_) (.inr hyl))
 obtain⟨a,hsb,ha⟩:=hs'';have hCa:C≠a:=by
  rcases ha with z|z
  ·rw[z];exact hCL
  ·exact fun q=>hCc y a z q.symm
 exact⟨m,hn.sameBut hsb hCa,fun h' hs'=>⟨_,H',turn _ H' s'' h' I'' hCn hs',qf⟩⟩
end
section
variable{N':List Str}{scope pV:Scope}{keep:List Bool}{more n d:Nat}{tg iter elt:Expr}{ifs:List Expr}{gens gs:List Comprehension}{g:OZ}{t:Mo Bool}{m:Mo D}{mi:Mo (List D)}{a:Mo (List D)}{pos:Pos}{s:Shared}{H:Hp}{fp:List Addr}{p:Addr}
theorem IJ{i:Nat}(ok:pO X N' scope keep more)(hc:X.calm=true)(hN:X.N.Nodup)(hy:X.N[i]? =some y)(hyl:X.env.scope.names.lookup y=some .local)
  (hsw:swapsWith (.ListComp elt (⟨tg,iter,ifs,0⟩::gs) scope pos) (some (.Name y py)) spos.line X.env=pure true)
  (hi:EI X B tg iter mi)(hg:∀s H fp,EG (J5 X N' scope s H fp) B X.N.length tg g)(ht:∀s H fp,U0 (J5 X N' scope s H fp) ifs (sY X.K B t))
  (he:∀s H fp p,yI (J5 X N' scope s H fp) B X.N.length elt (⟨tg,iter,ifs,0⟩::gs) scope pos 0 p a)
  (hs:∀x,foldedSetIterable iter X.env x=pure x:=by intro _;rfl):ES X B (.Assign [.Name y py] (.ListComp elt (⟨tg,iter,ifs,0⟩::gs) scope pos) spos) (K7 i (Bx mi keep more g t a)):=by
 intro pins s σ H D I h;obtain⟨G,env,fl,env',rl,e,k⟩:=h;obtain⟨⟨d,a8⟩,e1,e2⟩:=F4 e;cases e2;exact cH (act:=wX X.K B X.N.length a) ok hc hN hy hyl hsw hi hg ht (fun s H fp p=>he s H fp p) hs pins s σ H D I (Na ok.klen σ H _ I.len ⟨G,env,d,_,rl,e1,fun a xs G' H' ev ha no h' g' r=>k _ G' H' (ev.setOwn (fun z=>rl.old a z ha) ha no h' g' r)⟩)
end
def W.view:W->Option D
 |.dat d=>some d
 |.own ds=>some (.lst ds)
 |.par ds=>some (.lst ds)
 |.ownD ks vs=>some (.dct ks vs)
 |.parD ks vs=>some (.dct ks vs)
 |.nil=>none
def D.flat:D->Bool
 |.non=>true
 |.bl _=>true
 |.int _=>true
 |.str _=>true
 |_=>false
def Fp(env:c5):List Nat->Option (List D)
 |[]=>some []
 |i::is=>((env[i]?).bind W.view).bind fun d=>(Fp env is).map fun ds=>d::ds
def Fq(n:Nat)(f:Fn)(is:List Nat):Mo D:=fun env=>(Fp env is).bind fun ds=>if ds.length=n then(f (ds.map W.dat)).bind fun q=>match q.1 with
 |.d d=>if d.flat then some (d,env)else none
 |_=>none else none
inductive pK (X:Cx):List Expr->List Nat->Prop
 |nil:pK X [] []
 |cons {x:Str}{p:Pos}{i:Nat}{es:List Expr}{is:List Nat}:PE X (.Name x p) (Q4 i)->pK X es is->pK X (.Name x p::es) (i::is)
def TVs(is:List Nat):TA:=fun σ H Q=>∃vs,Paired (fun i v=>σ[i]? =some (some v)) is vs/\Q vs H
theorem Nt{X:Cx}:∀{es:List Expr}{is:List Nat},pK X es is->PA X es (TVs is)
 |_,_,.nil=>qT AA fun σ H Q ⟨vs,h,q⟩=>by cases h;exact q
 |_,_,.cons h t=>qT (R0 h (Nt t) rfl) fun σ H Q ⟨vs,h,q⟩=>by
  cases h with
  |cons h1 h2=>exact⟨_,h1,_,h2,q⟩
section
variable{K:Qz}{G:Hp}{σ:St}{env:c5}{H:Hp}
open Classical in
noncomputable def T2 (G:Hp) (σ:St) (env:c5) (H:Hp):Hp:=fun b=>if d5 σ env b then H b else G b
theorem Ft(rl:Rel K B G σ env H):Le G (T2 G σ env H):=fun b o e=>by
 unfold T2;split
 ·exact rl.sub b o e
 ·exact e
theorem cI(rl:Rel K B G σ env H):Le (T2 G σ env H) H:=fun b o e=>by
 unfold T2 at e;split at e
 ·exact e
 ·exact rl.sub b o e
theorem Nu{b:Addr}(h:d5 σ env b):T2 G σ env H b=H b:=Qn h
theorem Nv(rl:Rel K B G σ env H){i:Nat}{v:V}(hv:σ[i]? =some (some v))(h:((env[i]?).bind W.view)=some d):c4 K (T2 G σ env H) v d:=by
 obtain⟨w,e1,e2⟩:=C6 h;have mutc:∀m,w.mut=some m->(∀G1 a o,G1 a=some o->qS K G1 o m->c4 K G1 (.ref a) d)->c4 K (T2 G σ env H) v d:=fun m em hr=>by
  obtain⟨a,o,h1,h2,h3,h4⟩:=rl.own i w m e1 em;rw[hv]at h1;cases h1;exact hr _ a o (by rw[Nu ⟨i,w,m,e1,em,hv⟩];exact h2) (h3.mono (Ft rl))
 have hl:∀ds,d=.lst ds->∀G1 a o,G1 a=some o->qS K G1 o (.l ds)->c4 K G1 (.ref a) d:=fun ds z G1 a o h ⟨xs,z2,q⟩=>by subst z z2;exact HD h q
 have hd:∀ks vs,d=.dct ks vs->∀G1 a o,G1 a=some o->qS K G1 o (.d ks vs)->c4 K G1 (.ref a) d:=fun ks vs z G1 a o h ⟨kvs,z2,q1,q2⟩=>by subst z z2;simp only[c4];exact⟨a,kvs,rfl,h,q1,q2⟩
 cases w with
 |nil=>cases e2
 |dat d'=>
  cases e2;obtain⟨v',q1,q2⟩:=rl.dat i d e1;rw[hv]at q1;cases q1;exact c4.mono (Ft rl) d q2
 |own ds=>cases e2;exact mutc _ rfl (hl ds rfl)
 |par ds=>cases e2;exact mutc _ rfl (hl ds rfl)
 |ownD ks vs=>cases e2;exact mutc _ rfl (hd ks vs rfl)
 |parD ks vs=>cases e2;exact mutc _ rfl (hd ks vs rfl)
theorem Nw(rl:Rel K B G σ env H):∀{is:List Nat}{vs:List V}{ds:List D},Paired (fun i v=>σ[i]? =some (some v)) is vs->Fp env is=some ds->C3 K (T2 G σ env H) vs ds
 |[],_,ds,.nil,e=>by cases e;exact d9
 |i::is,_,ds,.cons h t,e=>by
  obtain⟨d,e1,e2⟩:=C6 e;obtain⟨ds',e3,e4⟩:=F4 e2;subst e4;exact c9 (Nv rl h e1) (Nw rl t e3)
theorem cJ{a:Addr}:¬ d5 (vs.map some) (ds.map W.dat) a:=by
 rintro⟨i,w,m,e1,e2,_⟩;rw[Zw]at e1;cases q:ds[i]? with
 |none=>rw[q]at e1;cases e1
 |some d=>rw[q]at e1;cases e1;cases e2
theorem Nx(rl:Rel K B G σ env H)(r:C3 K (T2 G σ env H) vs ds):Rel K P6 (T2 G σ env H) (vs.map some) (ds.map W.dat) H:=by
 have no:∀(i:Nat) (w:W) (m:Mu),(ds.map W.dat)[i]? =some w->w.mut=some m->False:=fun i w m e1 e2=>by
  rw[Zw]at e1;cases q:ds[i]? with
  |none=>rw[q]at e1;cases e1
  |some d=>rw[q]at e1;cases e1;cases e2
 refine⟨cI rl,by simp[r.length],fun i d e=>?_,fun i w m e1 e2=>(no i w m e1 e2).elim,fun i j w w' m m' a e1 e2=>(no i w m e1 e2).elim,fun i w a e1 eo _ h=>h,fun b h=>h.elim,rl.tabs,fun b o e=>?_⟩
 ·rw[Zw]at e
  cases q:ds[i]? with
  |none=>rw[q]at e;cases e
  |some d'=>
   rw[q]at e;cases e;obtain⟨v,g1,g2⟩:=r.get q;exact⟨v,by rw[Zw,g1];rfl,g2⟩
 ·unfold T2 at e
  split at e
  ·rename_i ow
   obtain⟨i,w,m,q1,q2,q3⟩:=ow;obtain⟨a,o',p1,p2,p3,_⟩:=rl.own i w m q1 q2;rw[q3]at p1;cases p1;rw[p2]at e;cases e;exact p3.nt
  ·exact rl.gnt b o e
theorem Ny(rl:Rel K B G σ env H){G2 H2:Hp}{ws':List W}(ev:Ev K P6 (T2 G σ env H) (vs.map some) (ds.map W.dat) H G2 (vs.map some) ws' H2):Ev K B G σ env H G σ env H2:=by
 have le2:Le G H2:=((Ft rl).trans ev.same).trans ev.rel.sub
 refine⟨⟨le2,rl.len,rl.dat,fun i w m e1 e2=>?_,rl.inj,rl.fresh,fun b h=>ev.live b (rl.old b h),ev.rel.tabs,rl.gnt⟩,Le.refl,fun b o _ t e=>ev.keep b o cJ t e,ev.live,fun b _ _ g=>g,fun a z=>.inl z,fun i w e hp=>⟨rfl,w,e,hp⟩,rfl⟩
 obtain⟨a,o,h1,h2,h3,h4⟩:=rl.own i w m e1 e2;exact⟨a,o,h1,ev.rel.sub _ _ (ev.same _ _ (by rw[Nu ⟨i,w,m,e1,e2,h1⟩];exact h2)),h3,h4⟩
end
section
variable{pos p:Pos}{e:Expr}{es:List Expr}{is:List Nat}{fn:Fn}{k n:Nat}
theorem Nz(D:Def X.prog X.w X.K X.mg X.base x k n fn)(hr:g6 k X.A)(hg:Gl X x)(ha:pK X (e::es) is)(hdb:(x==("__debug__":Str))=false:=by decide)
  (he:starEach (e::es) X.env=(false,eval e X.env)::starEach es X.env:=by rfl)(hpl:(backTo pos (starEach es X.env)).any (·.1)=false:=by rfl):
  ED X B (.Call (.Name x p) (e::es) [] pos) (Fq n fn is):=by
 obtain⟨f,fd,ps,F,rfl,hm,hk,hb⟩:=D.ex;refine c8 (DU F hr hg hm hk hb .nil Cb (Nt ha) hdb he hpl) ?_
 rintro σ H Q ⟨G,env,d,env',rl,e,k⟩;obtain⟨ds,e1,e2⟩:=C6 e;split at e2
 case isFalse=>cases e2
 rename_i hn;obtain⟨⟨r,ws'⟩,e3,e4⟩:=C6 e2;cases r with
 |l _=>cases e4
 |d d'=>
  dsimp only at e4;split at e4
  case isFalse=>cases e4
  rename_i hf;cases e4;have zU:∀(is:List Nat) (ds:List Mir.D),Fp env is=some ds->∃vs:List V,Paired (fun i v=>σ[i]? =some (some v)) is vs:=by
   intro is
   induction is with
   |nil=>intro ds _;exact⟨[],.nil⟩
   |cons i is ih=>
    intro ds h;obtain⟨d0,h1,h2⟩:=C6 h;obtain⟨ds1,h3,h4⟩:=F4 h2;obtain⟨w,w1,w2⟩:=C6 h1;obtain⟨vs,hv⟩:=ih ds1 h3;have:∃v,σ[i]? =some (some v):=by
     cases w with
     |nil=>cases w2
     |dat d2=>obtain⟨v,q,_⟩:=rl.dat i _ w1;exact⟨v,q⟩
     |own ds2=>obtain⟨a,_,q,_⟩:=rl.own i _ _ w1 rfl;exact⟨_,q⟩
     |par ds2=>obtain⟨a,_,q,_⟩:=rl.own i _ _ w1 rfl;exact⟨_,q⟩
     |ownD _ _=>obtain⟨a,_,q,_⟩:=rl.own i _ _ w1 rfl;exact⟨_,q⟩
     |parD _ _=>obtain⟨a,_,q,_⟩:=rl.own i _ _ w1 rfl;exact⟨_,q⟩
    obtain⟨v,q⟩:=this;exact⟨v::vs,.cons q hv⟩
  obtain⟨vs,hv⟩:=zU is ds e1;have rp:=Nw rl hv e1;refine⟨vs,hv,?_⟩;show k9 X.K ps.length fn (vs++[]) H Q _;rw[Yg];refine⟨T2 G σ env H,ds.map W.dat,.d d,ws',by simpa using hn,fun w hw=>?_,Nx rl rp,e3,fun v G2 H2 ev r2=>k v G H2 (Ny rl ev) ?_⟩
  ·obtain⟨d1,_,rfl⟩:=Zq.mp hw
   exact .inl ⟨d1,rfl⟩
  ·cases d<;>first|(simp only[c4]at r2 ⊢;exact r2)|cases hf
end
end L2.Mir
namespace L2.Mir
open PySem PyProof PyProof.Rows L2
variable{A:Around}{B:OA}{E:OE}{G H:Hp}{K:Qz}{X:Cx}{e:Expr}{l:List (Str×(List W->Option Str))}{prog:Program}{r:Nat}{s:Shared}{w:World}{x:Str}{σ:St}
variable{X:Cx}{B:OA}
def IK(i j:Int):Prop:=Builtin.Int.intBits i≤60000/\Builtin.Int.intBits j≤60000
def OB(i j:Int):Bool:=decide (Builtin.Int.intBits i≤60000)&&decide (Builtin.Int.intBits j≤60000)
def Fu:=fI OB fun i j=>.int (i * j)
theorem cK:o3 X (inplaceOp .Mult) (rI IK fun i j=>.int (i * j)):=yD fun _ _ _ _ _ _ _ hc q=>imul_int q (IntMulOk.of_le (m:=60000) (n:=60000) hc.1 hc.2 (by decide))
theorem cL:qB X B (rI IK fun i j=>.int (i * j)) Fu:=Cc (fun i j h=>by simpa [IK,OB]using h) fun _ _ _ _=>by simp only[c4]
def S4:OI->OI->Bool
 |[],[]=>false
 |[],_::_=>true
 |_::_,[]=>false
 |x::xs,y::ys=>if x=y then S4 xs ys else HT.lexLt x y
theorem OC(x y:List Int)(xs ys:OI):S4 (x::xs) (y::ys)=if x=y then S4 xs ys else HT.lexLt x y:=rfl
inductive f9 (h:Heap):List Value->OI->Prop
 |nil:f9 h [] []
 |cons {a:Addr}{its:Array Value}{k:List Int}{vs:List Value}{ks:OI}(t:IsTup h a its) (i:IntsAre its.toList k) (r:f9 h vs ks):f9 h (.ref a::vs) (k::ks)
theorem f9.length{h:Heap}{vs:List Value}{ks:OI}(r:f9 h vs ks):vs.length=ks.length:=by
 induction r with
 |nil=>rfl
 |cons _ _ _ ih=>simp[ih]
theorem IL{h:Heap}:∀{vs:List Value}{ns:List Int},IntsAre vs ns->∃as,ReadsAll h vs (ns.map PyData.int) as
 |_,_,.nil=>⟨_,.nil⟩
 |_,_,.cons n t r=>by
  obtain⟨as,q⟩:=IL (h:=h) r;exact⟨_,.cons (.int n t) q⟩
theorem By:∀ns:List Int,PyData.canLayAll0 (ns.map PyData.int)=true
 |[]=>rfl
 |n::ns=>by simp[PyData.canLayAll0,PyData.canLay0,By ns]
theorem OD:∀ns:List Int,PyData.depthAll (ns.map PyData.int)≤1
 |[]=>by simp[PyData.depthAll]
 |n::ns=>by
  have:=OD ns;simp only[Qh,PyData.depthAll,PyData.depth]
  omega
theorem OF:∀l k:List Int,PyData.eqvAll (l.map PyData.int) (k.map PyData.int)=decide (l=k)
 |[],[]=>by simp[PyData.eqvAll]
 |[],_::_=>by simp[PyData.eqvAll]
 |_::_,[]=>by simp[PyData.eqvAll]
 |a::l,b::k=>by
  simp only[Qh,PyData.eqvAll,OF l k,PyData.eqv]
  by_cases h:a=b<;>simp[h]
theorem OG{a b:Addr}{xs ys:Array Value}{l k:List Int}(ta:IsTup s.heap a xs)(ia:IntsAre xs.toList l)(tb:IsTup s.heap b ys)(ib:IntsAre ys.toList k)(hu:A.units+8<cLine):
  SeqAt.EqAt A s (.ref a) (.ref b) (decide (l=k)):=by
 obtain⟨o,h1,h2,n,h3⟩:=ta;obtain⟨o',g1,g2,n',g3⟩:=tb;obtain⟨as,ra⟩:=IL (h:=s.heap) ia;obtain⟨bs,rb⟩:=IL (h:=s.heap) ib;have c1:(PyData.tuple (l.map .int)).canLay0=true:=by simpa [PyData.canLay0]using By l
 have c2:(PyData.tuple (k.map .int)).canLay0=true:=by simpa [PyData.canLay0]using By k
 have d1:(PyData.tuple (l.map .int)).depth≤2:=by
  have:=OD l;simp only[PyData.depth];omega
 have:=SeqAt.eqAt_reads (.tuple (l.map .int)) (.tuple (k.map .int)) A s (.ref a) (.ref b) _ _ (.tuple h1 h2 h3 ra) (.tuple g1 g2 g3 rb) c1 c2 (by
  have:min (PyData.tuple (l.map .int)).depth (PyData.tuple (k.map .int)).depth≤(PyData.tuple (l.map .int)).depth:=Nat.min_le_left _ _
  omega)
 have e:PyData.eqv (.tuple (l.map .int)) (.tuple (k.map .int))=decide (l=k):=by
  rw[←OF l k];simp[PyData.eqv]
 rw[e]at this;exact this
section
open PySem.SeqAt
open PySem.AutoSeq1 (wpAny_loadPart')
open PySem.MeetsSeq PySem.MeetsSeq2 PySem.MeetsSeq3
theorem cM(l b:Addr)(items items2:Array Value)(n n2:Nat)(dd dd2:Option Addr)(sl sl2:Array (Option Value))(ns ms:OI):
  Meets (Builtin.«tuple.__lt__» ⟨[.ref l,.ref b],[]⟩)
   (fun A R s=>A.units+16<cLine/\f9 s.heap items.toList ns/\f9 s.heap items2.toList ms/\s.heap.get? l=some {cls:=.type "tuple",dict:=dd,data:=.seq items n,slots:=sl}/\s.heap.get? b=some {cls:=.type "tuple",dict:=dd2,data:=.seq items2 n2,slots:=sl2}/\
    R (.ok (.ret (.bool (S4 ns ms)))) s):=
 .of_wp fun prog w A R s h=>by
  obtain⟨hp,g,d,tk,os⟩:=s;obtain⟨hu,hi,hj,hl,hb,h⟩:=h;have f2:=AutoSeq1.sub_tuple_tuple;have z1:items.size=ns.length:=by rw[←hi.length];simp
  have z2:items2.size=ms.length:=by rw[←hj.length];simp
  wp_walk using Yj hl,Yj hb,wpAny_forIn_list _ (fun rest b s'=>b.1=none/\s'=⟨hp,g,d,tk,os⟩/\∃(vs ws:List Value) (ns' ms':OI),rest=vs.zip ws/\
   f9 hp vs ns'/\f9 hp ws ms'/\ns'.length+items2.size=ms'.length+items.size/\R (.ok (.ret (.bool (S4 ns' ms')))) ⟨hp,g,d,tk,os⟩) _
  case turn=>
   rintro⟨y,x⟩ rest b s' ⟨hb',rfl,vs,ws,ns',ms',hz,hvi,hwi,hlen,hR⟩;cases hvi with
   |nil=>rw[List.zip_nil_left]at hz;cases hz
   |@cons a its k vs ks ta ia hvi'=>
    cases hwi with
    |nil=>rw[List.zip_nil_right]at hz;cases hz
    |@cons a' its' k' ws ks' tb ib hwi'=>
     rw[Uw]at hz;injection hz with hyx hrest
     injection hyx with hy hx
     subst hy hx;rw[OC]at hR;simp only[Zj]at hlen;have he:=OG (A:=A.in1) (s:=⟨hp,g,d,tk,os⟩) ta ia tb ib (by show A.units+1+8<cLine;omega)
     refine Qq (he prog w _ _ ?_)
     by_cases e:k=k'
     ·rw[Qn e]at hR
      rw[Ye e]
      wp_walk
      exact⟨rfl,rfl,_,_,_,_,hrest,hvi',hwi',by omega,hR⟩
     ·rw[Ql e]at hR
      rw[Qt e];have hri:∀(E:OE) (Q:OE),Q (.bool (HT.lexLt k k')) ⟨hp,g,d,tk,os⟩->wpAny (model prog w) A.in1 (richCompare .Lt (.ref a) (.ref a')) Q E ⟨hp,g,d,tk,os⟩:=fun E Q hq=>
       (HT.sL ta tb ia ib (by show A.units+1<cLine;omega) hq:wpAny (model prog w) A.in1 (compareOp .Lt (.ref a) (.ref a')) Q E ⟨hp,g,d,tk,os⟩)
      wp_walk using hri
      exact⟨_,rfl,by simpa using hR⟩
  case fin=>
   rintro⟨b1,b2⟩ s' ⟨hb',rfl,vs,ws,ns',ms',hz,hvi,hwi,hlen,hR⟩;simp only at hb';subst hb';have hv:S4 ns' ms'=decide (items.size<items2.size):=by
    cases hvi with
    |nil=>
     cases hwi with
     |nil=>
      simp only[Jz]at hlen;show false=_;exact(Qt (by omega)).symm
     |cons _ _ hw=>
      simp only[Jz,Zj]at hlen;show true=_;exact(Ye (by omega)).symm
    |cons _ _ hv=>
     cases hwi with
     |nil=>
      simp only[Jz,Zj]at hlen;show false=_;exact(Qt (by omega)).symm
     |cons _ _ hw=>
      rw[Uw]at hz;cases hz
   rw[hv]at hR
   wp_walk
   exact⟨_,rfl,by simpa [Builtin.Tuple.tupleCompareSizes]using hR⟩
  case h=>
   exact⟨rfl,rfl,items.toList,items2.toList,ns,ms,rfl,hi,hj,by omega,h⟩
end
def pR:List D->Option (OI)
 |[]=>some []
 |.tup x::r=>(i9 x).bind fun a=>(pR r).map fun l=>a::l
 |_::_=>none
section
variable{pins:OX}
theorem IM(I:Inv X pins σ H s)(l:Le G H):∀{ds:List D}{xs:List V}{us:List Value}{ks:OI},D2 xs us->C3 X.K G xs ds->pR ds=some ks->f9 s.heap us ks
 |[],_,_,_,v,r,e=>by
  simp only[C3]at r;subst r;cases v;cases e;exact .nil
 |d::ds,_,_,ks,v,r,e=>by
  simp only[C3]at r;obtain⟨x,t,rfl,q,r⟩:=r;cases d<;>first|(exact absurd (show(none:Option (OI))=some ks from e) (by simp))|skip
  rename_i es;obtain⟨k,e1,e2⟩:=C6 (show(i9 es).bind _=some ks from e)
  obtain⟨l',e3,e4⟩:=F4 e2;subst e4;simp only[c4]at q;obtain⟨a,ys,rfl,hq,rp⟩:=q;have hy:=BC rp e1;subst hy;cases v with
  |cons v1 v2=>
   cases v1;obtain⟨its,rv,p1,_⟩:=I.tuple (l.sqT hq);exact .cons p1 (by simpa using Ew rv) (IM I l v2 r e3)
end
def IP(i j:Int):Prop:=0<j/\Builtin.divisionGoesByPylong i j=false
def OH(i j:Int):Bool:=decide (0<j)&&!Builtin.divisionGoesByPylong i j
def OJ:=fI OH fun i j=>.int (i/j)
theorem cN:o3 X (binaryOp .FloorDiv) (rI IP fun i j=>.int (i/j)):=yD fun i j _ _ _ _ _ hc q=>by
 have h1:(0:Int)<j:=hc.1
 exact floordiv_int (by omega) (by rw[Int.fdiv_eq_ediv_of_nonneg i (by omega)];exact q) (.inl hc.2)
theorem cO:qB X B (rI IP fun i j=>.int (i/j)) OJ:=Cc (fun i j h=>by simpa [IP,OH]using h) fun _ _ _ _=>by simp only[c4]
section
variable{st:Expr}{ma:Mo D}{pos p2:Pos}
end
section
variable{h₀:Heap}{L kS D:Addr}{m:OU}{news0:OX}{e1:Nat}{Fin:List Value->Nat->Shared->Prop}
end
section
variable{pins:OX}
end
section
variable{ma:Mo D}{p p1 kp1 kp2 pos:Pos}{j:Nat}{p2:Pos}
end
section
open PySem.SeqAt
open PySem.AutoSeq1 (wpAny_loadPart')
open PySem.MeetsSeq PySem.MeetsSeq2 PySem.MeetsSeq3
end
section
variable{pos:Pos}{o:Expr}{ma mb:Mo D}
end
section
variable{H0 G':Hp}{σ':St}{env env':c5}{H':Hp}
end
section
variable(K:Qz)(B:OA)(r:Nat)
end
section
variable{a b:Expr}{pos:Pos}{st:Stmt}{rest:List Stmt}
end
section
variable{a b tg:Expr}{pos:Pos}{st:Stmt}{rest:List Stmt}
end
mutual
def D.lf:D->Bool
 |.non=>true
 |.bl _=>true
 |.int _=>true
 |.str _=>true
 |.tup ds=>yZ ds
 |_=>false
def yZ:List D->Bool
 |[]=>true
 |d::ds=>d.lf&&yZ ds
end
section
variable{G':Hp}
mutual
theorem yA(h:∀b xs,G b=some (.tup xs)->G' b=some (.tup xs)):∀(d:D) {v:V},d.lf=true->c4 K G v d->c4 K G' v d
 |.non,v,_,r=>by simpa only[c4]using r
 |.bl b,v,_,r=>by simpa only[c4]using r
 |.int i,v,_,r=>by simpa only[c4]using r
 |.str x,v,_,r=>by simpa only[c4]using r
 |.tup ds,v,l,r=>by
  simp only[c4]at r ⊢;obtain⟨a,xs,e,q,t⟩:=r;exact⟨a,xs,e,q.imp (fun e=>h _ _ e) id,uL h ds (by simpa only[D.lf]using l) t⟩
 |.lst ds,v,l,r=>by simp[D.lf]at l
 |.emp,v,l,r=>by simp[D.lf]at l
 |.obj o,v,l,r=>by simp[D.lf]at l
 |.dct _ _,v,l,r=>by simp[D.lf]at l
theorem uL(h:∀b xs,G b=some (.tup xs)->G' b=some (.tup xs)):∀(ds:List D) {xs:List V},yZ ds=true->C3 K G xs ds->C3 K G' xs ds
 |[],_,_,r=>by simpa only[C3]using r
 |d::ds,_,l,r=>by
  simp only[C3]at r ⊢;obtain⟨x,t,e,q,u⟩:=r;have l':d.lf=true/\yZ ds=true:=by simpa only[yZ,Qy]using l
  exact⟨x,t,e,yA h d l'.1 q,uL h ds l'.2 u⟩
end
end
section
variable{H0:Hp}{env:c5}
end
section
variable{pos p px:Pos}{fn:Fn}{k n:Nat}{y:Str}
end
section
variable{G1:Hp}{σ1:St}{env a8:c5}{H1:Hp}
end
section
variable{N':List Str}{scope:Scope}{keep:List Bool}{more:Nat}{tg iter elt:Expr}{g:OZ}{ml mi:Mo (List D)}{pos:Pos}
end
section
variable{ma:Mo D}{pos p2:Pos}
end
open PySem.W Builtin Builtin.ObjectAttr Builtin.Getset_descriptor PySem.Calls
theorem fl1:typeLookup (.type "function") "__getattribute__"=pure (some (.builtin "object.__getattribute__")):=by rfl
theorem fl2(self:Value):bindSpecial (Value.builtin "object.__getattribute__") self=pure (Value.builtin "object.__getattribute__",[self]):=by rfl
theorem fl3:typeLookup (.type "function") "__class__"=pure (some (.builtin "object.__class__")):=by rfl
theorem fl4:isSubtype (.type "function") (.type "object")=pure true:=by rfl
theorem xQ:getOf (some (.builtin "object.__class__"))=pure (some (.builtin "getset_descriptor.__get__")):=by rfl
theorem fl6:dataDescriptor? (some (.builtin "object.__class__")) (some (.builtin "getset_descriptor.__get__"))=pure (some (.builtin "getset_descriptor.__get__",.builtin "object.__class__")):=by rfl
section
variable{x:Addr}{h:Heap}{g:Array GenState}{d:Drawn}{t:Nat}{os:OsState}
theorem cP{R:Result->Shared->Prop}{tp:Value}(I:KitAt x "function" h)
  (hq:R (.ok (.ret (.type "function"))) ⟨h,g,d,t,os⟩):codeAny (model prog w) A (.call (.builtin "getset_descriptor.__get__") ⟨[.builtin "object.__class__",.ref x,tp],[]⟩) R ⟨h,g,d,t,os⟩:=by
 have L0:=kitAt_ty (M:=model prog w) (T:="function") _ I
 refine Ue KF.slot_gs.plain KF.entry_gs (KF.slot_gs.check _ _ _ _ _ _ _ _ KF.type_class (KF.args_gs _ _ _) ?_);unfold Builtin.«getset_descriptor.__get__» descrGet;rw[dga_obj];refine Qq (Qv ?_);unfold descrGetter descrCheckInstance descrNameAndClass isInstance;simp only[KF.owner_class]
 repeat (first|with_reducible refine L0.at ?_|wp_step)
 dsimp only;rw[fl4]
 repeat (first|with_reducible refine L0.at ?_|wp_step)
 refine⟨Code.quiet_builtin _ (by rfl'),Vx KF.entry_class ?_⟩
 unfold Builtin.«object.__class__» shownTypeOf
 repeat (first|with_reducible refine L0.at ?_|wp_step)
 exact hq
theorem cQ{tk:Tok}{Q:Fin->Shared->Prop}(I:KitAt x "function" h)(hq:Q (.done (.ret (.type "function"))) ⟨h,g,d,t,os⟩):
  wpAny (model prog w) A (Builtin.«object.__getattribute__» ⟨[.ref x,.str "__class__" tk],[]⟩) Q E ⟨h,g,d,t,os⟩:=by
 have L0:=kitAt_ty (M:=model prog w) (T:="function") _ I
 unfold Builtin.«object.__getattribute__»
 repeat (any_goals (first|assumption|with_reducible refine L0.at ?_|wp_step))
 rw[fl3];refine Qv ?_
 rw[xQ];refine Qq (Qv ?_);rw[fl6]
 repeat (any_goals (first|assumption|with_reducible refine L0.at ?_|wp_step))
 refine cP I ?_
 repeat (any_goals (first|assumption|wp_step))
theorem cR{M:Model}{nameV:Value}{Q:Unit->Shared->Prop}(I:KitAt x "function" h)(hq:Q () ⟨h,g,d,t,os⟩):
  wpAny M A (checkBuiltinCall "object.__getattribute__" ⟨[.ref x,nameV],[]⟩) Q E ⟨h,g,d,t,os⟩:=by
 have hk:builtinKind "object.__getattribute__"=some .slot:=by rfl'
 have hsplit:splitId "object.__getattribute__"=some ("object","__getattribute__"):=by rfl'
 have L0:=kitAt_ty (M:=M) (T:="function") _ I
 simp only[checkBuiltinCall,hk,hsplit];refine Qq ?_
 unfold isInstance
 repeat (first|with_reducible refine L0.at ?_|wp_step)
 rw[fl4]
 repeat (first|with_reducible refine L0.at ?_|wp_step)
 exact hq
theorem cS{Q:Option Value->Shared->Prop}(I:KitAt x "function" s.heap)(k:Q (some (.type "function")) ⟨s.heap,s.gens,s.drawn,s.toks+1,s.os⟩):
  wpAny (model prog w) A (getAttr? (.ref x) "__class__") Q E s:=by
 obtain⟨h,g,d,t,os⟩:=s;have L0:=kitAt_ty (M:=model prog w) (T:="function") _ I;unfold getAttr? getAttrBy?
 repeat (any_goals (first|assumption|with_reducible refine L0.at ?_|wp_step))
 rw[fl1]
 repeat (any_goals (first|assumption|with_reducible refine L0.at ?_|wp_step))
 rw[fl2]
 repeat (any_goals (first|assumption|with_reducible refine L0.at ?_|wp_step))
 refine Ue (by rfl') F.entry_object_getattribute (cR I (cQ I ?_))
 repeat (any_goals (first|assumption|wp_step))
end
theorem cT{K:Frag}{x:Addr}{o:Obj}(hl:List.lookup x K=some o)(hc:o.cls=.type "function"):KitX K (.ref x) (.type "function") (fun _=>True):=by
 have q:KitX K (.ref x) (.type "function") (KitAt x "function"):=kitx_of (fun M h p=>kitAt_ty M h p) (fun{prog w A E Q s} p k=>cS p k)
 exact⟨fun M h X _=>q.ty M h X (kitAt_K X hl hc),fun M h X _=>q.it M h X (kitAt_K X hl hc),q.ne,fun{prog w A E Q s} X _ k=>q.ca X (kitAt_K X hl hc) k⟩
def OK(K:Qz)(f:Addr):Bool:=match List.lookup f K with
 |some o=>o.cls==.type "function"
 |none=>false
theorem AJ{f:Addr}(h:OK K f=true):PySem.W.KitX K (.ref f) (.type "function") (fun _=>True):=by
 unfold OK at h;split at h
 ·rename_i o e
  exact cT e (Xu h)
 ·cases h
def sO(K:Qz)(mg:OU)(x:Str):Prop:=∃f,PySem.W.nsIn K mainGlobals x=some (some (.ref f))/\mg x=some (.ref f)/\PySem.W.KitX K (.ref f) (.type "function") (fun _=>True)
section
variable{es:List Expr}{p pos:Pos}{y:Str}{i k n:Nat}{as:Mo (List Ar)}
theorem IQ(hg:Gl X x)(hm:sO X.K X.mg x)(hd:(x==("__debug__":Str))=false:=by decide):ED X B (.Name x pos) (mC (.obj (.fn x))):=by
 obtain⟨f,h1,h2,h3⟩:=hm;refine c8 (CS (v:=.ref f) hg h2 rfl hd) ?_
 rintro σ H Q ⟨G,env,d,env',rl,em,kk⟩;cases em;exact kk (.ref f) G H (.refl rl) (by simp only[c4];exact⟨f,rfl,h1,h3⟩)
theorem OL{CX}{f:Addr}{fd:FuncData}{ps:List Str}{sp:Sp}{ds:List Value}{dvs:List V}{E:XK}{t:TA}(F:c6 X.prog X.w X.K X.mg X.base CX k f fd ps sp)(hr:g6 k X.A)(hv:PE X (.Name y p) (Q4 i))(hk:PySem.W.keepIn X.K (.ref f)=true)(hb:Q2 X.K fd ps ds)(hd:D2 dvs ds)(hx:CY CX X E)
  (ha:PA X (e::es) t)(he:starEach (e::es) X.env=(false,eval e X.env)::starEach es X.env:=by rfl)(hpl:(backTo pos (starEach es X.env)).any (·.1)=false:=by rfl):
  PE X (.Call (.Name y p) (e::es) [] pos) (fun σ H Q=>σ[i]? =some (some (.ref f))/\Eu sp dvs E t σ H Q):=by
 intro pins s σ H Q I ⟨h0,h⟩;refine Jy (i6 (hv pins s σ H (fun v H'=>v=.ref f/\H'=H) I ⟨_,h0,rfl,rfl⟩) fun u s0 ⟨v,H',I',r',q'⟩=>?_)
 obtain⟨rfl,rfl⟩:=q';cases r';refine PySem.W.callWith_K (h₀:=X.base) I'.ok.mod.kin hk (i6 (ha pos pins s0 σ _ _ I' h) fun us s1 ⟨vs,H1,I1,r,q⟩=>⟨I1.kIn,?_⟩) he hpl
 exact Gw F hr hb hd hx I1 r q
def Bz(X:Cx)(n:Nat)(l:List (Str×Fn)):Prop:=∀nm fn,l.lookup nm=some fn->∃k,g6 k X.A/\Def X.prog X.w X.K X.mg X.base nm k n fn/\sO X.K X.mg nm
def CA(X:Cx)(n:Nat)(l:List (Str×(List W->Option Str))):Prop:=∀nm g,l.lookup nm=some g->∃k,g6 k X.A/\rE X.prog X.w X.K X.mg X.base nm k n g/\sO X.K X.mg nm
theorem IS:Bz X n []:=fun nm fn h=>by cases h
theorem cU{fn:Fn}{l:List (Str×Fn)}(hr:g6 k X.A)(d:Def X.prog X.w X.K X.mg X.base x k n fn)(hn:sO X.K X.mg x)(h:Bz X n l):Bz X n ((x,fn)::l):=fun nm fn' e=>by
 rw[Xi]at e;split at e
 ·rename_i hb
  cases e;have:nm=x:=Xu hb;subst this;exact⟨k,hr,d,hn⟩
 ·exact h nm fn' e
theorem OM:CA X n []:=fun nm fn h=>by cases h
theorem cV{g:List W->Option Str}(hr:g6 k X.A)(d:rE X.prog X.w X.K X.mg X.base x k n g)(hn:sO X.K X.mg x)(h:CA X n l):CA X n ((x,g)::l):=fun nm fn' e=>by
 rw[Xi]at e;split at e
 ·rename_i hb
  cases e;have:nm=x:=Xu hb;subst this;exact⟨k,hr,d,hn⟩
 ·exact h nm fn' e
def y0(n i:Nat)(l:List (Str×Fn))(as:Mo (List Ar)):Mo D:=fun env=>match env[i]? with
 |some (.dat (.obj (.fn nm)))=>(l.lookup nm).bind fun fn=>c7 n fn as env
 |_=>none
theorem ON{v:V}{nm:Str}{f':Addr}(hn:sO X.K X.mg nm)(hm:X.mg nm=some (.ref f'))(q:c4 X.K G v (.obj (.fn nm))):v=.ref f':=by
 obtain⟨f0,h1,h2,_⟩:=hn;simp only[c4]at q;obtain⟨f,rfl,h3,_⟩:=q;rw[h1]at h3;rw[h2]at hm;cases h3;cases hm
 rfl
theorem IT{l:List (Str×Fn)}(ht:Bz X n l)(hv:PE X (.Name y p) (Q4 i))(ha:vA X B (e::es) as)(he:starEach (e::es) X.env=(false,eval e X.env)::starEach es X.env:=by rfl)(hpl:(backTo pos (starEach es X.env)).any (·.1)=false:=by rfl):
  ED X B (.Call (.Name y p) (e::es) [] pos) (y0 n i l as):=by
 intro pins s σ H Q I ⟨G,env,d,env',rl,em,kk⟩;unfold y0 at em;split at em
 case h_2=>cases em
 rename_i nm hen;obtain⟨fn,e1,e2⟩:=C6 em;obtain⟨k,hr,D,hn⟩:=ht nm fn e1;obtain⟨v,q1,q2⟩:=rl.dat i _ hen;obtain⟨f',fd,ps,F,rfl,hm,hk,hb⟩:=D.ex;have:=ON hn hm q2;subst this;obtain⟨⟨r,a8⟩,e3,e4⟩:=C6 e2;refine OL F hr hv hk hb .nil Cb ha he hpl pins s σ H Q I ⟨q1,?_⟩;cases r with
 |d d'=>cases e4;exact FO rl e3 kk
 |l ds=>cases e4
def yB(n i:Nat)(l:List (Str×(List W->Option Str)))(as:Mo (List Ar)):Mx:=fun env=>match env[i]? with
 |some (.dat (.obj (.fn nm)))=>(l.lookup nm).bind fun g=>S3 n g as env
 |_=>none
theorem OP{E:XK}(hx:yF X E)(ht:CA X n l)(hv:PE X (.Name y p) (Q4 i))(ha:vA X B (e::es) as)(he:starEach (e::es) X.env=(false,eval e X.env)::starEach es X.env:=by rfl)(hpl:(backTo pos (starEach es X.env)).any (·.1)=false:=by rfl):
  yG X B E (.Call (.Name y p) (e::es) [] pos) (yB n i l as):=by
 intro pins s σ H Q I ⟨G,env,c,rl,em,C,hC,w⟩;unfold yB at em;split at em
 case h_2=>cases em
 rename_i nm hen;obtain⟨g,e0,em⟩:=C6 em;obtain⟨k,hr,D,hn0⟩:=ht nm g e0;obtain⟨v,q1,q2⟩:=rl.dat i _ hen;obtain⟨f',fd,ps,F,rfl,hm,hk,hb⟩:=D.ex;have:=ON hn0 hm q2;subst this;refine OL F hr hv hk hb .nil hx.pass ha he hpl pins s σ H Q I ⟨q1,?_⟩;obtain⟨⟨av,a8⟩,e1,e2⟩:=C6 em;dsimp only at e2;split at e2
 ·rename_i hn
  split at e2
  ·rename_i hs
   refine⟨G,env,av,a8,rl,e1,fun vs G1 H1 ev ra=>?_⟩
   show vB X.K ps.length g (vs++[]) H1 Q E;rw[Yg];exact⟨G1,av.map (P0 (.l [])),c,C,by rw[Qk];exact hn,FL,FM (i:=0) (w:=.nil) ev.rel ra (fun k j e=>absurd e (AG hs k j)) (fun k k' j j' e=>absurd e (AG hs k j)),e2,hC,
    fun G2 ws' H2 f7=>w σ G2 a8 H2 (ev.trans (FN ev.rel ra hs f7))⟩
  ·cases e2
 ·cases e2
end
inductive tK (K:Qz) (G:Hp):List V->List (List Int×V)->Prop
 |nil:tK K G [] []
 |cons {q b:Addr}{k:List Int}{v:V}{xs:List V}{ps:List (List Int×V)}:uW K G q [.ref b,v]->Ct K G b k->tK K G xs ps->tK K G (.ref q::xs) ((k,v)::ps)
section
variable{pins:OX}{R:Result->Shared->Prop}{l it d:Addr}{xs:List V}
end
end L2.Mir
namespace L2.Mir
open PySem PySem.Spec PyProof.Rows PySem.W
variable{A:Around}{B:OA}{E Q:OE}{G:Hp}{K:Qz}{P prog:Program}{X:Cx}{a b l:Addr}{e e2 tg:Expr}{es:List DictEntry}{h h':Heap}{its:Array Value}{k:Nat}{kvs:List (Str×Str)}{m ma mb:Mo D}{mg:OU}{p:Pos}{s:Shared}{vs:List Value}{w:World}{x:Str}{α:Type}
structure a1W(P:Program)(w:World)(K:Frag)(mg:OU)(base:Heap)(x:Str)(k n:Nat)(fn:Fn)(ts:List Addr):Prop where
 ex:∃(f:Addr) (fd:FuncData) (ps:List Str),c6 P w K mg base j7 k f fd ps (xY K ts n fn)/\ps.length=n/\mg x=some (.ref f)/\keepIn K (.ref f)=true/\Q2 K fd ps []
section
variable{pos:Pos}{es:List Expr}{as:Mo (List Ar)}{fn:Fn}{n:Nat}{ts:List Addr}{f:Addr}{fd:FuncData}{ps:List Str}{t:TA}{E:XK}
end
theorem F9{N P:List Str}{sc:Scope}(a:sc.kind=.function:=by rfl)(b:sc.isCoroutine=false:=by rfl)(c:sc.isGenerator=false:=by rfl)(d:N.Nodup:=by rfl')(e:N.take P.length=P:=by rfl)(f:∀x∈P,sc.names.lookup x=some .local\/sc.names.lookup x=some .cell:=by rfl')(g:∀y∈sc.names,y.2≠.free:=by rfl'):a9 N P sc:=⟨a,b,c,d,e,f,g⟩
theorem rM{M:List α->Prop}(h:∀a,M [a]):∀us:List α,us.length=1->M us
 |[a],_=>h a
theorem uM{M:List α->Prop}(h:∀a b,M [a,b]):∀us:List α,us.length=2->M us
 |[a,b],_=>h a b
theorem yK{M:List α->Prop}(h:∀a b c,M [a,b,c]):∀us:List α,us.length=3->M us
 |[a,b,c],_=>h a b c
theorem us4{M:List α->Prop}(h:∀a b c d,M [a,b,c,d]):∀us:List α,us.length=4->M us
 |[a,b,c,d],_=>h a b c d
section
variable{pos:Pos}{o:Expr}
end
section
variable{pos:Pos}{o:Expr}
end
section
variable{pos:Pos}
end
def lkK:List (Key×Key)->Key->Option Key
 |[],_=>none
 |p::l,k=>if p.1=k then some p.2 else lkK l k
structure DkG(P:Program)(w:World)(K:Qz)(mg:OU)(x:Str)(kvs:List (Key×Key)):Prop where
 ex:∃a,mg x=some (.ref a)/\(a==sysModules)=false/\∀h:Heap,K.In h->(∃o,h.get? a=some o/\o.cls=.type "dict")/\∃g:Key->Option Value,h.MapOf (L5 P w) a g/\∀k,W0 ((lkK kvs k).map kV) (g k)
def Fv:D->Option Key
 |.int i=>some (.inl i)
 |.str x=>some (.inr x)
 |_=>none
theorem IU{v:V}{d:D}{k:Key}(r:c4 K G v d)(h:Fv d=some k):v=kV k:=by
 cases d<;>first|(exact absurd (show(none:Option Key)=some k from h) (by simp))|skip
 ·cases h
  simp only[c4]at r;exact r
 ·cases h
  simp only[c4]at r;exact r.1
section
variable{pos:Pos}{a b:Expr}{kvs:List (Key×Key)}
end
section
variable{pos:Pos}{k1 k2 k3 v1 v2 v3:Expr}{a1 a2 a3 b1 b2 b3:Key}
end
inductive yC (P:Program) (w:World):List DictEntry->List (Key×Key)->Prop
 |nil:yC P w [] []
 |cons {e:DictEntry}{p:Key×Key}{es:List DictEntry}{kvs:List (Key×Key)}:E2 (kV p.1) e.key->e.hash=(L5 P w).hash p.1->E2 (kV p.2) e.val->yC P w es kvs->yC P w (e::es) (p::kvs)
section
variable{a b st:Expr}{pos p2:Pos}
end
def tL:List (Str×Str)->Key->Option Str
 |[],_=>none
 |p::l,k=>if(.inr p.1:Key)=k then some p.2 else tL l k
def OQ(mg:OU):Option Str->Option Value->Prop
 |none,o=>o=none
 |some n,o=>∃f,mg n=some (.ref f)/\o=some (.ref f)
structure vC(P:Program)(w:World)(K:Qz)(mg:OU)(x:Str)(kvs:List (Str×Str)):Prop where
 ex:∃a,mg x=some (.ref a)/\(a==sysModules)=false/\∀h:Heap,K.In h->(∃o,h.get? a=some o/\o.cls=.type "dict")/\∃g:Key->Option Value,h.MapOf (L5 P w) a g/\∀k,OQ mg (tL kvs k) (g k)
 wk:(kvs.map fun p=>(.inr p.1:Key)).Nodup->∃a vs ep,mg x=some (.ref a)/\(a==sysModules)=false/\vs.map (·.1)=kvs.map (fun p=>(.inr p.1:Key))/\∀h:Heap,K.In h->h.DictAt (L5 P w) a vs ep
theorem OR:∀{kvs:List (Str×Str)}{k:Key}{n:Str},tL kvs k=some n->∃p∈kvs,p.2=n
 |[],_,_,h=>by cases h
 |p::l,k,n,h=>by
  unfold tL at h;split at h
  ·cases h
   exact⟨p,Zl ..,rfl⟩
  ·obtain⟨q,hq,e⟩:=OR h
   exact⟨q,Ym _ hq,e⟩
def OS(kvs:List (Str×Str))(mb:Mo D):Mo D:=fun env=>(mb env).bind fun p=>(Fv p.1).bind fun k=>(tL kvs k).map fun n=>(.obj (.fn n),p.2)
def IV(kvs:List (Str×Str))(ma:Mo D):Mo D:=fun env=>(ma env).bind fun p=>(Fv p.1).map fun k=>(.bl (tL kvs k).isSome,p.2)
section
variable{pos:Pos}{a b:Expr}
theorem cW:∀q∈([]:List (Str×Str)),sO K mg q.2:=fun q hq=>by cases hq
theorem BM{k n:Str}{l:List (Str×Str)}(h:sO K mg n)(t:∀q∈l,sO K mg q.2):∀q∈(k,n)::l,sO K mg q.2:=fun q hq=>by
 rcases Qb.mp hq with rfl|hq
 ·exact h
 ·exact t q hq
theorem OT(hk:vC X.prog X.w X.K X.mg x kvs)(hn:∀q∈kvs,sO X.K X.mg q.2)(hg:Gl X x)(hb:ED X B b mb)(hs:DV b)(hd:(x==("__debug__":Str))=false:=by decide):
  ED X B (.Subscript (.Name x p) b pos) (OS kvs mb):=by
 intro pins s σ H Q I h;obtain⟨G,env,d,env',rl,em,kk⟩:=h;obtain⟨⟨d1,a8⟩,e1,e2⟩:=C6 em;obtain⟨key,e3,e4⟩:=C6 e2;obtain⟨n,e5,e6⟩:=F4 e4;cases e6;obtain⟨q,hm,hz,hall⟩:=hk.ex;refine MD PySem.F.slot_dict_getitem.lookup hs (i6 (CS (v:=.ref q) hg hm rfl hd pins s σ H (fun v H1=>v=.ref q/\H1=H) I ⟨rfl,rfl⟩) fun u s1 ⟨y,H1,I1,ry,z1,z2⟩=>?_)
 subst z1 z2;cases ry;refine i6 (hb pins s1 σ H1 (fun v H2=>∃G2,Ev X.K B G σ env H1 G2 σ a8 H2/\c4 X.K G2 v d1) I1 ⟨G,env,d1,a8,rl,e1,fun v G2 H2 ev r=>⟨G2,ev,r⟩⟩) fun iv s2 ⟨y,H2,I2,ry,G2,ev,r⟩=>?_
 have hv:=IU r e3
 subst hv;obtain⟨⟨o,ho,hc⟩,g,hmap,hrel⟩:=hall s2.heap I2.kIn;have hr:=hrel key;rw[e5]at hr;obtain⟨f,hf,hgk⟩:=hr;obtain⟨⟨_,_⟩,hq,rfl⟩:=OR e5;obtain⟨f',n1,n2,n3⟩:=hn _ hq;dsimp only at hf n1 n2 n3;rw[hf]at n2;cases n2;exact⟨⟨o,ho,hc⟩,wpAny_getItem_of (W5 ry) hmap hgk ⟨.ref f,H2,I2.tok _,rfl,kk _ G2 H2 ev (by simp only[c4,Bi];exact⟨f,rfl,n1,n3⟩)⟩⟩
theorem cX(hk:vC X.prog X.w X.K X.mg x kvs)(hg:Gl X x)(ha:ED X B a ma)(hd:(x==("__debug__":Str))=false:=by decide):PC X .In a (.Name x p) (TD X.K B (IV kvs ma)):=by
 intro pins s σ H Q I h;obtain⟨G,env,d,env',rl,em,kk⟩:=h;obtain⟨⟨d1,a8⟩,e1,e2⟩:=C6 em;obtain⟨key,e3,e4⟩:=F4 e2;cases e4;obtain⟨q,hm,hn,hall⟩:=hk.ex;refine i6 (ha pins s σ H (fun v H1=>∃G1,Ev X.K B G σ env H G1 σ a8 H1/\c4 X.K G1 v d1) I ⟨G,env,d1,a8,rl,e1,fun v G2 H2 ev r=>⟨G2,ev,r⟩⟩) fun iv s1 ⟨y,H1,I1,ry,G1,ev,r⟩=>?_
 refine i6 (CS (v:=.ref q) hg hm rfl hd pins s1 σ H1 (fun v H2=>v=.ref q/\H2=H1) I1 ⟨rfl,rfl⟩) fun u s2 ⟨x',H2,I2,rx,z1,z2⟩=>?_
 subst z1 z2;cases rx;have hv:=IU r e3;subst hv;obtain⟨_,g,hmap,hrel⟩:=hall s2.heap I2.kIn;have hr:(g key).isSome=(tL kvs key).isSome:=by
  have h1:=hrel key
  cases hl:tL kvs key with
  |none=>rw[hl]at h1;rw[show g key=none from h1];rfl
  |some n=>
   rw[hl]at h1;obtain⟨f,_,h2⟩:=h1;rw[h2]
   rfl
 refine wpAny_in_of (W5 ry) hn hmap ⟨.bl (tL kvs key).isSome,H2,I2.tok _,by rw[←hr];rfl,kk _ G1 H2 ev (by simp only[c4])⟩
theorem OV(hk:vC X.prog X.w X.K X.mg x kvs)(hg:Gl X x)(ha:ED X B a ma)(hm:behindInMarks .In (.Name x p)=false)(hd:(x==("__debug__":Str))=false:=by decide):ED X B (.Compare a [.In] [.Name x p] pos) (IV kvs ma):=
 So (cX hk hg ha hd) hm
end
inductive sX (P:Program) (w:World) (mg:OU):List DictEntry->List (Str×Str)->Prop
 |nil:sX P w mg [] []
 |cons {e:DictEntry}{p:Str×Str}{f:Addr}{es:List DictEntry}{kvs:List (Str×Str)}:E2 (.str p.1) e.key->e.hash=(L5 P w).hash (.inr p.1)->e.val=.ref f->mg p.2=some (.ref f)->sX P w mg es kvs->sX P w mg (e::es) (p::kvs)
theorem sX.keys(h:sX P w mg es kvs):∀e∈es,∃k,(L5 P w).is k e.key=true/\e.hash=(L5 P w).hash k:=by
 induction h with
 |nil=>intro e he;cases he
 |@cons e' p f es kvs h1 h2 h3 h4 _ ih=>
  intro e he
  rcases Qb.mp he with rfl|he
  ·exact⟨.inr p.1,W5 (k:=.inr p.1) h1,h2⟩
  ·exact ih e he
theorem sX.find(h:sX P w mg es kvs)(k:Key):OQ mg (tL kvs k) ((es.find? fun e=>(L5 P w).is k e.key).map (·.val)):=by
 induction h with
 |nil=>rfl
 |@cons e p f es kvs h1 h2 h3 h4 _ ih=>
  by_cases hk:(.inr p.1:Key)=k
  ·have e1:tL (p::kvs) k=some p.2:=Qn hk
   have e2:(L5 P w).is k e.key=true:=by rw[←hk];exact W5 (k:=.inr p.1) h1
   rw[e1,Jg,e2];exact⟨f,h4,Yu some h3⟩
  ·have e1:tL (p::kvs) k=tL kvs k:=Ql hk
   have e2:(L5 P w).is k e.key=false:=by
    cases hq:(L5 P w).is k e.key with
    |false=>rfl
    |true=>exact absurd ((L5 P w).inj _ _ _ (W5 (k:=.inr p.1) h1) hq) hk
   rw[e1,Jg,e2];exact ih
theorem sX.pairs(h:sX P w mg es kvs):∃vs,Pairs (L5 P w) es vs/\vs.map (·.1)=kvs.map fun p=>(.inr p.1:Key):=by
 induction h with
 |nil=>exact⟨[],.nil,rfl⟩
 |@cons e p f es kvs h1 h2 h3 h4 _ ih=>
  obtain⟨vs,q,e'⟩:=ih;exact⟨((.inr p.1:Key),e.val)::vs,Pairs.cons (kv:=((.inr p.1:Key),e.val)) (W5 (k:=.inr p.1) h1) rfl q,by rw[Qh,Qh,e']⟩
theorem cY{ep:Nat}(hm:mg x=some (.ref a))(hl:K.lookup a=some ⟨.type "dict",none,.dict ⟨es⟩ ep,⟨[]⟩⟩)(hz:(a==sysModules)=false)(he:sX P w mg es kvs):vC P w K mg x kvs:=by
 obtain⟨vs,hp,hv⟩:=he.pairs;refine⟨⟨a,hm,hz,fun h hin=>⟨⟨_,hin a _ hl,rfl⟩,findBy (L5 P w).is ⟨es⟩,⟨_,⟨es⟩,ep,hin a _ hl,⟨rfl,rfl,rfl⟩,rfl,fun e he'=>he.keys e (by simpa using he'),fun _=>rfl⟩,fun k=>?_⟩⟩,fun hn=>⟨a,vs,ep,hm,hz,hv,fun h hin=>⟨_,⟨es⟩,hin a _ hl,⟨rfl,rfl,rfl⟩,rfl,fun e he'=>he.keys e (by simpa using he'),hp,by rw[hv];exact hn⟩⟩⟩
 have:=he.find k;unfold findBy;rw[←Array.find?_toList];exact this
section
variable{G':Hp}{σ σ':St}{env env':c5}{H H':Hp}
theorem Ev.layO{o o0:HO}(v:Ev K B G σ env H G' σ' env' H')(ha:H a=none)(no:¬ d5 σ' env' a)(h':H' a=some o0)(ne:∀φ,o0≠.ext φ)(nt:NT o)(g':G' a=none):
  Ev K B G σ env H (upd G' a o) σ' env' (upd H' a o):=by
 have live':∀c,H' c≠none->(upd H' a o) c≠none:=fun c hc=>by
  by_cases hb:c=a
  ·subst hb;rw[G7];simp
  ·rw[D3 hb];exact hc
 refine⟨⟨fun b u e=>?_,v.rel.len,fun i d e=>?_,fun i w ds e1 e2=>?_,v.rel.inj,v.rel.fresh,fun c hc=>live' c (v.rel.old c hc),v.rel.tabs.upd nt (fun φ z=>by rw[h']at z;exact ne φ (Zt z)),Ez v.rel.gnt nt⟩,v.same.trans (Le.upd g'),fun c u n t e=>?_,fun c e=>live' c (v.live c e),fun b e n g=>?_,v.sub,v.par,v.slen⟩
 ·by_cases hb:b=a
  ·subst hb;rw[G7]at e ⊢;exact e
  ·rw[D3 hb]at e ⊢;exact v.rel.sub b u e
 ·obtain⟨x,e1,e2⟩:=v.rel.dat i d e
  exact⟨x,e1,c4.mono (Le.upd g') d e2⟩
 ·obtain⟨p,ys,e3,e4,e5,e6⟩:=v.rel.own i w ds e1 e2
  have hp:p≠a:=fun z=>no ⟨i,w,ds,e1,e2,by rw[←z];exact e3⟩
  exact⟨p,ys,e3,by rw[D3 hp];exact e4,e5.mono (Le.upd g'),by rw[D3 hp];exact e6⟩
 ·rw[D3 (fun z=>by rw[z,ha]at e;cases e)];exact v.keep c u n t e
 ·have hb:b≠a:=fun z=>e (z ▸ ha)
  rw[D3 hb];exact v.stay b e n g
end
def OW:List Str->OI->List (Str×List Int)
 |x::xs,l::ls=>(x,l)::OW xs ls
 |_,_=>[]
def EC(ks:List Str)(ms:Mo (List D)):Mo D:=fun env=>(ms env).bind fun p=>(pR p.1).map fun ls=>(.obj (.dt (OW ks ls)),p.2)
section
variable{pos:Pos}{k1 k2 k3 k4 v1 v2 v3 v4:Expr}{a1 a2 a3 a4:Str}{m1 m2 m3 m4:Mo D}
theorem cZ{x:V}{ds:List D}{l:List Int}(r:c4 K G x (.tup ds))(h:i9 ds=some l):∃a,x=.ref a/\uW K G a (l.map V.int):=by
 simp only[c4]at r;obtain⟨a,xs,rfl,q,t⟩:=r;exact⟨a,rfl,by rw[←BC t h];exact q⟩
theorem dA{d1 d2 d3 d4:D}{ls:OI}(h:pR [d1,d2,d3,d4]=some ls):∃e1 e2 e3 e4 l1 l2 l3 l4,d1=.tup e1/\d2=.tup e2/\d3=.tup e3/\d4=.tup e4/\i9 e1=some l1/\i9 e2=some l2/\i9 e3=some l3/\i9 e4=some l4/\ls=[l1,l2,l3,l4]:=by
 have step:∀{d:D}{r:List D}{ls:OI},pR (d::r)=some ls->∃e l ls',d=.tup e/\i9 e=some l/\pR r=some ls'/\ls=l::ls':=fun{d r ls} h=>by
  unfold pR at h;split at h
  ·rename_i z;cases z
  ·rename_i x r' z
   cases z;obtain⟨l,e1,e2⟩:=C6 h;obtain⟨ls',e3,e4⟩:=F4 e2;exact⟨x,l,ls',rfl,e1,e3,e4.symm⟩
  ·cases h
 obtain⟨e1,l1,r1,rfl,h1,q1,rfl⟩:=step h;obtain⟨e2,l2,r2,rfl,h2,q2,rfl⟩:=step q1;obtain⟨e3,l3,r3,rfl,h3,q3,rfl⟩:=step q2;obtain⟨e4,l4,r4,rfl,h4,q4,rfl⟩:=step q3;cases q4;exact⟨_,_,_,_,_,_,_,_,rfl,rfl,rfl,rfl,h1,h2,h3,h4,rfl⟩
theorem IW(hk1:PE X k1 (tC (.str a1)))(hk2:PE X k2 (tC (.str a2)))(hk3:PE X k3 (tC (.str a3)))(hk4:PE X k4 (tC (.str a4)))(hv1:ED X B v1 m1)(hv2:ED X B v2 m2)(hv3:ED X B v3 m3)(hv4:ED X B v4 m4)
  (hm:∀u1 u2 u3 u4:Value,merged [] [((.inr a1:Key),u1),(.inr a2,u2),(.inr a3,u3),(.inr a4,u4)]=[(.inr a1,u1),(.inr a2,u2),(.inr a3,u3),(.inr a4,u4)]):
  ED X B (.Dict [some k1,some k2,some k3,some k4] [v1,v2,v3,v4] pos) (EC [a1,a2,a3,a4] (B0 m1 (B0 m2 (B0 m3 (B0 m4 B4))))):=by
 intro pins s σ H Q I h;obtain⟨G,env,d,env',rl,em,kk⟩:=h;obtain⟨⟨ds,a1Y⟩,em1,em2⟩:=C6 em;obtain⟨ls,er,em3⟩:=F4 em2;cases em3;obtain⟨⟨d1,a8⟩,x1,em4⟩:=C6 em1;obtain⟨⟨r1,wV⟩,em5,em6⟩:=F4 em4;cases em6;obtain⟨⟨d2,i5⟩,x2,em7⟩:=C6 em5;obtain⟨⟨r2,a0i⟩,em8,em9⟩:=F4 em7;cases em9;obtain⟨⟨d3,sW⟩,x3,em10⟩:=C6 em8;obtain⟨⟨r3,a0j⟩,em11,em12⟩:=F4 em10;cases em12;obtain⟨⟨d4,tG⟩,x4,em13⟩:=C6 em11;obtain⟨⟨r4,a0k⟩,em14,em15⟩:=F4 em13;cases em15;cases em14;obtain⟨e1,e2,e3,e4,l1,l2,l3,l4,rfl,rfl,rfl,rfl,i1,i2,i3,i4,rfl⟩:=dA er;dsimp only at x1 x2 x3 x4;refine wpAny_Dict_walk (knd:=L5 X.prog X.w) rfl rfl (by simp) (by simp) ?_
 have hn:H s.heap.objs.size=none:=I.hok.fresh (Qp _)
 have hz:(s.heap.objs.size==sysModules)=false:=Zb.mpr (Zg (Qs I.big))
 have I0:Inv X pins σ (upd H s.heap.objs.size (.dK [])) {s with heap:=s.heap.push {cls:=.type "dict",data:=.dict #[]}}:=I.laid (a:=s.heap.objs.size) (o:=.dK []) (t':=s.toks) (fun _ _ q=>Qx _ q) (Qp _) ⟨Jo _,hz,[],.nil,Heap.DictOf.new s.heap⟩
 generalize s.heap.objs.size=a at *;have wY:Ev X.K B G σ env H G σ env (upd H a (.dK [])):=rl.allocM hn;have key:∀{e:Expr}{x:Str}(he:PE X e (tC (.str x))) {s1:Shared}{H1:Hp}{R:OE},Inv X pins σ H1 s1->(∀u s2,E2 (.str x) u->Inv X pins σ H1 s2->R u s2)->wpAny (model X.prog X.w) X.A (eval e X.env) R X.xe s1:=fun{e x} he {s1 H1 R} I1 hR=>
  i6 (he pins s1 σ _ (fun v H'=>v=.str x/\H'=H1) I1 ⟨rfl,rfl⟩) fun u s2 ⟨v,H',I2,r,z1,z2⟩=>by
   subst z1 z2;exact hR u s2 r I2
 have val:∀{e:Expr}{m:Mo D}(he:ED X B e m) {s1:Shared}{G1 H1:Hp}{en en':c5}{d:D}{R:OE},Inv X pins σ H1 s1->Ev X.K B G σ env H G1 σ en H1->m en=some (d,en')->(∀u v s2 G2 H2,Inv X pins σ H2 s2->E2 v u->Ev X.K B G1 σ en H1 G2 σ en' H2->c4 X.K G2 v d->R u s2)->wpAny (model X.prog X.w) X.A (eval e X.env) R X.xe s1:=fun{e m} he {s1 G1 H1 en en' d R} I1 m9 hm hR=>
  i6 (he pins s1 σ H1 (fun v H2=>∃G2,Ev X.K B G1 σ en H1 G2 σ en' H2/\c4 X.K G2 v d) I1 ⟨G1,en,d,en',m9.rel,hm,fun v G2 H2 ev r=>⟨G2,ev,r⟩⟩) fun u s2 ⟨v,H2,I2,r,G2,ev,rp⟩=>hR u v s2 G2 H2 I2 r ev rp
 have stay:∀{G1 H1:Hp}{en:c5}{G2 H2:Hp}{en':c5},Ev X.K B G σ env H G1 σ en H1->Ev X.K B G1 σ en H1 G2 σ en' H2->H1 a=some (.dK [])/\G1 a=none/\ ¬ d5 σ en a->H2 a=some (.dK [])/\G2 a=none/\ ¬ d5 σ en' a:=fun{G1 H1 en G2 H2 en'} m9 f7 ⟨q1,q2,q3⟩=>
  ⟨f7.keep a _ q3 (fun _ z=>by cases z) q1,f7.stay a (by rw[q1];simp) q3 q2,fun z=>(f7.sub a z).elim q3 fun w=>by rw[q1]at w;cases w⟩
 have st0:(upd H a (.dK [])) a=some (.dK [])/\G a=none/\ ¬ d5 σ env a:=⟨G7,rl.gnone hn,rl.unowned hn⟩
 refine Vj (key hk1 I0 fun y1 s1 r1 I1=>val hv1 I1 wY x1 fun u1 w1 s2 G1 H1 I2 q1 m9 p1=>?_)
 have t1:=wY.trans m9
 have st1:=stay wY m9 st0
 refine Vj (key hk2 I2 fun y2 s3 r2 I3=>val hv2 I3 t1 x2 fun u2 w2 s4 G2 H2 I4 q2 f7 p2=>?_)
 have t2:=t1.trans f7
 have st2:=stay t1 f7 st1
 refine Vj (key hk3 I4 fun y3 s5 r3 I5=>val hv3 I5 t2 x3 fun u3 w3 s6 G3 H3 I6 q3 qX p3=>?_)
 have t3:=t2.trans qX
 have st3:=stay t2 qX st2
 refine Vj (key hk4 I6 fun y4 s7 r4 I7=>val hv4 I7 t3 x4 fun u4 w4 s8 G4 H4 I8 q4 tN p4=>?_)
 have t4:=t3.trans tN
 obtain⟨z1,z2,z3⟩:=stay t3 tN st3;refine pairTrees_nil_walk ?_
 obtain⟨_,_,vs0,kv0,dd⟩:=(show K1 X.prog X.w _ s8.heap a (.dK [])from I8.hok _ _ z1)
 cases kv0;refine⟨[(.inr a1,u1),(.inr a2,u2),(.inr a3,u3),(.inr a4,u4)],⟨W5 (k:=.inr a1) r1,rfl,W5 (k:=.inr a2) r2,rfl,W5 (k:=.inr a3) r3,rfl,W5 (k:=.inr a4) r4,rfl,trivial⟩,dd,fun h' d' sb=>?_⟩
 rw[hm]at d';have I9:Inv X pins σ (upd H4 a (.dK [(.inr a1,w1),(.inr a2,w2),(.inr a3,w3),(.inr a4,w4)])) {s8 with heap:=h',toks:=s8.toks+4}:=MC I8 (by rw[z1];exact True.intro) sb (by obtain⟨o,es,ep,g1,_⟩:=d';exact⟨o,g1⟩) ⟨show 4≤sizeLine by decide,hz,_,.cons ⟨rfl,q1⟩ (.cons ⟨rfl,q2⟩ (.cons ⟨rfl,q3⟩ (.cons ⟨rfl,q4⟩ .nil))),d'⟩
 have l4:Le G4 (upd G4 a (.dK [(.inr a1,w1),(.inr a2,w2),(.inr a3,w3),(.inr a4,w4)])):=Le.upd z2
 have up:∀{G0:Hp}{w:V}{e:List D}{l:List Int},Le G0 G4->c4 X.K G0 w (.tup e)->i9 e=some l->∃b,w=.ref b/\uW X.K (upd G4 a (.dK [(.inr a1,w1),(.inr a2,w2),(.inr a3,w3),(.inr a4,w4)])) b (l.map V.int):=fun{G0 w e l} le r hi=>by
  obtain⟨b,hb,q⟩:=cZ r hi;exact⟨b,hb,l4.sqU (le.sqU q)⟩
 refine⟨.ref a,_,I9,rfl,kk _ _ _ (t4.layO (o:=.dK [(.inr a1,w1),(.inr a2,w2),(.inr a3,w3),(.inr a4,w4)]) hn z3 z1 (fun _ z=>by cases z) (fun _ z=>by cases z) z2) ?_⟩
 simp only[c4,Bi];exact⟨a,_,rfl,G7,rfl,up ((f7.same.trans qX.same).trans tN.same) p1 i1,rfl,up (qX.same.trans tN.same) p2 i2,rfl,up tN.same p3 i3,rfl,up Le.refl p4 i4,trivial⟩
def u0:List (Key×V)->Key->Option V
 |[],_=>none
 |p::l,k=>if p.1=k then some p.2 else u0 l k
theorem OY:∀{ps:List (Key×V)}{vs:List (Key×Value)}(k:Key),KV ps vs->W0 (u0 ps k) (valueAt vs k)
 |[],_,k,h=>by cases h;exact trivial
 |p::ps,_,k,h=>by
  cases h with
  |@cons _ q _ qs hq t=>
   have ih:=OY k t
   obtain⟨h1,h2⟩:=hq
   by_cases e:p.1=k
   ·have e1:u0 (p::ps) k=some p.2:=Qn e
    have e2:valueAt (q::qs) k=some q.2:=by
     unfold valueAt;rw[Jg,show decide (q.1=k)=true from Ye (h1.symm.trans e)]
     rfl
    rw[e1,e2];exact h2
   ·have e1:u0 (p::ps) k=u0 ps k:=Ql e
    have e2:valueAt (q::qs) k=valueAt qs k:=by
     unfold valueAt;rw[Jg,show decide (q.1=k)=false from Qt (fun z=>e (h1.trans z))]
    rw[e1,e2];exact ih
theorem dB:MtM X "dict.get" (fun x vs H Q=>∃(q:Addr) (ps:List (Key×V)) (key:Key) (df:V),x=.ref q/\vs=[kV key,df]/\H q=some (.dK ps)/\Q ((u0 ps key).getD df) H):=by
 intro pins s σ H x vs v us Q I rx rv h;obtain⟨q,ps,key,df,rfl,rfl,hq,k⟩:=h;cases rx;obtain⟨u,u2,rfl,ru,ru2⟩:=rv.two;obtain⟨_,hsys,xs,kv,dd⟩:=(show K1 X.prog X.w H s.heap q (.dK _)from I.hok q _ hq)
 refine call_meetsIn PySem.F.slot_dict_get dd.typeIs PySem.F.entry_dict_get (PySem.F.args_dict_get_3 _ _ _) (meets_dict_get_default (L5 X.prog X.w) q (W5 ru) hsys u2) ⟨_,dd.mapOf,?_⟩;have hr:=OY key kv;cases hv:u0 ps key with
 |none=>
  rw[hv]at hr k;have:valueAt xs key=none:=by
   cases h2:valueAt xs key with
   |none=>rfl
   |some w=>rw[h2]at hr;exact False.elim hr
  rw[this];exact⟨df,H,I.tok _,ru2,k⟩
 |some y=>
  rw[hv]at hr k;obtain⟨w',hw,rw'⟩:=W0.some_of (v:=y) (o:=valueAt xs key) hr;rw[hw];exact⟨y,H,I.tok _,rw',k⟩
def t9:List (Str×List Int)->Key->Option (List Int)
 |[],_=>none
 |p::l,k=>if(.inr p.1:Key)=k then some p.2 else t9 l k
theorem Oa{K:Qz}{G:Hp}:∀{ps:List (Key×V)}{qs:List (Str×List Int)}(k:Key),Bg K G ps qs->match t9 qs k with
  |none=>u0 ps k=none
  |some l=>∃a,u0 ps k=some (.ref a)/\uW K G a (l.map V.int)
 |[],[],k,_=>rfl
 |p::ps,q::qs,k,⟨h1,⟨a,h2,h3⟩,h4⟩=>by
  have ih:=Oa k h4
  by_cases e:(.inr q.1:Key)=k
  ·have e1:t9 (q::qs) k=some q.2:=Qn e
   have e2:u0 (p::ps) k=some p.2:=Qn (h1.trans e)
   rw[e1];exact⟨a,by rw[e2,h2],h3⟩
  ·have e1:t9 (q::qs) k=t9 qs k:=Ql e
   have e2:u0 (p::ps) k=u0 ps k:=Ql (fun z=>e (h1.symm.trans z))
   rw[e1,e2];exact ih
def Z1(md ma mb:Mo D):Mo D:=fun env=>(md env).bind fun o=>(ma o.2).bind fun p=>(mb p.2).bind fun r=>match o.1 with
 |.obj (.dt kvs)=>(Fv p.1).map fun k=>match t9 kvs k with
  |none=>(r.1,r.2)
  |some l=>(.tup (l.map .int),r.2)
 |_=>none
theorem IY{d:Expr}{md:Mo D}{apos cpos:Pos}(ho:ED X B d md)(ha:uF X B [e,e2] (B0 ma (B0 mb B4)))
  (hbase:attributeBase d "get" X.env (eval d X.env)=eval d X.env:=by rfl)
  (hfew:((backTo cpos (starEach [e,e2] X.env)).all (fun x=>!x.1)&&(backToKw cpos (keywordEach [] X.env)).all (fun x=>x.1.isSome)
   &&decide ([e,e2].length+([]:List Keyword).length+(if([]:List Keyword).isEmpty then 0 else 1)<30))=true:=by rfl)
  (hline:(apos.endLine==cpos.line)=true:=by rfl)(hs:starEach [e,e2] X.env=(false,eval e X.env)::starEach [e2] X.env:=by rfl)(hplain:(backTo cpos (starEach [e2] X.env)).any (·.1)=false:=by rfl):
  ED X B (.Call (.Attribute d "get" apos) [e,e2] [] cpos) (Z1 md ma mb):=by
 refine c8 (Gz PySem.F.plainAttrs_dict PySem.F.slot_dict_get PySem.F.type_dict_get dB ho ha hbase hfew hline hs hplain) ?_
 rintro σ H Q ⟨G,env,d,env',rl,e,k⟩;obtain⟨⟨d0,uT⟩,e0,e⟩:=C6 e;obtain⟨⟨d1,a8⟩,e1,e2⟩:=C6 e;obtain⟨⟨d2,i5⟩,e3,e4⟩:=C6 e2;dsimp only at e1 e3 e4;split at e4
 case h_2=>cases e4
 rename_i kvs;obtain⟨key,e5,e6⟩:=F4 e4;refine .bind rl e0 fun v0 G0 H0 wY r0=>?_
 simp only[c4,Bi]at r0;obtain⟨q,ps,rfl,g0,tv⟩:=r0;refine⟨.inr (.inr (.inl ⟨rfl,.inl ⟨_,wY.rel.sub _ _ g0⟩⟩)),G0,uT,[d1,d2],i5,wY.rel,?_,fun us G1 H1 ev r1=>?_⟩
 ·show(ma uT).bind _=_
  rw[e1,Qj];show((B0 mb B4) a8).map _=_;show((mb a8).bind _).map _=_;rw[e3]
  rfl
 ·simp only[C3]at r1
  obtain⟨y1,t1,rfl,s1,y2,t2,rfl,s2,rfl⟩:=r1;have hk:=IU s1 e5;subst hk;refine⟨q,ps,key,y2,rfl,rfl,ev.rel.sub _ _ (ev.same _ _ g0),?_⟩;have hl:=Oa key (tv.mono ev.same);cases hv:t9 kvs key with
  |none=>
   rw[hv]at e6 hl;cases e6;rw[show u0 ps key=none from hl]
   exact k _ G1 H1 (wY.trans ev) s2
  |some l=>
   rw[hv]at e6 hl;cases e6;obtain⟨a,h1,h2⟩:=hl;rw[h1];exact k _ G1 H1 (wY.trans ev) (by simp only[c4];exact⟨a,_,rfl,h2,FW l⟩)
end
section
variable{pos:Pos}{fn:Fn}
theorem IZ(D:Def X.prog X.w X.K X.mg X.base x k 0 fn)(hr:g6 k X.A)(hg:Gl X x)(hdb:(x==("__debug__":Str))=false:=by decide):
  EL X B (.Call (.Name x p) [] [] pos) (J7 0 fn B9):=by
 obtain⟨f,fd,ps,F,hl,hm,hk,hb⟩:=D.ex;refine c8 (VD F hr hg hm hk hb .nil Cb hdb) ?_
 rintro σ H Q ⟨G,env,d,env',rl,e,k⟩;obtain⟨⟨r,a8⟩,e1,e2⟩:=C6 e;cases r with
 |d d'=>cases e2
 |l ds=>
  cases e2;have h:=FO (E:=fun _ _ _=>False) rl e1 k
  obtain⟨G,env,as,env',rl,e,kk⟩:=h;cases e;exact kk [] G H (.refl rl) rfl
end
theorem dC{k:Key}{u:Value}(h:(L5 P w).is k u=true):E2 (kV k) u:=by
 rcases Z8 (show Bb k u=true from h)with⟨i,t,rfl,rfl⟩|⟨x,t,rfl,rfl⟩
 ·exact⟨t,rfl⟩
 ·exact⟨t,rfl⟩
def zR(ks:List Key):It:=⟨fun i _=>i<ks.length,fun i H y H'=>H'=H/\∃k,ks[i]? =some k/\y=kV k,fun i _=>ks.length≤i⟩
theorem dD(it d:Addr)(vs:List (Key×Value))(ep:Nat)(hall:∀h:Heap,K.In h->h.DictAt (L5 P w) d vs ep):Turn P w K tg (zR (vs.map (·.1))) [it] it (fun i h=>h.IsKeyIter it d i vs.length ep/\i≤vs.length)where
 mem:=by simp
 obj:=fun i h st b hb=>by
  have e:b=it:=by simpa using hb
  subst e;obtain⟨⟨o,e,c,d⟩,_⟩:=st;exact⟨o,e,fun v z=>by rw[d]at z;cases z⟩
 keep:=fun i h h' st k=>by
  obtain⟨⟨o,e,c,d⟩,hi⟩:=st;exact⟨⟨o,k it (by simp) _ e,c,d⟩,hi⟩
 item:=by
  intro X hP hw hK hc i pins s σ H E I hf st hg;subst hP hw hK;obtain⟨f0,f1,f2,f3,f4,f5⟩:=hf it (by simp)
  have da:=hall s.heap I.kIn
  have hne:d≠it:=fun z=>by
   subst z;obtain⟨⟨o,e,c,_⟩,_⟩:=st;obtain⟨o',_,e',⟨c',_,_⟩,_⟩:=da;rw[e]at e';cases e';rw[c]at c';exact absurd c' (by decide)
  have W:=Walks.dictKeys (prog:=X.prog) (w:=X.w) (knd:=L5 X.prog X.w) (I.ok.hd hc) it d hne vs ep
  have hi:i<vs.length:=by simpa [zR]using hg
  refine W.item i s _ _ hi ⟨st.1,da⟩ fun v h' tk hv st' kk=>?_
  obtain⟨k,u,h1,h2⟩:=hv;have I1:Inv X pins σ H {s with heap:=h',toks:=tk}:=I.turned (fun b o hb e=>kk b o (by simpa using hb) e) f0 f1 f3 f4 f5
  obtain⟨o,e,oc,od⟩:=id st'.1;exact⟨_,rfl,Es (s:={s with heap:=h',toks:=tk}) (n:="dict_keyiterator") e oc od (by decide) ⟨kV k,H,I1,dC h2,⟨rfl,k,by rw[Zw,h1];rfl,rfl⟩,⟨st'.1,hi⟩,fun b hb=>(hf b hb).1⟩⟩
 done:=by
  intro X hP hw hK hc i pins s σ H E I hf st hg;subst hP hw hK;obtain⟨f0,f1,f2,f3,f4,f5⟩:=hf it (by simp)
  have da:=hall s.heap I.kIn
  have hne:d≠it:=fun z=>by
   subst z;obtain⟨⟨o,e,c,_⟩,_⟩:=st;obtain⟨o',_,e',⟨c',_,_⟩,_⟩:=da;rw[e]at e';cases e';rw[c]at c';exact absurd c' (by decide)
  have W:=Walks.dictKeys (prog:=X.prog) (w:=X.w) (knd:=L5 X.prog X.w) (I.ok.hd hc) it d hne vs ep
  have hi:vs.length≤i:=by simpa [zR]using hg
  have e:i=vs.length:=Nat.le_antisymm st.2 hi
  subst e;exact W.done s _ _ ⟨st.1,da⟩ fun h' tk kk=>⟨rfl,I.turned (fun b o hb e=>kk b o (by simpa using hb) e) f0 f1 f3 f4 f5⟩
 self:=fun A i s Q E st h=>wpAny_pyIter_keyiter st.1 h
def Cu(kvs:List (Str×Str)):Mo (List D):=fun env=>if kvs.all fun p=>decide (p.1.length≤1000)then some (kvs.map fun p=>.str p.1,env)else none
theorem dE(h:(kvs.all fun p=>decide (p.1.length≤1000))=true):xP K (zR (kvs.map fun p=>(.inr p.1:Key))) G (kvs.map fun p=>.str p.1)where
 go:=fun i H l hi=>by
  have h:i<(kvs.map fun p=>(.inr p.1:Key)).length:=by simpa using hi
  exact h
 stop:=fun i H l hi=>by
  have h:(kvs.map fun p=>(.inr p.1:Key)).length≤i:=by simpa using hi
  exact h
 yld:=fun i H y H' d l z e=>by
  obtain⟨rfl,k,h1,rfl⟩:=z;refine .inl ⟨rfl,?_⟩;rw[Zw]at h1 e;cases hp:kvs[i]? with
  |none=>rw[hp]at h1;cases h1
  |some p=>
   rw[hp]at h1 e;cases h1;cases e;have:=Xc (Qw.mp h p (Jb hp));simp only[c4];exact⟨rfl,Zp this (by decide)⟩
theorem Ia(hk:vC X.prog X.w X.K X.mg x kvs)(hg:Gl X x)(hn:(kvs.map fun p=>(.inr p.1:Key)).Nodup)(hd:(x==("__debug__":Str))=false:=by decide):EI X B tg (.Name x p) (Cu kvs):=by
 intro pins s σ H R I q;obtain⟨G,env,ds,env',rl,em,k⟩:=q;unfold Cu at em;split at em
 case isFalse=>cases em
 rename_i hl;cases em;obtain⟨a,vs,ep,hm,hz,hv,hall⟩:=hk.wk hn;refine i6 (CS (v:=.ref a) hg hm rfl hd pins s σ H (fun v H1=>v=.ref a/\H1=H) I ⟨rfl,rfl⟩) fun u s1 ⟨y,H1,I1,ry,z1,z2⟩=>?_
 subst z1 z2;cases ry;refine wpAny_pyIter_dict hz (hall s1.heap I1.kIn) ?_
 refine⟨s1.heap.objs.size,[s1.heap.objs.size],_,_,H1,rfl,I1.kept (t':=s1.toks) fun b o e=>Qx _ e,dD _ a vs ep hall,⟨⟨_,Qd _ rfl,rfl,rfl⟩,Jo _⟩,fun b hb=>?_,?_⟩
 ·have e:b=s1.heap.objs.size:=by simpa using hb
  subst e;exact I1.fpOk (Qp _) (I1.hok.fresh (Qp _))
 ·rw[hv]
  exact k _ G H1 (.refl rl) (dE hl)
abbrev Oc(its:Array Value)(c:Nat):Obj:={cls:=.type "list",dict:=none,data:=.seq its c,slots:=#[]}
section
variable{R:Result->Shared->Prop}{I S:Addr}{fp wr:List Addr}{n:Nat}{P:Nat->Value->Prop}{St:Nat->Heap->Prop}{bt:Nat->Nat->Bool}{Z:Heap->Prop}
def Ib(Z:Heap->Prop)(wr:List Addr)(S:Addr):Prop:=∀g g':Heap,Z g->(∀b o,b∉wr->b≠S->g.get? b=some o->g'.get? b=some o)->Z g'
def Ic(prog:Program)(w:World)(A:Around)(Z:Heap->Prop)(P:Nat->Value->Prop)(bt:Nat->Nat->Bool):Prop:=
 ∀(i j:Nat) (x y:Value) (t:Shared) (Q:OE) (E:OE),Z t.heap->P i x->P j y->Q (.bool (bt i j)) t->wpAny (model prog w) A (richCompare .Lt x y) Q E t
theorem Fw:(toString "min"++toString ".loop":String)="min.loop":=by decide
theorem CB{g:Heap}{S:Addr}{f:Obj->Obj}{o:Obj}(ne:b≠S)(e:g.get? b=some o):(g.update S f).get? b=some o:=(Vf _ _ (Zg ne)).trans e
theorem Ie(W:Walks prog w A.in1 I fp wr n P St)(hS:S∉fp)(stay:Ib Z wr S)(cmp:Ic prog w A.in1 Z P bt):∀(k j:Nat) (t:Shared) (best:Value) (c:Nat),n-(j+1)=k->j+1≤n->Z t.heap->St (j+1) t.heap->P (argBest bt j) best->t.heap.get? S=some (Oc #[best,best] c)->
  (∀v g tk,P (argBest bt (n-1)) v->(∀b o,b∉wr->b≠S->t.heap.get? b=some o->g.get? b=some o)->R (.ok (.ret v)) {t with heap:=g,toks:=tk})->codeAny (model prog w) A (.builtin "min.loop" ⟨[.ref I,.none,.ref S],[]⟩) R t
 |0,j,t,best,c,hk,hj,z,st,pb,hs,fin=>by
  have out:S∉wr:=fun q=>hS (W.sub _ q)
  have jn:j+1=n:=by omega
  refine Vx Vn ?_
  rw[Xj Yl _];refine Qq (Yc hs rfl (Qq (Xk (W.done t _ _ (jn ▸ st) fun g tk kk=>?_))))
  show wpAny _ A.in1 (updateSeq S (fun _=>#[])>>=_) _ _ _
  refine Qq ?_
  refine wpAny_updateSeq (kk S _ out hs) rfl (Qq (Vz (Qv (fin best _ tk (by rw[←jn];exact pb) fun b o q ne e=>CB ne (kk b o q e)))))
 |k+1,j,t,best,c,hk,hj,z,st,pb,hs,fin=>by
  have out:S∉wr:=fun q=>hS (W.sub _ q)
  have jn:j+1<n:=by omega
  refine Vx Vn ?_
  rw[Xj Yl _];refine Qq (Yc hs rfl (Qq (Xk (W.item (j+1) t _ _ jn st fun v g tk pv st' kk=>?_))))
  have hs':=kk S _ out hs
  have z':Z g:=stay _ _ z fun b o q _ e=>kk b o q e
  show wpAny _ A.in1 (tryCatch (holding [v,v] (richCompare .Lt v best>>=_)) _>>=_) _ _ _;refine Qq (Xk (Yi (Qq (cmp (j+1) (argBest bt j) v best _ _ _ z' pv pb ?_))));refine Qq (Yi (Yw (Qq (Vz (Qv ?_)))));cases hb:bt (j+1) (argBest bt j)with
  |true=>
   rw[Qn rfl];refine Qq ?_
   refine wpAny_updateSeq hs' rfl (Qq (Vz ?_));rw[Fw];exact Qv ⟨Xf Yl _,Ie W hS stay cmp k (j+1) _ v _ (by omega) jn (stay _ _ z' fun b o _ ne e=>CB ne e) (W.frame _ _ _ st' fun b q o e=>CB (fun y=>hS (y ▸ q)) e)
    (by simp only[argBest,hb,Zn];exact pv) (Ur _ hs' rfl) fun v' g' tk' pv' kk'=>fin v' g' tk' pv' fun b o q ne e=>kk' b o q ne (CB ne (kk b o q e))⟩
  |false=>
   rw[Ql (by simp)]
   refine Qq (Vz ?_);rw[Fw];exact Qv ⟨Xf Yl _,Ie W hS stay cmp k (j+1) _ best c (by omega) jn z' st' (by simp only[argBest,hb,Zx,Ys];exact pb) hs' fun v' g' tk' pv' kk'=>fin v' g' tk' pv' fun b o q ne e=>kk' b o q ne (kk b o q e)⟩
theorem dF(W:Walks prog w A.in1 I fp wr n P St)(hS:S∉fp)(stay:Ib Z wr S)(cmp:Ic prog w A.in1 Z P bt)(hn:0<n){t:Shared}{c:Nat}(z:Z t.heap)(st:St 0 t.heap)(hs:t.heap.get? S=some (Oc #[] c))
  (fin:∀v g tk,P (argBest bt (n-1)) v->(∀b o,b∉wr->b≠S->t.heap.get? b=some o->g.get? b=some o)->R (.ok (.ret v)) {t with heap:=g,toks:=tk}):codeAny (model prog w) A (.builtin "min.loop" ⟨[.ref I,.none,.ref S],[]⟩) R t:=by
 have out:S∉wr:=fun q=>hS (W.sub _ q)
 refine Vx Vn ?_
 rw[Xj Yl _];refine Qq (Yc hs rfl (Qq (Xk (W.item 0 t _ _ hn st fun v g tk pv st' kk=>?_))))
 have hs':=kk S _ out hs
 have z':Z g:=stay _ _ z fun b o q _ e=>kk b o q e
 show wpAny _ A.in1 (updateSeq S (fun _=>#[v,v])>>=_) _ _ _
 refine Qq ?_
 refine wpAny_updateSeq hs' rfl ?_
 rw[Fw];exact Qv ⟨Xf Yl _,Ie W hS stay cmp _ 0 _ v _ rfl hn (stay _ _ z' fun b o _ ne e=>CB ne e) (W.frame _ _ _ st' fun b q o e=>CB (fun y=>hS (y ▸ q)) e) pv (Ur _ hs' rfl) fun v' g' tk' pv' kk'=>fin v' g' tk' pv' fun b o q ne e=>kk' b o q ne (CB ne (kk b o q e))⟩
theorem dG{x:Value}
  (h:wpAny (model prog w) A.in1 (pyIter x) (fun it t=>∃I fp wr n P St bt Z,it=.ref I/\Walks prog w A.in1 I fp wr n P St/\St 0 t.heap/\(∀b∈fp,b<t.heap.objs.size)/\0<n/\Ic prog w A.in1 Z P bt/\Z t.heap/\(∀S,t.heap.objs.size≤S->Ib Z wr S)/\
   ∀v g tk,P (argBest bt (n-1)) v->(∀b o,b∉wr->t.heap.get? b=some o->g.get? b=some o)->Q v {t with heap:=g,toks:=tk}) E s):wpAny (model prog w) A (call (.builtin "min") [x]) Q E s:=by
 refine call_function_tree PySem.F.kind_min PySem.F.plain_min PySem.F.entry_min (PySem.F.args_min1 _) ?_
 refine Qq (wpAny_of_eq (show Builtin.Builtins.bindParams "min" ["key","default"] 0 ⟨[],[]⟩=pure [none,none]from rfl) (Qq (Qv (Qq (Qi h (fun it t ht=>?_) fun _ _ e=>e)))))
 obtain⟨I,fp,wr,n,P,St,bt,Z,rfl,W,st,low,hn,cmp,z,stay,fin⟩:=ht;refine Qq (Zd ?_);rw[Fw];exact Qv ⟨Xf Yl _,dF W (fun q=>Yy _ (low _ q)) (stay _ (Qp _)) cmp hn (stay t.heap.objs.size (Qp _) _ _ z fun b o _ _ e=>Qx _ e) (W.frame _ _ _ st fun b _ o e=>Qx _ e) (Qd _ rfl) fun v g tk pv kk=>fin v g tk pv fun b o q e=>kk b o q (Qs (Qu e)) (Qx _ e)⟩
end
theorem Ig(t:IsTup h a its)(k:∀b o,h.get? b=some o->h'.get? b=some o):IsTup h' a its:=by
 obtain⟨o,e,r⟩:=t;exact⟨o,k a o e,r⟩
theorem f9.keep{ks:OI}(r:f9 h vs ks)(k:∀b o,h.get? b=some o->h'.get? b=some o):f9 h' vs ks:=by
 induction r with
 |nil=>exact .nil
 |cons t i _ ih=>exact .cons (Ig t k) i ih
theorem Od(bt:Nat->Nat->Bool):∀n,argBest bt n≤n
 |0=>Qp _
 |n+1=>by
  have:=Od bt n;unfold argBest;split<;>omega
def rS:List D->Option (List (OI))
 |[]=>some []
 |.tup as::r=>(pR as).bind fun t=>(rS r).map fun l=>t::l
 |_::_=>none
theorem Oe:∀{ds:List D}{Ts:List (OI)}{i:Nat}{d:D},rS ds=some Ts->ds[i]? =some d->∃as,d=.tup as/\pR as=some (Ts.getD i [])
 |d0::ds,Ts,i,d,h,hd=>by
  unfold rS at h;split at h
  ·rename_i z;cases z
  ·rename_i as r z
   cases z;obtain⟨t,e1,e2⟩:=C6 h;obtain⟨l,e3,e4⟩:=F4 e2;subst e4;cases i with
   |zero=>cases hd;exact⟨as,rfl,e1⟩
   |succ i=>exact Oe (i:=i) e3 hd
  ·cases h
theorem Of{K:Qz}{G:Hp}:∀{ds:List D}{xs:List V}{i:Nat}{x:V},C3 K G xs ds->xs[i]? =some x->∃d,ds[i]? =some d/\c4 K G x d
 |[],xs,i,x,r,h=>by
  simp only[C3]at r;subst r;cases h
 |d::ds,xs,i,x,r,h=>by
  simp only[C3]at r;obtain⟨y,t,rfl,q,r⟩:=r;cases i with
  |zero=>cases h;exact⟨d,rfl,q⟩
  |succ i=>exact Of (i:=i) r h
theorem Og{K:Qz}{G:Hp}:∀{ds:List D}{xs:List V},C3 K G xs ds->xs.length=ds.length
 |[],xs,r=>by simp only[C3]at r;subst r;rfl
 |d::ds,xs,r=>by
  simp only[C3]at r;obtain⟨y,t,rfl,q,r⟩:=r;rw[Zj,Zj,Og r]
theorem Ih:∀{xs:List V}{us:List Value}{i:Nat}{u:Value},D2 xs us->us[i]? =some u->∃x,xs[i]? =some x/\E2 x u
 |_,_,i,u,.cons h t,e=>by
  cases i with
  |zero=>cases e;exact⟨_,rfl,h⟩
  |succ i=>exact Ih (i:=i) t e
def CC(Ts:List (OI))(i j:Nat):Bool:=S4 (Ts.getD i []) (Ts.getD j [])
theorem dH{items items2:Array Value}{ns ms:OI}(hl:IsTup s.heap l items)(hb:IsTup s.heap b items2)(hi:f9 s.heap items.toList ns)(hj:f9 s.heap items2.toList ms)
  (hu:A.units+40<cLine)(h:Q (.bool (S4 ns ms)) s):wpAny (model prog w) A (richCompare .Lt (.ref l) (.ref b)) Q E s:=by
 obtain⟨⟨cls,dd,data,sl⟩,ho,hc,n,hd⟩:=id hl;obtain⟨⟨cls2,dd2,data2,sl2⟩,ho2,hc2,n2,hd2⟩:=id hb;simp only at hc hd hc2 hd2;subst hc hd hc2 hd2;exact richCompare_meets_room (op:=.Lt) ⟨_,ho,rfl⟩ ⟨_,ho2,rfl⟩ PySem.F.slot_tuple_lt PySem.F.entry_tuple_lt (PySem.F.args_tuple_lt_2 _ _) (cM l b items items2 n n2 dd dd2 sl sl2 ns ms)
  ⟨by omega,hi,hj,ho,ho2,show Value.bool (S4 ns ms)≠Value.notImplemented/\Q (.bool (S4 ns ms)) s from⟨(fun x=>nomatch x),h⟩⟩ (by omega)
def Oh(X:Cx):List V->Hp->VK->Prop:=fun xs H Q=>∃(p:Addr) (G:Hp) (ys:List V) (ds:List D) (Ts:List (OI)) (y:V),xs=[.ref p]/\Le G H/\qK X.K G p ys/\C3 X.K G ys ds/\rS ds=some Ts/\ys[argBest (CC Ts) (ds.length-1)]? =some y/\Q y H
theorem Ii(hc:X.calm=true)(hu:X.A.units+64<cLine):M0 X (.builtin "min") (Oh X):=by
 intro pins s σ H xs us Q I r h;obtain⟨p,G,ys,ds,Ts,y,rfl,l,hq,rp,ht,hy,q⟩:=h;obtain⟨u,rfl,rx⟩:=X9 r;cases rx;have hh:X.A.in1.handled=none:=I.ok.hd hc;obtain⟨its,rv,pl,hz⟩:=I.list (l.sqL hq);have hl:=pl.isList;have hlt:p<s.heap.objs.size:=by obtain⟨_,e,_⟩:=hl;exact Qu e
 have W:=Walks.list (prog:=X.prog) (w:=X.w) (A:=X.A.in1) hh s.heap.objs.size p (Qs hlt) its.toArray
 have ly:ys.length=ds.length:=Og rp
 have li:its.toArray.size=ds.length:=by rw[Qm,←rv.length,ly]
 have h0:0<ds.length:=by
  have:=(Qg.mp hy).1
  omega
 rw[li]at W;have key:∀i v,its.toArray[i]? =some v->∃a tt,v=.ref a/\IsTup s.heap a tt/\f9 s.heap tt.toList (Ts.getD i []):=fun i v hv=>by
  have hv':its[i]? =some v:=by simpa using hv
  obtain⟨x,hx,rxv⟩:=Ih rv hv';obtain⟨d,hd,rd⟩:=Of rp hx;obtain⟨as,rfl,hr⟩:=Oe ht hd;simp only[c4]at rd;obtain⟨a,zs,rfl,hs,hrep⟩:=rd;cases rxv;obtain⟨t2,r2,p2,_⟩:=I.tuple (l.sqT hs);exact⟨a,t2.toArray,rfl,p2,by simpa using IM I l r2 hrep hr⟩
 refine dG (Ul hl ⟨_,_,_,_,_,_,CC Ts,fun g=>∀b o,s.heap.get? b=some o->g.get? b=some o,rfl,W,⟨⟨_,Qd _ rfl,rfl,rfl⟩,hl.push _⟩,fun b hb=>?_,h0,?_,fun b o e=>Qx _ e,fun S hS g g' z k b o e=>?_,fun v g tk hP kk=>?_⟩)
 ·have hs:s.heap.objs.size<(s.heap.push {cls:=.type "list_iterator",data:=.fields #[.ref p,.int 0 0]}).objs.size:=by rw[Yq];exact Xa _
  rcases Qb.mp hb with rfl|hb
  ·exact hs
  ·rcases Qb.mp hb with rfl|hb
   ·exact Us hlt hs
   ·cases hb
 ·intro i j x y' t Q' E' z hx hy' hQ
  obtain⟨a,ta,rfl,h1,h2⟩:=key i x hx;obtain⟨a',ta',rfl,h1',h2'⟩:=key j y' hy';exact dH (Ig h1 z) (Ig h1' z) (h2.keep z) (h2'.keep z) (show X.A.units+1+40<cLine by omega) hQ
 ·have lt:=Qu e
  refine k b o (fun hb=>?_) (fun hb=>?_) (z b o e)
  ·have:b=s.heap.objs.size:=by simpa using hb
   exact Qs lt this
  ·rw[Yq]at hS
   exact Qs (Qr (Jh lt) hS) hb
 ·have hv':its[argBest (CC Ts) (ds.length-1)]? =some v:=by simpa using hP
  obtain⟨x,hx,rxv⟩:=Ih rv hv';have e:x=y:=Zt (hx.symm.trans hy);rw[e]at rxv;exact⟨y,H,I.kept (t':=tk) (LSm.kept_iter kk),rxv,q⟩
def CD:List D->Option D
 |[.lst ds]=>(rS ds).bind fun Ts=>ds[argBest (CC Ts) (ds.length-1)]?
 |_=>none
theorem Oi{K:Qz}{G:Hp}:∀{ds:List D}{xs:List V}{i:Nat}{d:D},C3 K G xs ds->ds[i]? =some d->∃x,xs[i]? =some x/\c4 K G x d
 |d0::ds,xs,i,d,r,h=>by
  simp only[C3]at r;obtain⟨y,t,rfl,q,r⟩:=r;cases i with
  |zero=>cases h;exact⟨y,rfl,q⟩
  |succ i=>exact Oi (i:=i) r h
theorem dI:Y1 X B (Oh X) CD:=by
 intro G σ env H xs ds c Q rl r e k;unfold CD at e;split at e
 ·rename_i es
  obtain⟨x,rfl,q⟩:=T6 r;obtain⟨Ts,e1,e2⟩:=C6 e;simp only[c4]at q;obtain⟨a,ys,rfl,h1,h2⟩:=q;obtain⟨y,hy,ry⟩:=Oi h2 e2;exact⟨a,G,ys,es,Ts,y,rfl,rl.sub,h1,h2,e1,hy,k _ G H (.refl rl) ry⟩
 ·cases e
def EE(f:Fn)(i:Nat)(m:Mo D):Mo D:=fun env=>((env[i]?).bind W.view).bind fun _=>(m env).bind fun p=>((p.2[i]?).bind W.view).bind fun d=>(f [.dat d,.dat p.1]).bind fun q=>match q.1 with
 |.d r=>if r.flat then some (r,p.2)else none
 |_=>none
section
variable{pos p1:Pos}{fn:Fn}{i:Nat}{y:Str}
theorem Oj(D:Def X.prog X.w X.K X.mg X.base x k 2 fn)(hr:g6 k X.A)(hg:Gl X x)(h1:PE X (.Name y p1) (Q4 i))(h2:ED X B e2 m)(hdb:(x==("__debug__":Str))=false:=by decide)
  (he:starEach [.Name y p1,e2] X.env=(false,eval (.Name y p1) X.env)::starEach [e2] X.env:=by rfl)(hpl:(backTo pos (starEach [e2] X.env)).any (·.1)=false:=by rfl)(hs:starEach [e2] X.env=(false,eval e2 X.env)::starEach [] X.env:=by rfl):
  ED X B (.Call (.Name x p) [.Name y p1,e2] [] pos) (EE fn i m):=by
 obtain⟨f,fd,ps,F,hps,hm,hk,hb⟩:=D.ex;refine c8 (DU F hr hg hm hk hb .nil Cb (R0 h1 (R0 h2 AA hs) he) hdb he hpl) ?_
 rintro σ H Q ⟨G,env,d,env',rl,e,kk⟩;obtain⟨d00,e0,e⟩:=C6 e;obtain⟨⟨d2,a8⟩,e1,e⟩:=C6 e;obtain⟨d0,e3,e⟩:=C6 e;obtain⟨⟨r,ws'⟩,e5,e6⟩:=C6 e;dsimp only at e3 e5 e6;cases r with
 |l _=>cases e6
 |d r=>
  dsimp only at e6;split at e6
  case isFalse=>cases e6
  rename_i hf;cases e6;obtain⟨w,w1,w2⟩:=C6 e0;obtain⟨v,hv⟩:∃v,σ[i]? =some (some v):=by
   cases w with
   |nil=>cases w2
   |dat d2=>obtain⟨v,q,_⟩:=rl.dat i _ w1;exact⟨v,q⟩
   |own ds2=>obtain⟨a,_,q,_⟩:=rl.own i _ _ w1 rfl;exact⟨_,q⟩
   |par ds2=>obtain⟨a,_,q,_⟩:=rl.own i _ _ w1 rfl;exact⟨_,q⟩
   |ownD _ _=>obtain⟨a,_,q,_⟩:=rl.own i _ _ w1 rfl;exact⟨_,q⟩
   |parD _ _=>obtain⟨a,_,q,_⟩:=rl.own i _ _ w1 rfl;exact⟨_,q⟩
  refine⟨v,hv,G,env,d2,env',rl,e1,fun v2 G2 H2 f7 r2=>?_⟩
  have rl2:=f7.rel
  have rp:C3 X.K (T2 G2 σ env' H2) [v,v2] [d0,d2]:=c9 (Nv rl2 hv e3) (c9 (c4.mono (Ft rl2) d2 r2) d9)
  show k9 X.K 2 fn ([v,v2]++[]) H2 Q E0;rw[Yg];refine⟨T2 G2 σ env' H2,[d0,d2].map W.dat,.d d,ws',rfl,fun w hw=>?_,Nx rl2 rp,e5,fun v3 G3 H3 qX r3=>kk v3 G2 H3 (f7.trans (Ny rl2 qX)) ?_⟩
  ·obtain⟨d1,_,rfl⟩:=Zq.mp hw
   exact .inl ⟨d1,rfl⟩
  ·cases d<;>first|(simp only[c4]at r3 ⊢;exact r3)|cases hf
end
def Q9(h:Heap):List Value->List (OI)->Prop
 |[],[]=>True
 |v::vs,k::ks=>(∃a its,v=.ref a/\IsTup h a its/\f9 h its.toList k/\k≠[])/\Q9 h vs ks
 |_,_=>False
theorem Q9.mono{h h':Heap}:∀{vs:List Value}{ks:List (OI)},Q9 h vs ks->(∀a its,IsTup h a its->IsTup h' a its)->Q9 h' vs ks
 |[],[],_,_=>trivial
 |v::vs,k::ks,⟨⟨a,its,e,t,i,n⟩,r⟩,f=>by
  refine⟨⟨a,its,e,f _ _ t,?_,n⟩,Q9.mono r f⟩;clear t e n r;generalize its.toList=us at *
  induction i with
  |nil=>exact .nil
  |cons t i _ ih=>exact .cons (f _ _ t) i ih
 |[],_::_,h,_=>h.elim
 |_::_,[],h,_=>h.elim
theorem Q9.len{h:Heap}:∀{vs:List Value}{ks:List (OI)},Q9 h vs ks->vs.length=ks.length
 |[],[],_=>rfl
 |v::vs,k::ks,h=>by simp[Q9.len h.2]
 |[],_::_,h=>h.elim
 |_::_,[],h=>h.elim
theorem Q9.get{h:Heap}:∀{vs:List Value}{ks:List (OI)}{i:Nat},Q9 h vs ks->i<vs.length->∃a its,vs.getD i Value.none=.ref a/\IsTup h a its/\f9 h its.toList (ks.getD i [])
 |v::vs,k::ks,0,⟨⟨a,its,e,t,i,n⟩,r⟩,_=>⟨a,its,by simpa using e,t,by simpa using i⟩
 |v::vs,k::ks,i+1,⟨_,r⟩,hi=>by
  obtain⟨a,its,e,t,j⟩:=Q9.get (i:=i) r (by simpa using hi)
  exact⟨a,its,by simpa using e,t,by simpa using j⟩
 |[],_,_,_,hi=>by simp at hi
 |_::_,[],_,h,_=>h.elim
theorem dJ{M:Model}(t:IsTup h a its):PySem.W.Looks M h (typeOf (.ref a)) (.type "tuple"):=by
 obtain⟨o,h1,h2,_⟩:=t;exact h2 ▸ (PySem.W.Looks.ld h1).andThen .now
theorem Q9.firsts{h:Heap}:∀{vs:List Value}{ks:List (OI)},Q9 h vs ks->∃fs,PySem.W.KatTups h vs fs/\fs.length=vs.length/\∀v∈fs,∃a its,v=Value.ref a/\IsTup h a its
 |[],[],_=>⟨[],.nil,rfl,fun _ h=>nomatch h⟩
 |_::vs,k::ks,⟨⟨a,its,rfl,⟨o,h1,h2,n,h3⟩,hi,hn⟩,r⟩=>by
  obtain⟨fs,f1,f2,f3⟩:=Q9.firsts r;obtain⟨its⟩:=its;dsimp only at hi;cases hi with
  |nil=>exact absurd rfl hn
  |@cons b jts _ us _ t i hr=>
   refine⟨.ref b::fs,.cons h1 h2 h3 (by simp) f1,by simp[f2],fun v hv=>?_⟩
   rcases Qb.mp hv with rfl|hv
   ·exact⟨b,jts,rfl,t⟩
   ·exact f3 v hv
 |[],_::_,h=>h.elim
 |_::_,[],h=>h.elim
def BN(fin:Bool):OI->OI->Bool
 |a::as,b::bs=>if a=b then BN fin as bs else HT.lexLt a b
 |_,_=>fin
theorem Ol:∀(as bs:OI),BN (decide (as.length<bs.length)) as bs=S4 as bs
 |[],[]=>rfl
 |[],_::_=>by simp[BN,S4]
 |_::_,[]=>by simp[BN,S4]
 |a::as,b::bs=>by
  rw[OC,←Ol as bs]
  simp[BN]
section
variable{fin:Bool}{Q:Bool->Shared->Prop}
theorem dO(hu:A.units+8<cLine){us:List Value}{as:OI}(h1:f9 s.heap us as):∀{ws:List Value}{bs:OI}{i:Nat},f9 s.heap ws bs->Q (BN fin as bs) s->PySem.W.KatLex prog w A false fin Q (us.zip ws) i s:=by
 induction h1 with
 |nil=>intro ws bs i _ q;exact q
 |@cons _ _ a _ _ ta ia ha ih=>
  intro ws bs i h2 q;cases h2 with
  |nil=>exact q
  |@cons _ _ b _ _ tb ib hb=>
   refine PySem.W.kat_cons (OG ta ia tb ib hu prog w _ _ ?_)
   by_cases e:a=b
   ·subst e
    rw[Ye rfl];exact PySem.W.kat_yes (ih hb (by simpa [BN]using q))
   ·rw[Qt e]
    refine PySem.W.kat_no ?_
    have q':Q (HT.lexLt a b) s:=by simpa [BN,e]using q
    exact PySem.W.kat_one _ _ (HT.sL ta tb ia ib (by omega) (show PySem.W.BoolBack Q (.bool (HT.lexLt a b)) s from q'))
end
def Fx:List D->Option (List (OI))
 |[]=>some []
 |.tup as::r=>(pR as).bind fun t=>if t.isEmpty then none else(Fx r).map fun l=>t::l
 |_::_=>none
def Om(ks:List (OI)):Option (List Nat):=if ks.length<2 then some (List.range ks.length)else if ks.length<64 then
 (Bs ks.length (fun i j=>S4 (ks.getD i []) (ks.getD j [])) (PySem.W.kas_sort ks.length)).bind fun p=>if p.toList.length≤1000 then some p.toList else none else none
def Fy(ds:List D):Option (List D):=(Fx ds).bind fun ks=>(Om ks).bind fun p=>p.mapM fun i=>ds[i]?
section
variable{pins:OX}{σ:St}{H:Hp}
theorem dP{ks:List (OI)}{p:Array Nat}(hu:X.A.units+64<cLine)(I:Inv X pins σ H s)(hl:s.heap.IsList l vs.toArray)(ht:Q9 s.heap vs ks)(h2:2≤vs.length)(h64:vs.length<64)
  (hp:Bs vs.length (fun i j=>S4 (ks.getD i []) (ks.getD j [])) (PySem.W.kas_sort vs.length)=some p)
  (h:∀D c h' m,(∀b u,s.heap.get? b=some u->b≠D)->s.heap.Ns X.env.locals m->h'.Ns X.env.locals m->(∀b o,b≠X.env.locals->s.heap.get? b=some o->h'.get? b=some o)->
   h'.get? D=some {cls:=.type "list",data:=.seq (p.toList.map fun i=>vs.getD i Value.none).toArray c}->Q (.ref D) {s with heap:=h'}):
  wpAny (model X.prog X.w) X.A (call (.builtin "sorted") [.ref l]) Q E s:=by
 obtain⟨m,F⟩:=I.fr;have hm:s.heap.Ns X.env.locals m:=F.ns;have hbk:=I.bk;have keepOf:∀{h':Heap}{pre:OX},Fr X.base X.env.locals h' m->News X.base X.env.locals h' (pre++CO X.base s.heap X.env.locals)->∀b o,b≠X.env.locals->s.heap.get? b=some o->h'.get? b=some o:=fun{h' pre} F' N' b o hL e=>by
  cases q:X.base.get? b with
  |some u=>
   have:=hbk b u q;rw[e]at this;cases this;exact F'.keep b _ q
  |none=>exact(N' (b,o) (Qe _ (En hL q e))).1
 have tl:∀{h':Heap},(∀b o,b≠X.env.locals->s.heap.get? b=some o->h'.get? b=some o)->∀a its,IsTup s.heap a its->IsTup h' a its:=fun{h'} k a its ⟨o,e,c,r⟩=>by
  refine⟨o,k a o ?_ e,c,r⟩;intro z;subst z;obtain⟨o',es,ep,g1,g2,_⟩:=hm;rw[e]at g1;cases g1;obtain⟨n,r⟩:=r;rw[g2]at r;cases r
 refine PySem.W.kat_sorted F Eo hl h2 h64 fun D e1 h' F' N' hD=>?_
 have k1:=keepOf (pre:=[(D,seqObj "list" #[] e1)]) F' N'
 have t1:Q9 h' vs ks:=ht.mono (tl k1)
 obtain⟨fs,f1,f2,f3⟩:=t1.firsts;refine PySem.W.kat_kind (s:={s with heap:=h'}) (T:=.type "tuple") f1 (by omega) (fun v hv=>?_) (by decide) ?_
 ·obtain⟨a,its,rfl,t⟩:=f3 v hv
  exact dJ t
 ·have hDs:∀b o,s.heap.get? b=some o->b≠D:=fun b o e z=>by
   subst z
   by_cases hL:b=X.env.locals
   ·have:=(N' (b,seqObj "list" #[] e1) (Zl ..)).2.1
    exact this hL
   ·cases q:X.base.get? b with
    |some u=>
     have:=(N' (b,seqObj "list" #[] e1) (Zl ..)).2.2;simp only at this;rw[q]at this;cases this
    |none=>exact absurd (hD (b,o) (En hL q e)) (Yy _)
  refine Hd (s:={s with heap:=h'}) (lt:=fun i j=>S4 (ks.getD i []) (ks.getD j [])) (fun i j C hi hj hc=>?_) _ hp ?_
  ·obtain⟨a,its,ea,⟨oa,p1,_,na,p2⟩,ia⟩:=t1.get hi
   obtain⟨b,jts,eb,⟨ob,q1,_,nb,q2⟩,ib⟩:=t1.get hj;unfold PySem.W.kas_ask;rw[ea,eb];have hb:(Value.type "tuple" !=Value.type "tuple")=false:=by decide
   rw[hb];refine PySem.W.kat_lt (s:={s with heap:=h'}) p1 p2 q1 q2 ?_
   have la:=ia.length
   have lb:=ib.length
   refine dO (show X.A.units+1+1+8<cLine by omega) ia ib ?_
   have e:decide (its.size<jts.size)=decide ((ks.getD i []).length<(ks.getD j []).length):=by
    rw[←la,←lb,Uj,Uj]
   rw[e,Ol];exact hc
  ·refine PySem.W.KasFin.intro (s:={s with heap:=h'}) F' N' (.head fun q hq=>?_) fun h2' c F2 N2=>?_
   ·exact hDs q.1 q.2 (Eo q hq).1
   ·have k2:=keepOf (pre:=[(D,PySem.W.listOf (List.toArray (p.toList.map fun i=>vs.getD i Value.none)) c)]) F2 N2
    exact h D c h2' m hDs hm F2.ns k2 (N2 _ (Zl ..)).1
theorem Oo(I:Inv X pins σ H s)(l:Le G H):∀{ds:List D}{xs:List V}{us:List Value}{ks:List (OI)},C3 X.K G xs ds->D2 xs us->Fx ds=some ks->Q9 s.heap us ks
 |[],_,us,ks,r,v,e=>by simp only[C3]at r;subst r;cases v;cases e;trivial
 |d::ds,_,us,ks,r,v,e=>by
  simp only[C3]at r;obtain⟨x,t,rfl,q,r⟩:=r;unfold Fx at e;split at e
  ·rename_i z;cases z
  ·rename_i as r' z
   cases z;obtain⟨k,e1,e2⟩:=C6 e;split at e2
   ·cases e2
   ·rename_i hne
    obtain⟨ks',e3,e4⟩:=F4 e2;subst e4;simp only[c4]at q;obtain⟨a,ys,rfl,q1,q2⟩:=q;cases v with
    |cons v1 v2=>
     cases v1;obtain⟨its,rv,p,_⟩:=I.tuple (l.sqT q1);exact⟨⟨a,its.toArray,rfl,p,by simpa using IM I l rv q2 e1,fun z=>hne (by rw[z];rfl)⟩,Oo I l r v2 e3⟩
  ·cases e
def Oq(X:Cx):List V->Hp->VK->Prop:=fun xs H Q=>∃p G ys ds es,xs=[.ref p]/\Le G H/\qK X.K G p ys/\C3 X.K G ys ds/\Fy ds=some es/\∀l zs,H l=none->C3 X.K G zs es->Q (.ref l) (upd H l (.lst zs))
theorem Ot(hu:X.A.units+64<cLine):M0 X (.builtin "sorted") (Oq X):=by
 intro pins s σ H xs us Q I r h;obtain⟨p,G,ys,ds,es,rfl,l,hq,rp,es',q⟩:=h;obtain⟨u,rfl,rx⟩:=X9 r;cases rx;obtain⟨vs,rv,pl,hz⟩:=I.list (l.sqL hq);obtain⟨ks,e1,e2⟩:=C6 es';obtain⟨pm,e3,e4⟩:=C6 e2;have ht:Q9 s.heap vs ks:=Oo I l rp rv e1;have hlen:=ht.len;obtain⟨zs,h1,h2⟩:=Hg rp rv e4;have fin:∀(D:Addr) (c:Nat) (h':Heap) (m:OU),(∀b u,s.heap.get? b=some u->b≠D)->s.heap.Ns X.env.locals m->h'.Ns X.env.locals m->(∀b o,b≠X.env.locals->s.heap.get? b=some o->h'.get? b=some o)->
   h'.get? D=some {cls:=.type "list",data:=.seq (pm.map fun i=>vs.getD i Value.none).toArray c}->pm.length≤1000->EP X pins σ Q (.ref D) {s with heap:=h'}:=fun D c h' m a1 a2 a3 a4 a5 hpl=>by
  have hzl:zs.length≤sizeLine:=by
   have:=h1.length;rw[Qk]at this;rw[this];exact Jj (Bf hpl)
  exact⟨.ref D,_,Mh (t':=s.toks) I a2 a3 a4 a1 h1 hzl a5,rfl,q D zs (He I a1) h2⟩
 unfold Om at e3;split at e3
 ·rename_i hn
  cases e3;refine Mj I pl.isList (by omega) fun D c h' m a1 a2 a3 a4 a5=>fin D c h' m a1 a2 a3 a4 ?_ (by simp;omega)
  have:((List.range ks.length).map fun i=>vs.getD i Value.none)=vs:=by
   apply Ua
   ·simp[hlen]
   ·intro i h1 h2
    simp[h2]
  rw[this];exact a5
 ·rename_i hn
  split at e3
  ·rename_i h64
   obtain⟨pa,e5,e6⟩:=C6 e3;split at e6
   case isFalse=>cases e6
   rename_i hpl;cases e6;refine dP (p:=pa) hu I pl.isList ht (by omega) (by omega) (by rw[hlen];exact e5) fun D c h' m a1 a2 a3 a4 a5=>fin D c h' m a1 a2 a3 a4 a5 hpl
  ·cases e3
def Ij:List D->Option (List D)
 |[.lst ds]=>Fy ds
 |_=>none
theorem dQ:Cd X B (Oq X) Ij:=by
 intro G σ env H xs ds c Q rl r e k;unfold Ij at e;split at e
 ·rename_i ds
  obtain⟨x,rfl,q⟩:=T6 r;simp only[c4]at q;obtain⟨a,ys,rfl,h1,h2⟩:=q;exact⟨a,G,ys,ds,c,rfl,rl.sub,h1,h2,e,fun l zs hl rz=>k l zs G H (.refl rl) hl rz⟩
 ·cases e
end
theorem Ik{g:OZ}{t:Mo Bool}{m:Mo D}:∀{ds:List D}{env e:c5}{r:List D},M1 g t m ds env=some (r,e)->V5 g t (V4 m) ds env=some (r,e)/\r.length≤ds.length
 |[],env,e,r,h=>by cases h;exact⟨rfl,Qp _⟩
 |d::ds,env,e,r,h=>by
  obtain⟨e1,h1,h⟩:=C6 h;obtain⟨⟨b,e2⟩,h2,h⟩:=C6 h;have goal:∀z,((g d env).bind fun e1=>(t e1).bind fun p=>if p.1 then(V4 m p.2).bind fun q'=>(V5 g t (V4 m) ds q'.2).map fun r=>(q'.1++r.1,r.2)else V5 g t (V4 m) ds p.2)=z->V5 g t (V4 m) (d::ds) env=z:=fun z h=>h
  cases b with
  |false=>
   obtain⟨a1,a2⟩:=Ik (show M1 g t m ds e2=some (r,e)from h)
   exact⟨goal _ (by rw[h1,Qj,h2];exact a1),Nat.le_succ_of_le a2⟩
  |true=>
   obtain⟨⟨x,e3⟩,h3,h⟩:=C6 (show(m e2).bind (fun q=>(M1 g t m ds q.2).map fun r=>(q.1::r.1,r.2))=some (r,e)from h)
   obtain⟨⟨r',e4⟩,h4,h5⟩:=F4 h;cases h5;obtain⟨a1,a2⟩:=Ik h4;refine⟨goal _ ?_,Nat.succ_le_succ a2⟩;have he:V4 m e2=some ([x],e3):=by
    show(m e2).map _=_;rw[h3]
    rfl
   rw[h1,Qj,h2];show(V4 m e2).bind _=_;rw[he];show(V5 g t (V4 m) ds e3).map _=_;rw[a1]
   rfl
theorem Ou{mi:Mo (List D)}{keep:List Bool}{more:Nat}{g:OZ}{t:Mo Bool}{env:c5}{x:List D×c5}(h:D6 mi keep more g t m env=some x):Bx mi keep more g t (V4 m) env=some x:=by
 obtain⟨p,h1,h⟩:=C6 h;split at h
 case isFalse=>cases h
 rename_i hl;obtain⟨⟨r,e⟩,h2,h3⟩:=C6 h;obtain⟨a1,a2⟩:=Ik h2;unfold Bx;rw[h1,Qj,a1,Qj,Qn (Zp a2 hl)];exact h3
section
variable{N':List Str}{scope:Scope}{keep:List Bool}{more:Nat}{iter elt:Expr}{ifs:List Expr}{g:OZ}{t:Mo Bool}{mi:Mo (List D)}{pos:Pos}
theorem L9(ok:pO X N' scope keep more)(hc:X.calm=true)(hi:EI X B tg iter mi)(hg:∀s H fp,EG (J5 X N' scope s H fp) B X.N.length tg g)(ht:∀s H fp,U0 (J5 X N' scope s H fp) ifs (sY X.K B t))(he:∀s H fp,ED (J5 X N' scope s H fp) B elt m)
  (hs:∀x,foldedSetIterable iter X.env x=pure x:=by intro _;rfl):EL X B (.ListComp elt [⟨tg,iter,ifs,0⟩] scope pos) (D6 mi keep more g t m):=
 c8 (bS ok hc hi hg ht (fun s H fp p=>Fg rfl (he s H fp)) hs) fun σ H Q ⟨G,env,d,env',rl,e,k⟩=>⟨G,env,d,env',rl,Ou e,k⟩
theorem Fz{i:Nat}{y:Str}{py spos:Pos}(ok:pO X N' scope keep more)(hc:X.calm=true)(hN:X.N.Nodup)(hy:X.N[i]? =some y)(hyl:X.env.scope.names.lookup y=some .local)
  (hsw:swapsWith (.ListComp elt [⟨tg,iter,ifs,0⟩] scope pos) (some (.Name y py)) spos.line X.env=pure true)
  (hi:EI X B tg iter mi)(hg:∀s H fp,EG (J5 X N' scope s H fp) B X.N.length tg g)(ht:∀s H fp,U0 (J5 X N' scope s H fp) ifs (sY X.K B t))(he:∀s H fp,ED (J5 X N' scope s H fp) B elt m)
  (hs:∀x,foldedSetIterable iter X.env x=pure x:=by intro _;rfl):ES X B (.Assign [.Name y py] (.ListComp elt [⟨tg,iter,ifs,0⟩] scope pos) spos) (K7 i (D6 mi keep more g t m)):=by
 refine m5 (IJ (i:=i) ok hc hN hy hyl hsw hi hg ht (fun s H fp p=>Fg rfl (he s H fp)) hs) ?_
 rintro D σ H ⟨G,env,fl,env',rl,e,k⟩;obtain⟨⟨d,a8⟩,e1,e2⟩:=F4 e;cases e2;refine⟨G,env,.nx,a8.set i (.own d),rl,?_,k⟩;show(Bx mi keep more g t (V4 m) env).map _=_;rw[Ou e1]
 rfl
end
section
variable{n:Nat}
theorem Z2{fn:Fn}{l:List (Str×Fn)}(d:Def X.prog X.w X.K X.mg X.base x k n fn)(hn:sO X.K X.mg x)(hr:g6 k X.A)(h:Bz X n l):Bz X n ((x,fn)::l):=cU hr d hn h
theorem Il{g:List W->Option Str}{l:List (Str×(List W->Option Str))}(d:rE X.prog X.w X.K X.mg X.base x k n g)(hn:sO X.K X.mg x)(hr:g6 k X.A)(h:CA X n l):CA X n ((x,g)::l):=cV hr d hn h
end
end L2.Mir
namespace L2.Mir
open PySem L2
variable{N i j k n:Nat}{a b d:D}{as:Mo (List Ar)}{av:List Ar}{base e e1 e2 env:c5}{ds:List D}{m:Mo D}{mb:Mo Fl}{mi ms:Mo (List D)}{r:Option (Fl×c5)}{u:Mo Bool}{v w:W}{ws ws':List W}{α:Type}
abbrev u5(n:Nat):List D:=(List.range n).map fun(i:Nat)=>D.int (i:Int)
theorem dS(n:Nat):R8 0 n=u5 n:=by
 unfold R8 u5;exact Yv fun i _=>by simp
theorem Aj{M:Mo D}{j:Int}(hM:M e=some (.int j,e1))(hj:j=(n:Int))(hn:n≤10000):J4 (B0 M B4) e=some (u5 n,e1):=by
 subst hj;have:=Dt (ms:=B0 M B4) (env:=e) (e1:=e1) (j:=(n:Int)) (by unfold B0 B4;rw[hM];rfl) (by omega) (by omega)
 rw[this,Jq,dS]
theorem dU(h:base.length=k):(base++[w]).set k v=base++[v]:=by
 subst h;simp
theorem dW{w2 v2:W}(h:base.length=k):((base++[w,w2]).set k v).set (k+1) v2=base++[v,v2]:=by
 subst h;rw[List.set_append_right _ _ (Qp _),Nat.sub_self,List.set_append_right _ _ (by omega)]
 simp
theorem Ov{α:Type}{t:Mo Bool}{m:Mo D}{base:c5}{q f:α->D}{p:α->Bool}{k:Nat}(hk:base.length=k):∀{l:List α},(∀a∈l,t (base++[.dat (q a)])=some (p a,base++[.dat (q a)])/\(p a=true->m (base++[.dat (q a)])=some (f a,base++[.dat (q a)])))->∀w,∃w',M1 (gN k) t m (l.map q) (base++[w])=some ((l.filter p).map f,base++[w'])
 |[],_,w=>⟨w,rfl⟩
 |a::l,h,w=>by
  obtain⟨h1,h2⟩:=h a (by simp)
  obtain⟨w',e⟩:=Ov hk (l:=l) (fun x hx=>h x (by simp[hx])) (.dat (q a))
  refine⟨w',?_⟩;rw[Qh];unfold M1 gN;rw[Qj,dU hk,h1,Qj];cases hp:p a with
  |false=>simp only[Zx,Ys];rw[Ux (by simp[hp])];exact e
  |true=>
   simp only[Zn];rw[h2 hp,Qj,Uk hp,Qh];show(M1 (gN k) t m (l.map q) (base++[.dat (q a)])).map _=_;rw[e];rfl
theorem GA{keep:List Bool}{t:Mo Bool}{l:List α}{q f:α->D}{p:α->Bool}(hi:mi env=some (l.map q,env))(hl:l.length≤100000)(hb:P9 keep 0 env=base)(hk:base.length=k)
  (h:∀a∈l,t (base++[.dat (q a)])=some (p a,base++[.dat (q a)])/\(p a=true->m (base++[.dat (q a)])=some (f a,base++[.dat (q a)])))(ho:∀w,O7 keep env (base++[w])=some env):D6 mi keep 1 (gN k) t m env=some ((l.filter p).map f,env):=by
 obtain⟨w',e⟩:=Ov hk h .nil;refine Ad hi (by simpa using hl) (e2:=base++[w']) ?_ (ho w')
 have:P9 keep 1 env=base++[.nil]:=by rw[←hb];unfold P9;simp
 rw[this];exact e
theorem CF{keep:List Bool}{l:List α}{q f:α->D}(hi:mi env=some (l.map q,env))(hl:l.length≤100000)(hb:P9 keep 0 env=base)(hk:base.length=k)
  (h:∀a∈l,m (base++[.dat (q a)])=some (f a,base++[.dat (q a)]))(ho:∀w,O7 keep env (base++[w])=some env):D6 mi keep 1 (gN k) E7 m env=some (l.map f,env):=by
 have:=GA (p:=fun _=>true) (t:=E7) hi hl hb hk (fun a ha=>⟨rfl,fun _=>h a ha⟩) ho
 rw[this,List.filter_eq_self.mpr (fun _ _=>rfl)]
theorem Ow{α:Type}{t:Mo Bool}{m:Mo D}{base:c5}{q q2 f:α->D}{p:α->Bool}{k:Nat}(hk:base.length=k):∀{l:List α},(∀a∈l,t (base++[.dat (q a),.dat (q2 a)])=some (p a,base++[.dat (q a),.dat (q2 a)])/\(p a=true->m (base++[.dat (q a),.dat (q2 a)])=some (f a,base++[.dat (q a),.dat (q2 a)])))->∀w w2,∃w' w2',M1 (gT 2 (j3 (gN k) (j3 (gN (k+1)) pZ))) t m (l.map fun a=>.tup [q a,q2 a]) (base++[w,w2])=some ((l.filter p).map f,base++[w',w2'])
 |[],_,w,w2=>⟨w,w2,rfl⟩
 |a::l,h,w,w2=>by
  obtain⟨h1,h2⟩:=h a (by simp)
  obtain⟨w',w2',e⟩:=Ow hk (l:=l) (fun x hx=>h x (by simp[hx])) (.dat (q a)) (.dat (q2 a))
  refine⟨w',w2',?_⟩;rw[Qh];unfold M1;have hg:gT 2 (j3 (gN k) (j3 (gN (k+1)) pZ)) (.tup [q a,q2 a]) (base++[w,w2])=some (base++[.dat (q a),.dat (q2 a)]):=by
   show some (((base++[w,w2]).set k _).set (k+1) _)=_;rw[dW hk]
  rw[hg,Qj,h1,Qj];cases hp:p a with
  |false=>simp only[Zx,Ys];rw[Ux (by simp[hp])];exact e
  |true=>
   simp only[Zn];rw[h2 hp,Qj,Uk hp,Qh];show(M1 _ t m (l.map _) (base++[.dat (q a),.dat (q2 a)])).map _=_;rw[e];rfl
theorem Ox{keep:List Bool}{t:Mo Bool}{l:List α}{q q2 f:α->D}{p:α->Bool}(hi:mi env=some (l.map (fun a=>.tup [q a,q2 a]),env))(hl:l.length≤100000)(hb:P9 keep 0 env=base)(hk:base.length=k)
  (h:∀a∈l,t (base++[.dat (q a),.dat (q2 a)])=some (p a,base++[.dat (q a),.dat (q2 a)])/\(p a=true->m (base++[.dat (q a),.dat (q2 a)])=some (f a,base++[.dat (q a),.dat (q2 a)])))(ho:∀w w2,O7 keep env (base++[w,w2])=some env):
  D6 mi keep 2 (gT 2 (j3 (gN k) (j3 (gN (k+1)) pZ))) t m env=some ((l.filter p).map f,env):=by
 obtain⟨w',w2',e⟩:=Ow hk h .nil .nil;refine Ad hi (by simpa using hl) (e2:=base++[w',w2']) ?_ (ho w' w2')
 have:P9 keep 2 env=base++[.nil,.nil]:=by rw[←hb];unfold P9;simp
 rw[this];exact e
theorem EF{keep:List Bool}{l:List α}{q q2 f:α->D}(hi:mi env=some (l.map (fun a=>.tup [q a,q2 a]),env))(hl:l.length≤100000)(hb:P9 keep 0 env=base)(hk:base.length=k)
  (h:∀a∈l,m (base++[.dat (q a),.dat (q2 a)])=some (f a,base++[.dat (q a),.dat (q2 a)]))(ho:∀w w2,O7 keep env (base++[w,w2])=some env):D6 mi keep 2 (gT 2 (j3 (gN k) (j3 (gN (k+1)) pZ))) E7 m env=some (l.map f,env):=by
 have:=Ox (p:=fun _=>true) (t:=E7) hi hl hb hk (fun a ha=>⟨rfl,fun _=>h a ha⟩) ho
 rw[this,List.filter_eq_self.mpr (fun _ _=>rfl)]
theorem Oy{g:OZ}{b:Mo Fl}:∀{ds:List D}{P:Nat->c5->Prop}{env:c5},(∀i d e,ds[i]? =some d->P i e->∃e1 e2,g d e=some e1/\b e1=some (.nx,e2)/\P (i+1) e2)->P 0 env->∃env',loop g b ds env=some (.nx,env')/\P ds.length env'
 |[],P,env,_,p=>⟨env,rfl,p⟩
 |d::ds,P,env,h,p=>by
  obtain⟨e1,e2,h1,h2,h3⟩:=h 0 d env rfl p;obtain⟨e3,h4,h5⟩:=Oy (ds:=ds) (P:=fun i e=>P (i+1) e) (fun i x e hi q=>h (i+1) x e (by simpa using hi) q) h3
  refine⟨e3,?_,h5⟩;unfold loop;rw[h1];simp only[Qj];rw[h2];exact h4
theorem EH{g:OZ}{b:Mo Fl}(P:Nat->c5->Prop)(h:∀i<n,∀e,P i e->∃e1 e2,g (.int (i:Int)) e=some e1/\b e1=some (.nx,e2)/\P (i+1) e2)(p:P 0 env):∃env',loop g b (u5 n) env=some (.nx,env')/\P n env':=by
 obtain⟨e',h1,h2⟩:=Oy (ds:=u5 n) (g:=g) (b:=b) (P:=P) (env:=env) (fun i d e hi q=>by
  unfold u5 at hi;rw[Zw]at hi
  by_cases hl:i<n
  ·rw[List.getElem?_range hl]at hi
   cases hi;exact h i hl e q
  ·rw[List.getElem?_eq_none (by simpa using hl)]at hi;cases hi) p
 refine⟨e',h1,?_⟩;have:(u5 n).length=n:=by simp[u5]
 rw[this]at h2;exact h2
theorem Lp{ml mh:Mo (Option Int)}{xs:List D}{lo hi:Option Int}(h:m e=some (.tup xs,e))(h1:ml e=some (lo,e))(h2:mh e=some (hi,e)):rC m ml mh e=some (.tup (Y4 xs lo hi),e):=by
 unfold rC;rw[h,Qj,h1,Qj,h2];rfl
theorem dY(l:List Int):i9 (l.map D.int)=some l:=by
 induction l with
 |nil=>rfl
 |cons a l ih=>show(i9 (l.map D.int)).map _=_;rw[ih];rfl
theorem F8{m n:Mo Fl}(h:m e=some (.nx,e1))(h2:n e1=r):C4 m n e=r:=by unfold C4;rw[h];exact h2
theorem BO{t:Mo Bool}{m n:Mo Fl}(h:t e=some (true,e1))(h2:m e1=r):F1 t m n e=r:=by unfold F1;rw[h];exact h2
theorem O1{t:Mo Bool}{m n:Mo Fl}(h:t e=some (false,e1))(h2:n e1=r):F1 t m n e=r:=by unfold F1;rw[h];exact h2
theorem GB{env':c5}{w':W}{ds':List D}(h0:env[i]? =some w')(h00:w'.mutL=some ds')(h:m env=some (d,env'))(h1:env'[i]? =some w)(h2:w.mutL=some ds)(hl:ds.length<100000):T9 i m env=some (.nx,env'.set i (w.put (ds++[d]))):=by
 unfold T9;rw[h0];simp only[Qj,h00,h,h1,h2];rw[Qn hl]
theorem GC{t:Mo Bool}{r:Option (Bool×c5)}(h:t e=some (true,e1))(h2:u e1=r):S7 t u e=r:=by unfold S7;rw[h];exact h2
theorem Oz{t:Mo Bool}(h:t e=some (false,e1)):S7 t u e=some (false,e1):=by unfold S7;rw[h];rfl
theorem T3{f:Fn}{r:D}(h:as env=some (av,e1))(hn:av.length=n)(hs:slots av=[])(hf:f (av.map (P0 (.l [])))=some (.d r,ws')):c7 n f as env=some (r,e1):=S2 (S1 h hn hs hf)
theorem GD{names:List Str}{keep:List Bool}{mb:Mo D}{xb:Mx}{fr:Option Str->Option D}{lw:c5}{n:Str}(hw:BL keep env=lw)(hx:xb lw=some n)(hn:names.contains n=true)(hf:fr (some n)=some d):Y9 names keep mb xb fr env=some (d,env):=by
 unfold Y9 outcome;rw[hw,hx];simp only[hn,Zn,Qj];rw[hf];rfl
theorem dZ{C:Nat}(hC:1≤C)(hC2:C≤900){body last:Mo Fl}{ns:List Int}(hb:∀k:Nat,k<1000->∀ws:List W,ws.length=N->∃ws':List W,ws'.length=N+1/\body (.dat (.lst (ns.map D.int))::.dat (.int (k:Int))::ws)=some (.nx,.dat (.lst (ns.map D.int))::ws'))
  (hl:∀ws:List W,ws.length=N+1->∃e,last (.dat (.lst (ns.map D.int))::ws)=some (.ret (.bl true),e)):
  ∃ws',k8 (N+2) (C4 (K3 (J4 (B0 (d6 Ci (B0 (mC (.int 1)) (B0 (d6 Cj (B0 (d6 E9 (B0 (A0 0) B4)) (B0 (mC (.int (C:Int))) B4))) B4))) B4)) (gN 1) body) last) [.dat (.lst (ns.map D.int))]=some (.d (.bl true),ws'):=by
 obtain⟨K,hK,hr⟩:∃K:Nat,K≤C/\(J4 (B0 (d6 Ci (B0 (mC (.int 1)) (B0 (d6 Cj (B0 (d6 E9 (B0 (A0 0) B4)) (B0 (mC (.int (C:Int))) B4))) B4))) B4)) (.dat (.lst (ns.map D.int))::List.replicate (N+1) .nil)=some (u5 K,.dat (.lst (ns.map D.int))::List.replicate (N+1) .nil):=by
  let q:Int:=if(C:Int)<(ns.length:Int)then C else(ns.length:Int)
  let p:Int:=if q>1 then q else 1
  have hq:q≤C:=by simp only[q];split<;>omega
  have hp:1≤p/\p≤C:=by simp only[p];split<;>omega
  refine⟨p.toNat,by omega,Aj (j:=p) (O0 (E5 rfl (E5 (O0 (E5 (O0 (E5 rfl rfl) (show E9 [.lst (ns.map .int)]=some (.int (ns.length:Int))from ?_)) (E5 rfl rfl)) (show Cj [.int (ns.length:Int),.int C]=some (.int q)from rfl)) rfl)) (show Ci [.int 1,.int q]=some (.int p)from rfl)) (by omega) (by omega)⟩
  show some (D.int ((ns.map D.int).length:Nat))=_;rw[Qk]
 obtain⟨e',h1,ws,hws,rfl⟩:=EH (g:=gN 1) (b:=body) (n:=K) (fun _ e=>∃ws:List W,ws.length=N+1/\e=.dat (.lst (ns.map D.int))::ws) (env:=.dat (.lst (ns.map D.int))::List.replicate (N+1) .nil)
  (fun i hi e ⟨ws,hw,he⟩=>by
   subst he
   match ws,hw with
   |w::ws,hw=>
    obtain⟨ws',h1,h2⟩:=hb i (by omega) ws (by simpa using hw)
    exact⟨_,_,rfl,h2,ws',h1,rfl⟩) ⟨_,by simp,rfl⟩
 obtain⟨e2,h2⟩:=hl ws hws;refine⟨_,M5 (d:=.bl true) (env:=e2) ?_⟩;show C4 _ _ (.dat (.lst (ns.map D.int))::List.replicate (N+1) .nil)=_;exact F8 ((U3 hr).trans h1) h2
theorem AK{g:List W->Option Str}{r:Option Str}(h:as env=some (av,e1))(hn:av.length=n)(hs:slots av=[])(hg:g (av.map (P0 (.l [])))=r):S3 n g as env=r:=by
 unfold S3;rw[h,Qj];simp only[hn,Zn,hs];exact hg
theorem eA(h:m env=some (.tup [a,b],e1)):Q3 m (gT 2 (j3 (gN i) (j3 (gN j) pZ))) env=some (.nx,(e1.set i (.dat a)).set j (.dat b)):=by
 unfold Q3;rw[h];rfl
theorem EJ(h:ms env=some (ds,e1))(hl:ds.length≤1000):C9 ms env=some (.tup ds,e1):=by unfold C9;rw[h,Qj];simp only[hl,Zn]
theorem PB(l:List α)(p q:α->D):W9 (l.map p) (l.map q)=l.map fun a=>.tup [p a,q a]:=by
 unfold W9
 induction l with
 |nil=>rfl
 |cons a l ih=>rw[Qh,Qh,Uw,Qh,ih,Qh]
theorem eC{l:List α}{p q:α->D}(h:ms e=some ([a,b],e1))(ha:a.items=some (l.map p))(hb:b.items=some (l.map q)):R9 ms e=some (l.map fun a=>.tup [p a,q a],e1):=by
 unfold R9;rw[h];show a.items.bind _=_;rw[ha];show b.items.map _=_;rw[hb,Xe,PB]
theorem PD(h:m env=some (.tup [a,b],e1))(he:(e1.set i (.dat a)).set j (.dat b)=e2):Q3 m (gT 2 (j3 (gN i) (j3 (gN j) pZ))) env=some (.nx,e2):=by
 rw[eA h,he]
theorem Z3(h:m env=some (d,e1))(he:e1.set i (.dat d)=e2):D7 i m env=some (.nx,e2):=by rw[P1 h,he]
theorem BP{m:Mo (List D)}{d:List D}(h:m env=some (d,e1))(he:e1.set i (.own d)=e2):K7 i m env=some (.nx,e2):=by rw[Ms h,he]
theorem Z4{env:List W}(h:mb (ws++List.replicate (N-ws.length) .nil)=some (.ret d,env))(he:S8 ws env=ws'):k8 N mb ws=some (.d d,ws'):=by rw[M5 h,he]
theorem PF{env:List W}{d:List D}(h:mb (ws++List.replicate (N-ws.length) .nil)=some (.retL d,env))(he:S8 ws env=ws'):k8 N mb ws=some (.l d,ws'):=by rw[Ds h,he]
abbrev up(a n:Nat):List Nat:=(List.range (n-a)).map (a+ ·)
end L2.Mir
namespace L2.Mir
open PySem PySem.W
variable{K:Frag}{cd:Addr}{fd:FuncData}{h:Heap}{k n:Nat}{mg:OU}{pm:Value}{ps:List Str}{st:Stmt}{x:Str}
structure f6(K:Frag)(x:Str)(st:Stmt)(f:Addr)(pm:Value)(cd:Addr):Prop where
 a:nsIn K mainGlobals x=some (some (.ref f))
 l:K.lookup f=some ⟨.type "function",none,.func (fnOf x x (Be st) (W3 st) (E1 st) .none .none .none pm none (.ref cd) .none),⟨[]⟩⟩
 c:codeIn K (.ref cd) x=true
 k:keepIn K (.ref f)=true
theorem f6.f{f:Addr}(A:f6 K x st f pm cd):k7 K x x st f (fnOf x x (Be st) (W3 st) (E1 st) .none .none .none pm none (.ref cd) .none):=VX A.l A.c A.k
theorem f6.g{f:Addr}(A:f6 K x st f pm cd)(X:K.In h)(G:h.Ns mainGlobals mg):mg x=some (.ref f):=mg_of X G A.a
theorem dM(P:Program)(w:World)(base:Heap){f:Addr}{fn:Fn}(o:c6 P w K mg base j7 k f fd ps (k9 K n fn))(A:f6 K x st f pm cd)(X:K.In h)(G:h.Ns mainGlobals mg)(b:Q2 K fd ps [])(e:ps.length=n:=by rfl):Def P w K mg base x k n fn:=⟨_,_,_,o,e,A.g X G,A.k,b⟩
theorem dX(P:Program)(w:World)(base:Heap){f:Addr}{g:List W->Option Str}(o:c6 P w K mg base (sE P w) k f fd ps (vB K n g))(A:f6 K x st f pm cd)(X:K.In h)(G:h.Ns mainGlobals mg)(b:Q2 K fd ps [])(e:ps.length=n:=by rfl):rE P w K mg base x k n g:=⟨_,_,_,o,e,A.g X G,A.k,b⟩
end L2.Mir
namespace K52
open PySem L2 L2.Mir
variable{L:List (OI)}{M m ma mb u:Mo D}{R T ks:OI}{Z d x:D}{a v:Int}{as:Mo (List Ar)}{b:Bool}{c i j k n:Nat}{ds es xs ys:List D}{e e1 e2 env:c5}{fd:FuncData}{h l r:List Int}{nm w:Str}{o:Option (Rr×List W)}{q:List Ar}{s:Mo Fl}{w0 w10 w13 w14 w2 w3 w4 w5 w6 w7 w8 w9:W}{ws:List W}{y:Mx}{α:Type}
abbrev Z5:List (Str×Str):=[("stay","stayed"),("left","turned_left"),("half","turned_half"),("right","turned_right"),("upright","told_upright"),("flat","told_flat"),("slant","told_slant"),("other","told_other")]
def top(i:Nat):Stmt:=PySem.Challenge.pw_turnsigns_k52_own_turns_and_least_ones.main.body.getD i (.Pass ⟨0,0,0,0⟩)
abbrev Im:Stmt:=top 16
abbrev Io:Stmt:=top 17
abbrev Ip:Stmt:=top 18
abbrev Iq:Stmt:=top 19
abbrev Ir:Stmt:=top 20
abbrev Iu:Stmt:=top 21
abbrev Iv:Stmt:=top 24
abbrev Iw:Stmt:=top 25
abbrev GF:Stmt:=top 26
abbrev GG:Stmt:=top 29
abbrev Iy:Stmt:=top 30
abbrev Iz:Stmt:=top 31
abbrev JA:Stmt:=top 32
abbrev JB:Stmt:=top 33
abbrev GH:Stmt:=top 34
abbrev JC:Stmt:=top 35
abbrev JD:Stmt:=top 36
abbrev JE:Stmt:=top 37
abbrev GI:Stmt:=top 38
abbrev JF:Stmt:=top 40
abbrev JG:Stmt:=top 41
abbrev JH:Stmt:=top 42
abbrev JI:Stmt:=top 43
abbrev JJ:Stmt:=top 44
abbrev JK:Stmt:=top 45
abbrev JL:Stmt:=top 46
abbrev JM:Stmt:=top 47
abbrev JN:Stmt:=top 49
abbrev GJ:Stmt:=top 50
abbrev JO:Stmt:=top 51
abbrev GK:Stmt:=top 52
abbrev GL:Stmt:=top 53
abbrev GN:Stmt:=top 54
abbrev JP:Stmt:=top 56
abbrev JQ:Stmt:=top 57
abbrev JR:Stmt:=top 58
abbrev JS:Stmt:=top 59
abbrev JT:Stmt:=top 60
abbrev JU:Stmt:=top 61
abbrev JV:Stmt:=top 62
abbrev JW:Stmt:=top 63
abbrev JX:Stmt:=top 64
abbrev JY:Stmt:=top 65
abbrev JZ:Stmt:=top 66
abbrev KA:Stmt:=top 67
abbrev KB:Stmt:=top 68
abbrev KC:Stmt:=top 69
abbrev KD:Stmt:=top 70
abbrev KE:Stmt:=top 71
abbrev Cv:Stmt:=top 72
abbrev xN:List Str:=["NoTable","NoHeights","NoNet","NoPlace","NoTriangle","NoRow","NoNumber","NoTurn","NotAlike","NoStep","NoRows","TooMany","BadNote"]
structure Txt(K:Qz)(mg:OU):Prop where
 ex:AI K "SignError" xN=true
 g_isinstance:mg "isinstance"=none
 g_int:mg "int"=none
 g_bool:mg "bool"=none
 g_all:mg "all"=none
 g_tuple:mg "tuple"=none
 g_len:mg "len"=none
 g_range:mg "range"=none
 g_sum:mg "sum"=none
 g_zip:mg "zip"=none
 g_str:mg "str"=none
 g_min:mg "min"=none
 g_ValueError:mg "ValueError"=none
 g_sorted:mg "sorted"=none
 g_list:mg "list"=none
 g_max:mg "max"=none
 wH:sO K mg "told_other"
 wI:sO K mg "told_slant"
 wZ:sO K mg "told_flat"
 vU:sO K mg "told_upright"
 vV:sO K mg "turned_right"
 wA:sO K mg "turned_half"
 wB:sO K mg "turned_left"
 zA:sO K mg "stayed"
 vW:sO K mg "least_turned"
 xA:sO K mg "own_turns"
 c_GREATEST_SIDE:∃t,mg "GREATEST_SIDE"=some (.int 6 t)
 c_GREATEST_TOLD:∃t,mg "GREATEST_TOLD"=some (.int 4 t)
section
variable{P:Program}{w:World}{K:Qz}{mg:OU}{base:Heap}
set_option hygiene false
local macro_rules
 | `(tactic| k_units)=>`(tactic| first | fail_if_success (show (_:Prop)) | ((with_reducible show PE _ _ (Q4 _));exact pv _) | ((with_reducible show PE _ _ (tC _));exact MY) | with_reducible (first | show PE _ _ _ | show PA _ _ _ | show PS _ _ _ | show sT _ _ _ | show PT _ _ _ | show PG _ _ _ | show PI _ _ _ _ | show U0 _ _ _ | show PW _ _ _ | show PO _ _ _ | show wM _ _ _ | show M0 _ _ _ | show o3 _ _ _ | show yI _ _ _ _ _ _ _ _ _ _ | show PJ _ _ _ _ | show Bz _ _ _ | show CA _ _ _ | show yG _ _ _ _ _ | show ETx _ _ _ _ _ | show EAx _ _ _ _ _ | show xV _ _ _ _ _ | show BJ _ _ _ _ _ | assumption | exact PassesOwn.never | exact PySem.boot_len | exact YV | exact YR | exact YQ | exact YU | exact YW | exact YX | exact YY | exact YS | exact ZG | exact YT | exact DT | exact N6 | exact DX | exact Hm | exact R4 | exact Wn | exact Wr | exact WO | exact Wo | exact Wq | exact dI | exact ZF | exact WQ | exact WR | exact ZD | exact dQ | exact hr.units | exact j8 | exact Wl | exact Wk | exact Wj | exact Wm | exact Wi | exact Mq | exact XF | exact MF | exact WE | exact cO | exact xS | exact WK | exact Wu | exact ZU | exact WJ | exact WI | exact WG | exact XH | exact cL | exact WH | exact WC | exact MY | exact X8 | exact ZH | exact aH) | exact FX rfl | exact Mr rfl | assumption | exact se1 rfl | exact se2 rfl rfl | exact Or.inl rfl | exact Or.inr rfl | exact hr.mono (by decide) | exact hr.mono (Nat.le_refl _) | rfl | exact (pK.cons (pv 14) (pK.cons (pv 13) pK.nil)) | exact (Ch rfl) | exact (Ld rfl) | exact (Lf rfl) | exact (Ii rfl hr.units) | exact (Ot hr.units) | exact (Dw rfl) | exact (YN rfl rfl) | exact (bD (by assumption) (by rfl')) | exact (YO (by decide)) | exact (BM (by assumption) (BM (by assumption) (BM (by assumption) (BM (by assumption) (BM (by assumption) (BM (by assumption) (BM (by assumption) (BM (by assumption) cW)))))))) | exact (xI _) | exact (by assumption) | exact (by assumption) | exact (by assumption) | exact (by assumption) | exact (by assumption) | exact (by assumption) | exact (by assumption) | exact (by assumption) | exact (by assumption) | exact (by assumption) | exact g6.units (by assumption) | exact Mq | exact g6.mono (by assumption) (by decide) | exact g6.mono (by assumption) (by omega) | exact fun _ _=>rfl | exact fun _=>rfl | exact fun _ _ _ _=>rfl | (intro _;rfl) | decide | with_unfolding_all rfl | rfl')
local macro_rules
 | `(tactic| k_types)=>`(tactic| ((with_reducible show o3 _ _ _);first | exact (vO hr.units) | exact (vO (g6.units (by assumption))) | exact (vP hr.units) | exact (vP (g6.units (by assumption))) | exact UN | exact cK | exact UO | exact XE | exact UK | exact cN | exact US | exact VT | exact UT | exact UR | exact UQ | exact UL | exact XG | exact VU | exact UM | exact UI))
local macro_rules
 | `(tactic| exists $t)=>`(tactic| (((intros;refine' $t) <;> try k_units) <;> try k_types))
local macro_rules
 | `(tactic| injections $xs*)=>do
  let mut r ← `(tactic| skip)
  let w:=("A C5 B3 B B5 B8 C B3 C1 D C8 E8 E B5 C F A D0 G C7 J2 H B3 B8 I B5 F6 J K8 E6 K B5 F7 L C5 B8 M B5 D4 N C7 K0 O D9 M4 P B C1 Q J8 N6 R K6 B3 S O6 O5 T E6 M9 U C7 O9 V B5 M8 W F7 L6 X D9 F Y B3 B3 Z N1 J9 a R3 B3 b B3 B5 c D9 A d Ag PA.nox e Q6 R4 f C7 T8 g C8 K0 h V1 B3 i D4 H j C1 C1 k F7 S0 l B B m R7 J n J R6 o PS.nox Y7 p B3 F6 q F6 B5 r C8 Y2 s L D0 t D9 C5 u D4 B8 v D4 B3 w AY B8 x C5 M8 y Q E z W6 Aw Aa N7 B3 Ac C5 BG Ad Ab K2 Ae AE B8 Af D Z Ah R1 E Ai B3 E Aj N K2 Ak C7 Ay Al B5 N1 Am U9 V0 An D AD Ao Fa PT.nox Ap Fc PA.nox Aq x D0 Ar Ac Aq As U5 b At C1 U Az O C5 Ba m n Bb Ba M9 Bc Av K2 Bd R1 B5 Be R E6 Bf Ah E6 Bg B5 Ai Bh C7 Y7 Bi Bv Cq Bj Z2 Z2 Bk C1 J9 Bl B8 B8 Bn W B5 Bo C8 Ax Bp B8 Af Bq Af D Br B P Bs V C1 Bt A F Bu f L6 Bw L Ar Bx O s By h Am Bz h V0 Ca Bq J8 Cb c F Cc e K Cd W6 Dg Ce Dq Bg Cf Ce Bb Cg M4 D0 Ch C8 J2 Ci Y8 Cp Cj D4 Ae Cl As As Cm Cl U5 Cn Dp B3 Co Cn Bn Cr Bu At Cs An Y0 Ct B5 Au Cu D4 By Cv X8 X8".splitOn " ").map String.toName
  let m:=(List.range 114).foldl (fun m i=>m.insert w[3*i]! [w[3*i+1]!,w[3*i+2]!]) ({}:Lean.NameMap (List Lean.Name))
  let mut ns:List Lean.Name:=(xs.map fun x=>x.raw.getId).toList
  for _ in [0:6] do ns:=ns.flatMap fun n=>(m.find? n).getD [n]
  for n in ns do
   let t:Lean.TSyntax `term:=⟨(Lean.mkIdent n).raw⟩
   let h ← `(?_)
   let hs:Array (Lean.TSyntax `term):=Array.replicate (if [`DT,`N6,`DX,`Hm,`R4,`X8,`D0,`N1,`Mn,`B8,`Au,`C1,`R6,`M9,`U9,`FH,`J9,`FZ,`Cp,`IS,`OM,`Nn].contains n then 0 else if [`PA.nox,`PS.nox,`PT.nox,`Nr,`B3,`AY,`HH,`F7,`AX,`M8,`F6,`K6,`Ab,`L6,`V0,`C8,`E8,`Y2,`Y8,`O6,`W6,`De,`Av,`Fm].contains n then 1 else if [`Fg,`AD,`Ck,`Dp,`C7,`Y7,`Cq,`O5,`Dg,`Aw,`Fo].contains n then 2 else if [`C5,`M4,`IQ,`BG,`N7,`V1,`B5,`Di,`K8,`K0,`Hr,`Bv,`Fa].contains n then 3 else if [`D4,`AE,`Ni,`R7,`Ia,`R1,`IZ,`Nh,`Z2,`Il].contains n then 4 else if [`IT,`Y0,`Ng,`OV,`E6,`MM,`Dq,`Ay,`IG,`K2].contains n then 5 else if [`OT,`OP,`O9,`J2,`T8].contains n then 6 else if [`Nc,`D9,`Nz,`IY,`NU,`NL,`S0,`L9,`Bm].contains n then 7 else if [`HI,`U5,`Ag,`Ax,`Fc,`Dh].contains n then 8 else if [`Oj,`IW].contains n then 9 else if [`J8,`Q6,`R3,`HL,`FE].contains n then 10 else if [`Fz,`IJ].contains n then 11 else if [`ND].contains n then 16 else 19) h
   r ← if hs.isEmpty then `(tactic| ($r:tactic;(intros;exact $t))) else `(tactic| ($r:tactic;((intros;refine' $t $hs*) <;> try k_units) <;> try k_types))
  return r
set_option hygiene true
theorem eD:a9 ["thing"] ["thing"] (E1 Im):=F9
def eE:Mo Fl:=(D1 (R5 (rR "int" (A0 0)) (FD (rR "bool" (A0 0)))))
def AL:Fn:=k8 1 eE
theorem eF{f:Addr}(F:k7 K "is_whole" "is_whole" Im f fd)(T:Txt K mg):c6 P w K mg base j7 1 f fd ["thing"] (k9 K 1 AL):=
 G9 F eD fun cdv A outer s H E hr=>(by cases T;injections An a AX HH a)
theorem eG:a9 ["thing","least","greatest"] ["thing","least","greatest"] (E1 Io):=F9
def eI:Mo Fl:=(D1 (R5 (c7 1 AL (B7 (A0 0) B9)) (T5 sB sB (A0 1) (A0 0) (A0 2))))
def EK:Fn:=k8 3 eI
theorem eJ{f:Addr}(F:k7 K "is_within" "is_within" Io f fd)(T:Txt K mg)(pW:Def P w K mg base "is_whole" 1 1 AL):c6 P w K mg base j7 2 f fd ["thing","least","greatest"] (k9 K 3 EK):=
 G9 F eG fun cdv A outer s H E hr=>(by cases T;injections An X AX HI Y B3)
theorem eK:a9 ["thing","width"] ["thing","width"] (E1 Ip):=F9
theorem nd1:(["-0","-1","number"]:List Str).Nodup:=by rfl'
def KG:Mo Fl:=(C4 (F1 (P5 (G8 (mT (rR "tuple" (A0 0)))) (mT (B6 (j0 true) (d6 E9 (B0 (A0 0) B4)) (A0 1)))) (D1 (mC (.bl false))) n5) (D1 (d6 BB (B0 (mF (D6 (F3 (A0 0)) [false,false] 1 (gN 2) E7 (c7 1 AL (B7 (A0 2) B9)))) B4))))
def Ak:Fn:=k8 2 KG
theorem eL{f:Addr}(F:k7 K "is_row" "is_row" Ip f fd)(T:Txt K mg)(pW:Def P w K mg base "is_whole" 1 1 AL):c6 P w K mg base j7 2 f fd ["thing","width"] (k9 K 2 Ak):=
 G9 F eK fun cdv A outer s H E hr=>(by have n0:=nd1;cases T;injections N z S a Bc y B3 Ca;exists (Ch rfl);injections K;exists (L9 (N':=["-0","-1","number"]) (keep:=[false,false]) (more:=1) ?_ ?_ ?_ ?_ ?_ ?_ ?_);injections R T X C1)
theorem eM:a9 ["thing","many","width"] ["thing","many","width"] (E1 Iq):=F9
theorem nd2:(["-0","-1","width","row"]:List Str).Nodup:=by rfl'
def EM:Mo Fl:=(C4 (F1 (P5 (G8 (mT (rR "tuple" (A0 0)))) (mT (B6 (j0 true) (d6 E9 (B0 (A0 0) B4)) (A0 1)))) (D1 (mC (.bl false))) n5) (D1 (d6 BB (B0 (mF (D6 (F3 (A0 0)) [false,false,true] 1 (gN 3) E7 (c7 2 Ak (B7 (A0 3) (B7 (A0 2) B9))))) B4))))
def EN:Fn:=k8 3 EM
theorem eN{f:Addr}(F:k7 K "is_grid" "is_grid" Iq f fd)(T:Txt K mg)(tU:Def P w K mg base "is_row" 2 2 Ak):c6 P w K mg base j7 3 f fd ["thing","many","width"] (k9 K 3 EN):=
 G9 F eM fun cdv A outer s H E hr=>(by have n0:=nd2;cases T;injections N z S a Bc y B3 Ca;exists (Ch rfl);injections K;exists (L9 (N':=["-0","-1","width","row"]) (keep:=[false,false,true]) (more:=1) ?_ ?_ ?_ ?_ ?_ ?_ ?_);injections R T Cb C1)
theorem eO:a9 ["thing","least","greatest"] ["thing","least","greatest"] (E1 Ir):=F9
def ER:Mo Fl:=(C4 (F1 (P5 (G8 (mT (rR "tuple" (A0 0)))) (G8 (mT (T5 sB sB (A0 1) (d6 E9 (B0 (A0 0) B4)) (A0 2))))) (D1 (mC (.bl false))) n5) (D1 (c7 3 EN (B7 (A0 0) (B7 (d6 E9 (B0 (A0 0) B4)) (B7 (d6 E9 (B0 (A0 0) B4)) B9))))))
def Cw:Fn:=k8 3 ER
theorem eP{f:Addr}(F:k7 K "is_square" "is_square" Ir f fd)(T:Txt K mg)(sZ:Def P w K mg base "is_grid" 3 3 EN):c6 P w K mg base j7 4 f fd ["thing","least","greatest"] (k9 K 3 Cw):=
 G9 F eO fun cdv A outer s H E hr=>(by cases T;injections N z S a Av O6 Dh B3 y B3 Bq c C5 y C5 y D0)
theorem eQ:a9 ["grid"] ["grid"] (E1 Iu):=F9
theorem nd3:(["grid","at"]:List Str).Nodup:=by rfl'
theorem nd4:(["-0","at","row"]:List Str).Nodup:=by rfl'
def KH:Mo Fl:=(D1 (d6 K5 (B0 (mF (D6 (J4 (B0 (d6 E9 (B0 (B6 m7 (A0 0) (mC (.int 0))) B4)) B4)) [true] 1 (gN 1) E7 (d6 K5 (B0 (mF (D6 (F3 (A0 0)) [false,true] 1 (gN 2) E7 (B6 m7 (A0 2) (A0 1)))) B4)))) B4)))
def V6:Fn:=k8 1 KH
theorem eT{f:Addr}(F:k7 K "flipped" "flipped" Iu f fd)(T:Txt K mg):c6 P w K mg base j7 1 f fd ["grid"] (k9 K 1 V6):=
 G9 F eQ fun cdv A outer s H E hr=>(by have n0:=nd3;have n1:=nd4;cases T;injections D Cc;exists (L9 (N':=["grid","at"]) (keep:=[true]) (more:=1) ?_ ?_ ?_ ?_ ?_ ?_ ?_);injections Bd Q B5 N7 H j T Cc;exists (L9 (N':=["-0","at","row"]) (keep:=[false,true]) (more:=1) ?_ ?_ ?_ ?_ ?_ ?_ ?_);injections R T Aa C C1)
theorem PH:a9 ["line","total","number"] ["line"] (E1 Iv):=F9
def EU:Mo Fl:=(C4 (D7 1 (mC (.int 0))) (C4 (K3 (F3 (A0 0)) (gN 2) (C4 (AZ 1 Dc (A0 2)) (F1 (mT (B6 (wR true) (A0 1) (C9 (B0 (mC (.int 0)) (B0 (mC (.int 1)) B4))))) (D1 (mC (.bl false))) n5))) (D1 (B6 (j0 false) (A0 1) (mC (.int 1))))))
def CG:Fn:=k8 3 EU
theorem eU{f:Addr}(F:k7 K "takes_turns" "takes_turns" Iv f fd)(T:Txt K mg):c6 P w K mg base j7 1 f fd ["line"] (k9 K 1 CG):=
 G9 F PH fun cdv A outer s H E hr=>(by have n0:=PH.nd;cases T;injections G B8 U Be C7 Bm B3 g K2 p Br Bq Y0 H)
theorem eV:a9 ["thing"] ["thing"] (E1 Iw):=F9
theorem nd5:(["-0","line"]:List Str).Nodup:=by rfl'
def KI:Mo Fl:=(C4 (F1 (G8 (mT (c7 3 Cw (B7 (A0 0) (B7 (mC (.int 1)) (B7 (mC (.int 6)) B9)))))) (D1 (mC (.bl false))) n5) (D1 (d6 BB (B0 (mF (D6 (F3 (B6 D5 (A0 0) (c7 1 V6 (B7 (A0 0) B9)))) [false] 1 (gN 1) E7 (c7 1 CG (B7 (A0 1) B9)))) B4))))
def Cy:Fn:=k8 1 KI
theorem eW{f:Addr}(F:k7 K "is_table" "is_table" Iw f fd)(T:Txt K mg)(rT:Def P w K mg base "is_square" 4 3 Cw)(qP:Def P w K mg base "takes_turns" 1 1 CG)(o7:Def P w K mg base "flipped" 1 1 V6):c6 P w K mg base j7 5 f fd ["thing"] (k9 K 1 Cy):=
 G9 F eV fun cdv A outer s H E hr=>(by have n0:=nd5;cases T;injections N S c L Ac D0 Ca;exists (Ch rfl);injections K;exists (L9 (N':=["-0","line"]) (keep:=[false]) (more:=1) ?_ ?_ ?_ ?_ ?_ ?_ ?_);injections K6 v X T X C1)
theorem PK:a9 ["thing"] ["thing"] (E1 GF):=F9
def KJ:Mo Fl:=(F1 (G8 (mT (c7 1 Cy (B7 (A0 0) B9)))) FG n5)
def AM:Fn:=k8 1 KJ
theorem eX{f:Addr}(F:k7 K "must_be_table" "must_be_table" GF f fd)(T:Txt K mg)(pX:Def P w K mg base "is_table" 5 1 Cy):c6 P w K mg base j7 6 f fd ["thing"] (k9 K 1 AM):=
 G9 F PK fun cdv A outer s H E hr=>(by cases T;injections g S X C8 FH J9)
def KL:Mx:=(yH (G8 (mT (c7 1 Cy (B7 (A0 0) B9)))) (Fb "NoTable" (B0 (mC (.str "this is no table")) B4)) v9)
def Cz:List W->Option Str:=wU 1 KL
theorem eY{f:Addr}(F:k7 K "must_be_table" "must_be_table" GF f fd)(T:Txt K mg)(pX:Def P w K mg base "is_table" 5 1 Cy):c6 P w K mg base (sE P w) 6 f fd ["thing"] (vB K 1 Cz):=
 Bw F PK fun cdv A outer s H E hr=>(by cases T;injections Y8 Ao S X Y8 Ap Bs FZ)
theorem PL:a9 ["thing","least","greatest","name"] ["thing","least","greatest","name"] (E1 GG):=F9
def eZ:Mo Fl:=(F1 (G8 (mT (c7 3 EK (B7 (A0 0) (B7 (A0 1) (B7 (A0 2) B9)))))) FG n5)
def AN:Fn:=k8 4 eZ
theorem fA{f:Addr}(F:k7 K "must_be_within" "must_be_within" GG f fd)(T:Txt K mg)(pL:Def P w K mg base "is_within" 2 3 EK):c6 P w K mg base j7 3 f fd ["thing","least","greatest","name"] (k9 K 4 AN):=
 G9 F PL fun cdv A outer s H E hr=>(by cases T;injections g S c Bt C8 FH J9)
def fB:Mx:=(yH (G8 (mT (c7 3 EK (B7 (A0 0) (B7 (A0 1) (B7 (A0 2) B9)))))) (Fb "NoNumber" (B0 (Nj (B0 (mC (.str "the ")) (B0 (A0 3) (B0 (mC (.str " must be a whole number from ")) (B0 (A0 1) (B0 (mC (.str " to ")) (B0 (A0 2) B4))))))) B4)) v9)
def CH:List W->Option Str:=wU 4 fB
theorem fC{f:Addr}(F:k7 K "must_be_within" "must_be_within" GG f fd)(T:Txt K mg)(pL:Def P w K mg base "is_within" 2 3 EK):c6 P w K mg base (sE P w) 3 f fd ["thing","least","greatest","name"] (vB K 4 CH):=
 Bw F PL fun cdv A outer s H E hr=>(by cases T;injections Y8 Ao S c Bt Y8 Ap B5 Nr Fm Fo B3 Fm Fo B3 Fm Fo B3 Nn C1 FZ)
theorem PM:a9 ["number","product","factor"] ["number"] (E1 Iy):=F9
def fD:Mo Fl:=(C4 (D7 1 (mC (.int 1))) (C4 (K3 (ML (B0 (mC (.int 2)) (B0 (B6 D5 (A0 0) (mC (.int 1))) B4))) (gN 2) (AZ 1 Fu (A0 2))) (D1 (A0 1))))
def GO:Fn:=k8 3 fD
theorem fE{f:Addr}(F:k7 K "factorial" "factorial" Iy f fd)(T:Txt K mg):c6 P w K mg base j7 1 f fd ["number"] (k9 K 1 GO):=
 G9 F PM fun cdv A outer s H E hr=>(by have n0:=PM.nd;cases T;injections G B8 U MM B M H C1 E6 C8 Bm B3 D B3)
theorem PN:a9 ["side","top","bottom","at"] ["side"] (E1 Iz):=F9
def fF:Mo Fl:=(C4 (D7 1 (mC (.int 1))) (C4 (D7 2 (mC (.int 1))) (C4 (K3 (J4 (B0 (A0 0) B4)) (gN 3) (C4 (AZ 1 Fu (c7 1 GO (B7 (B6 D5 (B6 N9 (mC (.int 3)) (A0 3)) (mC (.int 1))) B9))) (AZ 2 Fu (c7 1 GO (B7 (B6 D5 (A0 0) (A0 3)) B9))))) (D1 (B6 OJ (A0 1) (A0 2))))))
def EV:Fn:=k8 4 fF
theorem fG{f:Addr}(F:k7 K "counted" "counted" Iz f fd)(T:Txt K mg)(rV:Def P w K mg base "factorial" 1 1 GO):c6 P w K mg base j7 2 f fd ["side"] (k9 K 1 EV):=
 G9 F PN fun cdv A outer s H E hr=>(by have n0:=PN.nd;cases T;injections G B8 G B8 U Bf C7 Bm t D4 u H D0 C8 Bm t D4 Y D0 D D4 Y)
theorem PQ:a9 ["sums","rows","above"] ["sums"] (E1 JA):=F9
theorem nd6:(["-0","-1","-2","row"]:List Str).Nodup:=by rfl'
theorem nd7:(["-0","-1","above","row","number"]:List Str).Nodup:=by rfl'
def fH:Mo Fl:=(C4 (D7 1 (mF (J1 (B0 (C9 B4) B4)))) (C4 (K3 (F3 (A0 0)) (gN 2) (K7 1 (Bx (F3 (A0 1)) [false,false,true] 2 (gN 3) E7 (aIn (F3 (C9 (B0 (Q5 (mC (.int 1))) (B0 (mC (.int 0)) (B0 (mC (.int 1)) B4))))) (gN 4) (S7 (mT (B6 (wR false) (B6 D5 (A0 2) (A0 4)) (C9 (B0 (mC (.int 0)) (B0 (mC (.int 1)) B4))))) (mT (B6 (wR false) (B6 D5 (d6 Co (B0 (A0 3) B4)) (A0 4)) (C9 (B0 (mC (.int 0)) (B0 (mC (.int 1)) B4)))))) (V4 (B6 D5 (A0 3) (C9 (B0 (A0 4) B4)))))))) (T7 (D6 (F3 (A0 1)) [false,false,false] 1 (gN 3) (mT (B6 (j0 false) (d6 Co (B0 (A0 3) B4)) (mC (.int 1)))) (A0 3)))))
def GP:Fn:=k8 3 fH
theorem fJ{f:Addr}(F:k7 K "rows_on" "rows_on" JA f fd)(T:Txt K mg):c6 P w K mg base j7 1 f fd ["sums"] (k9 K 1 GP):=
 G9 F PQ fun cdv A outer s H E hr=>(by have n0:=nd6;have n1:=nd7;have n2:=PQ.nd;cases T;injections G W I j U Be C8;exists (IJ (N':=["-0","-1","above","row","number"]) (keep:=[false,false,true]) (more:=2) ?_ ?_ ?_ ?_ ?_ ?_ ?_ ?_ ?_ ?_ ?_);injections R T Nc K6 q w Br E6 Ab Cd K2 D4 Y F6 Br De K2 D4 J8;exists (Dw rfl);injections E p Br Fg D4 p E r;exists (L9 (N':=["-0","-1","-2","row"]) (keep:=[false,false,false]) (more:=1) ?_ ?_ ?_ ?_ ?_ ?_ ?_);injections Be Ad J8;exists (Dw rfl);injections E B8 B3)
theorem fK:a9 ["sums","row"] ["sums","row"] (E1 JB):=F9
theorem nd8:(["-0","-1","above","number"]:List Str).Nodup:=by rfl'
def fL:Mo Fl:=(D1 (d6 K5 (B0 (mF (D6 (R9 (B0 (A0 0) (B0 (A0 1) B4))) [false,false] 2 (gT 2 (j3 (gN 2) (j3 (gN 3) pZ))) E7 (B6 D5 (A0 2) (A0 3)))) B4)))
def DA:Fn:=k8 2 fL
theorem fM{f:Addr}(F:k7 K "added" "added" JB f fd)(T:Txt K mg):c6 P w K mg base j7 1 f fd ["sums","row"] (k9 K 2 DA):=
 G9 F fK fun cdv A outer s H E hr=>(by have n0:=nd8;cases T;injections D Cc;exists (L9 (N':=["-0","-1","above","number"]) (keep:=[false,false]) (more:=2) ?_ ?_ ?_ ?_ ?_ ?_ ?_);injections Cf v C)
theorem fN:a9 ["sums","known"] ["sums","known"] (E1 GH):=F9
theorem nd9:(["sums","known","row"]:List Str).Nodup:=by rfl'
def fO(r_:Fn):Mo Fl:=(T7 (D6 (F3 (mF (J7 1 GP (B7 (A0 0) B9)))) [true,true] 1 (gN 2) E7 (C9 (B0 (A0 2) (B0 (c7 2 r_ (B7 (c7 2 DA (B7 (A0 0) (B7 (A0 2) B9))) (F5 1 B9))) B4)))))
def DB(r_:Fn):Fn:=k8 2 (fO r_)
theorem PR{f:Addr}{k_:Nat}{r_:Fn}(F:k7 K "choices_on" "choices_on" GH f fd)(T:Txt K mg)(o8:Def P w K mg base "rows_on" 1 1 GP)(pM:Def P w K mg base "added" 1 2 DA)(hk_:1≤k_)(qL:Def P w K mg base "ways_on" k_ 2 r_):c6 P w K mg base j7 (k_+1) f fd ["sums","known"] (k9 K 2 (DB r_)):=
 G9 F fN fun cdv A outer s H E hr=>(by have n0:=nd9;cases T;injections r;exists (L9 (N':=["sums","known","row"]) (keep:=[true,true]) (more:=1) ?_ ?_ ?_ ?_ ?_ ?_ ?_);injections K6 k F T q b t Cb Cg C1)
theorem fP:a9 ["sums","known"] ["sums","known"] (E1 JC):=F9
theorem fQ:(["-0","-1","row","ways"]:List Str).Nodup:=by rfl'
def fR(r_:Fn):Mo Fl:=(C4 (F1 (mT (B6 (wR true) (mC (.int 0)) (A0 0))) (D1 (mC (.int 1))) n5) (C4 (F1 (mT (Fj true 1 (A0 0))) (Q3 (d6 Co (B0 (mF (D6 (F3 (mF (J7 2 (DB r_) (B7 (A0 0) (F5 1 B9))))) [false,false] 2 (gT 2 (j3 (gN 2) (j3 (gN 3) pZ))) E7 (A0 3))) B4)) (gSD 1 (A0 0))) n5) (D1 (Nf 1 (A0 0)))))
def Al:Nat->Fn
 |0=>fun _=>none
 |n_+1=>k8 2 (fR (Al n_))
theorem PU{f f2:Addr}{fd fd2:FuncData}(F:k7 K "ways_on" "ways_on" JC f fd)(F2:k7 K "choices_on" "choices_on" GH f2 fd2)(T:Txt K mg)(o8:Def P w K mg base "rows_on" 1 1 GP)(pM:Def P w K mg base "added" 1 2 DA)(hmg:mg "ways_on"=some (.ref f))(hkp:PySem.W.keepIn K (.ref f)=true)(hbd:Q2 K fd ["sums","known"] [])(hmg2:mg "choices_on"=some (.ref f2))(hkp2:PySem.W.keepIn K (.ref f2)=true)(hbd2:Q2 K fd2 ["sums","known"] []):∀n_:Nat,c6 P w K mg base j7 (1+2 * n_) f fd ["sums","known"] (k9 K 2 (Al n_))
 |0=>NH
 |n_+1=>by
  have qL:Def P w K mg base "ways_on" (1+2 * n_) 2 (Al n_):=⟨_,_,_,PU F F2 T o8 pM hmg hkp hbd hmg2 hkp2 hbd2 n_,rfl,hmg,hkp,hbd⟩
  have pY:Def P w K mg base "choices_on" (1+2 * n_+1) 2 (DB (Al n_)):=⟨_,_,_,PR F2 T o8 pM (by omega) qL,rfl,hmg2,hkp2,hbd2⟩
  exact(show c6 P w K mg base j7 (1+2 * n_+1+1) f fd ["sums","known"] (k9 K 2 (Al (n_+1)))from G9 F fP fun cdv A outer s H E hr=>(by have n0:=fQ;cases T;injections Aj B8 B3 D B8 J9 N Nh B3 C8 Ay J8;exists (Dw rfl);injections K;exists (L9 (N':=["-0","-1","row","ways"]) (keep:=[false,false]) (more:=2) ?_ ?_ ?_ ?_ ?_ ?_ ?_);injections K6 k A Cg Bb C Ni B3 J9 D Ng B3))
theorem PV:a9 ["choices","number","at"] ["choices","number"] (E1 JD):=F9
def fS:Mo Fl:=(C4 (D7 2 (mC (.int 0))) (C4 (Hq 60 (mT (B6 zK (A0 1) (B6 m7 (B6 m7 (A0 0) (A0 2)) (mC (.int 1))))) (C4 (AZ 1 J0 (B6 m7 (B6 m7 (A0 0) (A0 2)) (mC (.int 1)))) (AZ 2 Dc (mC (.int 1))))) (D1 (C9 (B0 (B6 m7 (B6 m7 (A0 0) (A0 2)) (mC (.int 0))) (B0 (A0 1) B4))))))
def KM:Fn:=k8 3 fS
theorem fT{f:Addr}(F:k7 K "chosen" "chosen" JD f fd)(T:Txt K mg):c6 P w K mg base j7 1 f fd ["choices","number"] (k9 K 2 KM):=
 G9 F PV fun cdv A outer s H E hr=>(by have n0:=PV.nd;cases T;injections G B8 C7 Hr K2 B3 N7 Aa H C7 Bm N7 Aa H C8 Bm B8 D q N7 Aa H E)
theorem PX:a9 ["side","number","known","rows","sums","row"] ["side","number","known"] (E1 JE):=F9
def fU:Mo Fl:=(C4 (K7 3 (J1 B4)) (C4 (D7 4 (B6 N9 (C9 (B0 (mC (.int 0)) B4)) (A0 0))) (C4 (Hq 60 (mT (B6 (wR false) (mC (.int 0)) (A0 4))) (C4 (Q3 (c7 2 KM (B7 (mF (J7 2 (DB (Al 8)) (B7 (A0 4) (F5 2 B9)))) (B7 (A0 1) B9))) (gT 2 (j3 (gN 5) (j3 (gN 1) pZ)))) (C4 (T9 3 (A0 5)) (D7 4 (c7 2 DA (B7 (A0 4) (B7 (A0 5) B9))))))) (D1 (d6 K5 (B0 (A0 3) B4))))))
def BQ:Fn:=k8 6 fU
theorem fV{f:Addr}(F:k7 K "laid" "laid" JE f fd)(T:Txt K mg)(tV:Def P w K mg base "chosen" 1 2 KM)(pM:Def P w K mg base "added" 1 2 DA)(pY:Def P w K mg base "choices_on" 18 2 (DB (Al 8))):c6 P w K mg base j7 19 f fd ["side","number","known"] (k9 K 3 BQ):=
 G9 F PX fun cdv A outer s H E hr=>(by have n0:=PX.nd;cases T;injections Bu C1 G D4 F6 P B3 C7 Hr K2 B8 B3 Ak t k A Cg F Ba C7 Ax E Ch Cb D e E)
theorem GQ:a9 ["side","known"] ["side"] (E1 GI):=F9
theorem fW:(["side","known","number"]:List Str).Nodup:=by rfl'
def KN:Mo Fl:=(C4 (V3 (c7 4 AN (B7 (A0 0) (B7 (mC (.int 1)) (B7 (mC (.int 4)) (B7 (mC (.str "side")) B9)))))) (C4 (IF 1) (T7 (D6 (J4 (B0 (c7 1 EV (B7 (A0 0) B9)) B4)) [true,true] 1 (gN 2) E7 (c7 3 BQ (B7 (A0 0) (B7 (A0 2) (F5 1 B9))))))))
def AO:Fn:=k8 2 KN
theorem fX{f:Addr}(F:k7 K "all_tables" "all_tables" GI f fd)(T:Txt K mg)(d7:Def P w K mg base "must_be_within" 3 4 AN)(tM:Def P w K mg base "laid" 19 3 BQ)(qM:Def P w K mg base "counted" 2 1 EV):c6 P w K mg base j7 20 f fd ["side"] (k9 K 1 AO):=
 G9 F GQ fun cdv A outer s H E hr=>(by have n0:=fW;have n1:=GQ.nd;cases T;injections Bh c Bw C7 IG r;exists (L9 (N':=["side","known","number"]) (keep:=[true,true]) (more:=1) ?_ ?_ ?_ ?_ ?_ ?_ ?_);injections Bd X C1 T c A Cg)
def fY:Mx:=(X1 (S3 4 CH (B7 (A0 0) (B7 (mC (.int 1)) (B7 (mC (.int 4)) (B7 (mC (.str "side")) B9))))) (V3 (c7 4 AN (B7 (A0 0) (B7 (mC (.int 1)) (B7 (mC (.int 4)) (B7 (mC (.str "side")) B9)))))) (X1 v9 (IF 1) v9))
def PY:List W->Option Str:=wU 2 fY
theorem fZ{f:Addr}(F:k7 K "all_tables" "all_tables" GI f fd)(T:Txt K mg)(d7:Def P w K mg base "must_be_within" 3 4 AN)(tM:Def P w K mg base "laid" 19 3 BQ)(qM:Def P w K mg base "counted" 2 1 EV)(j4:rE P w K mg base "must_be_within" 3 4 CH):c6 P w K mg base (sE P w) 20 f fd ["side"] (vB K 1 PY):=
 Bw F GQ fun cdv A outer s H E hr=>(by have n0:=GQ.nd;cases T;injections Bi d A Bw o c Bw Bv Cp PS.nox IG Ci)
theorem gA:a9 ["table"] ["table"] (E1 JF):=F9
def gC:Mo Fl:=(D1 (A0 0))
def DC:Fn:=k8 1 gC
theorem gD{f:Addr}(F:k7 K "stayed" "stayed" JF f fd)(T:Txt K mg):c6 P w K mg base j7 1 f fd ["table"] (k9 K 1 DC):=
 G9 F gA fun cdv A outer s H E hr=>(by cases T;injections D B3)
theorem gE:a9 ["table"] ["table"] (E1 JG):=F9
def KO:Mo Fl:=(D1 (Y5 (c7 1 V6 (B7 (A0 0) B9))))
def Z6:Fn:=k8 1 KO
theorem gF{f:Addr}(F:k7 K "turned_left" "turned_left" JG f fd)(T:Txt K mg)(o7:Def P w K mg base "flipped" 1 1 V6):c6 P w K mg base j7 2 f fd ["table"] (k9 K 1 Z6):=
 G9 F gE fun cdv A outer s H E hr=>(by cases T;injections D Ck X)
theorem gG:a9 ["table"] ["table"] (E1 JH):=F9
def KP:Mo Fl:=(D1 (c7 1 Z6 (B7 (c7 1 Z6 (B7 (A0 0) B9)) B9)))
def AQ:Fn:=k8 1 KP
theorem gH{f:Addr}(F:k7 K "turned_half" "turned_half" JH f fd)(T:Txt K mg)(j1:Def P w K mg base "turned_left" 2 1 Z6):c6 P w K mg base j7 3 f fd ["table"] (k9 K 1 AQ):=
 G9 F gG fun cdv A outer s H E hr=>(by cases T;injections D t X D0)
theorem gI:a9 ["table"] ["table"] (E1 JI):=F9
def KQ:Mo Fl:=(D1 (c7 1 Z6 (B7 (c7 1 AQ (B7 (A0 0) B9)) B9)))
def DD:Fn:=k8 1 KQ
theorem gJ{f:Addr}(F:k7 K "turned_right" "turned_right" JI f fd)(T:Txt K mg)(j1:Def P w K mg base "turned_left" 2 1 Z6)(j2:Def P w K mg base "turned_half" 3 1 AQ):c6 P w K mg base j7 4 f fd ["table"] (k9 K 1 DD):=
 G9 F gI fun cdv A outer s H E hr=>(by cases T;injections D t X D0)
theorem gK:a9 ["table"] ["table"] (E1 JJ):=F9
theorem gL:(["-0","row"]:List Str).Nodup:=by rfl'
def KR:Mo Fl:=(D1 (d6 K5 (B0 (mF (D6 (F3 (A0 0)) [false] 1 (gN 1) E7 (Y5 (A0 1)))) B4)))
def DE:Fn:=k8 1 KR
theorem gM{f:Addr}(F:k7 K "told_upright" "told_upright" JJ f fd)(T:Txt K mg):c6 P w K mg base j7 1 f fd ["table"] (k9 K 1 DE):=
 G9 F gK fun cdv A outer s H E hr=>(by have n0:=gL;cases T;injections D Cc;exists (L9 (N':=["-0","row"]) (keep:=[false]) (more:=1) ?_ ?_ ?_ ?_ ?_ ?_ ?_);injections R T Ck C)
theorem gO:a9 ["table"] ["table"] (E1 JK):=F9
def KU:Mo Fl:=(D1 (Y5 (A0 0)))
def DF:Fn:=k8 1 KU
theorem gP{f:Addr}(F:k7 K "told_flat" "told_flat" JK f fd)(T:Txt K mg):c6 P w K mg base j7 1 f fd ["table"] (k9 K 1 DF):=
 G9 F gO fun cdv A outer s H E hr=>(by cases T;injections D Ck B3)
theorem gQ:a9 ["table"] ["table"] (E1 JL):=F9
def KW:Mo Fl:=(D1 (c7 1 V6 (B7 (A0 0) B9)))
def BR:Fn:=k8 1 KW
theorem gR{f:Addr}(F:k7 K "told_slant" "told_slant" JL f fd)(T:Txt K mg)(o7:Def P w K mg base "flipped" 1 1 V6):c6 P w K mg base j7 2 f fd ["table"] (k9 K 1 BR):=
 G9 F gQ fun cdv A outer s H E hr=>(by cases T;injections D X)
theorem gU:a9 ["table"] ["table"] (E1 JM):=F9
def KY:Mo Fl:=(D1 (c7 1 AQ (B7 (c7 1 BR (B7 (A0 0) B9)) B9)))
def DG:Fn:=k8 1 KY
theorem gW{f:Addr}(F:k7 K "told_other" "told_other" JM f fd)(T:Txt K mg)(j2:Def P w K mg base "turned_half" 3 1 AQ)(o4:Def P w K mg base "told_slant" 2 1 BR):c6 P w K mg base j7 4 f fd ["table"] (k9 K 1 DG):=
 G9 F gU fun cdv A outer s H E hr=>(by cases T;injections D t X D0)
theorem gX:a9 ["thing"] ["thing"] (E1 JN):=F9
def KZ:Mo Fl:=(D1 (R5 (rR "str" (A0 0)) (IV Z5 (A0 0))))
def DH:Fn:=k8 1 KZ
theorem gY{f:Addr}(F:k7 K "is_turn" "is_turn" JN f fd)(T:Txt K mg)(j8:vC P w K mg "TURNS" Z5):c6 P w K mg base j7 1 f fd ["thing"] (k9 K 1 DH):=
 G9 F gX fun cdv A outer s H E hr=>(by cases T;injections An a AX OV B3)
theorem PZ:a9 ["thing"] ["thing"] (E1 GJ):=F9
def Ka:Mo Fl:=(F1 (G8 (mT (c7 1 DH (B7 (A0 0) B9)))) FG n5)
def DI:Fn:=k8 1 Ka
theorem gZ{f:Addr}(F:k7 K "must_be_turn" "must_be_turn" GJ f fd)(T:Txt K mg)(qN:Def P w K mg base "is_turn" 1 1 DH):c6 P w K mg base j7 2 f fd ["thing"] (k9 K 1 DI):=
 G9 F PZ fun cdv A outer s H E hr=>(by cases T;injections g S X C8 FH J9)
def Kb:Mx:=(yH (G8 (mT (c7 1 DH (B7 (A0 0) B9)))) (Fb "NoTurn" (B0 (mC (.str "this is no turn")) B4)) v9)
def GR:List W->Option Str:=wU 1 Kb
theorem hG{f:Addr}(F:k7 K "must_be_turn" "must_be_turn" GJ f fd)(T:Txt K mg)(qN:Def P w K mg base "is_turn" 1 1 DH):c6 P w K mg base (sE P w) 2 f fd ["thing"] (vB K 1 GR):=
 Bw F PZ fun cdv A outer s H E hr=>(by cases T;injections Y8 Ao S X Y8 Ap Bs FZ)
theorem Pa:a9 ["table","turn","deed"] ["table","turn"] (E1 JO):=F9
def Kc:Mo Fl:=(C4 (D7 2 (OS Z5 (A0 1))) (D1 (y0 1 2 [("stayed",DC),("turned_left",Z6),("turned_half",AQ),("turned_right",DD),("told_upright",DE),("told_flat",DF),("told_slant",BR),("told_other",DG)] (B7 (A0 0) B9))))
def X4:Fn:=k8 3 Kc
theorem hJ{f:Addr}(F:k7 K "brought" "brought" JO f fd)(T:Txt K mg)(tW:Def P w K mg base "stayed" 1 1 DC)(j1:Def P w K mg base "turned_left" 2 1 Z6)(j2:Def P w K mg base "turned_half" 3 1 AQ)(qE:Def P w K mg base "turned_right" 4 1 DD)(qF:Def P w K mg base "told_upright" 1 1 DE)(rW:Def P w K mg base "told_flat" 1 1 DF)(o4:Def P w K mg base "told_slant" 2 1 BR)(rF:Def P w K mg base "told_other" 4 1 DG)(j8:vC P w K mg "TURNS" Z5):c6 P w K mg base j7 5 f fd ["table","turn"] (k9 K 2 X4):=
 G9 F Pa fun cdv A outer s H E hr=>(by have n0:=Pa.nd;cases T;injections G OT B3 D IT Bj Bj Bj Bj IS F)
theorem Pb:a9 ["table"] ["table"] (E1 GK):=F9
theorem hW:(["table","turn"]:List Str).Nodup:=by rfl'
def Kd:Mo Fl:=(C4 (V3 (c7 1 AM (B7 (A0 0) B9))) (T7 (D6 (Cu Z5) [true] 1 (gN 1) (mT (B6 (j0 false) (c7 2 X4 (B7 (A0 0) (B7 (A0 1) B9))) (A0 0))) (A0 1))))
def CI:Fn:=k8 1 Kd
theorem iA{f:Addr}(F:k7 K "own_turns" "own_turns" GK f fd)(T:Txt K mg)(d8:Def P w K mg base "must_be_table" 6 1 AM)(i7:Def P w K mg base "brought" 5 2 X4)(j8:vC P w K mg "TURNS" Z5):c6 P w K mg base j7 7 f fd ["table"] (k9 K 1 CI):=
 G9 F Pb fun cdv A outer s H E hr=>(by have n0:=hW;cases T;injections Bh X r;exists (L9 (N':=["table","turn"]) (keep:=[true]) (more:=1) ?_ ?_ ?_ ?_ ?_ ?_ ?_);injections Ia E6 Ad Cb Y)
def Ke:Mx:=(X1 (S3 1 Cz (B7 (A0 0) B9)) (V3 (c7 1 AM (B7 (A0 0) B9))) v9)
def DJ:List W->Option Str:=wU 1 Ke
theorem iB{f:Addr}(F:k7 K "own_turns" "own_turns" GK f fd)(T:Txt K mg)(d8:Def P w K mg base "must_be_table" 6 1 AM)(i7:Def P w K mg base "brought" 5 2 X4)(j8:vC P w K mg "TURNS" Z5)(j9:rE P w K mg base "must_be_table" 6 1 Cz):c6 P w K mg base (sE P w) 7 f fd ["table"] (vB K 1 DJ):=
 Bw F Pb fun cdv A outer s H E hr=>(by cases T;injections Bi d F o X Ci)
theorem Pc:a9 ["table"] ["table"] (E1 GL):=F9
theorem iC:(["table","turn"]:List Str).Nodup:=by rfl'
def Kf:Mo Fl:=(C4 (V3 (c7 1 AM (B7 (A0 0) B9))) (D1 (d6 CD (B0 (mF (D6 (Cu Z5) [true] 1 (gN 1) E7 (c7 2 X4 (B7 (A0 0) (B7 (A0 1) B9))))) B4))))
def CJ:Fn:=k8 1 Kf
theorem iD{f:Addr}(F:k7 K "least_turned" "least_turned" GL f fd)(T:Txt K mg)(d8:Def P w K mg base "must_be_table" 6 1 AM)(i7:Def P w K mg base "brought" 5 2 X4)(j8:vC P w K mg "TURNS" Z5):c6 P w K mg base j7 7 f fd ["table"] (k9 K 1 CJ):=
 G9 F Pc fun cdv A outer s H E hr=>(by have n0:=iC;cases T;injections Bh X D J8;exists (Ii rfl hr.units);injections K;exists (L9 (N':=["table","turn"]) (keep:=[true]) (more:=1) ?_ ?_ ?_ ?_ ?_ ?_ ?_);injections Ia T Cb C1)
def Kg:Mx:=(X1 (S3 1 Cz (B7 (A0 0) B9)) (V3 (c7 1 AM (B7 (A0 0) B9))) v9)
def DK:List W->Option Str:=wU 1 Kg
theorem iE{f:Addr}(F:k7 K "least_turned" "least_turned" GL f fd)(T:Txt K mg)(d8:Def P w K mg base "must_be_table" 6 1 AM)(i7:Def P w K mg base "brought" 5 2 X4)(j8:vC P w K mg "TURNS" Z5)(j9:rE P w K mg base "must_be_table" 6 1 Cz):c6 P w K mg base (sE P w) 7 f fd ["table"] (vB K 1 DK):=
 Bw F Pc fun cdv A outer s H E hr=>(by cases T;injections Bi d F o X Ci)
theorem Pd:a9 ["side","turn"] ["side","turn"] (E1 GN):=F9
theorem iF:(["-0","turn","table"]:List Str).Nodup:=by rfl'
def Kh:Mo Fl:=(C4 (V3 (c7 4 AN (B7 (A0 0) (B7 (mC (.int 1)) (B7 (mC (.int 4)) (B7 (mC (.str "side")) B9)))))) (C4 (V3 (c7 1 DI (B7 (A0 1) B9))) (T7 (D6 (F3 (mF (J7 1 AO (B7 (A0 0) B9)))) [false,true] 1 (gN 2) (mT (B6 (j0 false) (c7 2 X4 (B7 (A0 2) (B7 (A0 1) B9))) (A0 2))) (A0 2)))))
def V7:Fn:=k8 2 Kh
theorem iG{f:Addr}(F:k7 K "left_so" "left_so" GN f fd)(T:Txt K mg)(d7:Def P w K mg base "must_be_within" 3 4 AN)(m8:Def P w K mg base "must_be_turn" 2 1 DI)(o5:Def P w K mg base "all_tables" 20 1 AO)(i7:Def P w K mg base "brought" 5 2 X4):c6 P w K mg base j7 21 f fd ["side","turn"] (k9 K 2 V7):=
 G9 F Pd fun cdv A outer s H E hr=>(by have n0:=iF;cases T;injections Bh c Bw Bh X r;exists (L9 (N':=["-0","turn","table"]) (keep:=[false,true]) (more:=1) ?_ ?_ ?_ ?_ ?_ ?_ ?_);injections K6 k F E6 Ad Cb Y)
def EX:Mx:=(X1 (S3 4 CH (B7 (A0 0) (B7 (mC (.int 1)) (B7 (mC (.int 4)) (B7 (mC (.str "side")) B9))))) (V3 (c7 4 AN (B7 (A0 0) (B7 (mC (.int 1)) (B7 (mC (.int 4)) (B7 (mC (.str "side")) B9)))))) (X1 (S3 1 GR (B7 (A0 1) B9)) (V3 (c7 1 DI (B7 (A0 1) B9))) v9))
def AR:List W->Option Str:=wU 2 EX
theorem iH{f:Addr}(F:k7 K "left_so" "left_so" GN f fd)(T:Txt K mg)(d7:Def P w K mg base "must_be_within" 3 4 AN)(m8:Def P w K mg base "must_be_turn" 2 1 DI)(o5:Def P w K mg base "all_tables" 20 1 AO)(i7:Def P w K mg base "brought" 5 2 X4)(j4:rE P w K mg base "must_be_within" 3 4 CH)(p0:rE P w K mg base "must_be_turn" 2 1 GR)(qQ:rE P w K mg base "all_tables" 20 1 PY):c6 P w K mg base (sE P w) 21 f fd ["side","turn"] (vB K 2 AR):=
 Bw F Pd fun cdv A outer s H E hr=>(by cases T;injections Bi d A Bw o c Bw Bi d F o X Ci)
theorem iI:a9 ["_law_script","_law_k"] ["_law_script","_law_k"] (E1 JP):=F9
def EY:Mo Fl:=(C4 (F1 (mT (B6 xO (A0 1) (d6 E9 (B0 (A0 0) B4)))) (D1 (B6 m7 (A0 0) (A0 1))) n5) (D1 (mC (.int 0))))
def EZ:Fn:=k8 2 EY
theorem iJ{f:Addr}(F:k7 K "_law_cell_at" "_law_cell_at" JP f fd)(T:Txt K mg):c6 P w K mg base j7 1 f fd ["_law_script","_law_k"] (k9 K 2 EZ):=
 G9 F iI fun cdv A outer s H E hr=>(by cases T;injections Aj B3 y D N7 Y J9 D B8)
theorem Pe:a9 ["_law_script","_law_k","_law_cell"] ["_law_script","_law_k"] (E1 JQ):=F9
def Ea:Mo Fl:=(C4 (D7 2 (c7 2 EZ (B7 (A0 0) (B7 (A0 1) B9)))) (C4 (F1 (mT (B6 zK (A0 2) (B6 T4 (mC (.int 10)) (mC (.int 18))))) (T7 (J1 (B0 (B6 J0 (A0 2) (B6 T4 (mC (.int 10)) (mC (.int 18)))) (B0 (mC (.bl true)) B4)))) n5) (T7 (J1 (B0 (B6 P4 (A0 2) (mC (.int 2147483647))) (B0 (mC (.bl false)) B4))))))
def Eb:Fn:=k8 3 Ea
theorem iK{f:Addr}(F:k7 K "_law_state" "_law_state" JQ f fd)(T:Txt K mg)(qG:Def P w K mg base "_law_cell_at" 1 2 EZ):c6 P w K mg base j7 2 f fd ["_law_script","_law_k"] (k9 K 2 Eb):=
 G9 F Pe fun cdv A outer s H E hr=>(by have n0:=Pe.nd;cases T;injections G Cb Aj B3 u B8 r L6 M B3 u B8 Al Bk r L6 M H Al C1)
theorem Pf:a9 ["_law_state_here","_law_many","_law_mixed","_law_found"] ["_law_state_here","_law_many"] (E1 JR):=F9
def Ec:Mo Fl:=(C4 (F1 (mT (N8 0 (mC (.int 1)))) (C4 (D7 3 (B6 P4 (N8 0 (mC (.int 0))) (A0 1))) (C4 (Q3 (B6 Da (N8 0 (mC (.int 0))) (A0 1)) (gS 0 (mC (.int 0)))) (D1 (A0 3)))) n5) (C4 (Q3 (B6 P4 (B6 D5 (B6 N9 (N8 0 (mC (.int 0))) (mC (.int 48271))) (mC (.int 29))) (mC (.int 2147483647))) (gS 0 (mC (.int 0)))) (C4 (D7 2 (B6 P4 (B6 D5 (B6 D5 (B6 N9 (N8 0 (mC (.int 0))) (N8 0 (mC (.int 0)))) (B6 N9 (mC (.int 39373)) (N8 0 (mC (.int 0))))) (mC (.int 7))) (mC (.int 2147483629)))) (C4 (D7 2 (B6 P4 (B6 D5 (B6 N9 (A0 2) (A0 2)) (B6 N9 (mC (.int 16807)) (A0 2))) (mC (.int 2147483587)))) (D1 (B6 P4 (B6 Da (A0 2) (mC (.int 8))) (A0 1)))))))
def J6:Fn:=k8 4 Ec
theorem iL{f:Addr}(F:k7 K "_law_take" "_law_take" JR f fd)(T:Txt K mg):c6 P w K mg base j7 1 f fd ["_law_state_here","_law_many"] (k9 K 2 J6):=
 G9 F Pf fun cdv A outer s H E hr=>(by have n0:=Pf.nd;cases T;injections N O5 Ae G Cj B3 Ak Cj B3 Di B8 D B3 J9 Ak D4 D4 Cj Bl B8 Di B8 G D4 D4 D4 Cj Ae u Ae Bl G D4 D4 D4 Y u H D D4 i B3)
theorem Ki:a9 ["_law_call","_law_error","e","_law_sorts"] ["_law_call"] (E1 JS):=F9
theorem iM:(["-0","-1","-2","-3","_law_one"]:List Str).Nodup:=by rfl'
def iN:Mo Fl:=(C4 (F1 (mT (B6 Hs (A0 1) (mC .non))) (D1 (mC .non)) n5) (C4 (K7 3 (J1 (B0 (U4 xN "NoTable" (A0 1)) (B0 (U4 xN "NoHeights" (A0 1)) (B0 (U4 xN "NoNet" (A0 1)) B4))))) (C4 (K7 3 (BD (A0 3) (mF (J1 (B0 (U4 xN "NoPlace" (A0 1)) (B0 (U4 xN "NoTriangle" (A0 1)) (B0 (U4 xN "NoRow" (A0 1)) B4))))))) (C4 (K7 3 (BD (A0 3) (mF (J1 (B0 (U4 xN "NoNumber" (A0 1)) (B0 (U4 xN "NoTurn" (A0 1)) (B0 (U4 xN "NotAlike" (A0 1)) B4))))))) (C4 (K7 3 (BD (A0 3) (mF (J1 (B0 (U4 xN "NoStep" (A0 1)) (B0 (U4 xN "NoRows" (A0 1)) (B0 (U4 xN "TooMany" (A0 1)) B4))))))) (C4 (T9 3 (U4 xN "BadNote" (A0 1))) (C4 (F1 (P5 (G8 (mT (NK xN (A0 1)))) (mT (B6 (j0 true) (d6 Co (B0 (mF (D6 (F3 (A0 3)) [false,false,false,false] 1 (gN 4) E7 (d6 Ac (B0 (A0 4) B4)))) B4)) (mC (.int 1))))) (D1 (Q5 (mC (.int 1)))) n5) (D1 (B6 Hz (A0 3) (mC (.bl true)))))))))))
def iO(o:Option Str):Mo Fl:=C4 (D7 1 (mC .non)) (C4 (Hu xN 2 1 o) iN)
def V8:Option Str->Option D:=Hx 4 iO
theorem iP{f:Addr}(F:k7 K "_law_refused" "_law_refused" JS f fd)(T:Txt K mg)(hmg:mg "_law_refused"=some (.ref f))(hbd:Q2 K fd ["_law_call"] []):tI P w K mg base "_law_refused" 23 22 V8:=
 aT F Ki hmg hbd (by decide) fun cdv A outer s H E fl o G hr fn clo=>aF (i0:=0) (i:=2) (j:=1) rfl rfl rfl T.ex Ki.nd rfl (Or.inl rfl) rfl rfl rfl rfl (by decide) rfl fn clo (by have n0:=iM;have n1:=Ki.nd;cases T;injections Aj B3 Au D Au J9 Bu B5 Cm C f Co Cm C f Co Cm C f Co Cm C C7 Ax B5 U5 C N z S NL B3 Bc J8;exists (Dw rfl);injections K;exists (L9 (N':=["-0","-1","-2","-3","_law_one"]) (keep:=[false,false,false,false]) (more:=1) ?_ ?_ ?_ ?_ ?_ ?_ ?_);injections R T Q6 DT E C1 B8 D w J9 D NU B3 N1)
theorem Pg:a9 ["_law_held","_law_found","_law_one","_law_longer","_law_far","_law_row","_law_number"] ["_law_held"] (E1 JT):=F9
theorem iQ:(["-0","-1","-2","-3","-4","-5","-6","_law_far","_law_row"]:List Str).Nodup:=by rfl'
def iR:Mo Fl:=(C4 (D7 1 (mF (J1 (B0 (C9 (B0 (mC (.int 0)) (B0 (C9 B4) B4))) B4)))) (C4 (K3 (F3 (A0 0)) (gN 2) (C4 (K7 3 (J1 B4)) (C4 (K3 (F3 (A0 1)) (gT 2 (j3 (gN 4) (j3 (gN 5) pZ))) (K3 (F3 (C9 (B0 (Q5 (mC (.int 1))) (B0 (mC (.int 0)) (B0 (mC (.int 1)) B4))))) (gN 6) (F1 (S7 (mT (T5 sB sB (mC (.int 0)) (B6 D5 (A0 4) (A0 6)) (mC (.int 1)))) (mT (T5 sB sB (mC (.int 0)) (B6 D5 (A0 2) (A0 6)) (mC (.int 1))))) (T9 3 (C9 (B0 (B6 D5 (A0 4) (A0 6)) (B0 (B6 D5 (A0 5) (C9 (B0 (A0 6) B4))) B4)))) n5))) (D7 1 (A0 3))))) (T7 (uX Hn (B0 (mF (D6 (F3 (A0 1)) [false,false,false,false,false,false,false] 2 (gT 2 (j3 (gN 7) (j3 (gN 8) pZ))) (mT (B6 (j0 false) (A0 7) (mC (.int 1)))) (A0 8))) B4)))))
def S5:Fn:=k8 7 iR
theorem iS{f:Addr}(F:k7 K "_law_lines" "_law_lines" JT f fd)(T:Txt K mg):c6 P w K mg base j7 1 f fd ["_law_held"] (k9 K 1 S5):=
 G9 F Pg fun cdv A outer s H E hr=>(by have n0:=iQ;have n1:=Pg.nd;cases T;injections G W I B I j At Be Cr R Ba C8 O9 K6 q w Br E6 g Cd Dh B8 v H De Dh B8 v H Bo I M Y M p E j J9 Ch B3 r HL Hm K;exists (L9 (N':=["-0","-1","-2","-3","-4","-5","-6","_law_far","_law_row"]) (keep:=[false,false,false,false,false,false,false]) (more:=2) ?_ ?_ ?_ ?_ ?_ ?_ ?_);injections R Ba Ad H C)
theorem Ph:a9 ["_law_state_here","_law_least","_law_most","_law_side","_law_held","_law_found","_law_turn","_law_rows","_law_row"] ["_law_state_here","_law_least","_law_most"] (E1 JU):=F9
theorem iT:(["-0","-1","-2","-3","-4","-5","-6","-7","-8","_law_one","_law_number"]:List Str).Nodup:=by rfl'
def Kj:Mo Fl:=(C4 (D7 3 (B6 D5 (A0 1) (c7 2 J6 (F5 0 (B7 (B6 D5 (B6 J0 (A0 2) (A0 1)) (mC (.int 1))) B9))))) (C4 (D7 4 (B6 N9 (C9 (B0 (mC (.int 0)) B4)) (A0 3))) (C4 (D7 5 (C9 B4)) (C4 (K3 (J4 (B0 (A0 3) B4)) (gN 6) (C4 (D7 7 (mF (J7 1 S5 (B7 (A0 4) B9)))) (C4 (D7 8 (B6 m7 (A0 7) (c7 2 J6 (F5 0 (B7 (d6 E9 (B0 (A0 7) B4)) B9))))) (C4 (D7 4 (d6 K5 (B0 (mF (D6 (R9 (B0 (A0 4) (B0 (A0 8) B4))) [false,false,false,false,false,false,false,false,false] 2 (gT 2 (j3 (gN 9) (j3 (gN 10) pZ))) E7 (B6 D5 (A0 9) (A0 10)))) B4))) (D7 5 (B6 D5 (A0 5) (C9 (B0 (A0 8) B4)))))))) (D1 (A0 5))))))
def U6:Fn:=k8 9 Kj
theorem iU{f:Addr}(F:k7 K "_law_table" "_law_table" JU f fd)(T:Txt K mg)(g9:Def P w K mg base "_law_take" 1 2 J6)(o6:Def P w K mg base "_law_lines" 1 1 S5):c6 P w K mg base j7 2 f fd ["_law_state_here","_law_least","_law_most"] (k9 K 3 U6):=
 G9 F Ph fun cdv A outer s H E hr=>(by have n0:=iT;have n1:=Ph.nd;cases T;injections G v Az D4 v H D0 G D4 F6 P B3 G F6 At Bf G k F G Aa Az y D0 G Cc;exists (L9 (N':=["-0","-1","-2","-3","-4","-5","-6","-7","-8","_law_one","_law_number"]) (keep:=[false,false,false,false,false,false,false,false,false]) (more:=2) ?_ ?_ ?_ ?_ ?_ ?_ ?_);injections Cf v C Ch D4 p E D B3)
theorem iV:a9 ["_law_thing","_law_least","_law_most"] ["_law_thing","_law_least","_law_most"] (E1 JV):=F9
def Kk:Mo Fl:=(D1 (R5 (rR "int" (A0 0)) (R5 (FD (rR "bool" (A0 0))) (T5 sB sB (A0 1) (A0 0) (A0 2)))))
def Am:Fn:=k8 3 Kk
theorem iW{f:Addr}(F:k7 K "_law_whole" "_law_whole" JV f fd)(T:Txt K mg):c6 P w K mg base j7 1 f fd ["_law_thing","_law_least","_law_most"] (k9 K 3 Am):=
 G9 F iV fun cdv A outer s H E hr=>(by cases T;injections An a AD HH a AX HI Y B3)
theorem Pj:a9 ["_law_line","_law_some"] ["_law_line"] (E1 JW):=F9
theorem iX:(["-0","-1","_law_at"]:List Str).Nodup:=by rfl'
theorem iY:(["-0","-1","_law_number"]:List Str).Nodup:=by rfl'
def Kl:Mo Fl:=(C4 (K7 1 (D6 (F3 (A0 0)) [false,false] 1 (gN 2) (mT (B6 (j0 true) (A0 2) (mC (.int 0)))) (A0 2))) (D1 (R5 (B6 (j0 false) (A0 1) (mF (D6 (J4 (B0 (d6 E9 (B0 (A0 1) B4)) B4)) [false,false] 1 (gN 2) E7 (B6 J0 (mC (.int 1)) (B6 N9 (mC (.int 2)) (B6 P4 (A0 2) (mC (.int 2)))))))) (B6 (j0 false) (B6 P4 (d6 E9 (B0 (A0 1) B4)) (mC (.int 2))) (mC (.int 1))))))
def AS:Fn:=k8 2 Kl
theorem iZ{f:Addr}(F:k7 K "_law_turns" "_law_turns" JW f fd)(T:Txt K mg):c6 P w K mg base j7 1 f fd ["_law_line"] (k9 K 1 AS):=
 G9 F Pj fun cdv A outer s H E hr=>(by have n0:=iX;have n1:=iY;have n2:=Pj.nd;cases T;injections C7;exists (Fz (N':=["-0","-1","_law_number"]) (keep:=[false,false]) (more:=1) ?_ ?_ ?_ ?_ ?_ ?_ ?_ ?_ ?_ ?_ ?_);injections Be Ad H B3 Cs B3 F7;exists (L9 (N':=["-0","-1","_law_at"]) (keep:=[false,false]) (more:=1) ?_ ?_ ?_ ?_ ?_ ?_ ?_);injections Bd y C1 T u u i AX Y0 D4 y Bl)
theorem Pk:a9 ["_law_thing","_law_row","_law_number"] ["_law_thing"] (E1 JX):=F9
theorem jA:(["_law_thing","_law_row","-2","_law_at"]:List Str).Nodup:=by rfl'
theorem jB:(["-0","-1","-2","_law_at","_law_row"]:List Str).Nodup:=by rfl'
def CK:Mo Fl:=(C4 (F1 (P5 (G8 (mT (rR "tuple" (A0 0)))) (G8 (mT (T5 sB sB (mC (.int 1)) (d6 E9 (B0 (A0 0) B4)) (mC (.int 6)))))) (D1 (mC (.bl false))) n5) (C4 (K3 (F3 (A0 0)) (gN 1) (C4 (F1 (P5 (G8 (mT (rR "tuple" (A0 1)))) (mT (B6 (j0 true) (d6 E9 (B0 (A0 1) B4)) (d6 E9 (B0 (A0 0) B4))))) (D1 (mC (.bl false))) n5) (C4 (K3 (F3 (A0 1)) (gN 2) (F1 (G8 (mT (c7 3 Am (B7 (A0 2) (B7 (Q5 (mC (.int 1))) (B7 (mC (.int 1)) B9)))))) (D1 (mC (.bl false))) n5)) (F1 (G8 (mT (c7 1 AS (B7 (A0 1) B9)))) (D1 (mC (.bl false))) n5)))) (D1 (d6 BB (B0 (mF (D6 (J4 (B0 (d6 E9 (B0 (A0 0) B4)) B4)) [true,true,false] 1 (gN 3) E7 (c7 1 AS (B7 (mF (D6 (F3 (A0 0)) [false,false,false,true] 1 (gN 4) E7 (B6 m7 (A0 4) (A0 3)))) B9)))) B4)))))
def DL:Fn:=k8 3 CK
theorem jC{f:Addr}(F:k7 K "_law_is_table" "_law_is_table" JX f fd)(T:Txt K mg)(rG:Def P w K mg base "_law_turns" 1 1 AS)(rH:Def P w K mg base "_law_whole" 1 3 Am):c6 P w K mg base j7 2 f fd ["_law_thing"] (k9 K 1 DL):=
 G9 F Pk fun cdv A outer s H E hr=>(by have n0:=jA;have n1:=jB;have n2:=Pk.nd;cases T;injections N z S a Av O6 Dh B8 y Bp U Be N z S a Bc y y Af U Be g S c C5 w s Af g S X Ca;exists (Ch rfl);injections K;exists (L9 (N':=["_law_thing","_law_row","-2","_law_at"]) (keep:=[true,true,false]) (more:=1) ?_ ?_ ?_ ?_ ?_ ?_ ?_);injections Bd y C1 T t F7;exists (L9 (N':=["-0","-1","-2","_law_at","_law_row"]) (keep:=[false,false,false,true]) (more:=1) ?_ ?_ ?_ ?_ ?_ ?_ ?_);injections R T N7 Y D0 C1)
theorem Pm:a9 ["_law_state_here","_law_table_here","_law_at","_law_row","_law_k","_law_odd","_law_to","_law_rows","_law_one","_law_some","_law_swapped"] ["_law_state_here","_law_table_here"] (E1 JY):=F9
def Km:Mo Fl:=(C4 (D7 2 (c7 2 J6 (F5 0 (B7 (d6 E9 (B0 (A0 1) B4)) B9)))) (C4 (D7 3 (B6 m7 (A0 1) (A0 2))) (C4 (D7 4 (c7 2 J6 (F5 0 (B7 (B6 D5 (d6 E9 (B0 (A0 3) B4)) (mC (.int 1))) B9)))) (C4 (D7 5 (B6 m7 (mF (J1 (B0 (mC (.int 0)) (B0 (mC (.int 1)) (B0 (Q5 (mC (.int 1))) (B0 (mC (.int 2)) (B0 (mC (.bl true)) (B0 (mC .non) (B0 (mC (.str "1")) (B0 (C9 (B0 (mC (.int 1)) B4)) (B0 (B6 T4 (mC (.int 10)) (mC (.int 29))) (B0 (mC (.bl false)) (B0 (mC (.int 3)) B4))))))))))))) (c7 2 J6 (F5 0 (B7 (mC (.int 11)) B9))))) (C4 (D7 6 (c7 2 J6 (F5 0 (B7 (d6 E9 (B0 (A0 1) B4)) B9)))) (C4 (D7 7 (mF (J1 (B0 (B6 D5 (B6 D5 (rC (A0 3) N4 (N5 (A0 4))) (C9 (B0 (A0 5) B4))) (rC (A0 3) (N5 (B6 D5 (A0 4) (mC (.int 1)))) N4)) (B0 (B6 D5 (B6 D5 (rC (A0 3) N4 (N5 (A0 4))) (C9 (B0 (A0 5) B4))) (rC (A0 3) (N5 (A0 4)) N4)) (B0 (B6 D5 (rC (A0 3) N4 (N5 (A0 4))) (rC (A0 3) (N5 (B6 D5 (A0 4) (mC (.int 1)))) N4)) (B0 (mF (uX Bl (B0 (A0 3) B4))) (B0 (Y5 (A0 3)) B4)))))))) (C4 (D7 8 (B6 m7 (A0 7) (B6 m7 (mF (J1 (B0 (mC (.int 0)) (B0 (mC (.int 0)) (B0 (mC (.int 0)) (B0 (mC (.int 0)) (B0 (mC (.int 0)) (B0 (mC (.int 1)) (B0 (mC (.int 2)) (B0 (mC (.int 3)) (B0 (mC (.int 4)) B4))))))))))) (c7 2 J6 (F5 0 (B7 (mC (.int 9)) B9)))))) (C4 (D7 9 (mF (J1 (B0 (B6 D5 (B6 D5 (rC (A0 1) N4 (N5 (A0 2))) (C9 (B0 (A0 8) B4))) (rC (A0 1) (N5 (B6 D5 (A0 2) (mC (.int 1)))) N4)) (B0 (B6 D5 (B6 D5 (rC (A0 1) N4 (N5 (A0 2))) (C9 (B0 (A0 3) B4))) (rC (A0 1) (N5 (A0 2)) N4)) (B0 (B6 D5 (rC (A0 1) N4 (N5 (A0 2))) (rC (A0 1) (N5 (B6 D5 (A0 2) (mC (.int 1)))) N4)) B4)))))) (C4 (K7 10 (uX Bl (B0 (A0 1) B4))) (C4 (Q3 (C9 (B0 (N8 10 (A0 6)) (B0 (N8 10 (A0 2)) B4))) (gT 2 (j3 (gS 10 (A0 2)) (j3 (gS 10 (A0 6)) pZ)))) (C4 (D7 9 (mF (BD (A0 9) (mF (J1 (B0 (d6 K5 (B0 (A0 10) B4)) (B0 (mF (uX Bl (B0 (A0 1) B4))) (B0 (mC .non) (B0 (mC .emp) (B0 (C9 (B0 (A0 1) B4)) (B0 (A0 5) (B0 (Y5 (A0 1)) B4)))))))))))) (D1 (B6 m7 (A0 9) (B6 m7 (mF (J1 (B0 (mC (.int 0)) (B0 (mC (.int 0)) (B0 (mC (.int 0)) (B0 (mC (.int 0)) (B0 (mC (.int 0)) (B0 (mC (.int 1)) (B0 (mC (.int 2)) (B0 (mC (.int 3)) (B0 (mC (.int 3)) (B0 (mC (.int 4)) (B0 (mC (.int 5)) (B0 (mC (.int 6)) (B0 (mC (.int 7)) (B0 (mC (.int 8)) (B0 (mC (.int 9)) B4))))))))))))))))) (c7 2 J6 (F5 0 (B7 (mC (.int 15)) B9)))))))))))))))))
def CL:Fn:=k8 11 Km
theorem jD{f:Addr}(F:k7 K "_law_bent" "_law_bent" JY f fd)(T:Txt K mg)(g9:Def P w K mg base "_law_take" 1 2 J6):c6 P w K mg base j7 2 f fd ["_law_state_here","_law_table_here"] (k9 K 2 CL):=
 G9 F Pm fun cdv A outer s H E hr=>(by have n0:=Pm.nd;cases T;injections G Az y D0 G N7 Y G Az D4 y B8 D0 G N7 W l B5 w B Al Ct V I P M Bl Al P Bx G Az y D0 G W M Cu p E Bz i U9 M Cu p E Bz B3 U9 M By B3 Bz i U9 K FE DX E B5 Ck C G Aa N7 W l l l l P Bx G W M Cu p E Bz i U9 M Cu p E Bz B3 U9 M By B3 Bz i U9 C1 f FE DX E Ak q AE b AE C R7 K8 Di B3 K8 Di B3 R6 G F7 Co e E K FE DX E Ct B5 Mn I E B5 b Ck C D Aa N7 W l l l l l l l P Bx)
theorem Pn:a9 ["_law_state_here","_law_turn","_law_thing"] ["_law_state_here"] (E1 JZ):=F9
def Ed:Mo Fl:=(C4 (K3 (J4 (B0 (mC (.int 8)) B4)) (gN 1) (C4 (D7 2 (c7 2 CL (F5 0 (B7 (c7 3 U6 (F5 0 (B7 (mC (.int 1)) (B7 (mC (.int 6)) B9)))) B9)))) (F1 (G8 (mT (c7 1 DL (B7 (A0 2) B9)))) (D1 (A0 2)) n5))) (D1 (B6 m7 (mF (J1 (B0 (mC .non) (B0 (C9 B4) (B0 (C9 (B0 (C9 (B0 (mC (.int 0)) B4)) B4)) (B0 (C9 (B0 (C9 (B0 (mC (.int 1)) (B0 (mC (.int 0)) B4))) (B0 (C9 (B0 (mC (.int 1)) (B0 (mC (.int 0)) B4))) B4))) B4)))))) (c7 2 J6 (F5 0 (B7 (mC (.int 4)) B9))))))
def Ee:Fn:=k8 3 Ed
theorem jE{f:Addr}(F:k7 K "_law_no_table" "_law_no_table" JZ f fd)(T:Txt K mg)(rX:Def P w K mg base "_law_bent" 2 2 CL)(g9:Def P w K mg base "_law_take" 1 2 J6)(k6:Def P w K mg base "_law_table" 2 3 U6)(p7:Def P w K mg base "_law_is_table" 2 1 DL):c6 P w K mg base j7 3 f fd ["_law_state_here"] (k9 K 1 Ee):=
 G9 F Pn fun cdv A outer s H E hr=>(by have n0:=Pn.nd;cases T;injections U R1 P E6 G Az O L s D0 g S X D B3 J9 D N7 Bn Au I C1 I I P C1 I I Br I Br j Bx)
theorem Po:a9 ["_law_table_here","_law_turn","_law_n","_law_found","_law_r","_law_line","_law_c","_law_at","_law_more","_law_row","_law_column"] ["_law_table_here","_law_turn"] (E1 KA):=F9
def Kn:Mo Fl:=(C4 (D7 2 (d6 E9 (B0 (A0 0) B4))) (C4 (K7 3 (J1 B4)) (C4 (K3 (J4 (B0 (A0 2) B4)) (gN 4) (C4 (K7 5 (J1 B4)) (C4 (K3 (J4 (B0 (A0 2) B4)) (gN 6) (C4 (D7 7 (EC ["stay","left","half","right"] (B0 (C9 (B0 (A0 4) (B0 (A0 6) B4))) (B0 (C9 (B0 (A0 6) (B0 (B6 J0 (B6 J0 (A0 2) (mC (.int 1))) (A0 4)) B4))) (B0 (C9 (B0 (B6 J0 (B6 J0 (A0 2) (mC (.int 1))) (A0 4)) (B0 (B6 J0 (B6 J0 (A0 2) (mC (.int 1))) (A0 6)) B4))) (B0 (C9 (B0 (B6 J0 (B6 J0 (A0 2) (mC (.int 1))) (A0 6)) (B0 (A0 4) B4))) B4)))))) (C4 (D7 8 (EC ["upright","flat","slant","other"] (B0 (C9 (B0 (A0 4) (B0 (B6 J0 (B6 J0 (A0 2) (mC (.int 1))) (A0 6)) B4))) (B0 (C9 (B0 (B6 J0 (B6 J0 (A0 2) (mC (.int 1))) (A0 4)) (B0 (A0 6) B4))) (B0 (C9 (B0 (A0 6) (B0 (A0 4) B4))) (B0 (C9 (B0 (B6 J0 (B6 J0 (A0 2) (mC (.int 1))) (A0 6)) (B0 (B6 J0 (B6 J0 (A0 2) (mC (.int 1))) (A0 4)) B4))) B4)))))) (C4 (Q3 (Z1 (A0 7) (A0 1) (Z1 (A0 8) (A0 1) (C9 (B0 (A0 4) (B0 (A0 6) B4))))) (gT 2 (j3 (gN 9) (j3 (gN 10) pZ)))) (T9 5 (B6 m7 (B6 m7 (A0 0) (A0 9)) (A0 10))))))) (T9 3 (d6 K5 (B0 (A0 5) B4)))))) (D1 (d6 K5 (B0 (A0 3) B4))))))
def An:Fn:=k8 11 Kn
theorem jF{f:Addr}(F:k7 K "_law_turned" "_law_turned" KA f fd)(T:Txt K mg):c6 P w K mg base j7 1 f fd ["_law_table_here","_law_turn"] (k9 K 2 An):=
 G9 F Po fun cdv A outer s H E hr=>(by have n0:=Po.nd;cases T;injections G y Cr Bf Cr Bf G IW Cv Cv q Ai q B3 M i C F6 M i B3 M i C F6 M i Ai G IW Cv Cv q B3 M i C F6 M i Ai q Ai F6 M i B3 M i C Ak IY b b IY b B3 I Bg j Ba Bo B5 N7 N7 Y C Bo B5 e E C1 D e E)
theorem jG:a9 [] [] (E1 KB):=F9
def jH:Mo Fl:=(T7 (J1 (B0 (mC (.str "stay")) (B0 (mC (.str "left")) (B0 (mC (.str "half")) (B0 (mC (.str "right")) (B0 (mC (.str "upright")) (B0 (mC (.str "flat")) (B0 (mC (.str "slant")) (B0 (mC (.str "other")) B4))))))))))
def Ao:Fn:=k8 0 jH
theorem jI{f:Addr}(F:k7 K "_law_turn_words" "_law_turn_words" KB f fd)(T:Txt K mg):c6 P w K mg base j7 1 f fd [] (k9 K 0 Ao):=
 G9 F jG fun cdv A outer s H E hr=>(by cases T;injections r L6 V V V V V V V Bs)
theorem Pp:a9 ["_law_side","_law_found","_law_turn","_law_longer","_law_rows","_law_held","_law_row"] ["_law_side"] (E1 KC):=F9
theorem jJ:(["-0","-1","-2","-3","-4","-5","-6","_law_rows","_law_held"]:List Str).Nodup:=by rfl'
theorem jK:(["-0","-1","-2","-3","-4","-5","-6","_law_one","_law_number"]:List Str).Nodup:=by rfl'
def Ko:Mo Fl:=(C4 (D7 1 (mF (J1 (B0 (C9 (B0 (C9 B4) (B0 (B6 N9 (C9 (B0 (mC (.int 0)) B4)) (A0 0)) B4))) B4)))) (C4 (K3 (J4 (B0 (A0 0) B4)) (gN 2) (C4 (K7 3 (J1 B4)) (C4 (K3 (F3 (A0 1)) (gT 2 (j3 (gN 4) (j3 (gN 5) pZ))) (K3 (F3 (mF (J7 1 S5 (B7 (A0 5) B9)))) (gN 6) (T9 3 (C9 (B0 (B6 D5 (A0 4) (C9 (B0 (A0 6) B4))) (B0 (d6 K5 (B0 (mF (D6 (R9 (B0 (A0 5) (B0 (A0 6) B4))) [false,false,false,false,false,false,false] 2 (gT 2 (j3 (gN 7) (j3 (gN 8) pZ))) E7 (B6 D5 (A0 7) (A0 8)))) B4)) B4)))))) (D7 1 (A0 3))))) (T7 (uX Ij (B0 (mF (D6 (F3 (A0 1)) [false,false,false,false,false,false,false] 2 (gT 2 (j3 (gN 7) (j3 (gN 8) pZ))) E7 (A0 7))) B4)))))
def DM:Fn:=k8 7 Ko
theorem jL{f:Addr}(F:k7 K "_law_all" "_law_all" KC f fd)(T:Txt K mg)(o6:Def P w K mg base "_law_lines" 1 1 S5):c6 P w K mg base j7 2 f fd ["_law_side"] (k9 K 1 DM):=
 G9 F Pp fun cdv A outer s H E hr=>(by have n0:=jJ;have n1:=jK;have n2:=Pp.nd;cases T;injections G W I I C1 M F6 P C At Bf Cr R Ba C8 O9 K6 k F E6 Bo I M p E B5 Cc;exists (L9 (N':=["-0","-1","-2","-3","-4","-5","-6","_law_one","_law_number"]) (keep:=[false,false,false,false,false,false,false]) (more:=2) ?_ ?_ ?_ ?_ ?_ ?_ ?_);injections Cf v C j Ch B3 r HL;exists (Ot hr.units);injections K;exists (L9 (N':=["-0","-1","-2","-3","-4","-5","-6","_law_rows","_law_held"]) (keep:=[false,false,false,false,false,false,false]) (more:=2) ?_ ?_ ?_ ?_ ?_ ?_ ?_);injections R Bb C)
theorem jM:a9 ["_law_found","_law_due"] ["_law_found","_law_due"] (E1 KD):=F9
theorem jN:(["-0","-1","_law_one","_law_other"]:List Str).Nodup:=by rfl'
def Ap(r_:Fn):Mo Fl:=(C4 (F1 (mT (NC "list" "tuple" (A0 1))) (C4 (F1 (P5 (mT (B6 (j0 true) (rR "list" (A0 0)) (rR "list" (A0 1)))) (mT (B6 (j0 true) (rR "tuple" (A0 0)) (rR "tuple" (A0 1))))) (D1 (mC (.bl false))) n5) (D1 (R5 (B6 (j0 false) (d6 E9 (B0 (A0 0) B4)) (d6 E9 (B0 (A0 1) B4))) (d6 BB (B0 (mF (D6 (R9 (B0 (A0 0) (B0 (A0 1) B4))) [false,false] 2 (gT 2 (j3 (gN 2) (j3 (gN 3) pZ))) E7 (c7 2 r_ (B7 (A0 2) (B7 (A0 3) B9))))) B4))))) n5) (D1 (R5 (B6 (j0 false) (rR "bool" (A0 0)) (rR "bool" (A0 1))) (B6 (j0 false) (A0 0) (A0 1)))))
def M6:Nat->Fn
 |0=>fun _=>none
 |n_+1=>k8 2 (Ap (M6 n_))
theorem Pq{f:Addr}{fd:FuncData}(F:k7 K "_law_same" "_law_same" KD f fd)(T:Txt K mg)(hmg:mg "_law_same"=some (.ref f))(hkp:PySem.W.keepIn K (.ref f)=true)(hbd:Q2 K fd ["_law_found","_law_due"] []):∀n_:Nat,c6 P w K mg base j7 (1+n_) f fd ["_law_found","_law_due"] (k9 K 2 (M6 n_))
 |0=>NH
 |n_+1=>by
  have qH:Def P w K mg base "_law_same" (1+n_) 2 (M6 n_):=⟨_,_,_,Pq F T hmg hkp hbd n_,rfl,hmg,hkp,hbd⟩
  exact G9 F jM fun cdv A outer s H E hr=>(by have n0:=jN;cases T;injections N O5 ND B3 N z K2 a a Bc a a Af Cs y y AX J8;exists (Ch rfl);injections K;exists (L9 (N':=["-0","-1","_law_one","_law_other"]) (keep:=[false,false]) (more:=2) ?_ ?_ ?_ ?_ ?_ ?_ ?_);injections Cf Cb Bk Cs a a AX Y0 Y)
theorem Ps:a9 ["_law_state_here","_law_side","_law_way"] ["_law_state_here","_law_side"] (E1 KE):=F9
theorem jO:(["-0","_law_side","-2","_law_one"]:List Str).Nodup:=by rfl'
theorem jP:(["-0","_law_side","-2","_law_one","_law_other"]:List Str).Nodup:=by rfl'
theorem jQ:(["-0","_law_side","-2","_law_one"]:List Str).Nodup:=by rfl'
theorem jR:(["-0","-1","-2","_law_one","_law_other"]:List Str).Nodup:=by rfl'
def Kq:Mo Fl:=(C4 (D7 2 (c7 2 J6 (F5 0 (B7 (mC (.int 4)) B9)))) (C4 (F1 (mT (B6 (j0 false) (A0 2) (mC (.int 0)))) (D1 (d6 K5 (B0 (mF (D6 (J4 (B0 (A0 1) B4)) [false,true,false] 1 (gN 3) E7 (d6 K5 (B0 (mF (D6 (J4 (B0 (A0 1) B4)) [false,false,false,true] 1 (gN 4) E7 (d6 Ac (B0 (B6 (j0 false) (A0 3) (A0 4)) B4)))) B4)))) B4))) n5) (C4 (F1 (mT (B6 (j0 false) (A0 2) (mC (.int 1)))) (D1 (d6 K5 (B0 (mF (D6 (J4 (B0 (A0 1) B4)) [false,true,false] 1 (gN 3) E7 (d6 K5 (B0 (mF (D6 (J4 (B0 (A0 1) B4)) [false,true,false,true] 1 (gN 4) E7 (d6 Ac (B0 (B6 (j0 false) (B6 D5 (A0 3) (A0 4)) (B6 J0 (A0 1) (mC (.int 1)))) B4)))) B4)))) B4))) n5) (C4 (F1 (S7 (mT (B6 (j0 false) (A0 2) (mC (.int 2)))) (mT (B6 (j0 false) (A0 1) (mC (.int 3))))) (D1 (C9 (B0 (C9 (B0 (mC (.int 0)) (B0 (mC (.int 1)) (B0 (mC (.int 0)) B4)))) (B0 (C9 (B0 (mC (.int 1)) (B0 (Q5 (mC (.int 1))) (B0 (mC (.int 1)) B4)))) (B0 (C9 (B0 (mC (.int 0)) (B0 (mC (.int 1)) (B0 (mC (.int 0)) B4)))) B4))))) n5) (C4 (F1 (S7 (mT (B6 (j0 false) (A0 2) (mC (.int 3)))) (mT (B6 (j0 false) (A0 1) (mC (.int 4))))) (D1 (C9 (B0 (C9 (B0 (mC (.int 0)) (B0 (mC (.int 1)) (B0 (mC (.int 0)) (B0 (mC (.int 0)) B4))))) (B0 (C9 (B0 (mC (.int 0)) (B0 (mC (.int 0)) (B0 (mC (.int 0)) (B0 (mC (.int 1)) B4))))) (B0 (C9 (B0 (mC (.int 1)) (B0 (mC (.int 0)) (B0 (mC (.int 0)) (B0 (mC (.int 0)) B4))))) (B0 (C9 (B0 (mC (.int 0)) (B0 (mC (.int 0)) (B0 (mC (.int 1)) (B0 (mC (.int 0)) B4))))) B4)))))) n5) (D1 (c7 3 U6 (F5 0 (B7 (A0 1) (B7 (A0 1) B9))))))))))
def AU:Fn:=k8 3 Kq
theorem jS{f:Addr}(F:k7 K "_law_even" "_law_even" KE f fd)(T:Txt K mg)(g9:Def P w K mg base "_law_take" 1 2 J6)(k6:Def P w K mg base "_law_table" 2 3 U6):c6 P w K mg base j7 3 f fd ["_law_state_here","_law_side"] (k9 K 2 AU):=
 G9 F Ps fun cdv A outer s H E hr=>(by have n0:=jO;have n1:=jP;have n2:=jQ;have n3:=jR;have n4:=Ps.nd;cases T;injections G Bx Aj H D Cc;exists (L9 (N':=["-0","_law_side","-2","_law_one"]) (keep:=[false,true,false]) (more:=1) ?_ ?_ ?_ ?_ ?_ ?_ ?_);injections Ah T Cc;exists (L9 (N':=["-0","-1","-2","_law_one","_law_other"]) (keep:=[false,false,false,true]) (more:=1) ?_ ?_ ?_ ?_ ?_ ?_ ?_);injections Ah T Q6 DT B5 Y0 B3 C j J9 Aj H D Cc;exists (L9 (N':=["-0","_law_side","-2","_law_one"]) (keep:=[false,true,false]) (more:=1) ?_ ?_ ?_ ?_ ?_ ?_ ?_);injections Ah T Cc;exists (L9 (N':=["-0","_law_side","-2","_law_one","_law_other"]) (keep:=[false,true,false,true]) (more:=1) ?_ ?_ ?_ ?_ ?_ ?_ ?_);injections Ah T Q6 DT B5 Y0 D4 Y i j Bk N Cd K2 H De K2 H D F6 I l P I B B5 w P I l P Bk N Cd K2 H De K2 H D F6 I l Br I l Br I l Br I l Br Bk D O Bt)
theorem Pu:a9 ["_law_script","_law_k","_law_state_here","_law_table_here","_law_some","_law_none","_law_call","_law_odd","_law_bad","_law_every","_law_turn","_law_side","_law_word","_law_due","_law_found"] ["_law_script"] (E1 Cv):=F9
theorem jT:(["-0","-1","-2","-3","-4","-5","-6","-7","-8","-9","-10","-11","_law_word","-13","-14","_law_some"]:List Str).Nodup:=by rfl'
theorem jU:(["-0","-1","-2","-3","-4","-5","-6","-7","-8","-9","-10","-11","-12","-13","-14","_law_word","_law_there"]:List Str).Nodup:=by rfl'
theorem jV:(["-0","-1","-2","-3","_law_some","-5","-6","-7","-8","-9","-10","-11","-12","-13","-14","_law_word","_law_there"]:List Str).Nodup:=by rfl'
theorem jW:(["-0","-1","-2","-3","_law_some","-5","-6","-7","-8","-9","-10","-11","-12","-13","-14","_law_turn"]:List Str).Nodup:=by rfl'
def Pw:Mo Fl:=(C4 (K3 (J4 (B0 (d6 Ci (B0 (mC (.int 1)) (B0 (d6 Cj (B0 (d6 E9 (B0 (A0 0) B4)) (B0 (mC (.int 8)) B4))) B4))) B4)) (gN 1) (C4 (K7 2 (J7 2 Eb (B7 (A0 0) (B7 (A0 1) B9)))) (C4 (D7 3 (c7 3 U6 (F5 2 (B7 (mC (.int 1)) (B7 (mC (.int 6)) B9))))) (C4 (K3 (F3 (mF (J1 (B0 (A0 3) (B0 (c7 2 AU (F5 2 (B7 (B6 D5 (mC (.int 1)) (c7 2 J6 (F5 2 (B7 (mC (.int 6)) B9)))) B9))) (B0 (c7 2 AU (F5 2 (B7 (B6 D5 (mC (.int 3)) (c7 2 J6 (F5 2 (B7 (mC (.int 2)) B9)))) B9))) B4)))))) (gN 4) (C4 (K7 9 (D6 (F3 (mF (J7 0 Ao B9))) [false,false,false,false,true,false,false,false,false,false,false,false,false,false,false] 1 (gN 15) E7 (C9 (B0 (A0 15) (B0 (c7 2 An (B7 (A0 4) (B7 (A0 15) B9))) B4))))) (C4 (K3 (J4 (B0 (mC (.int 2)) B4)) (gN 10) (C4 (K7 14 (J7 1 CI (B7 (A0 4) B9))) (C4 (F1 (G8 (mT (EE (M6 6) 14 (mF (D6 (F3 (A0 9)) [false,false,false,false,true,false,false,false,false,false,false,false,false,false,false] 2 (gT 2 (j3 (gN 15) (j3 (gN 16) pZ))) (mT (B6 (j0 false) (A0 16) (A0 4))) (A0 15)))))) (D1 (mC (.bl false))) n5) (T9 14 (mC (.str "")))))) (F1 (G8 (mT (c7 2 (M6 6) (B7 (c7 1 CJ (B7 (A0 4) B9)) (B7 (d6 CD (B0 (mF (D6 (F3 (A0 9)) [false,false,false,false,false,false,false,false,false,false,false,false,false,false,false] 2 (gT 2 (j3 (gN 15) (j3 (gN 16) pZ))) E7 (A0 16))) B4)) B9))))) (D1 (mC (.bl false))) n5)))) (C4 (D7 5 (c7 1 Ee (F5 2 B9))) (C4 (K3 (F3 (mF (J1 (B0 (mC (.obj (.fn "own_turns"))) (B0 (mC (.obj (.fn "least_turned"))) B4))))) (gN 6) (F1 (mT (B6 (j0 true) (Y9 xN [false,false,false,false,false,true,true,false,false,false,false,false,false,false,false] (y0 1 6 [("own_turns",CI),("least_turned",CJ)] (B7 (A0 5) B9)) (yB 1 6 [("own_turns",DJ),("least_turned",DK)] (B7 (A0 5) B9)) V8) (mC (.int 0)))) (D1 (mC (.bl false))) n5)) (C4 (Q3 (C9 (B0 (B6 D5 (mC (.int 1)) (c7 2 J6 (F5 2 (B7 (mC (.int 4)) B9)))) (B0 (B6 m7 (mF (J7 0 Ao B9)) (c7 2 J6 (F5 2 (B7 (mC (.int 8)) B9)))) B4))) (gT 2 (j3 (gN 11) (j3 (gN 12) pZ)))) (C4 (F1 (mT (B6 xO (A0 1) (mC (.int 2)))) (C4 (K7 13 (D6 (F3 (mF (J7 1 DM (B7 (A0 11) B9)))) [false,false,false,false,false,false,false,false,false,false,false,false,true,false,false] 1 (gN 15) (mT (B6 (j0 false) (c7 2 An (B7 (A0 15) (B7 (A0 12) B9))) (A0 15))) (A0 15))) (C4 (K7 14 (J7 2 V7 (B7 (A0 11) (B7 (A0 12) B9)))) (F1 (G8 (mT (Fq 2 (M6 6) [14,13]))) (D1 (mC (.bl false))) n5))) n5) (C4 (D7 7 (B6 m7 (mF (J1 (B0 (mC (.int 0)) (B0 (mC (.int 5)) (B0 (Q5 (mC (.int 1))) (B0 (mC (.bl true)) (B0 (mC .non) (B0 (mC (.str "1")) (B0 (C9 (B0 (mC (.int 1)) B4)) (B0 (B6 T4 (mC (.int 10)) (mC (.int 29))) (B0 (mF (J1 (B0 (mC (.int 1)) B4))) B4))))))))))) (c7 2 J6 (F5 2 (B7 (mC (.int 9)) B9))))) (C4 (D7 8 (B6 m7 (mF (J1 (B0 (mC (.str "")) (B0 (mC (.str "Left")) (B0 (mC (.str "lef")) (B0 (mC .non) (B0 (mC (.int 0)) (B0 (C9 (B0 (mC (.str "left")) B4)) (B0 (mF (J1 (B0 (mC (.str "left")) B4))) (B0 (mC (.bl true)) B4)))))))))) (c7 2 J6 (F5 2 (B7 (mC (.int 8)) B9))))) (C4 (F1 (mT (B6 (j0 true) (Y9 xN [false,false,false,false,false,false,false,true,true,false,false,false,false,false,false] (mF (J7 2 V7 (B7 (A0 7) (B7 (A0 8) B9)))) (S3 2 AR (B7 (A0 7) (B7 (A0 8) B9))) V8) (mC (.int 6)))) (D1 (mC (.bl false))) n5) (C4 (F1 (mT (B6 (j0 true) (Y9 xN [false,false,false,false,false,false,false,true,false,false,false,false,true,false,false] (mF (J7 2 V7 (B7 (A0 7) (B7 (A0 12) B9)))) (S3 2 AR (B7 (A0 7) (B7 (A0 12) B9))) V8) (mC (.int 6)))) (D1 (mC (.bl false))) n5) (F1 (mT (B6 (j0 true) (Y9 xN [false,false,false,false,false,false,false,false,true,false,false,true,false,false,false] (mF (J7 2 V7 (B7 (A0 11) (B7 (A0 8) B9)))) (S3 2 AR (B7 (A0 11) (B7 (A0 8) B9))) V8) (mC (.int 7)))) (D1 (mC (.bl false))) n5))))))))))))) (D1 (R5 (B6 (j0 false) (mF (J7 2 V7 (B7 (mC (.int 3)) (B7 (mC (.str "left")) B9)))) (mF (J1 (B0 (C9 (B0 (C9 (B0 (mC (.int 0)) (B0 (mC (.int 1)) (B0 (mC (.int 0)) B4)))) (B0 (C9 (B0 (mC (.int 1)) (B0 (Q5 (mC (.int 1))) (B0 (mC (.int 1)) B4)))) (B0 (C9 (B0 (mC (.int 0)) (B0 (mC (.int 1)) (B0 (mC (.int 0)) B4)))) B4)))) B4)))) (B6 (j0 false) (d6 E9 (B0 (mF (J7 2 V7 (B7 (mC (.int 4)) (B7 (mC (.str "stay")) B9)))) B4)) (mC (.int 42))))))
def GS:Fn:=k8 15 Pw
theorem jX{f Pt:Addr}{cd:Value}(F:k7 K "law" "law" Cv f fd)(hcd:fd.code=cd)(T:Txt K mg)(tb:sF K mg base cd "law" Pt)(rJ:Def P w K mg base "_law_state" 2 2 Eb)(k6:Def P w K mg base "_law_table" 2 3 U6)(p8:Def P w K mg base "_law_no_table" 3 1 Ee)(rY:Def P w K mg base "_law_even" 3 2 AU)(tD:Def P w K mg base "left_so" 21 2 V7)(g9:Def P w K mg base "_law_take" 1 2 J6)(qI:tI P w K mg base "_law_refused" 23 22 V8)(rZ:Def P w K mg base "own_turns" 7 1 CI)(qH:Def P w K mg base "_law_same" 7 2 (M6 6))(pN:Def P w K mg base "_law_turn_words" 1 0 Ao)(qR:Def P w K mg base "_law_turned" 1 2 An)(qJ:Def P w K mg base "least_turned" 7 1 CJ)(sP:Def P w K mg base "_law_all" 2 1 DM)(sQ:rE P w K mg base "left_so" 21 2 AR)(rK:rE P w K mg base "own_turns" 7 1 DJ)(p9:rE P w K mg base "least_turned" 7 1 DK):c6 P w K mg base j7 24 f fd ["_law_script"] (xY K [Pt] 1 GS):=
 aX (N:=["_law_script","_law_k","_law_state_here","_law_table_here","_law_some","_law_none","_law_call","_law_odd","_law_bad","_law_every","_law_turn","_law_side","_law_word","_law_due","_law_found"]) (mb:=Pw) F hcd Pu fun A outer s H E tbi hr=>by
  obtain⟨ps0,hP⟩:=tbi Pt (by simp)
  exact(by have n0:=jT;have n1:=jU;have n2:=jV;have n3:=jW;have n4:=Pu.nd;cases T;injections U Bd J8;exists (Ld rfl);injections B B5 J8;exists (Lf rfl);injections B5 y P j E6 f S0 Bt G O L s U K6 Bn b Az u Bx D0 B5 Az u Bx D0 C1 E6 C7;exists (Fz (N':=["-0","-1","-2","-3","_law_some","-5","-6","-7","-8","-9","-10","-11","-12","-13","-14","_law_turn"]) (keep:=[false,false,false,false,true,false,false,false,false,false,false,false,false,false,false]) (more:=1) ?_ ?_ ?_ ?_ ?_ ?_ ?_ ?_ ?_ ?_ ?_);injections K6 F7 IZ T q b Cb At R1 P E6 f S0 F N S Oj F7;exists (L9 (N':=["-0","-1","-2","-3","_law_some","-5","-6","-7","-8","-9","-10","-11","-12","-13","-14","_law_word","_law_there"]) (keep:=[false,false,false,false,true,false,false,false,false,false,false,false,false,false,false]) (more:=2) ?_ ?_ ?_ ?_ ?_ ?_ ?_);injections R Ba Ad Y B3 Af Bo Bs g S t X C5 J8;exists (Ii rfl hr.units);injections K;exists (L9 (N':=["-0","-1","-2","-3","-4","-5","-6","-7","-8","-9","-10","-11","-12","-13","-14","_law_word","_law_there"]) (keep:=[false,false,false,false,false,false,false,false,false,false,false,false,false,false,false]) (more:=2) ?_ ?_ ?_ ?_ ?_ ?_ ?_);injections R Bb C D0 Af G O D0 U K6 Bn IQ B5 IQ C1 E6 g K2;exists (Fd (kc:=21) (N':=["-0","-1","-2","-3","-4","_law_none","_law_call","-7","-8","-9","-10","-11","-12","-13","-14"]) (keep:=[false,false,false,false,false,true,true,false,false,false,false,false,false,false,false]) ?_ ?_ ?_ ?_ ?_ ?_ ?_ ?_ ?_ ?_ ?_ ?_ ?_ ?_ ?_ ?_ ?_ ?_ ?_);injections IT Bj IS F OP Il Il OM PA.nox F Bp Ak F6 M B8 Bx B5 N7 F7 IZ Bx C1 Ba Aj H C7;exists (Fz (N':=["-0","-1","-2","-3","-4","-5","-6","-7","-8","-9","-10","-11","_law_word","-13","-14","_law_some"]) (keep:=[false,false,false,false,false,false,false,false,false,false,false,false,true,false,false]) (more:=1) ?_ ?_ ?_ ?_ ?_ ?_ ?_ ?_ ?_ ?_ ?_);injections K6 k F E6 Ad Cb Y f S0 Bt g S Nz Af J9 G N7 W l B5 w Al Ct V I P M Bl K L6 P C1 Bx G N7 W V V V Ct B I Bs K L6 Bs Al C1 Bx Aj;exists (Fd (kc:=21) (N':=["-0","-1","-2","-3","-4","-5","-6","_law_odd","_law_bad","-9","-10","-11","-12","-13","-14"]) (keep:=[false,false,false,false,false,false,false,true,true,false,false,false,false,false,false]) ?_ ?_ ?_ ?_ ?_ ?_ ?_ ?_ ?_ ?_ ?_ ?_ ?_ ?_ ?_ ?_ ?_ ?_ ?_);injections k Bt d Bt Bp Aj;exists (Fd (kc:=21) (N':=["-0","-1","-2","-3","-4","-5","-6","_law_odd","-8","-9","-10","-11","_law_word","-13","-14"]) (keep:=[false,false,false,false,false,false,false,true,false,false,false,false,true,false,false]) ?_ ?_ ?_ ?_ ?_ ?_ ?_ ?_ ?_ ?_ ?_ ?_ ?_ ?_ ?_ ?_ ?_ ?_ ?_);injections k Bt d Bt Bp g K2;exists (Fd (kc:=21) (N':=["-0","-1","-2","-3","-4","-5","-6","-7","_law_bad","-9","-10","_law_side","-12","-13","-14"]) (keep:=[false,false,false,false,false,false,false,false,true,false,false,true,false,false,false]) ?_ ?_ ?_ ?_ ?_ ?_ ?_ ?_ ?_ ?_ ?_ ?_ ?_ ?_ ?_ ?_ ?_ ?_ ?_);injections k Bt d Bt Bp Cs k L Aq W I I l P I B B5 w P I l P j AX Y0 Q K S0 L Aq C1 B8)
end
def u6:D->Bool
 |.int _=>true
 |_=>false
theorem jY(d:D):AL [.dat d]=some (.d (.bl (u6 d)),[.dat d]):=by cases d<;>rfl
def tX(d:D)(n:Int):Bool:=match d with
 |.tup es=>(es.length:Int)==n&&es.all u6
 |_=>false
theorem jZ(d:D)(n:Int)(hn:n≤1000):Ak [.dat d,.dat (.int n)]=some (.d (.bl (tX d n)),[.dat d,.dat (.int n)]):=by
 cases d with
 |tup es=>
  by_cases h:(es.length:Int)=n
  ·have t:(P5 (G8 (mT (rR "tuple" (A0 0)))) (mT (B6 (j0 true) (d6 E9 (B0 (A0 0) B4)) (A0 1)))) [.dat (.tup es),.dat (.int n)]=some (false,[.dat (.tup es),.dat (.int n)]):=by
    show some (!((es.length:Int)==n),_)=_;rw[h];simp
   obtain⟨e',h1,w,rfl⟩:=Hh (g:=gN 2) (m:=c7 1 AL (B7 (A0 2) B9)) (P:=fun e=>∃w,e=[.nil,.nil,w]) (f:=fun d=>.bl (u6 d)) (ds:=es) (env:=[.nil,.nil,.nil])
    (fun d _ e ⟨w,he⟩=>by
     subst he;refine⟨[.nil,.nil,.dat d],[.nil,.nil,.dat d],rfl,?_,_,rfl⟩;show((AL [.dat d]).map fun q=>(q.1,_)).bind wQ=_
     rw[jY];rfl) ⟨.nil,rfl⟩
   have hl:es.length≤100000:=by omega
   have c:(D6 (F3 (A0 0)) [false,false] 1 (gN 2) E7 (c7 1 AL (B7 (A0 2) B9))) [.dat (.tup es),.dat (.int n)]=some (es.map fun d=>.bl (u6 d),[.dat (.tup es),.dat (.int n)]):=by
    show(if es.length≤100000 then(M1 _ _ _ es [.nil,.nil,.nil]).bind _ else none)=_
    rw[Qn hl,h1];rfl
   unfold Ak k8 KG;show(match C4 _ _ [.dat (.tup es),.dat (.int n)]with|some (.ret d,env)=>_|some (.retL ds,env)=>_|some (.nx,env)=>_|_=>none)=_
   rw[J3 (by rw[U2 t];rfl)]
   have r:(D1 (d6 BB (B0 (mF (D6 (F3 (A0 0)) [false,false] 1 (gN 2) E7 (c7 1 AL (B7 (A0 2) B9)))) B4))) [.dat (.tup es),.dat (.int n)]=some (.ret (.bl (es.all u6)),[.dat (.tup es),.dat (.int n)]):=by
    unfold D1 d6 B0 mF;rw[c];show(((U1 (es.map fun d=>.bl (u6 d))).map fun k=>D.bl k).map _).map _=_
    rw[Bt];rfl
   rw[r];show some (Rr.d (.bl (es.all u6)),_)=_
   simp[tX,h];rfl
  ·have t:(P5 (G8 (mT (rR "tuple" (A0 0)))) (mT (B6 (j0 true) (d6 E9 (B0 (A0 0) B4)) (A0 1)))) [.dat (.tup es),.dat (.int n)]=some (true,[.dat (.tup es),.dat (.int n)]):=by
    show some (!((es.length:Int)==n),_)=_
    simp[h]
   unfold Ak k8 KG;show(match C4 _ _ [.dat (.tup es),.dat (.int n)]with|some (.ret d,env)=>_|some (.retL ds,env)=>_|some (.nx,env)=>_|_=>none)=_
   rw[Q8 (d:=.bl false) (by rw[X0 t];rfl)]
   simp[tX,h];rfl
 |_=>rfl
def yL(d:D)(m n:Int):Bool:=match d with
 |.tup es=>(es.length:Int)==m&&es.all fun r=>tX r n
 |_=>false
theorem kA(d:D)(k n:Int)(hk:k≤1000)(hn:n≤1000):EN [.dat d,.dat (.int k),.dat (.int n)]=some (.d (.bl (yL d k n)),[.dat d,.dat (.int k),.dat (.int n)]):=by
 cases d with
 |tup es=>
  by_cases h:(es.length:Int)=k
  ·have t:(P5 (G8 (mT (rR "tuple" (A0 0)))) (mT (B6 (j0 true) (d6 E9 (B0 (A0 0) B4)) (A0 1)))) [.dat (.tup es),.dat (.int k),.dat (.int n)]=some (false,[.dat (.tup es),.dat (.int k),.dat (.int n)]):=by
    show some (!((es.length:Int)==k),_)=_;rw[h];simp
   obtain⟨e',h1,w,rfl⟩:=Hh (g:=gN 3) (m:=c7 2 Ak (B7 (A0 3) (B7 (A0 2) B9))) (P:=fun e=>∃w,e=[.nil,.nil,.dat (.int n),w]) (f:=fun d=>.bl (tX d n)) (ds:=es) (env:=[.nil,.nil,.dat (.int n),.nil])
    (fun d _ e ⟨w,he⟩=>by
     subst he;refine⟨[.nil,.nil,.dat (.int n),.dat d],[.nil,.nil,.dat (.int n),.dat d],rfl,?_,_,rfl⟩;show((Ak [.dat d,.dat (.int n)]).map fun q=>(q.1,_)).bind wQ=_
     rw[jZ d n hn];rfl) ⟨.nil,rfl⟩
   have hl:es.length≤100000:=by omega
   have c:(D6 (F3 (A0 0)) [false,false,true] 1 (gN 3) E7 (c7 2 Ak (B7 (A0 3) (B7 (A0 2) B9)))) [.dat (.tup es),.dat (.int k),.dat (.int n)]=some (es.map fun d=>.bl (tX d n),[.dat (.tup es),.dat (.int k),.dat (.int n)]):=by
    show(if es.length≤100000 then(M1 _ _ _ es [.nil,.nil,.dat (.int n),.nil]).bind _ else none)=_
    rw[Qn hl,h1];rfl
   refine(M5 (d:=.bl (yL (.tup es) k n)) (env:=[.dat (.tup es),.dat (.int k),.dat (.int n)]) ?_).trans rfl;show EM [.dat (.tup es),.dat (.int k),.dat (.int n)]=_;unfold EM;rw[J3 (by rw[U2 t];rfl)]
   unfold D1 d6 B0 mF;rw[c];show(((U1 (es.map fun d=>.bl (tX d n))).map fun k=>D.bl k).map _).map _=_
   rw[Bt]
   simp[yL,h]
  ·have t:(P5 (G8 (mT (rR "tuple" (A0 0)))) (mT (B6 (j0 true) (d6 E9 (B0 (A0 0) B4)) (A0 1)))) [.dat (.tup es),.dat (.int k),.dat (.int n)]=some (true,[.dat (.tup es),.dat (.int k),.dat (.int n)]):=by
    show some (!((es.length:Int)==k),_)=_
    simp[h]
   refine(M5 (d:=.bl (yL (.tup es) k n)) (env:=[.dat (.tup es),.dat (.int k),.dat (.int n)]) ?_).trans rfl;show EM [.dat (.tup es),.dat (.int k),.dat (.int n)]=_;unfold EM;rw[Q8 (d:=.bl false) (by rw[X0 t];rfl)]
   simp[yL,h]
 |_=>rfl
def u7(d:D)(a b:Int):Bool:=match d with
 |.tup es=>(decide (a≤(es.length:Int))&&decide ((es.length:Int)≤b))&&es.all fun r=>tX r es.length
 |_=>false
theorem kB(d:D)(a b:Int)(hb:b≤1000):Cw [.dat d,.dat (.int a),.dat (.int b)]=some (.d (.bl (u7 d a b)),[.dat d,.dat (.int a),.dat (.int b)]):=by
 cases d with
 |tup es=>
  have t:(P5 (G8 (mT (rR "tuple" (A0 0)))) (G8 (mT (T5 sB sB (A0 1) (d6 E9 (B0 (A0 0) B4)) (A0 2))))) [.dat (.tup es),.dat (.int a),.dat (.int b)]=some (!(decide (a≤(es.length:Int))&&decide ((es.length:Int)≤b)),[.dat (.tup es),.dat (.int a),.dat (.int b)]):=by
   by_cases h1:a≤(es.length:Int)
   ·have e1:sB (.int a) (.int es.length)=some (.bl true):=by show some (D.bl (decide _))=_;simp[h1]
    show(((match sB (.int a) (.int es.length)with|some (.bl true)=>_|some (.bl false)=>_|_=>none:Option (D×c5)).bind zL).map _)=_
    rw[e1,Ye h1];rfl
   ·have e1:sB (.int a) (.int es.length)=some (.bl false):=by show some (D.bl (decide _))=_;simp[h1]
    show(((match sB (.int a) (.int es.length)with|some (.bl true)=>_|some (.bl false)=>_|_=>none:Option (D×c5)).bind zL).map _)=_
    rw[e1,Qt h1];rfl
  by_cases h:(decide (a≤(es.length:Int))&&decide ((es.length:Int)≤b))=true
  ·rw[h]at t
   refine(M5 (d:=.bl (u7 (.tup es) a b)) (env:=[.dat (.tup es),.dat (.int a),.dat (.int b)]) ?_).trans rfl;show ER [.dat (.tup es),.dat (.int a),.dat (.int b)]=_;unfold ER;rw[J3 (by rw[U2 t];rfl)]
   have hl:(es.length:Int)≤1000:=by
    rw[Qy,Zh,Zh]at h
    omega
   show(((EN [.dat (.tup es),.dat (.int es.length),.dat (.int es.length)]).map fun q=>(q.1,_)).bind wQ).map _=_
   rw[kA _ _ _ hl hl]
   simp[u7,yL,h,wQ]
  ·have h':(decide (a≤(es.length:Int))&&decide ((es.length:Int)≤b))=false:=by simpa using h
   rw[h']at t;refine(M5 (d:=.bl (u7 (.tup es) a b)) (env:=[.dat (.tup es),.dat (.int a),.dat (.int b)]) ?_).trans rfl;show ER [.dat (.tup es),.dat (.int a),.dat (.int b)]=_;unfold ER;rw[Q8 (d:=.bl false) (by rw[X0 t];rfl)]
   simp[u7,h']
 |_=>rfl
def dR(l:List Int):D:=.tup (l.map .int)
def dT(R:OI):D:=.tup (R.map dR)
def u9:D->Int
 |.int i=>i
 |_=>0
def o9:D->List Int
 |.tup es=>es.map u9
 |.lst es=>es.map u9
 |_=>[]
def uN:D->OI
 |.tup es=>es.map o9
 |_=>[]
theorem kC(h:u6 d=true):d=.int (u9 d):=by cases d<;>first|rfl|cases h
theorem Px(h:es.all u6=true):es=(es.map u9).map .int:=by
 induction es with
 |nil=>rfl
 |cons d es ih=>
  rw[Vq,Qy]at h;rw[Qh,Qh,←kC h.1,←ih h.2]
theorem GU{n:Int}(h:tX d n=true):d=dR (o9 d)/\((o9 d).length:Int)=n:=by
 cases d<;>first|cases h|skip
 rename_i es;simp only[tX,Qy,Za]at h;refine⟨?_,by simp[o9,h.1]⟩
 show D.tup es=.tup ((es.map u9).map .int);rw[←Px h.2]
theorem Py{b:Int}(h:u7 d a b=true):d=dT (uN d)/\a≤((uN d).length:Int)/\((uN d).length:Int)≤b/\∀r∈uN d,r.length=(uN d).length:=by
 cases d<;>first|cases h|skip
 rename_i es;simp only[u7,Qy,Zh,Qw]at h;refine⟨?_,by simpa [uN]using h.1.1,by simpa [uN]using h.1.2,fun r hr=>?_⟩
 ·show D.tup es=.tup ((es.map o9).map dR)
  congr 1
  rw[Zk]
  conv=>lhs;rw[←Xv es]
  exact Yv fun x hx=>(GU (h.2 x hx)).1
 ·obtain⟨x,hx,rfl⟩:=Zq.mp hr
  have:=(GU (h.2 x hx)).2;simp only[uN,Qk]
  omega
theorem kD(l:List Int):(l.map D.int).map u9=l:=by rw[Zk];exact Xv l
theorem Pz(l:List Int):o9 (dR l)=l:=kD l
theorem GV(R:OI):uN (dT R)=R:=by
 show(R.map dR).map o9=R;rw[Zk]
 conv=>rhs;rw[←Xv R]
 exact Yv fun r _=>Pz r
theorem kE(l:List Int):tX (dR l) l.length=true:=by
 simp[tX,dR,u6]
theorem QA{b:Int}(h1:a≤R.length)(h2:(R.length:Int)≤b)(h:∀r∈R,r.length=R.length):u7 (dT R) a b=true:=by
 simp only[u7,dT,Qk,Qy,Zh,Qw];refine⟨⟨h1,h2⟩,fun x hx=>?_⟩
 obtain⟨r,hr,rfl⟩:=Zq.mp hx;have:=kE r;rw[h r hr]at this;exact this
theorem Aq{xs:List α}{x:α}(h:xs[j]? =some x):tZ xs (j:Int)=some x:=by
 have hj:j<xs.length:=(Qg.mp h).1
 unfold tZ vK;rw[Qn (by omega),Qn (by omega)]
 simpa using h
theorem BS(n:Nat):R8 0 n=(List.range n).map fun(i:Nat)=>D.int i:=by
 unfold R8;exact Yv fun i _=>by simp
theorem BU{g:OZ}{P:c5->Prop}{q:α->D}{f:α->D}{l:List α}(h:∀a∈l,∀e,P e->∃e1 e2,g (q a) e=some e1/\m e1=some (f a,e2)/\P e2)(p:P env):
  ∃env',M1 g E7 m (l.map q) env=some (l.map f,env')/\P env':=by
 induction l generalizing env with
 |nil=>exact⟨env,rfl,p⟩
 |cons a l ih=>
  obtain⟨e1,e2,h1,h2,h3⟩:=h a (by simp) env p
  obtain⟨e3,h4,h5⟩:=ih (fun x hx=>h x (by simp[hx])) h3
  refine⟨e3,?_,h5⟩;rw[Qh,Qh];unfold M1;rw[h1];simp only[Qj,E7,Zn];rw[h2];simp only[Qj];rw[h4];rfl
def flip(n:Nat)(R:OI):OI:=(List.range n).map fun j=>R.map fun r=>r.getD j 0
theorem kF(h:∀r∈R,r.length=n)(hj:j<n)(hr:r∈R):m7 (dR r) (.int (j:Int))=some (.int (r.getD j 0)):=by
 show tZ (r.map D.int) (j:Int)=_
 apply Aq
 have:=h r hr
 simp[Zf (show j<r.length by omega)]
theorem QB(hR:R≠[])(h:∀r∈R,r.length=n)(hn:n≤1000)(hl:R.length≤1000):V6 [.dat (dT R)]=some (.d (dT (flip n R)),[.dat (dT R)]):=by
 obtain⟨r0,R',rfl⟩:∃r0 R',R=r0::R':=by
  cases R with
  |nil=>exact absurd rfl hR
  |cons a b=>exact⟨a,b,rfl⟩
 have h0:r0.length=n:=h r0 (by simp)
 have inner:∀j,j<n->(d6 K5 (B0 (mF (D6 (F3 (A0 0)) [false,true] 1 (gN 2) E7 (B6 m7 (A0 2) (A0 1)))) B4)) [.dat (dT (r0::R')),.dat (.int (j:Int))]=some (dR ((r0::R').map fun r=>r.getD j 0),[.dat (dT (r0::R')),.dat (.int (j:Int))]):=fun j hj=>by
  obtain⟨e',h1,w',rfl⟩:=BU (g:=gN 2) (m:=B6 m7 (A0 2) (A0 1)) (P:=fun e=>∃w,e=[.nil,.dat (.int (j:Int)),w]) (q:=dR) (f:=fun r=>.int (r.getD j 0)) (l:=r0::R') (env:=[.nil,.dat (.int (j:Int)),.nil])
   (fun r hr e ⟨w,he⟩=>by
    subst he;refine⟨[.nil,.dat (.int (j:Int)),.dat (dR r)],[.nil,.dat (.int (j:Int)),.dat (dR r)],rfl,?_,_,rfl⟩;show(m7 (dR r) (.int (j:Int))).map _=_;rw[kF h hj hr];rfl) ⟨.nil,rfl⟩
  have hl':((r0::R').map dR).length≤100000:=by rw[Qk];omega
  have c:(D6 (F3 (A0 0)) [false,true] 1 (gN 2) E7 (B6 m7 (A0 2) (A0 1))) [.dat (dT (r0::R')),.dat (.int (j:Int))]=some ((r0::R').map fun r=>.int (r.getD j 0),[.dat (dT (r0::R')),.dat (.int (j:Int))]):=by
   show(if((r0::R').map dR).length≤100000 then(M1 _ _ _ ((r0::R').map dR) [.nil,.dat (.int (j:Int)),.nil]).bind _ else none)=_
   rw[Qn hl',h1];rfl
  unfold d6 B0 mF;rw[c];show some (D.tup _,_)=_;unfold dR;rw[Zk];rfl
 obtain⟨e',h1,w,rfl⟩:=BU (g:=gN 1) (m:=d6 K5 (B0 (mF (D6 (F3 (A0 0)) [false,true] 1 (gN 2) E7 (B6 m7 (A0 2) (A0 1)))) B4)) (P:=fun e=>∃w,e=[.dat (dT (r0::R')),w]) (q:=fun(j:Nat)=>D.int j) (f:=fun j=>dR ((r0::R').map fun r=>r.getD j 0)) (l:=List.range n) (env:=[.dat (dT (r0::R')),.nil])
  (fun j hj e ⟨w,he⟩=>by
   subst he;exact⟨_,_,rfl,inner j (Zo.mp hj),_,rfl⟩) ⟨.nil,rfl⟩
 refine(M5 (d:=dT (flip n (r0::R'))) (env:=[.dat (dT (r0::R'))]) ?_).trans rfl;show KH [.dat (dT (r0::R'))]=_;unfold KH;have hrg:(J4 (B0 (d6 E9 (B0 (B6 m7 (A0 0) (mC (.int 0))) B4)) B4)) [.dat (dT (r0::R'))]=some (R8 0 n,[.dat (dT (r0::R'))]):=by
  have e:(B0 (d6 E9 (B0 (B6 m7 (A0 0) (mC (.int 0))) B4)) B4) [.dat (dT (r0::R'))]=some ([.int (n:Int)],[.dat (dT (r0::R'))]):=by
   refine E5 (O0 (E5 (D8 rfl rfl (show m7 (dT (r0::R')) (.int 0)=some (dR r0)from Aq (xs:=(r0::R').map dR) (j:=0) rfl)) rfl) ?_) rfl
   show some (D.int ((r0.map D.int).length:Nat))=_;rw[Qk,h0]
  have:=Dt e (by omega) (by omega)
  rwa [Jq]at this
 have c:(D6 (J4 (B0 (d6 E9 (B0 (B6 m7 (A0 0) (mC (.int 0))) B4)) B4)) [true] 1 (gN 1) E7 (d6 K5 (B0 (mF (D6 (F3 (A0 0)) [false,true] 1 (gN 2) E7 (B6 m7 (A0 2) (A0 1)))) B4))) [.dat (dT (r0::R'))]=some ((List.range n).map fun j=>dR ((r0::R').map fun r=>r.getD j 0),[.dat (dT (r0::R'))]):=by
  refine Ad (e2:=[.dat (dT (r0::R')),w]) hrg (by rw[BS];simp;omega) ?_ rfl
  rw[BS];exact h1
 refine L8 (O0 (E5 (K4 c) rfl) ?_);show some (D.tup _)=_;unfold dT flip;rw[Zk];rfl
def tt:Int->List Int->Bool
 |s,[]=>s==1
 |s,x::l=>(s+x==0||s+x==1)&&tt (s+x) l
abbrev X5:Mo Fl:=(C4 (AZ 1 Dc (A0 2)) (F1 (mT (B6 (wR true) (A0 1) (C9 (B0 (mC (.int 0)) (B0 (mC (.int 1)) B4))))) (D1 (mC (.bl false))) n5))
theorem kG(L:D)(s x:Int):X5 [.dat L,.dat (.int s),.dat (.int x)]=some (stop (s+x==0||s+x==1) (.bl false),[.dat L,.dat (.int (s+x)),.dat (.int x)]):=by
 have t:(mT (B6 (wR true) (A0 1) (C9 (B0 (mC (.int 0)) (B0 (mC (.int 1)) B4))))) [.dat L,.dat (.int (s+x)),.dat (.int x)]=some (!(s+x==0||s+x==1),[.dat L,.dat (.int (s+x)),.dat (.int x)]):=by
  show some (!(List.contains [(0:Int),1] (s+x)),_)=_;rw[Vv,Vv,List.contains_nil,Bool.or_false]
 unfold X5;rw[J3 (e1:=[.dat L,.dat (.int (s+x)),.dat (.int x)]) rfl];cases hb:(s+x==0||s+x==1)with
 |true=>rw[hb]at t;rw[U2 t];rfl
 |false=>rw[hb]at t;rw[X0 t];rfl
theorem QC(L:D):∀(l:List Int) (s:Int) (w:W),(∃s' w',loop (gN 2) X5 (l.map .int) [.dat L,.dat (.int s),w]=some (.nx,[.dat L,.dat (.int s'),w'])/\tt s l=(s'==1))\/(tt s l=false/\∃e,loop (gN 2) X5 (l.map .int) [.dat L,.dat (.int s),w]=some (.ret (.bl false),e)/\e.length=3/\e[0]? =some (.dat L))
 |[],s,w=>.inl ⟨s,w,rfl,rfl⟩
 |x::l,s,w=>by
  have h:=kG L s x
  cases hb:(s+x==0||s+x==1)with
  |true=>
   rw[hb]at h;have e:∀r,loop (gN 2) X5 ((x::l).map .int) [.dat L,.dat (.int s),w]=r↔loop (gN 2) X5 (l.map .int) [.dat L,.dat (.int (s+x)),.dat (.int x)]=r:=fun r=>by
    rw[Qh];have:loop (gN 2) X5 (D.int x::l.map .int) [.dat L,.dat (.int s),w]=loop (gN 2) X5 (l.map .int) [.dat L,.dat (.int (s+x)),.dat (.int x)]:=by
     show(X5 [.dat L,.dat (.int s),.dat (.int x)]).bind _=_;rw[h];rfl
    rw[this]
   have et:tt s (x::l)=tt (s+x) l:=by simp[tt,hb]
   rw[et]
   rcases QC L l (s+x) (.dat (.int x))with⟨s',w',h1,h2⟩|⟨h1,e',h2,h3⟩
   ·exact .inl ⟨s',w',(e _).mpr h1,h2⟩
   ·exact .inr ⟨h1,e',(e _).mpr h2,h3⟩
  |false=>
   rw[hb]at h;refine .inr ⟨by simp[tt,hb],[.dat L,.dat (.int (s+x)),.dat (.int x)],?_,rfl,rfl⟩
   rw[Qh];show(X5 [.dat L,.dat (.int s),.dat (.int x)]).bind _=_;rw[h];rfl
theorem kH(l:List Int):CG [.dat (dR l)]=some (.d (.bl (tt 0 l)),[.dat (dR l)]):=by
 have hi:(K3 (F3 (A0 0)) (gN 2) X5) [.dat (dR l),.dat (.int 0),.nil]=loop (gN 2) X5 (l.map .int) [.dat (dR l),.dat (.int 0),.nil]:=rfl
 rcases QC (dR l) l 0 .nil with⟨s',w',h1,h2⟩|⟨h1,e',h2,h3,h4⟩
 ·refine(M5 (d:=.bl (tt 0 l)) (env:=[.dat (dR l),.dat (.int s'),w']) ?_).trans rfl
  show EU [.dat (dR l),.nil,.nil]=_;unfold EU;rw[J3 (e1:=[.dat (dR l),.dat (.int 0),.nil]) rfl,J3 (hi.trans h1)];show some (Fl.ret (.bl (s'==1)),_)=_;rw[h2]
 ·refine(M5 (d:=.bl (tt 0 l)) (env:=e') ?_).trans ?_
  ·show EU [.dat (dR l),.nil,.nil]=_
   unfold EU;rw[J3 (e1:=[.dat (dR l),.dat (.int 0),.nil]) rfl,Q8 (hi.trans h2),h1]
  ·match e',h3,h4 with
   |[a,b,c],_,h4=>cases h4;rfl
def qY(d:D):Bool:=u7 d 1 6&&(uN d++flip (uN d).length (uN d)).all (tt 0)
theorem QD:(flip n R).length=n:=by simp[flip]
theorem QE(d:D):Cy [.dat d]=some (.d (.bl (qY d)),[.dat d]):=by
 have t:(G8 (mT (c7 3 Cw (B7 (A0 0) (B7 (mC (.int 1)) (B7 (mC (.int 6)) B9)))))) [.dat d]=some (!u7 d 1 6,[.dat d]):=by
  show((((Cw [.dat d,.dat (.int 1),.dat (.int 6)]).map fun q=>(q.1,_)).bind wQ).bind zL).map _=_
  rw[kB d 1 6 (by decide)];rfl
 refine(M5 (d:=.bl (qY d)) (env:=[.dat d]) ?_).trans rfl;show KI [.dat d]=_;unfold KI;cases hs:u7 d 1 6 with
 |false=>
  rw[hs]at t;rw[Q8 (d:=.bl false) (by rw[X0 t];rfl)]
  simp[qY,hs]
 |true=>
  rw[hs]at t;rw[J3 (by rw[U2 t];rfl)]
  obtain⟨h1,h2,h3,h4⟩:=Py hs;generalize uN d=R at h1 h2 h3 h4;subst h1;have fl:V6 [.dat (dT R)]=some (.d (dT (flip R.length R)),[.dat (dT R)]):=QB (by intro z;subst z;simp at h2) h4 (by omega) (by omega)
  have it:(F3 (B6 D5 (A0 0) (c7 1 V6 (B7 (A0 0) B9)))) [.dat (dT R)]=some ((R++flip R.length R).map dR,[.dat (dT R)]):=by
   show(((((V6 [.dat (dT R)]).map fun q=>(q.1,_)).bind wQ).bind fun q=>(D5 (dT R) q.1).map fun d=>(d,q.2)).bind _)=_
   rw[fl];show((D5 (dT R) (dT (flip R.length R))).map fun d=>(d,([.dat (dT R)]:c5))).bind _=_
   have:D5 (dT R) (dT (flip R.length R))=some (.tup ((R++flip R.length R).map dR)):=by
    show(if(R.map dR).length+((flip R.length R).map dR).length≤10000 then _ else none)=_
    rw[Qn (by rw[Qk,Qk,QD];omega),Jf]
   rw[this];rfl
  obtain⟨e',h5,w,rfl⟩:=BU (g:=gN 1) (m:=c7 1 CG (B7 (A0 1) B9)) (P:=fun e=>∃w,e=[.nil,w]) (q:=dR) (f:=fun r=>.bl (tt 0 r)) (l:=R++flip R.length R) (env:=[.nil,.nil])
   (fun r _ e ⟨w,he⟩=>by
    subst he;refine⟨[.nil,.dat (dR r)],[.nil,.dat (dR r)],rfl,?_,_,rfl⟩;show((CG [.dat (dR r)]).map fun q=>(q.1,_)).bind wQ=_
    rw[kH];rfl) ⟨.nil,rfl⟩
  have c:(D6 (F3 (B6 D5 (A0 0) (c7 1 V6 (B7 (A0 0) B9)))) [false] 1 (gN 1) E7 (c7 1 CG (B7 (A0 1) B9))) [.dat (dT R)]=some ((R++flip R.length R).map fun r=>.bl (tt 0 r),[.dat (dT R)]):=by
   unfold D6;rw[it];show(if((R++flip R.length R).map dR).length≤100000 then(M1 _ _ _ ((R++flip R.length R).map dR) [.nil,.nil]).bind _ else none)=_
   rw[Qn (by rw[Qk,Qa,QD];omega),h5];rfl
  unfold D1 d6 B0 mF;rw[c];show(((U1 ((R++flip R.length R).map fun r=>.bl (tt 0 r))).map fun k=>D.bl k).map _).map _=_
  rw[Bt];simp only[qY,hs,GV,Yn];rfl
theorem DN{i j:Int}(h:Bk i j=true):N9 (.int i) (.int j)=some (.int (i * j)):=by
 unfold N9 yV HE fI;simp only[h,Zn]
theorem Ef{i j:Int}(h1: -18446744073709551616<i)(h2:i<18446744073709551616):Bk i j=true:=by
 unfold Bk;rw[show((2:Int)^64)=18446744073709551616 from rfl]
 simp[h1,h2]
theorem kI{i j:Int}(h1: -18446744073709551616<j)(h2:j<18446744073709551616):Bk i j=true:=by
 unfold Bk;rw[show((2:Int)^64)=18446744073709551616 from rfl]
 simp[h1,h2]
theorem BV:∀l:List Int,K9 (l.map D.int)=l.map PyData.int
 |[]=>rfl
 |x::l=>by show PyData.int x::K9 (l.map D.int)=_;rw[BV l];rfl
theorem By:∀l:List Int,PyData.canLayAll0 (l.map PyData.int)=true
 |[]=>rfl
 |x::l=>by show(true&&PyData.canLayAll0 (l.map PyData.int))=true;rw[By l];rfl
theorem Kr:∀l:List Int,PyData.depthAll (l.map PyData.int)=0
 |[]=>rfl
 |x::l=>by show max 0 (PyData.depthAll (l.map PyData.int))=0;rw[Kr l];rfl
theorem Ks:∀l k:List Int,PyData.eqvAll (l.map PyData.int) (k.map PyData.int)=decide (l=k)
 |[],[]=>rfl
 |[],_::_=>rfl
 |_::_,[]=>rfl
 |x::l,y::k=>by
  show((x==y)&&PyData.eqvAll (l.map PyData.int) (k.map PyData.int))=_;rw[Ks l k]
  by_cases h:x=y
  ·subst h;simp
  ·simp[h]
theorem QF(l:List Int):v8 (.lst (l.map D.int))=true:=by
 unfold v8 SeqAt.shaped;show(PyData.canLayAll0 (K9 (l.map D.int))&&decide (PyData.depthAll (K9 (l.map D.int))+1≤64))=true;rw[BV,By,Kr];rfl
theorem kJ(l k:List Int):j0 false (.lst (l.map D.int)) (.lst (k.map D.int))=some (.bl (decide (l=k))):=by
 unfold j0;rw[QF,QF];show some (D.bl (PyData.eqvAll (K9 (l.map D.int)) (K9 (k.map D.int))))=_;rw[BV,BV,Ks]
theorem Kt{α:Type}{g:OZ}{t:Mo Bool}{m:Mo D}{P:c5->Prop}{q:α->D}{f:α->D}{p:α->Bool}:∀{l:List α}{env:c5},(∀a∈l,∀e,P e->∃e1 e2,g (q a) e=some e1/\t e1=some (p a,e2)/\(p a=true->∃e3,m e2=some (f a,e3)/\P e3)/\(p a=false->P e2))->P env->
  ∃env',M1 g t m (l.map q) env=some ((l.filter p).map f,env')/\P env'
 |[],env,_,h=>⟨env,rfl,h⟩
 |a::l,env,h,hp=>by
  obtain⟨e1,e2,h1,h2,h3,h4⟩:=h a (by simp) env hp
  cases hb:p a with
  |true=>
   obtain⟨e3,h5,h6⟩:=h3 hb;obtain⟨e4,h7,h8⟩:=Kt (l:=l) (fun x hx=>h x (by simp[hx])) h6
   refine⟨e4,?_,h8⟩;rw[Qh,Uk hb,Qh];unfold M1;rw[h1];simp only[Qj];rw[h2,hb];simp only[Qj,Zn];rw[h5];simp only[Qj];rw[h7];rfl
  |false=>
   obtain⟨e4,h7,h8⟩:=Kt (l:=l) (fun x hx=>h x (by simp[hx])) (h4 hb)
   refine⟨e4,?_,h8⟩;rw[Qh,Ux (by simp[hb])]
   unfold M1;rw[h1];simp only[Qj];rw[h2,hb];simp only[Qj,Zx,Ys];exact h7
def vD(d:D)(a b:Int):Bool:=match d with
 |.int i=>decide (a≤i)&&decide (i≤b)
 |_=>false
theorem QG{i b:Int}{mc:Mo D}(h1:ma e=some (.int a,e))(h2:mb e=some (.int i,e))(h3:mc e=some (.int b,e)):T5 sB sB ma mb mc e=some (.bl (decide (a≤i)&&decide (i≤b)),e):=by
 unfold T5;rw[h1];show(mb e).bind _=_;rw[h2]
 by_cases h:a≤i
 ·have e1:sB (.int a) (.int i)=some (.bl true):=by show some (D.bl (decide _))=_;simp[h]
  simp only[Qj,e1];rw[h3];show some (D.bl (decide (i≤b)),e)=_
  simp[h]
 ·have e1:sB (.int a) (.int i)=some (.bl false):=by show some (D.bl (decide _))=_;simp[h]
  simp only[Qj,e1]
  simp[h]
theorem kK(d:D)(a b:Int):Am [.dat d,.dat (.int a),.dat (.int b)]=some (.d (.bl (vD d a b)),[.dat d,.dat (.int a),.dat (.int b)]):=by
 cases d with
 |int i=>
  refine(M5 (d:=.bl (vD (.int i) a b)) (env:=[.dat (.int i),.dat (.int a),.dat (.int b)]) ?_).trans rfl;show Kk [.dat (.int i),.dat (.int a),.dat (.int b)]=_;unfold Kk;have c:=QG (e:=[.dat (.int i),.dat (.int a),.dat (.int b)]) (ma:=A0 1) (mb:=A0 0) (mc:=A0 2) rfl rfl rfl;exact L8 c
 |_=>rfl
def uA(l:List Int):Bool:=decide (l.filter (fun x=>!(x==0))=(List.range (l.filter fun x=>!(x==0)).length).map fun(i:Nat)=>1-2 * ((i:Int)%2))&&(((l.filter fun x=>!(x==0)).length:Int)%2==1)
theorem QH(d:D)(l:List Int)(hd:d.items=some (l.map .int))(hl:l.length≤1000):AS [.dat d]=some (.d (.bl (uA l)),[.dat d]):=by
 obtain⟨e',h1,w,rfl⟩:=Kt (g:=gN 2) (t:=mT (B6 (j0 true) (A0 2) (mC (.int 0)))) (m:=A0 2) (P:=fun e=>∃w,e=[.nil,.nil,w]) (q:=D.int) (f:=D.int) (p:=fun x=>!(x==0)) (l:=l) (env:=[.nil,.nil,.nil])
  (fun x _ e ⟨w,he⟩=>by
   subst he;exact⟨[.nil,.nil,.dat (.int x)],[.nil,.nil,.dat (.int x)],rfl,rfl,fun _=>⟨_,rfl,_,rfl⟩,fun _=>⟨_,rfl⟩⟩) ⟨.nil,rfl⟩
 generalize hs:l.filter (fun x=>!(x==0))=s at h1
 have sS:s.length≤1000:=by rw[←hs];exact Zp (Ut _ _) hl
 have c1:(D6 (F3 (A0 0)) [false,false] 1 (gN 2) (mT (B6 (j0 true) (A0 2) (mC (.int 0)))) (A0 2)) [.dat d,.nil]=some (s.map .int,[.dat d,.nil]):=
  Ad (e2:=[.nil,.nil,w]) (V2 rfl hd) (by rw[Qk];omega) h1 rfl
 obtain⟨e',h2,w2,rfl⟩:=BU (g:=gN 2) (m:=B6 J0 (mC (.int 1)) (B6 N9 (mC (.int 2)) (B6 P4 (A0 2) (mC (.int 2))))) (P:=fun e=>∃w,e=[.nil,.nil,w]) (q:=fun(i:Nat)=>D.int i) (f:=fun i=>.int (1-2 * ((i:Int)%2))) (l:=List.range s.length) (env:=[.nil,.nil,.nil])
  (fun i _ e ⟨w,he⟩=>by
   subst he;refine⟨[.nil,.nil,.dat (.int i)],[.nil,.nil,.dat (.int i)],rfl,?_,_,rfl⟩;refine D8 (b:=.int (2 * ((i:Int)%2))) rfl (D8 rfl (D8 rfl rfl (show P4 (.int i) (.int 2)=some (.int ((i:Int)%2))from rfl)) ?_) rfl
   exact DN (Ef (by decide) (by decide))) ⟨.nil,rfl⟩
 have c2:(D6 (J4 (B0 (d6 E9 (B0 (A0 1) B4)) B4)) [false,false] 1 (gN 2) E7 (B6 J0 (mC (.int 1)) (B6 N9 (mC (.int 2)) (B6 P4 (A0 2) (mC (.int 2)))))) [.dat d,.dat (.lst (s.map .int))]=some (((List.range s.length).map fun(i:Nat)=>1-2 * ((i:Int)%2)).map D.int,[.dat d,.dat (.lst (s.map .int))]):=by
  have r1:(J4 (B0 (d6 E9 (B0 (A0 1) B4)) B4)) [.dat d,.dat (.lst (s.map .int))]=some (R8 0 s.length,[.dat d,.dat (.lst (s.map .int))]):=by
   have e:(B0 (d6 E9 (B0 (A0 1) B4)) B4) [.dat d,.dat (.lst (s.map .int))]=some ([.int (s.length:Int)],[.dat d,.dat (.lst (s.map .int))]):=by
    refine E5 (O0 (E5 rfl rfl) ?_) rfl;show some (D.int ((s.map D.int).length:Nat))=_;rw[Qk]
   have:=Dt e (by omega) (by omega)
   rwa [Jq]at this
  refine Ad (e2:=[.nil,.nil,w2]) r1 (by rw[BS];simp;omega) ?_ rfl
  rw[BS,Zk];exact h2
 refine(M5 (d:=.bl (uA l)) (env:=[.dat d,.dat (.lst (s.map .int))]) ?_).trans rfl;show Kl [.dat d,.nil]=_;unfold Kl;rw[J3 (Ms c1)];show D1 _ [.dat d,.own (s.map .int)]=_;refine L8 ?_
 have a1:(B6 (j0 false) (A0 1) (mF (D6 (J4 (B0 (d6 E9 (B0 (A0 1) B4)) B4)) [false,false] 1 (gN 2) E7 (B6 J0 (mC (.int 1)) (B6 N9 (mC (.int 2)) (B6 P4 (A0 2) (mC (.int 2)))))))) [.dat d,.own (s.map .int)]=some (.bl (decide (s=(List.range s.length).map fun(i:Nat)=>1-2 * ((i:Int)%2))),[.dat d,.dat (.lst (s.map .int))]):=
  D8 (e1:=[.dat d,.dat (.lst (s.map .int))]) rfl (K4 c2) (kJ _ _)
 have a2:(B6 (j0 false) (B6 P4 (d6 E9 (B0 (A0 1) B4)) (mC (.int 2))) (mC (.int 1))) [.dat d,.dat (.lst (s.map .int))]=some (.bl ((s.length:Int)%2==1),[.dat d,.dat (.lst (s.map .int))]):=by
  refine D8 (D8 (O0 (E5 rfl rfl) (show E9 [.lst (s.map .int)]=some (.int (s.length:Int))from ?_)) rfl rfl) rfl rfl
  show some (D.int ((s.map D.int).length:Nat))=_;rw[Qk]
 unfold R5;rw[a1];simp only[Qj];unfold uA;rw[hs];cases hb:decide (s=(List.range s.length).map fun(i:Nat)=>1-2 * ((i:Int)%2))with
 |true=>simp only[Yn];exact a2
 |false=>simp only[Uq]
def alt:Int->Nat->List Int
 |_,0=>[]
 |s,k+1=>(1-2 * s)::alt (1-s) k
theorem QI:∀(k j:Nat),(List.range' j k).map (fun(i:Nat)=>1-2 * ((i:Int)%2))=alt ((j:Int)%2) k
 |0,_=>rfl
 |k+1,j=>by
  rw[List.range'_succ,Qh,QI k (j+1)];show _=(1-2 * ((j:Int)%2))::alt (1-(j:Int)%2) k
  congr 2
  omega
theorem kL(k:Nat):(List.range k).map (fun(i:Nat)=>1-2 * ((i:Int)%2))=alt 0 k:=by
 rw[List.range_eq_range'];exact QI k 0
def small(x:Int):Bool:=decide (-1≤x)&&decide (x≤1)
theorem kM(l:List Int):∀s:Int,(s=0\/s=1)->tt s l=tt s (l.filter fun x=>!(x==0)):=by
 induction l with
 |nil=>intro s _;rfl
 |cons x l ih=>
  intro s hs
  by_cases hx:x=0
  ·subst hx
   rw[Ux (by simp),←ih s hs]
   rcases hs with rfl|rfl<;>simp[tt]
  ·rw[Uk (by simp[hx])]
   simp only[tt]
   by_cases h:(s+x==0||s+x==1)=true
   ·rw[h,Yn,Yn]
    exact ih (s+x) (by simpa using h)
   ·have h':(s+x==0||s+x==1)=false:=by simpa using h
    rw[h',Uq,Uq]
theorem kN(l:List Int):∀s:Int,(s=0\/s=1)->(∀x∈l,x=1\/x= -1)->tt s l=(decide (l=alt s l.length)&&((l.length:Int)+s)%2==1):=by
 induction l with
 |nil=>intro s hs _;rcases hs with rfl|rfl<;>rfl
 |cons x l ih=>
  intro s hs hx;have hx1:=hx x (by simp)
  have ih':=fun s hs=>ih s hs fun y hy=>hx y (by simp[hy])
  simp only[tt,Zj,alt]
  rcases hs with rfl|rfl
  ·rcases hx1 with rfl|rfl
   ·have:=ih' 1 (.inr rfl)
    show(true&&tt 1 l)=(decide (1::l=(1:Int)::alt 1 l.length)&&((((l.length+1:Nat):Int)+0)%2==1));have e1:decide (1::l=(1:Int)::alt 1 l.length)=decide (l=alt 1 l.length):=by simp
    have e2:((l.length:Int)+1)=(((l.length+1:Nat):Int)+0):=by omega
    rw[Yn,this,e1,e2]
   ·simp[show((0:Int)+ -1==0||(0:Int)+ -1==1)=false from rfl]
  ·rcases hx1 with rfl|rfl
   ·simp[show((1:Int)+1==0||(1:Int)+1==1)=false from rfl]
   ·have:=ih' 0 (.inl rfl)
    show(true&&tt 0 l)=(decide (-1::l=(-1:Int)::alt 0 l.length)&&((((l.length+1:Nat):Int)+1)%2==1));have e1:decide (-1::l=(-1:Int)::alt 0 l.length)=decide (l=alt 0 l.length):=by simp
    have e2:((l.length:Int)+0)%2=(((l.length+1:Nat):Int)+1)%2:=by omega
    rw[Yn,this,e1,e2]
theorem QJ(l:List Int)(h:∀x∈l,small x=true):tt 0 l=uA l:=by
 rw[kM l 0 (.inl rfl),kN _ 0 (.inl rfl) (fun x hx=>?_)]
 ·unfold uA
  rw[kL,Int.add_zero]
 ·obtain⟨h1,h2⟩:=Vs.mp hx
  have:=h x h1
  simp[small]at this h2
  omega
theorem QK(l:List Int):∀s:Int,(s=0\/s=1)->tt s l=true->∀x∈l,small x=true:=by
 induction l with
 |nil=>intro s _ _ x hx;cases hx
 |cons y l ih=>
  intro s hs h x hx;simp only[tt,Qy]at h;have h1:s+y=0\/s+y=1:=by simpa using h.1
  rcases Qb.mp hx with rfl|hx
  ·simp[small];omega
  ·exact ih (s+y) h1 h.2 x hx
theorem kO(l:List Int):tt 0 l=(l.all small&&uA l):=by
 by_cases h:l.all small=true
 ·rw[h,Yn];exact QJ l (Qw.mp h)
 ·have h':l.all small=false:=by simpa using h
  rw[h',Uq];cases ht:tt 0 l with
  |false=>rfl
  |true=>exact absurd (Qw.mpr (QK l 0 (.inl rfl) ht)) h
def Pl(w:W):Prop:=w=.nil\/ ∃d,w=.dat d
def U7(n:Nat)(d:D):Bool:=match d with
 |.tup xs=>(xs.length==n)&&(xs.all (fun x=>vD x (-1) 1)&&uA (o9 d))
 |_=>false
theorem Ku(h:vD x (-1) 1=true):u6 x=true/\small (u9 x)=true:=by
 cases x<;>first|cases h|skip
 exact⟨rfl,h⟩
theorem Eg(n:Nat)(d:D):U7 n d=(tX d n&&tt 0 (o9 d)):=by
 cases d with
 |tup xs=>
  simp only[U7,tX]
  by_cases hl:xs.length=n
  ·subst hl
   rw[kO];simp only[Yr,Yn,←Bool.and_assoc]
   congr 1
   by_cases h:xs.all (fun x=>vD x (-1) 1)=true
   ·rw[h]
    have h1:=Qw.mp h
    have a1:xs.all u6=true:=Qw.mpr fun x hx=>(Ku (h1 x hx)).1
    have a2:(o9 (.tup xs)).all small=true:=Qw.mpr fun y hy=>by
     obtain⟨x,hx,rfl⟩:=Zq.mp hy;exact(Ku (h1 x hx)).2
    rw[a1,a2];rfl
   ·have h':xs.all (fun x=>vD x (-1) 1)=false:=by simpa using h
    rw[h'];cases hw:(xs.all u6&&(o9 (.tup xs)).all small)with
    |false=>rfl
    |true=>
     rw[Qy]at hw
     exfalso
     apply h
     refine Qw.mpr fun x hx=>?_
     have b1:=Qw.mp hw.1 x hx
     have b2:=Qw.mp hw.2 (u9 x) (Zq.mpr ⟨x,hx,rfl⟩)
     cases x<;>first|exact b2|cases b1
  ·have h1:(xs.length==n)=false:=by simpa using hl
   have h2:((xs.length:Int)==(n:Int))=false:=by
    rw[Zb];omega
   rw[h1,h2];rfl
 |_=>rfl
abbrev Eh:Mo Fl:=(C4 (F1 (P5 (G8 (mT (rR "tuple" (A0 1)))) (mT (B6 (j0 true) (d6 E9 (B0 (A0 1) B4)) (d6 E9 (B0 (A0 0) B4))))) (D1 (mC (.bl false))) n5) (C4 (K3 (F3 (A0 1)) (gN 2) (F1 (G8 (mT (c7 3 Am (B7 (A0 2) (B7 (Q5 (mC (.int 1))) (B7 (mC (.int 1)) B9)))))) (D1 (mC (.bl false))) n5)) (F1 (G8 (mT (c7 1 AS (B7 (A0 1) B9)))) (D1 (mC (.bl false))) n5)))
theorem kP(hn:es.length≤6)(d:D)(w2:W):∃w2',Eh [.dat (.tup es),.dat d,w2]=some (stop (U7 es.length d) (.bl false),[.dat (.tup es),.dat d,w2']):=by
 cases d with
 |tup xs=>
  by_cases hl:xs.length=es.length
  ·have t:(P5 (G8 (mT (rR "tuple" (A0 1)))) (mT (B6 (j0 true) (d6 E9 (B0 (A0 1) B4)) (d6 E9 (B0 (A0 0) B4))))) [.dat (.tup es),.dat (.tup xs),w2]=some (false,[.dat (.tup es),.dat (.tup xs),w2]):=by
    show some (!((xs.length:Int)==(es.length:Int)),_)=_;rw[hl];simp
   have lp:∃w2',loop (gN 2) (F1 (G8 (mT (c7 3 Am (B7 (A0 2) (B7 (Q5 (mC (.int 1))) (B7 (mC (.int 1)) B9)))))) (D1 (mC (.bl false))) n5) xs [.dat (.tup es),.dat (.tup xs),w2]=some (stop (xs.all fun x=>vD x (-1) 1) (.bl false),[.dat (.tup es),.dat (.tup xs),w2']):=by
    obtain⟨e',h1,w',rfl⟩:=Hj (g:=gN 2) (b:=F1 (G8 (mT (c7 3 Am (B7 (A0 2) (B7 (Q5 (mC (.int 1))) (B7 (mC (.int 1)) B9)))))) (D1 (mC (.bl false))) n5) (P:=fun e=>∃w,e=[.dat (.tup es),.dat (.tup xs),w]) (ok:=fun x=>vD x (-1) 1) (r:=.bl false) (ds:=xs) (env:=[.dat (.tup es),.dat (.tup xs),w2])
     (fun x _ e ⟨w,he⟩=>by
      subst he;refine⟨[.dat (.tup es),.dat (.tup xs),.dat x],[.dat (.tup es),.dat (.tup xs),.dat x],rfl,?_,_,rfl⟩;have c:(G8 (mT (c7 3 Am (B7 (A0 2) (B7 (Q5 (mC (.int 1))) (B7 (mC (.int 1)) B9)))))) [.dat (.tup es),.dat (.tup xs),.dat x]=some (!vD x (-1) 1,[.dat (.tup es),.dat (.tup xs),.dat x]):=
       Y6 (O3 (S2 (S1 (av:=[.d x,.d (.int (-1)),.d (.int 1)]) rfl rfl rfl (kK x (-1) 1))))
      cases hb:vD x (-1) 1 with
      |true=>rw[hb]at c;rw[U2 c];rfl
      |false=>rw[hb]at c;rw[X0 c];rfl) ⟨_,rfl⟩
    exact⟨w',h1⟩
   obtain⟨w2',h1⟩:=lp;have fr:(K3 (F3 (A0 1)) (gN 2) (F1 (G8 (mT (c7 3 Am (B7 (A0 2) (B7 (Q5 (mC (.int 1))) (B7 (mC (.int 1)) B9)))))) (D1 (mC (.bl false))) n5)) [.dat (.tup es),.dat (.tup xs),w2]=some (stop (xs.all fun x=>vD x (-1) 1) (.bl false),[.dat (.tup es),.dat (.tup xs),w2']):=(U3 (V2 rfl rfl)).trans h1
   refine⟨w2',?_⟩;unfold Eh;rw[J3 (by rw[U2 t];rfl)]
   cases ha:xs.all (fun x=>vD x (-1) 1)with
   |false=>
    rw[ha]at fr;rw[Q8 (d:=.bl false) fr]
    simp[U7,hl,ha,stop]
   |true=>
    rw[ha]at fr;rw[J3 fr];have h2:xs=(xs.map u9).map .int:=Px (Qw.mpr fun x hx=>(Ku (Qw.mp ha x hx)).1)
    have c:(G8 (mT (c7 1 AS (B7 (A0 1) B9)))) [.dat (.tup es),.dat (.tup xs),w2']=some (!uA (o9 (.tup xs)),[.dat (.tup es),.dat (.tup xs),w2']):=
     Y6 (O3 (S2 (S1 (av:=[.d (.tup xs)]) rfl rfl rfl (QH (.tup xs) (xs.map u9) (by show some xs=_;rw[←h2]) (by rw[Qk];omega)))))
    cases hb:uA (o9 (.tup xs))with
    |true=>rw[hb]at c;rw[U2 c];simp[U7,hl,ha,hb,stop,n5]
    |false=>rw[hb]at c;rw[X0 c];simp[U7,hl,ha,hb,stop,D1,mC]
  ·have t:(P5 (G8 (mT (rR "tuple" (A0 1)))) (mT (B6 (j0 true) (d6 E9 (B0 (A0 1) B4)) (d6 E9 (B0 (A0 0) B4))))) [.dat (.tup es),.dat (.tup xs),w2]=some (true,[.dat (.tup es),.dat (.tup xs),w2]):=by
    show some (!((xs.length:Int)==(es.length:Int)),_)=_;have:((xs.length:Int)==(es.length:Int))=false:=by rw[Zb];omega
    rw[this];rfl
   refine⟨w2,?_⟩;unfold Eh;rw[Q8 (d:=.bl false) (by rw[X0 t];rfl)]
   have:(xs.length==es.length)=false:=by simpa using hl
   simp[U7,this,stop]
 |_=>exact⟨w2,rfl⟩
theorem kQ(hok:es.all (U7 es.length)=true):(flip es.length (es.map o9)).all (tt 0)=(List.range es.length).all fun j=>uA ((es.map o9).map fun r=>r.getD j 0):=by
 unfold flip;rw[List.all_map];have e:∀j∈List.range es.length,((tt 0)∘fun j=>(es.map o9).map fun r=>r.getD j 0) j=uA ((es.map o9).map fun r=>r.getD j 0):=fun j hj=>by
  apply QJ
  intro x hx;obtain⟨r,hr,rfl⟩:=Zq.mp hx;obtain⟨d,hd,rfl⟩:=Zq.mp hr;have h1:=Qw.mp hok d hd;rw[Eg,Qy]at h1;have h2:=QK _ 0 (.inl rfl) h1.2
  by_cases hj':j<(o9 d).length
  ·have:(o9 d).getD j 0=(o9 d)[j]:=by simp[hj']
   rw[this];exact h2 _ (Jw hj')
  ·have:(o9 d).getD j 0=0:=by simp[Nat.le_of_not_lt hj']
   rw[this];rfl
 rw[Bool.eq_iff_iff,Qw,Qw];exact⟨fun h j hj=>(e j hj) ▸ h j hj,fun h j hj=>(e j hj).symm ▸ h j hj⟩
theorem kR(es:List D):qY (.tup es)=((decide (1≤(es.length:Int))&&decide ((es.length:Int)≤6))&&(es.all (U7 es.length)&&(List.range es.length).all fun j=>uA ((es.map o9).map fun r=>r.getD j 0))):=by
 unfold qY u7;simp only[Bool.and_assoc]
 congr 1
 congr 1
 have hu:uN (.tup es)=es.map o9:=rfl
 rw[hu,Vk,Qk];cases hk:es.all (U7 es.length)with
 |true=>
  have h1:es.all (fun r=>tX r es.length)=true:=Qw.mpr fun d hd=>by
   have:=Qw.mp hk d hd;rw[Eg,Qy]at this;exact this.1
  have h2:(es.map o9).all (tt 0)=true:=Qw.mpr fun r hr=>by
   obtain⟨d,hd,rfl⟩:=Zq.mp hr;have:=Qw.mp hk d hd;rw[Eg,Qy]at this;exact this.2
  rw[h1,h2,kQ hk];rfl
 |false=>
  rw[Uq];cases h1:es.all (fun r=>tX r es.length)with
  |false=>rfl
  |true=>
   have h2:(es.map o9).all (tt 0)=false:=by
    cases h3:(es.map o9).all (tt 0)with
    |false=>rfl
    |true=>
     have:es.all (U7 es.length)=true:=Qw.mpr fun d hd=>by
      rw[Eg,Qy];exact⟨Qw.mp h1 d hd,Qw.mp h3 (o9 d) (Zq.mpr ⟨d,hd,rfl⟩)⟩
     rw[hk]at this;cases this
   rw[h2];rfl
theorem kT(d:D):DL [.dat d]=some (.d (.bl (qY d)),[.dat d]):=by
 cases d with
 |tup es=>
  have t:(P5 (G8 (mT (rR "tuple" (A0 0)))) (G8 (mT (T5 sB sB (mC (.int 1)) (d6 E9 (B0 (A0 0) B4)) (mC (.int 6)))))) [.dat (.tup es),.nil,.nil]=some (!(decide (1≤(es.length:Int))&&decide ((es.length:Int)≤6)),[.dat (.tup es),.nil,.nil]):=by
   have c:=QG (e:=[.dat (.tup es),.nil,.nil]) (ma:=mC (.int 1)) (mb:=d6 E9 (B0 (A0 0) B4)) (mc:=mC (.int 6)) (a:=1) (i:=es.length) (b:=6) rfl rfl rfl
   have u:=Y6 (O3 c)
   unfold P5;show(some (false,([.dat (.tup es),.nil,.nil]:c5))).bind _=_;exact u
  rw[kR];cases hb:(decide (1≤(es.length:Int))&&decide ((es.length:Int)≤6))with
  |false=>
   rw[hb]at t;refine(M5 (d:=.bl false) (env:=[.dat (.tup es),.nil,.nil]) ?_).trans rfl;show CK [.dat (.tup es),.nil,.nil]=_;unfold CK;rw[Q8 (d:=.bl false) (by rw[X0 t];rfl)]
  |true=>
   rw[hb]at t;have hn:1≤es.length/\es.length≤6:=by
    rw[Qy,Zh,Zh]at hb
    omega
   obtain⟨e',h1,w1,w2,hw,rfl⟩:=Hj (g:=gN 1) (b:=Eh) (P:=fun e=>∃w1 w2,Pl w1/\e=[.dat (.tup es),w1,w2]) (ok:=U7 es.length) (r:=.bl false) (ds:=es) (env:=[.dat (.tup es),.nil,.nil])
    (fun x _ e ⟨w1,w2,_,he⟩=>by
     subst he;obtain⟨w2',h⟩:=kP hn.2 x w2;exact⟨_,_,rfl,h,_,_,.inr ⟨_,rfl⟩,rfl⟩) ⟨_,_,.inl rfl,rfl⟩
   have fr:(K3 (F3 (A0 0)) (gN 1) Eh) [.dat (.tup es),.nil,.nil]=some (stop (es.all (U7 es.length)) (.bl false),[.dat (.tup es),w1,w2]):=(U3 (V2 rfl rfl)).trans h1
   cases hk:es.all (U7 es.length)with
   |false=>
    rw[hk]at fr;refine(M5 (d:=.bl false) (env:=[.dat (.tup es),w1,w2]) ?_).trans rfl;show CK [.dat (.tup es),.nil,.nil]=_;unfold CK;rw[J3 (by rw[U2 t];rfl),Q8 (d:=.bl false) fr]
   |true=>
    rw[hk]at fr;have hlen:∀d∈es,∃xs,d=.tup ((o9 d).map .int)/\(o9 d).length=es.length/\xs=o9 d:=fun d hd=>by
     have:=Qw.mp hk d hd;rw[Eg,Qy]at this;obtain⟨a1,a2⟩:=GU this.1;exact⟨_,a1,by omega,rfl⟩
    have inner:∀j,j<es.length->(c7 1 AS (B7 (mF (D6 (F3 (A0 0)) [false,false,false,true] 1 (gN 4) E7 (B6 m7 (A0 4) (A0 3)))) B9)) [.dat (.tup es),w1,.nil,.dat (.int (j:Int))]=some (.bl (uA ((es.map o9).map fun r=>r.getD j 0)),[.dat (.tup es),w1,.nil,.dat (.int (j:Int))]):=fun j hj=>by
     obtain⟨e',g1,w',rfl⟩:=BU (g:=gN 4) (m:=B6 m7 (A0 4) (A0 3)) (P:=fun e=>∃w,e=[.nil,.nil,.nil,.dat (.int (j:Int)),w]) (q:=id) (f:=fun d=>.int ((o9 d).getD j 0)) (l:=es) (env:=[.nil,.nil,.nil,.dat (.int (j:Int)),.nil])
      (fun d hd e ⟨w,he⟩=>by
       subst he;obtain⟨_,a1,a2,_⟩:=hlen d hd;refine⟨[.nil,.nil,.nil,.dat (.int (j:Int)),.dat d],[.nil,.nil,.nil,.dat (.int (j:Int)),.dat d],rfl,D8 rfl rfl ?_,_,rfl⟩;rw[a1,Pz (o9 d)|>fun h=>(show o9 (.tup ((o9 d).map .int))=o9 d from h)]
       exact Aq (by simp[Zf (show j<(o9 d).length by omega)])) ⟨.nil,rfl⟩
     rw[Xv]at g1;have c:(D6 (F3 (A0 0)) [false,false,false,true] 1 (gN 4) E7 (B6 m7 (A0 4) (A0 3))) [.dat (.tup es),w1,.nil,.dat (.int (j:Int))]=some (((es.map o9).map fun r=>r.getD j 0).map .int,[.dat (.tup es),w1,.nil,.dat (.int (j:Int))]):=by
      rw[Zk,Zk];exact Ad (e2:=[.nil,.nil,.nil,.dat (.int (j:Int)),w']) (V2 rfl rfl) (by omega) g1 rfl
     exact S2 (S1 (av:=[.d (.lst (((es.map o9).map fun r=>r.getD j 0).map .int))]) (BH (K4 c) rfl) rfl rfl (QH _ _ rfl (by simp;omega)))
    obtain⟨e',g1,w',rfl⟩:=BU (g:=gN 3) (m:=(c7 1 AS (B7 (mF (D6 (F3 (A0 0)) [false,false,false,true] 1 (gN 4) E7 (B6 m7 (A0 4) (A0 3)))) B9))) (P:=fun e=>∃w,e=[.dat (.tup es),w1,.nil,w]) (q:=fun(j:Nat)=>D.int j) (f:=fun j=>.bl (uA ((es.map o9).map fun r=>r.getD j 0))) (l:=List.range es.length) (env:=[.dat (.tup es),w1,.nil,.nil])
     (fun j hj e ⟨w,he⟩=>by
      subst he;exact⟨_,_,rfl,inner j (Zo.mp hj),_,rfl⟩) ⟨.nil,rfl⟩
    have r1:(J4 (B0 (d6 E9 (B0 (A0 0) B4)) B4)) [.dat (.tup es),w1,w2]=some (R8 0 es.length,[.dat (.tup es),w1,w2]):=by
     have:=Dt (ms:=B0 (d6 E9 (B0 (A0 0) B4)) B4) (env:=[.dat (.tup es),w1,w2]) (e1:=[.dat (.tup es),w1,w2]) (j:=es.length) rfl (by omega) (by omega)
     rwa [Jq]at this
    have c:(D6 (J4 (B0 (d6 E9 (B0 (A0 0) B4)) B4)) [true,true,false] 1 (gN 3) E7 (c7 1 AS (B7 (mF (D6 (F3 (A0 0)) [false,false,false,true] 1 (gN 4) E7 (B6 m7 (A0 4) (A0 3)))) B9))) [.dat (.tup es),w1,w2]=some ((List.range es.length).map fun j=>.bl (uA ((es.map o9).map fun r=>r.getD j 0)),[.dat (.tup es),w1,w2]):=by
     refine Ad (e2:=[.dat (.tup es),w1,.nil,w']) r1 (by rw[BS];simp;omega) ?_ ?_
     ·rw[BS];exact g1
     ·rcases hw with rfl|⟨dd,rfl⟩<;>rfl
    refine(M5 (d:=.bl ((List.range es.length).all fun j=>uA ((es.map o9).map fun r=>r.getD j 0))) (env:=[.dat (.tup es),w1,w2]) ?_).trans (by simp;rfl)
    show CK [.dat (.tup es),.nil,.nil]=_;unfold CK;rw[J3 (by rw[U2 t];rfl),J3 fr]
    refine L8 (O0 (E5 (K4 c) rfl) ?_);show(U1 _).map _=_;rw[Bt];rfl
 |_=>rfl
theorem Kv{i j k:Int}(h:FC i j=true)(e:i^j.toNat=k):T4 (.int i) (.int j)=some (.int k):=by
 show(if FC i j=true then some (D.int (i^j.toNat))else none)=_
 rw[Qn h,e]
theorem QL:T4 (.int 10) (.int 18)=some (.int 1000000000000000000):=Kv (by rfl') (by rfl')
theorem Kw{m:Int}(ha:0≤a)(h1:1≤m)(h2:m<1073741824):∃v a',J6 [.par [.int a,.bl b],.dat (.int m)]=some (.d (.int v),[.par [.int a',.bl b],.dat (.int m)])/\0≤v/\v<m/\0≤a':=by
 have dm:∀x:Int,P4 (.int x) (.int m)=some (.int (x%m)):=fun x=>by
  show(if decide (0<m)=true then _ else none)=_
  rw[Qn (by simp;omega)]
 have dd:∀x:Int,Da (.int x) (.int m)=some (.int (x/m)):=fun x=>by
  show(if FB x m=true then _ else none)=_
  rw[Qn (by unfold FB;simp;omega)]
 cases b with
 |true=>
  refine⟨a%m,a/m,?_,Up _ (by omega),Vu _ (by omega),Int.ediv_nonneg ha (by omega)⟩
  refine(M5 (d:=.int (a%m)) (env:=[.par [.int (a/m),.bl true],.dat (.int m),.nil,.dat (.int (a%m))]) ?_).trans rfl;show Ec [.par [.int a,.bl true],.dat (.int m),.nil,.nil]=_;unfold Ec;have t:(mT (N8 0 (mC (.int 1)))) [.par [.int a,.bl true],.dat (.int m),.nil,.nil]=some (true,[.par [.int a,.bl true],.dat (.int m),.nil,.nil]):=rfl;have s1:(D7 3 (B6 P4 (N8 0 (mC (.int 0))) (A0 1))) [.par [.int a,.bl true],.dat (.int m),.nil,.nil]=some (.nx,[.par [.int a,.bl true],.dat (.int m),.nil,.dat (.int (a%m))]):=P1 (e1:=[.par [.int a,.bl true],.dat (.int m),.nil,.nil]) (D8 rfl rfl (dm a));have s2:(Q3 (B6 Da (N8 0 (mC (.int 0))) (A0 1)) (gS 0 (mC (.int 0)))) [.par [.int a,.bl true],.dat (.int m),.nil,.dat (.int (a%m))]=some (.nx,[.par [.int (a/m),.bl true],.dat (.int m),.nil,.dat (.int (a%m))]):=by
   unfold Q3;rw[D8 (c:=.int (a/m)) rfl rfl (dd a)];rfl
  rw[Q8 (d:=.int (a%m)) (by rw[X0 t,J3 s1,J3 s2];rfl)]
 |false=>
  have e1:∀x:Int,N9 (.int x) (.int 48271)=some (.int (x * 48271)):=fun x=>DN (kI (by decide) (by decide))
  have md:∀(x k:Int),0<k->P4 (.int x) (.int k)=some (.int (x%k)):=fun x k hk=>by
   show(if decide (0<k)=true then _ else none)=_
   rw[Qn (by simp;omega)]
  let p:Int:=(a * 48271+29)%2147483647
  have hp:0≤p/\p<2147483647:=⟨Up _ (by decide),Vu _ (by decide)⟩
  let q:Int:=(p * p+39373 * p+7)%2147483629
  have hq:0≤q/\q<2147483629:=⟨Up _ (by decide),Vu _ (by decide)⟩
  let r:Int:=(q * q+16807 * q)%2147483587
  have hr:0≤r:=Up _ (by decide)
  refine⟨r/8%m,p,?_,Up _ (by omega),Vu _ (by omega),hp.1⟩
  refine(M5 (d:=.int (r/8%m)) (env:=[.par [.int p,.bl false],.dat (.int m),.dat (.int r),.nil]) ?_).trans rfl;show Ec [.par [.int a,.bl false],.dat (.int m),.nil,.nil]=_;unfold Ec;have t:(mT (N8 0 (mC (.int 1)))) [.par [.int a,.bl false],.dat (.int m),.nil,.nil]=some (false,[.par [.int a,.bl false],.dat (.int m),.nil,.nil]):=rfl;have s1:(Q3 (B6 P4 (B6 D5 (B6 N9 (N8 0 (mC (.int 0))) (mC (.int 48271))) (mC (.int 29))) (mC (.int 2147483647))) (gS 0 (mC (.int 0)))) [.par [.int a,.bl false],.dat (.int m),.nil,.nil]=some (.nx,[.par [.int p,.bl false],.dat (.int m),.nil,.nil]):=by
   unfold Q3;rw[D8 (c:=.int p) (D8 (c:=.int (a * 48271+29)) (D8 rfl rfl (e1 a)) rfl rfl) rfl (md _ _ (by decide))];rfl
  have s2:(D7 2 (B6 P4 (B6 D5 (B6 D5 (B6 N9 (N8 0 (mC (.int 0))) (N8 0 (mC (.int 0)))) (B6 N9 (mC (.int 39373)) (N8 0 (mC (.int 0))))) (mC (.int 7))) (mC (.int 2147483629)))) [.par [.int p,.bl false],.dat (.int m),.nil,.nil]=some (.nx,[.par [.int p,.bl false],.dat (.int m),.dat (.int q),.nil]):=
   P1 (e1:=[.par [.int p,.bl false],.dat (.int m),.nil,.nil]) (D8 (c:=.int q) (D8 (c:=.int (p * p+39373 * p+7)) (D8 (c:=.int (p * p+39373 * p)) (D8 rfl rfl (DN (i:=p) (j:=p) (Ef (by omega) (by omega)))) (D8 rfl rfl (DN (i:=39373) (j:=p) (Ef (by decide) (by decide)))) rfl) rfl rfl) rfl (md _ _ (by decide)))
  have s3:(D7 2 (B6 P4 (B6 D5 (B6 N9 (A0 2) (A0 2)) (B6 N9 (mC (.int 16807)) (A0 2))) (mC (.int 2147483587)))) [.par [.int p,.bl false],.dat (.int m),.dat (.int q),.nil]=some (.nx,[.par [.int p,.bl false],.dat (.int m),.dat (.int r),.nil]):=
   P1 (e1:=[.par [.int p,.bl false],.dat (.int m),.dat (.int q),.nil]) (D8 (c:=.int r) (D8 (c:=.int (q * q+16807 * q)) (D8 rfl rfl (DN (i:=q) (j:=q) (Ef (by omega) (by omega)))) (D8 rfl rfl (DN (i:=16807) (j:=q) (Ef (by decide) (by decide)))) rfl) rfl (md _ _ (by decide)))
  rw[J3 (by rw[U2 t];rfl),J3 s1,J3 s2,J3 s3]
  exact L8 (D8 (c:=.int (r/8%m)) (D8 (c:=.int (r/8)) rfl rfl rfl) rfl (dm _))
theorem kU(ns:List Int)(k:Nat)(hk:k<1000):∃c,EZ [.dat (.lst (ns.map .int)),.dat (.int k)]=some (.d (.int c),[.dat (.lst (ns.map .int)),.dat (.int k)]):=by
 have t:(mT (B6 xO (A0 1) (d6 E9 (B0 (A0 0) B4)))) [.dat (.lst (ns.map .int)),.dat (.int k)]=some (decide ((k:Int)<(ns.length:Int)),[.dat (.lst (ns.map .int)),.dat (.int k)]):=by
  show some (decide ((k:Int)<((ns.map D.int).length:Nat)),_)=_;rw[Qk]
 by_cases h:k<ns.length
 ·have hd:decide ((k:Int)<(ns.length:Int))=true:=by simp;omega
  rw[hd]at t;refine⟨ns[k],(M5 (d:=.int ns[k]) (env:=[.dat (.lst (ns.map .int)),.dat (.int k)]) ?_).trans rfl⟩;show EY [.dat (.lst (ns.map .int)),.dat (.int k)]=_;unfold EY;rw[Q8 (d:=.int ns[k]) (by
   rw[X0 t];exact L8 (D8 rfl rfl (show tZ (ns.map D.int) (k:Int)=_ from Aq (by simp[h]))))]
 ·have hd:decide ((k:Int)<(ns.length:Int))=false:=by simp;omega
  rw[hd]at t;refine⟨0,(M5 (d:=.int 0) (env:=[.dat (.lst (ns.map .int)),.dat (.int k)]) ?_).trans rfl⟩;show EY [.dat (.lst (ns.map .int)),.dat (.int k)]=_;unfold EY;rw[J3 (by rw[U2 t];rfl)];rfl
theorem kW(ns:List Int)(k:Nat)(hk:k<1000):∃a b,0≤a/\Eb [.dat (.lst (ns.map .int)),.dat (.int k)]=some (.l [.int a,.bl b],[.dat (.lst (ns.map .int)),.dat (.int k)]):=by
 obtain⟨c,hc⟩:=kU ns k hk;have s1:(D7 2 (c7 2 EZ (B7 (A0 0) (B7 (A0 1) B9)))) [.dat (.lst (ns.map .int)),.dat (.int k),.nil]=some (.nx,[.dat (.lst (ns.map .int)),.dat (.int k),.dat (.int c)]):=
  P1 (e1:=[.dat (.lst (ns.map .int)),.dat (.int k),.nil]) (S2 (S1 (av:=[.d (.lst (ns.map .int)),.d (.int k)]) rfl rfl rfl hc))
 have t:(mT (B6 zK (A0 2) (B6 T4 (mC (.int 10)) (mC (.int 18))))) [.dat (.lst (ns.map .int)),.dat (.int k),.dat (.int c)]=some (decide (1000000000000000000≤c),[.dat (.lst (ns.map .int)),.dat (.int k),.dat (.int c)]):=by
  refine O3 (D8 (b:=.int 1000000000000000000) rfl ?_ rfl);exact D8 rfl rfl QL
 by_cases h:1000000000000000000≤c
 ·rw[Ye h]at t
  refine⟨c-1000000000000000000,true,by omega,(Ds (d:=[.int (c-1000000000000000000),.bl true]) (env:=[.dat (.lst (ns.map .int)),.dat (.int k),.dat (.int c)]) ?_).trans rfl⟩
  show Ea [.dat (.lst (ns.map .int)),.dat (.int k),.nil]=_;unfold Ea;rw[J3 s1];have r:(T7 (J1 (B0 (B6 J0 (A0 2) (B6 T4 (mC (.int 10)) (mC (.int 18)))) (B0 (mC (.bl true)) B4)))) [.dat (.lst (ns.map .int)),.dat (.int k),.dat (.int c)]=some (.retL [.int (c-1000000000000000000),.bl true],[.dat (.lst (ns.map .int)),.dat (.int k),.dat (.int c)]):=by
   have b:=D8 (f:=J0) (ma:=A0 2) (mb:=B6 T4 (mC (.int 10)) (mC (.int 18))) (env:=[.dat (.lst (ns.map .int)),.dat (.int k),.dat (.int c)]) (b:=.int 1000000000000000000) (c:=.int (c-1000000000000000000)) rfl (D8 rfl rfl QL) rfl
   refine Du ?_
   unfold J1;rw[E5 b (E5 rfl rfl)];rfl
  unfold C4;rw[X0 t,r];rfl
 ·rw[Qt h]at t
  refine⟨c%2147483647,false,Up _ (by decide),(Ds (d:=[.int (c%2147483647),.bl false]) (env:=[.dat (.lst (ns.map .int)),.dat (.int k),.dat (.int c)]) ?_).trans rfl⟩
  show Ea [.dat (.lst (ns.map .int)),.dat (.int k),.nil]=_;unfold Ea;rw[J3 s1,J3 (by rw[U2 t];rfl)];rfl
def bits:Nat->OI
 |0=>[[]]
 |n+1=>(bits n).map (fun l=>0::l)++(bits n).map (fun l=>1::l)
def M3(h r:List Int):List Int:=List.zipWith (· + ·) h r
def QM(h:List Int)(d:D):Bool:=tX d h.length&&(tt 0 (o9 d)&&(M3 h (o9 d)).all fun x=>x==0||x==1)
def u8(h:List Int):Bool:=match S5 [.dat (dR h)]with
 |some (.l ds,_)=>ds.all (QM h)&&((h.all fun x=>x==1)||(decide (1≤ds.length)&&decide (ds.length≤1000)))
 |_=>false
theorem kX:(bits 1).all u8=true:=by rfl'
theorem kY:(bits 2).all u8=true:=by rfl'
theorem kZ:(bits 3).all u8=true:=by rfl'
theorem lA:(bits 4).all u8=true:=by rfl'
theorem lB:(bits 5).all u8=true:=by rfl'
def b8(i:Nat):OI:=((bits 6).drop (16 * i)).take 16
theorem c60:(b8 0).all u8=true:=by rfl'
theorem c61:(b8 1).all u8=true:=by rfl'
theorem c62:(b8 2).all u8=true:=by rfl'
theorem c63:(b8 3).all u8=true:=by rfl'
theorem lC:(bits 6).all u8=true:=by
 have h:(b8 0++(b8 1++(b8 2++b8 3))).all u8=true:=by
  simp only[Vk,c60,c61,c62,c63];rfl
 exact h
structure HB(h:List Int)(n:Nat):Prop where
 len:h.length=n
 bit:∀x∈h,x=0\/x=1
theorem HB.mem:∀{n:Nat}{h:List Int},HB h n->h∈bits n
 |0,h,H=>by
  have:=H.len;cases h with
  |nil=>simp[bits]
  |cons _ _=>simp at this
 |n+1,h,H=>by
  cases h with
  |nil=>have:=H.len;simp at this
  |cons x l=>
   have hl:HB l n:=⟨by have:=H.len;simpa using this,fun y hy=>H.bit y (by simp[hy])⟩
   have:=hl.mem;unfold bits;rw[List.mem_append,Zq,Zq]
   rcases H.bit x (by simp)with rfl|rfl
   ·exact .inl ⟨l,this,rfl⟩
   ·exact .inr ⟨l,this,rfl⟩
theorem lD(h1:1≤n)(h6:n≤6)(H:HB h n):u8 h=true:=by
 have hm:=H.mem
 match n,h1,h6 with
 |1,_,_=>exact Qw.mp kX h hm
 |2,_,_=>exact Qw.mp kY h hm
 |3,_,_=>exact Qw.mp kZ h hm
 |4,_,_=>exact Qw.mp lA h hm
 |5,_,_=>exact Qw.mp lB h hm
 |6,_,_=>exact Qw.mp lC h hm
structure uG(h r:List Int):Prop where
 len:r.length=h.length
 tt:tt 0 r=true
 bit:∀x∈M3 h r,x=0\/x=1
theorem lE(h1:1≤n)(h6:n≤6)(H:HB h n)(hs:∃x∈h,x≠1):∃(rows:OI) (ws':List W),S5 [.dat (dR h)]=some (.l (rows.map dR),ws')/\1≤rows.length/\rows.length≤1000/\∀r∈rows,uG h r:=by
 have hc:=lD h1 h6 H
 unfold u8 at hc;split at hc
 ·rename_i ds ws' e
  rw[Qy]at hc;have hl:1≤ds.length/\ds.length≤1000:=by
   have h2:=hc.2
   rw[Tz]at h2
   rcases h2 with h2|h2
   ·obtain⟨x,hx,hne⟩:=hs
    have:=Qw.mp h2 x hx
    simp at this
    exact absurd this hne
   ·rw[Qy,Zh,Zh]at h2
    exact h2
  have ok:∀d∈ds,d=dR (o9 d)/\uG h (o9 d):=fun d hd=>by
   have:=Qw.mp hc.1 d hd;unfold QM at this;rw[Qy,Qy]at this;obtain⟨a1,a2⟩:=GU this.1;exact⟨a1,by omega,this.2.1,fun x hx=>by simpa using Qw.mp this.2.2 x hx⟩
  refine⟨ds.map o9,ws',?_,by rw[Qk];exact hl.1,by rw[Qk];exact hl.2,fun r hr=>?_⟩
  ·rw[e,Zk]
   have:ds.map (dR∘o9)=ds:=by
    conv=>rhs;rw[←Xv ds]
    exact Yv fun d hd=>(ok d hd).1.symm
   rw[this]
  ·obtain⟨d,hd,rfl⟩:=Zq.mp hr
   exact(ok d hd).2
 ·cases hc
theorem lF(l:List Int):∀s,tt s l=true->s+l.sum=1:=by
 induction l with
 |nil=>intro s h;simpa [tt]using h
 |cons x l ih=>
  intro s h;simp only[tt,Qy]at h;have:=ih (s+x) h.2;simp only[Xh]
  omega
theorem QN(e:r.length=h.length):(M3 h r).length=h.length:=by simp[M3,e]
theorem QO:∀{h r:List Int},r.length=h.length->(M3 h r).sum=h.sum+r.sum
 |[],[],_=>rfl
 |x::h,y::r,e=>by
  have:=QO (h:=h) (r:=r) (by simpa using e)
  simp only[M3,List.zipWith_cons_cons,Xh]at this ⊢
  omega
 |[],_::_,e=>by simp at e
 |_::_,[],e=>by simp at e
def run:Int->List Int->Option Int
 |s,[]=>some s
 |s,x::l=>if s+x=0\/s+x=1 then run (s+x) l else none
theorem lG(l:List Int):∀s,tt s l=(run s l==some 1):=by
 induction l with
 |nil=>intro s;rfl
 |cons x l ih=>
  intro s;simp only[tt,run]
  by_cases h:s+x=0\/s+x=1
  ·rw[Qn h,←ih]
   have:(s+x==0||s+x==1)=true:=by simpa using h
   rw[this,Yn]
  ·rw[Ql h]
   have:(s+x==0||s+x==1)=false:=by simpa using h
   rw[this];rfl
theorem lJ(l:List Int)(x:Int):∀s t,run s l=some t->(t+x=0\/t+x=1)->run s (l++[x])=some (t+x):=by
 induction l with
 |nil=>intro s t h hx;cases h;simp[run,hx]
 |cons y l ih=>
  intro s t h hx;simp only[run,List.cons_append]at h ⊢;split at h
  ·rename_i hy
   rw[Qn hy];exact ih (s+y) t h hx
  ·cases h
theorem QP:∀{h:List Int},(∀x∈h,x=0\/x=1)->h.sum≤h.length/\(h.sum=h.length->∀x∈h,x=1)
 |[],_=>⟨by simp,fun _ x hx=>by cases hx⟩
 |y::h,H=>by
  obtain⟨h1,h2⟩:=QP (h:=h) fun x hx=>H x (by simp[hx])
  have hy:=H y (by simp)
  simp only[Xh,Zj];refine⟨by omega,fun e x hx=>?_⟩
  rcases Qb.mp hx with rfl|hx
  ·omega
  ·exact h2 (by omega) x hx
theorem QQ{g:OZ}{b:Mo Fl}:∀{ds:List D}{P:Nat->c5->Prop}{env:c5},(∀i d e,ds[i]? =some d->P i e->∃e1 e2,g d e=some e1/\b e1=some (.nx,e2)/\P (i+1) e2)->P 0 env->∃env',loop g b ds env=some (.nx,env')/\P ds.length env'
 |[],P,env,_,p=>⟨env,rfl,p⟩
 |d::ds,P,env,h,p=>by
  obtain⟨e1,e2,h1,h2,h3⟩:=h 0 d env rfl p;obtain⟨e3,h4,h5⟩:=QQ (ds:=ds) (P:=fun i e=>P (i+1) e) (fun i x e hi q=>h (i+1) x e (by simpa using hi) q) h3
  refine⟨e3,?_,h5⟩;unfold loop;rw[h1];simp only[Qj];rw[h2];exact h4
abbrev Kx:Mo Fl:=(C4 (D7 7 (mF (J7 1 S5 (B7 (A0 4) B9)))) (C4 (D7 8 (B6 m7 (A0 7) (c7 2 J6 (F5 0 (B7 (d6 E9 (B0 (A0 7) B4)) B9))))) (C4 (D7 4 (d6 K5 (B0 (mF (D6 (R9 (B0 (A0 4) (B0 (A0 8) B4))) [false,false,false,false,false,false,false,false,false] 2 (gT 2 (j3 (gN 9) (j3 (gN 10) pZ))) E7 (B6 D5 (A0 9) (A0 10)))) B4))) (D7 5 (B6 D5 (A0 5) (C9 (B0 (A0 8) B4)))))))
structure zS(b:Bool)(l m:Int)(n i:Nat)(e:c5)(a:Int)(h:List Int)(rows:OI)(w6 w7 w8:W):Prop where
 eq:e=[.par [.int a,.bl b],.dat (.int l),.dat (.int m),.dat (.int n),.dat (dR h),.dat (dT rows),w6,w7,w8]
 a0:0≤a
 hb:HB h n
 len:rows.length=i
 row:∀r∈rows,r.length=n/\tt 0 r=true
 sum:h.sum=i
 col:∀j,j<n->run 0 (rows.map fun r=>r.getD j 0)=some (h.getD j 0)
theorem QR(e:r.length=h.length)(hj:j<h.length):(M3 h r).getD j 0=h.getD j 0+r.getD j 0:=by
 have hj2:j<r.length:=by omega
 simp[M3,Ju,Zf hj,Zf hj2]
theorem QS:W9 (h.map D.int) (r.map D.int)=(h.zip r).map fun p=>.tup [.int p.1,.int p.2]:=by
 unfold W9;rw[List.zip_map,Zk];rfl
theorem lK{l m:Int}{rows:OI}(h1:1≤n)(h6:n≤6)(hi:i<n)(I:zS b l m n i e a h rows w6 w7 w8):
  ∃e2 a' h' rows' x6 x7 x8,Kx e=some (.nx,e2)/\zS b l m n (i+1) e2 a' h' rows' x6 x7 x8:=by
 obtain⟨rfl,a0,hb,hlen,hrow,hsum,hcol⟩:=I;have hs:∃x∈h,x≠1:=by
  refine Ja fun hn=>?_
  have hall:∀x∈h,x=1:=fun x hx=>Ja fun z=>hn ⟨x,hx,z⟩
  have:h.sum=h.length:=by
   clear hcol hsum hn hb
   induction h with
   |nil=>rfl
   |cons y h ih=>
    have h1:=hall y (by simp)
    have:=ih fun x hx=>hall x (by simp[hx])
    simp only[Xh,Zj]
    omega
  have:=hb.len
  omega
 obtain⟨lines,ws',el,l1,l2,lok⟩:=lE h1 h6 hb hs;obtain⟨v,a',et,v0,v1,a0'⟩:=Kw (a:=a) (m:=(lines.length:Int)) (b:=b) a0 (by omega) (by omega)
 have hv:v.toNat<lines.length:=by omega
 have hvv:((v.toNat:Nat):Int)=v:=by omega
 generalize hr:lines[v.toNat]=r;have rok:uG h r:=lok r (by rw[←hr];exact Jw hv)
 have rl:r.length=n:=by rw[rok.len,hb.len]
 have hnl:h.length=n:=hb.len
 refine⟨[.par [.int a',.bl b],.dat (.int l),.dat (.int m),.dat (.int n),.dat (dR (M3 h r)),.dat (dT (rows++[r])),w6,.dat (.lst (lines.map dR)),.dat (dR r)],a',M3 h r,rows++[r],w6,.dat (.lst (lines.map dR)),.dat (dR r),?_,rfl,a0',⟨by rw[QN rok.len];exact hnl,rok.bit⟩,by simp[hlen],?_,?_,?_⟩
 ·have s1:(D7 7 (mF (J7 1 S5 (B7 (A0 4) B9)))) [.par [.int a,.bl b],.dat (.int l),.dat (.int m),.dat (.int n),.dat (dR h),.dat (dT rows),w6,w7,w8]=some (.nx,[.par [.int a,.bl b],.dat (.int l),.dat (.int m),.dat (.int n),.dat (dR h),.dat (dT rows),w6,.dat (.lst (lines.map dR)),w8]):=
   P1 (e1:=[.par [.int a,.bl b],.dat (.int l),.dat (.int m),.dat (.int n),.dat (dR h),.dat (dT rows),w6,w7,w8]) (K4 (AH (S1 (av:=[.d (dR h)]) rfl rfl rfl el)))
  have tk:(c7 2 J6 (F5 0 (B7 (d6 E9 (B0 (A0 7) B4)) B9))) [.par [.int a,.bl b],.dat (.int l),.dat (.int m),.dat (.int n),.dat (dR h),.dat (dT rows),w6,.dat (.lst (lines.map dR)),w8]=some (.int v,[.par [.int a',.bl b],.dat (.int l),.dat (.int m),.dat (.int n),.dat (dR h),.dat (dT rows),w6,.dat (.lst (lines.map dR)),w8]):=by
   refine S2 ((Ae (e1:=[.par [.int a,.bl b],.dat (.int l),.dat (.int m),.dat (.int n),.dat (dR h),.dat (dT rows),w6,.dat (.lst (lines.map dR)),w8]) (w:=.par [.int a,.bl b]) (av:=[.sl 0,.d (.int (lines.length:Int))]) (i:=0) (c:=[.int a,.bl b]) (c':=[.int a',.bl b]) ?_ rfl rfl rfl rfl et rfl).trans rfl);show some ([Ar.sl 0,Ar.d (.int ((lines.map dR).length:Nat))],_)=_;rw[Qk]
  have s2:(D7 8 (B6 m7 (A0 7) (c7 2 J6 (F5 0 (B7 (d6 E9 (B0 (A0 7) B4)) B9))))) [.par [.int a,.bl b],.dat (.int l),.dat (.int m),.dat (.int n),.dat (dR h),.dat (dT rows),w6,.dat (.lst (lines.map dR)),w8]=some (.nx,[.par [.int a',.bl b],.dat (.int l),.dat (.int m),.dat (.int n),.dat (dR h),.dat (dT rows),w6,.dat (.lst (lines.map dR)),.dat (dR r)]):=by
   refine P1 (e1:=[.par [.int a',.bl b],.dat (.int l),.dat (.int m),.dat (.int n),.dat (dR h),.dat (dT rows),w6,.dat (.lst (lines.map dR)),w8]) (D8 rfl tk ?_);rw[←hvv];exact Aq (xs:=lines.map dR) (by rw[Zw,Zf hv,hr];rfl)
  obtain⟨e',g1,wx,wy,rfl⟩:=BU (g:=gT 2 (j3 (gN 9) (j3 (gN 10) pZ))) (m:=B6 D5 (A0 9) (A0 10)) (P:=fun e=>∃x y,e=[.nil,.nil,.nil,.nil,.nil,.nil,.nil,.nil,.nil,x,y]) (q:=fun(p:Int×Int)=>D.tup [.int p.1,.int p.2]) (f:=fun p=>.int (p.1+p.2)) (l:=h.zip r) (env:=[.nil,.nil,.nil,.nil,.nil,.nil,.nil,.nil,.nil,.nil,.nil])
   (fun p _ e ⟨x,y,he⟩=>by
    subst he;exact⟨[.nil,.nil,.nil,.nil,.nil,.nil,.nil,.nil,.nil,.dat (.int p.1),.dat (.int p.2)],[.nil,.nil,.nil,.nil,.nil,.nil,.nil,.nil,.nil,.dat (.int p.1),.dat (.int p.2)],rfl,rfl,_,_,rfl⟩) ⟨_,_,rfl⟩
  have zs:(R9 (B0 (A0 4) (B0 (A0 8) B4))) [.par [.int a',.bl b],.dat (.int l),.dat (.int m),.dat (.int n),.dat (dR h),.dat (dT rows),w6,.dat (.lst (lines.map dR)),.dat (dR r)]=some ((h.zip r).map fun p=>.tup [.int p.1,.int p.2],[.par [.int a',.bl b],.dat (.int l),.dat (.int m),.dat (.int n),.dat (dR h),.dat (dT rows),w6,.dat (.lst (lines.map dR)),.dat (dR r)]):=by
   show some (W9 (h.map D.int) (r.map D.int),_)=_;rw[QS]
  have ez:(h.zip r).map (fun p=>D.int (p.1+p.2))=(M3 h r).map D.int:=by
   unfold M3;rw[Vr,List.zip_eq_zipWith,Vr]
  have c:(D6 (R9 (B0 (A0 4) (B0 (A0 8) B4))) [false,false,false,false,false,false,false,false,false] 2 (gT 2 (j3 (gN 9) (j3 (gN 10) pZ))) E7 (B6 D5 (A0 9) (A0 10))) [.par [.int a',.bl b],.dat (.int l),.dat (.int m),.dat (.int n),.dat (dR h),.dat (dT rows),w6,.dat (.lst (lines.map dR)),.dat (dR r)]=some ((M3 h r).map .int,[.par [.int a',.bl b],.dat (.int l),.dat (.int m),.dat (.int n),.dat (dR h),.dat (dT rows),w6,.dat (.lst (lines.map dR)),.dat (dR r)]):=by
   rw[←ez];refine Ad (e2:=[.nil,.nil,.nil,.nil,.nil,.nil,.nil,.nil,.nil,wx,wy]) zs ?_ g1 rfl;rw[Qk,List.length_zip];omega
  have s3:(D7 4 (d6 K5 (B0 (mF (D6 (R9 (B0 (A0 4) (B0 (A0 8) B4))) [false,false,false,false,false,false,false,false,false] 2 (gT 2 (j3 (gN 9) (j3 (gN 10) pZ))) E7 (B6 D5 (A0 9) (A0 10)))) B4))) [.par [.int a',.bl b],.dat (.int l),.dat (.int m),.dat (.int n),.dat (dR h),.dat (dT rows),w6,.dat (.lst (lines.map dR)),.dat (dR r)]=some (.nx,[.par [.int a',.bl b],.dat (.int l),.dat (.int m),.dat (.int n),.dat (dR (M3 h r)),.dat (dT rows),w6,.dat (.lst (lines.map dR)),.dat (dR r)]):=
   P1 (e1:=[.par [.int a',.bl b],.dat (.int l),.dat (.int m),.dat (.int n),.dat (dR h),.dat (dT rows),w6,.dat (.lst (lines.map dR)),.dat (dR r)]) (O0 (E5 (K4 c) rfl) rfl)
  have s4:(D7 5 (B6 D5 (A0 5) (C9 (B0 (A0 8) B4)))) [.par [.int a',.bl b],.dat (.int l),.dat (.int m),.dat (.int n),.dat (dR (M3 h r)),.dat (dT rows),w6,.dat (.lst (lines.map dR)),.dat (dR r)]=some (.nx,[.par [.int a',.bl b],.dat (.int l),.dat (.int m),.dat (.int n),.dat (dR (M3 h r)),.dat (dT (rows++[r])),w6,.dat (.lst (lines.map dR)),.dat (dR r)]):=by
   refine P1 (e1:=[.par [.int a',.bl b],.dat (.int l),.dat (.int m),.dat (.int n),.dat (dR (M3 h r)),.dat (dT rows),w6,.dat (.lst (lines.map dR)),.dat (dR r)]) (D8 rfl rfl ?_);show(if(rows.map dR).length+[dR r].length≤10000 then _ else none)=_
   rw[Qn (by rw[Qk];simp;omega)]
   unfold dT;rw[Jf];rfl
  unfold Kx;rw[J3 s1,J3 s2,J3 s3];exact s4
 ·intro r' hr'
  rcases Xo.mp hr' with z|z
  ·exact hrow r' z
  ·have:r'=r:=by simpa using z
   subst this;exact⟨rl,rok.tt⟩
 ·have:=lF r 0 rok.tt
  rw[QO rok.len]
  omega
 ·intro j hj
  rw[Jf,Qh,Ud,QR rok.len (by omega)]
  refine lJ _ _ 0 _ (hcol j hj) ?_
  rw[←QR rok.len (by omega)]
  have hjl:j<(M3 h r).length:=by rw[QN rok.len];omega
  have:(M3 h r).getD j 0=(M3 h r)[j]:=by simp[hjl]
  rw[this];exact rok.bit _ (Jw hjl)
structure Tab(T:OI):Prop where
 lo:1≤T.length
 hi:T.length≤6
 len:∀r∈T,r.length=T.length
 ok:qY (dT T)=true
theorem Ky{l m:Int}(ha:0≤a)(hl:1≤l)(hm:l≤m)(h6:m≤6):∃T a',U6 [.par [.int a,.bl b],.dat (.int l),.dat (.int m)]=some (.d (dT T),[.par [.int a',.bl b],.dat (.int l),.dat (.int m)])/\0≤a'/\Tab T/\l≤T.length/\(T.length:Int)≤m:=by
 obtain⟨v,a1,et,v0,v1,a10⟩:=Kw (a:=a) (m:=m-l+1) (b:=b) ha (by omega) (by omega)
 obtain⟨n,hn⟩:∃n:Nat,(n:Int)=l+v:=⟨(l+v).toNat,by omega⟩
 have n1:1≤n:=by omega
 have n6:n≤6:=by omega
 have s1:(D7 3 (B6 D5 (A0 1) (c7 2 J6 (F5 0 (B7 (B6 D5 (B6 J0 (A0 2) (A0 1)) (mC (.int 1))) B9))))) [.par [.int a,.bl b],.dat (.int l),.dat (.int m),.nil,.nil,.nil,.nil,.nil,.nil]=some (.nx,[.par [.int a1,.bl b],.dat (.int l),.dat (.int m),.dat (.int n),.nil,.nil,.nil,.nil,.nil]):=by
  have tk:(c7 2 J6 (F5 0 (B7 (B6 D5 (B6 J0 (A0 2) (A0 1)) (mC (.int 1))) B9))) [.par [.int a,.bl b],.dat (.int l),.dat (.int m),.nil,.nil,.nil,.nil,.nil,.nil]=some (.int v,[.par [.int a1,.bl b],.dat (.int l),.dat (.int m),.nil,.nil,.nil,.nil,.nil,.nil]):=
   S2 ((Ae (e1:=[.par [.int a,.bl b],.dat (.int l),.dat (.int m),.nil,.nil,.nil,.nil,.nil,.nil]) (w:=.par [.int a,.bl b]) (av:=[.sl 0,.d (.int (m-l+1))]) (i:=0) (c:=[.int a,.bl b]) (c':=[.int a1,.bl b]) rfl rfl rfl rfl rfl et rfl).trans rfl)
  refine P1 (e1:=[.par [.int a1,.bl b],.dat (.int l),.dat (.int m),.nil,.nil,.nil,.nil,.nil,.nil]) (D8 rfl tk ?_);rw[hn];rfl
 have s2:(D7 4 (B6 N9 (C9 (B0 (mC (.int 0)) B4)) (A0 3))) [.par [.int a1,.bl b],.dat (.int l),.dat (.int m),.dat (.int n),.nil,.nil,.nil,.nil,.nil]=some (.nx,[.par [.int a1,.bl b],.dat (.int l),.dat (.int m),.dat (.int n),.dat (dR (List.replicate n 0)),.nil,.nil,.nil,.nil]):=by
  refine P1 (e1:=[.par [.int a1,.bl b],.dat (.int l),.dat (.int m),.dat (.int n),.nil,.nil,.nil,.nil,.nil]) (D8 rfl rfl ?_);show(if 1≤(n:Int)/\(n:Int)≤1000 then some (D.tup (List.replicate (n:Int).toNat (.int 0)))else none)=_
  rw[Qn (by omega),Jq]
  unfold dR;rw[List.map_replicate]
 have s3:(D7 5 (C9 B4)) [.par [.int a1,.bl b],.dat (.int l),.dat (.int m),.dat (.int n),.dat (dR (List.replicate n 0)),.nil,.nil,.nil,.nil]=some (.nx,[.par [.int a1,.bl b],.dat (.int l),.dat (.int m),.dat (.int n),.dat (dR (List.replicate n 0)),.dat (dT []),.nil,.nil,.nil]):=rfl
 have start:zS b l m n 0 [.par [.int a1,.bl b],.dat (.int l),.dat (.int m),.dat (.int n),.dat (dR (List.replicate n 0)),.dat (dT []),.nil,.nil,.nil] a1 (List.replicate n 0) [] .nil .nil .nil:=by
  refine⟨rfl,a10,⟨by simp,fun x hx=>.inl (List.eq_of_mem_replicate hx)⟩,rfl,fun r hr=>(by cases hr),by simp,fun j hj=>?_⟩
  simp[run,Jm,hj]
 obtain⟨e',h1,a',h',rows',x6,x7,x8,I⟩:=QQ (g:=gN 6) (b:=Kx) (ds:=R8 0 n) (P:=fun i e=>∃a h rows w6 w7 w8,zS b l m n i e a h rows w6 w7 w8) (env:=[.par [.int a1,.bl b],.dat (.int l),.dat (.int m),.dat (.int n),.dat (dR (List.replicate n 0)),.dat (dT []),.nil,.nil,.nil])
  (fun i d e hi ⟨a,h,rows,w6,w7,w8,I⟩=>by
   have hil:i<n:=by
    have:=(Qg.mp hi).1;rw[BS]at this
    simpa using this
   obtain⟨rfl,r1,r2,r3,r4,r5,r6⟩:=I;obtain⟨e2,a',h',rows',x6,x7,x8,t1,t2⟩:=lK (b:=b) (l:=l) (m:=m) (w6:=.dat d) (w7:=w7) (w8:=w8) n1 n6 hil ⟨rfl,r1,r2,r3,r4,r5,r6⟩;exact⟨_,e2,rfl,t1,a',h',rows',x6,x7,x8,t2⟩) ⟨_,_,_,_,_,_,start⟩
 have hlen:(R8 0 n).length=n:=by rw[BS];simp
 rw[hlen]at I;obtain⟨rfl,r1,r2,r3,r4,r5,r6⟩:=I;have ones:=(QP r2.bit).2 (by rw[r2.len];exact r5)
 have tab:Tab rows':=by
  refine⟨by omega,by omega,fun r hr=>by rw[r3];exact(r4 r hr).1,?_⟩
  unfold qY;rw[QA (by omega) (by omega) (fun r hr=>by rw[r3];exact(r4 r hr).1),GV,Yn,Vk,Qy,Qw,Qw]
  refine⟨fun r hr=>(r4 r hr).2,fun c hc=>?_⟩
  unfold flip at hc;obtain⟨j,hj,rfl⟩:=Zq.mp hc;have hj':j<n:=by rw[r3]at hj;exact Zo.mp hj
  rw[lG,r6 j hj'];have hjl:j<h'.length:=by rw[r2.len];exact hj'
  have:h'.getD j 0=h'[j]:=by simp[hjl]
  rw[this,ones _ (Jw hjl)];rfl
 refine⟨rows',a',(M5 (d:=dT rows') (env:=[.par [.int a',.bl b],.dat (.int l),.dat (.int m),.dat (.int n),.dat (dR h'),.dat (dT rows'),x6,x7,x8]) ?_).trans rfl,r1,tab,by omega,by omega⟩
 show Kj [.par [.int a,.bl b],.dat (.int l),.dat (.int m),.nil,.nil,.nil,.nil,.nil,.nil]=_;unfold Kj;have rg:=Dt (ms:=B0 (A0 3) B4) (env:=[.par [.int a1,.bl b],.dat (.int l),.dat (.int m),.dat (.int n),.dat (dR (List.replicate n 0)),.dat (dT []),.nil,.nil,.nil]) (e1:=[.par [.int a1,.bl b],.dat (.int l),.dat (.int m),.dat (.int n),.dat (dR (List.replicate n 0)),.dat (dT []),.nil,.nil,.nil]) (j:=(n:Int)) rfl (by omega) (by omega)
 rw[Jq]at rg;rw[J3 s1,J3 s2,J3 s3,J3 ((U3 rg).trans h1)];rfl
def S(g:Nat->Int):Nat->Int
 |0=>0
 |k+1=>S g k+g k
def U(h:OO)(i j:Nat):Int:=(h (i+1) (j+1)-h i (j+1))-(h (i+1) j-h i j)
theorem lL(g:Nat->Int):∀n,S (fun k=>g (k+1)-g k) n=g n-g 0
 |0=>by show(0:Int)=_;omega
 |n+1=>by
  show S (fun k=>g (k+1)-g k) n+(g (n+1)-g n)=_
  rw[lL g n];omega
theorem Ei(g:Nat->Int):∀n,S g (n+1)=g 0+S (fun k=>g (k+1)) n
 |0=>by show(0:Int)+g 0=g 0+0;omega
 |n+1=>by
  show S g (n+1)+g (n+1)=g 0+(S (fun k=>g (k+1)) n+g (n+1))
  rw[Ei g n];omega
structure sF(n:Nat)(f:OO):Prop where
 row:∀i<n,∀k≤n,S (f i) k=0\/S (f i) k=1
 rowN:∀i<n,S (f i) n=1
 col:∀j<n,∀k≤n,S (fun r=>f r j) k=0\/S (fun r=>f r j) k=1
 colN:∀j<n,S (fun r=>f r j) n=1
structure HtF(n:Nat)(h:OO):Prop where
 r0:∀i≤n,h i 0=0
 d0:∀j≤n,h 0 j=0
 rN:∀i≤n,h i n=i
 dN:∀j≤n,h n j=j
 dd:∀i<n,∀j≤n,h (i+1) j=h i j\/h (i+1) j=h i j+1
 rr:∀i≤n,∀j<n,h i (j+1)=h i j\/h i (j+1)=h i j+1
def mx(x y:Int):Int:=if x≤y then y else x
def tr(n:Nat)(h:OO)(i j:Nat):Int:=(i:Int)+j-n+h (n-i) (n-j)
theorem Kz:∀(n:Nat) (g:Nat->Int) (s:Int),tt s ((List.range n).map g)=true↔(∀k<n,s+S g (k+1)=0\/s+S g (k+1)=1)/\s+S g n=1
 |0,g,s=>by
  show(s==1)=true↔_;rw[Za]
  constructor
  ·intro h;exact⟨fun k hk=>by omega,by show s+0=1;omega⟩
  ·rintro⟨_,h⟩;have:S g 0=0:=rfl;omega
 |n+1,g,s=>by
  rw[List.range_succ_eq_map,Qh,Zk];show((s+g 0==0||s+g 0==1)&&tt (s+g 0) ((List.range n).map fun k=>g (k+1)))=true↔_
  rw[Qy,Tz,Za,Za,Kz n (fun k=>g (k+1)) (s+g 0),Ei g n]
  constructor
  ·rintro⟨h1,h2,h3⟩
   refine⟨fun k hk=>?_,by omega⟩
   rw[Ei g k];cases k with
   |zero=>show s+(g 0+0)=0\/s+(g 0+0)=1;omega
   |succ k=>have:=h2 k (by omega);omega
  ·rintro⟨h1,h2⟩
   refine⟨?_,fun k hk=>?_,by omega⟩
   ·have:=h1 0 (by omega)
    rw[Ei g 0]at this;have e:S (fun k=>g (k+1)) 0=0:=rfl
    omega
   ·have:=h1 (k+1) (by omega)
    rw[Ei g (k+1)]at this;omega
def gm(n m:Nat)(f:OO):OI:=(List.range n).map fun i=>(List.range m).map (f i)
theorem AV{m:Nat}{f:OO}:(gm n m f).length=n:=by simp[gm]
theorem GW{m:Nat}{f:OO}:∀r∈gm n m f,r.length=m:=by
 intro r hr;obtain⟨i,_,rfl⟩:=Zq.mp hr
 simp
theorem lN{m:Nat}{f g:OO}(h:∀i<n,∀j<m,f i j=g i j):gm n m f=gm n m g:=by
 unfold gm
 apply Yv
 intro i hi
 apply Yv
 intro j hj;exact h i (Zo.mp hi) j (Zo.mp hj)
def at2(R:OI)(i j:Nat):Int:=(R.getD i []).getD j 0
theorem QT(h1:R.length=n)(h2:∀r∈R,r.length=n):R=gm n n (at2 R):=by
 subst h1;unfold gm
 apply Ua
 ·simp
 ·intro i hi hi'
  have hr:=h2 R[i] (Jw hi)
  rw[List.getElem_map,List.getElem_range]
  apply Ua
  ·simp[hr]
  ·intro j hj hj'
   rw[List.getElem_map,List.getElem_range]
   simp[at2,hi,hj]
theorem QU(n m:Nat)(f:OO):flip m (gm n m f)=gm m n (fun i j=>f j i):=by
 unfold flip gm
 apply Yv
 intro j hj;have hj:=Zo.mp hj;rw[Zk]
 apply Yv
 intro i hi
 simp[hj]
theorem Ej{f:OO}:qY (dT (gm n n f))=true↔(1≤n/\n≤6)/\sF n f:=by
 unfold qY;rw[GV,AV,QU,Qy,Vk,Qy,Qw,Qw];have row:∀g:OO,(∀x∈gm n n g,tt 0 x=true)↔ ∀i<n,(∀k≤n,S (g i) k=0\/S (g i) k=1)/\S (g i) n=1:=by
  intro g
  constructor
  ·intro h i hi
   have h1:=(Kz n (g i) 0).mp (h _ (Zq.mpr ⟨i,Zo.mpr hi,rfl⟩))
   refine⟨fun k hk=>?_,by have:=h1.2;omega⟩
   cases k with
   |zero=>exact .inl rfl
   |succ k=>have:=h1.1 k (by omega);omega
  ·intro h x hx
   obtain⟨i,hi,rfl⟩:=Zq.mp hx;have h1:=h i (Zo.mp hi);refine(Kz n (g i) 0).mpr ⟨fun k hk=>?_,by have:=h1.2;omega⟩
   have:=h1.1 (k+1) (by omega);omega
 rw[row,row]
 constructor
 ·rintro⟨h1,h2,h3⟩
  have:=Py h1;rw[GV,AV]at this;exact⟨⟨by omega,by omega⟩,⟨fun i hi=>(h2 i hi).1,fun i hi=>(h2 i hi).2,fun i hi=>(h3 i hi).1,fun i hi=>(h3 i hi).2⟩⟩
 ·rintro⟨⟨h1,h2⟩,T⟩
  refine⟨QA (by rw[AV];omega) (by rw[AV];omega) (by rw[AV];exact GW),fun i hi=>⟨T.row i hi,T.rowN i hi⟩,fun i hi=>⟨T.col i hi,T.colN i hi⟩⟩
abbrev rw'(n:Nat)(g:Nat->Int):List Int:=(List.range n).map g
theorem lP{g:Nat->Int}(h:j<n):m7 (dR (rw' n g)) (.int (j:Int))=some (.int (g j)):=by
 show tZ ((rw' n g).map D.int) (j:Int)=_;exact Aq (by simp[h])
theorem lQ{m:Nat}{f:OO}(h:j<n):m7 (dT (gm n m f)) (.int (j:Int))=some (dR (rw' m (f j))):=by
 show tZ ((gm n m f).map dR) (j:Int)=_;exact Aq (by simp[gm,h])
theorem c1{f:Fn}{r:D}(h:m env=some (d,env))(hf:f [.dat d]=some (.d r,ws)):c7 1 f (B7 m B9) env=some (r,env):=
 S2 (S1 (av:=[.d d]) (BH h rfl) rfl rfl hf)
theorem QV{f:OO}(h1:1≤n)(h6:n≤6)(T:sF n f):AM [.dat (dT (gm n n f))]=some (.d .non,[.dat (dT (gm n n f))]):=by
 refine(Mt (env:=[.dat (dT (gm n n f))]) ?_).trans rfl;show KJ [.dat (dT (gm n n f))]=_;unfold KJ;rw[U2 (e1:=[.dat (dT (gm n n f))]) ?_]
 ·rfl
 ·have:=QE (dT (gm n n f))
  rw[Ej.mpr ⟨⟨h1,h6⟩,T⟩]at this;exact Y6 (b:=true) (O3 (c1 rfl this))
theorem V9{w:W}{k:Int}(hw:e[i]? =some w)(hm:w.mutL=some [.int a,.bl b])(hM:M e=some (.int k,e))(ha:0≤a)(h1:1≤k)(h2:k<1073741824):
  ∃v a',c7 2 J6 (F5 i (B7 M B9)) e=some (.int v,e.set i (w.put [.int a',.bl b]))/\0≤v/\v<k/\0≤a':=by
 obtain⟨v,a',et,v0,v1,a0⟩:=Kw (a:=a) (m:=k) (b:=b) ha h1 h2;refine⟨v,a',S2 (Ae (av:=[.sl i,.d (.int k)]) (c:=[.int a,.bl b]) ?_ rfl rfl hw hm et rfl),v0,v1,a0⟩;unfold F5;rw[hw];simp only[Qj];have hm':∃m,w.mut=some m:=by
  cases w<;>first|cases hm;done|exact⟨_,rfl⟩
 obtain⟨m,hm'⟩:=hm';rw[hm'];simp only[Qj];rw[BH hM rfl];rfl
theorem AW(h0:0≤v)(h1:v<ds.length):∃d,d∈ds/\m7 (.lst ds) (.int v)=some d:=by
 have hv:v.toNat<ds.length:=by omega
 refine⟨ds[v.toNat],Jw hv,?_⟩;have:((v.toNat:Nat):Int)=v:=by omega
 have h:=Aq (Zf hv)
 rw[this]at h;exact h
theorem QW{L:List Int}(h0:0≤v)(h1:v<L.length):∃j,j∈L/\m7 (.lst (L.map .int)) (.int v)=some (.int j):=by
 obtain⟨d,hd,e⟩:=AW (ds:=L.map .int) h0 (by rw[Qk];exact h1)
 obtain⟨j,hj,rfl⟩:=Zq.mp hd;exact⟨j,hj,e⟩
theorem QX(h0:0≤v)(h1:v<n):vK n v=some v.toNat:=by
 unfold vK;rw[Qn h0,Qn h1]
theorem Z7(h:xs.length+ys.length≤10000):D5 (.tup xs) (.tup ys)=some (.tup (xs++ys)):=by
 show(if xs.length+ys.length≤10000 then _ else none)=_
 rw[Qn h]
theorem QY(xs:List D)(lo hi:Option Int):(Y4 xs lo hi).length≤xs.length:=by
 unfold Y4;rw[Jx,Xs];omega
theorem X6{ml mh:Mo (Option Int)}{lo hi:Option Int}(h:m e=some (.tup xs,e))(h1:ml e=some (lo,e))(h2:mh e=some (hi,e)):rC m ml mh e=some (.tup (Y4 xs lo hi),e):=by
 unfold rC;rw[h];simp only[Qj];rw[h1];simp only[Qj];rw[h2];rfl
theorem X7{ms:Mo (List D)}(h:ms e=some (ds,e1))(hl:ds.length≤1000):J1 ms e=some (ds,e1):=by
 unfold J1;rw[h];exact Qn hl
theorem lR(h1:ma e=some (.lst xs,e1))(h2:mb e1=some (.lst ys,e2))(hl:xs.length+ys.length≤10000):BD ma mb e=some (xs++ys,e2):=by
 unfold BD;rw[h1];simp only[Qj];rw[h2];exact Qn hl
theorem lS(hlo:1≤T.length)(hhi:T.length≤7)(hlen:∀r∈T,r.length=T.length)(ha:0≤a):∃d a',CL [.par [.int a,.bl b],.dat (dT T)]=some (.d d,[.par [.int a',.bl b],.dat (dT T)])/\0≤a':=by
 obtain⟨v1,a1,t1,p1,q1,a10⟩:=V9 (i:=0) (e:=[.par [.int a,.bl b],.dat (dT T),.nil,.nil,.nil,.nil,.nil,.nil,.nil,.nil,.nil]) (w:=.par [.int a,.bl b]) (k:=T.length) (M:=d6 E9 (B0 (A0 1) B4)) rfl rfl
  (by show some (D.int ((T.map dR).length:Nat),_)=_;rw[Qk]) ha (by omega) (by omega)
 have s1:=P1 (i:=2) t1
 change D7 2 _ _=some (.nx,[.par [.int a1,.bl b],.dat (dT T),.dat (.int v1),.nil,.nil,.nil,.nil,.nil,.nil,.nil,.nil])at s1;have hv1:v1.toNat<T.length:=by omega
 have hv1':((v1.toNat:Nat):Int)=v1:=by omega
 generalize hr:T[v1.toNat]=r;have hrl:r.length=T.length:=by rw[←hr];exact hlen _ (Jw hv1)
 have s2:(D7 3 (B6 m7 (A0 1) (A0 2))) [.par [.int a1,.bl b],.dat (dT T),.dat (.int v1),.nil,.nil,.nil,.nil,.nil,.nil,.nil,.nil]=some (.nx,[.par [.int a1,.bl b],.dat (dT T),.dat (.int v1),.dat (dR r),.nil,.nil,.nil,.nil,.nil,.nil,.nil]):=by
  refine P1 (e1:=[.par [.int a1,.bl b],.dat (dT T),.dat (.int v1),.nil,.nil,.nil,.nil,.nil,.nil,.nil,.nil]) (D8 rfl rfl ?_);rw[←hv1'];exact Aq (xs:=T.map dR) (by rw[Zw,Zf hv1,hr];rfl)
 obtain⟨v2,a2,t2,p2,q2,a20⟩:=V9 (i:=0) (e:=[.par [.int a1,.bl b],.dat (dT T),.dat (.int v1),.dat (dR r),.nil,.nil,.nil,.nil,.nil,.nil,.nil]) (w:=.par [.int a1,.bl b]) (k:=(r.length:Int)+1) (M:=B6 D5 (d6 E9 (B0 (A0 3) B4)) (mC (.int 1))) rfl rfl
  (by show some (D.int (((r.map D.int).length:Nat)+1),_)=_;rw[Qk]) a10 (by omega) (by omega)
 have s3:=P1 (i:=4) t2
 change D7 4 _ _=some (.nx,[.par [.int a2,.bl b],.dat (dT T),.dat (.int v1),.dat (dR r),.dat (.int v2),.nil,.nil,.nil,.nil,.nil,.nil])at s3;obtain⟨v3,a3,t3,p3,q3,a30⟩:=V9 (i:=0) (e:=[.par [.int a2,.bl b],.dat (dT T),.dat (.int v1),.dat (dR r),.dat (.int v2),.nil,.nil,.nil,.nil,.nil,.nil]) (w:=.par [.int a2,.bl b]) (k:=11) (M:=mC (.int 11)) rfl rfl rfl a20 (by omega) (by omega)
 change c7 2 _ _ _=some (_,[.par [.int a3,.bl b],.dat (dT T),.dat (.int v1),.dat (dR r),.dat (.int v2),.nil,.nil,.nil,.nil,.nil,.nil])at t3;obtain⟨odd,_,hodd⟩:=AW (ds:=[.int 0,.int 1,.int (-1),.int 2,.bl true,.non,.str "1",.tup [.int 1],.int 100000000000000000000000000000,.bl false,.int 3]) p3 q3;have pow29:T4 (.int 10) (.int 29)=some (.int 100000000000000000000000000000):=Kv (by rfl') (by rfl')
 have s4:(D7 5 (B6 m7 (mF (J1 (B0 (mC (.int 0)) (B0 (mC (.int 1)) (B0 (Q5 (mC (.int 1))) (B0 (mC (.int 2)) (B0 (mC (.bl true)) (B0 (mC .non) (B0 (mC (.str "1")) (B0 (C9 (B0 (mC (.int 1)) B4)) (B0 (B6 T4 (mC (.int 10)) (mC (.int 29))) (B0 (mC (.bl false)) (B0 (mC (.int 3)) B4))))))))))))) (c7 2 J6 (F5 0 (B7 (mC (.int 11)) B9))))) [.par [.int a2,.bl b],.dat (dT T),.dat (.int v1),.dat (dR r),.dat (.int v2),.nil,.nil,.nil,.nil,.nil,.nil]=some (.nx,[.par [.int a3,.bl b],.dat (dT T),.dat (.int v1),.dat (dR r),.dat (.int v2),.dat odd,.nil,.nil,.nil,.nil,.nil]):=by
  refine P1 (e1:=[.par [.int a3,.bl b],.dat (dT T),.dat (.int v1),.dat (dR r),.dat (.int v2),.nil,.nil,.nil,.nil,.nil,.nil]) (D8 (K4 (X7 (E5 rfl (E5 rfl (E5 rfl (E5 rfl (E5 rfl (E5 rfl (E5 rfl (E5 rfl (E5 (D8 rfl rfl pow29) (E5 rfl (E5 rfl rfl))))))))))) (by simp))) t3 hodd)
 obtain⟨v4,a4,t4,p4,q4,a40⟩:=V9 (i:=0) (e:=[.par [.int a3,.bl b],.dat (dT T),.dat (.int v1),.dat (dR r),.dat (.int v2),.dat odd,.nil,.nil,.nil,.nil,.nil]) (w:=.par [.int a3,.bl b]) (k:=T.length) (M:=d6 E9 (B0 (A0 1) B4)) rfl rfl
  (by show some (D.int ((T.map dR).length:Nat),_)=_;rw[Qk]) a30 (by omega) (by omega)
 have s5:=P1 (i:=6) t4
 change D7 6 _ _=some (.nx,[.par [.int a4,.bl b],.dat (dT T),.dat (.int v1),.dat (dR r),.dat (.int v2),.dat odd,.dat (.int v4),.nil,.nil,.nil,.nil])at s5;have cl:∀lo hi,(Y4 (r.map D.int) lo hi).length≤7:=fun lo hi=>Zp (QY _ _ _) (by rw[Qk];omega)
 have cl2:∀lo hi,(Y4 (T.map dR) lo hi).length≤7:=fun lo hi=>Zp (QY _ _ _) (by rw[Qk];omega)
 obtain⟨i8,hrows5,s6⟩:∃i8:List D,i8.length=5/\(D7 7 (mF (J1 (B0 (B6 D5 (B6 D5 (rC (A0 3) N4 (N5 (A0 4))) (C9 (B0 (A0 5) B4))) (rC (A0 3) (N5 (B6 D5 (A0 4) (mC (.int 1)))) N4)) (B0 (B6 D5 (B6 D5 (rC (A0 3) N4 (N5 (A0 4))) (C9 (B0 (A0 5) B4))) (rC (A0 3) (N5 (A0 4)) N4)) (B0 (B6 D5 (rC (A0 3) N4 (N5 (A0 4))) (rC (A0 3) (N5 (B6 D5 (A0 4) (mC (.int 1)))) N4)) (B0 (mF (uX Bl (B0 (A0 3) B4))) (B0 (Y5 (A0 3)) B4)))))))) [.par [.int a4,.bl b],.dat (dT T),.dat (.int v1),.dat (dR r),.dat (.int v2),.dat odd,.dat (.int v4),.nil,.nil,.nil,.nil]=some (.nx,[.par [.int a4,.bl b],.dat (dT T),.dat (.int v1),.dat (dR r),.dat (.int v2),.dat odd,.dat (.int v4),.dat (.lst i8),.nil,.nil,.nil]):=by
  refine⟨[_,_,_,_,_],?_,P1 (e1:=[.par [.int a4,.bl b],.dat (dT T),.dat (.int v1),.dat (dR r),.dat (.int v2),.dat odd,.dat (.int v4),.nil,.nil,.nil,.nil]) (K4 (X7 (E5
   (D8 (D8 (X6 rfl rfl rfl) rfl (Z7 ?_)) (X6 rfl rfl rfl) (Z7 ?_)) (E5
   (D8 (D8 (X6 rfl rfl rfl) rfl (Z7 ?_)) (X6 rfl rfl rfl) (Z7 ?_)) (E5
   (D8 (X6 rfl rfl rfl) (X6 rfl rfl rfl) (Z7 ?_)) (E5 rfl (E5 rfl rfl))))) (by simp)))⟩
  ·rfl
  ·have:=cl none (some v2);simp;omega
  ·have:=cl none (some v2);have:=cl (some (v2+1)) none;simp;omega
  ·have:=cl none (some v2);simp;omega
  ·have:=cl none (some v2);have:=cl (some v2) none;simp;omega
  ·have:=cl none (some v2);have:=cl (some (v2+1)) none;omega
 obtain⟨v5,a5,t5,p5,q5,a50⟩:=V9 (i:=0) (e:=[.par [.int a4,.bl b],.dat (dT T),.dat (.int v1),.dat (dR r),.dat (.int v2),.dat odd,.dat (.int v4),.dat (.lst i8),.nil,.nil,.nil]) (w:=.par [.int a4,.bl b]) (k:=9) (M:=mC (.int 9)) rfl rfl rfl a40 (by omega) (by omega)
 change c7 2 _ _ _=some (_,[.par [.int a5,.bl b],.dat (dT T),.dat (.int v1),.dat (dR r),.dat (.int v2),.dat odd,.dat (.int v4),.dat (.lst i8),.nil,.nil,.nil])at t5;obtain⟨j5,hj5,ej5⟩:=QW (L:=[0,0,0,0,0,1,2,3,4]) p5 q5;obtain⟨one,_,hone⟩:=AW (ds:=i8) (v:=j5) (by simp at hj5;omega) (by simp at hj5;omega)
 have s7:(D7 8 (B6 m7 (A0 7) (B6 m7 (mF (J1 (B0 (mC (.int 0)) (B0 (mC (.int 0)) (B0 (mC (.int 0)) (B0 (mC (.int 0)) (B0 (mC (.int 0)) (B0 (mC (.int 1)) (B0 (mC (.int 2)) (B0 (mC (.int 3)) (B0 (mC (.int 4)) B4))))))))))) (c7 2 J6 (F5 0 (B7 (mC (.int 9)) B9)))))) [.par [.int a4,.bl b],.dat (dT T),.dat (.int v1),.dat (dR r),.dat (.int v2),.dat odd,.dat (.int v4),.dat (.lst i8),.nil,.nil,.nil]=some (.nx,[.par [.int a5,.bl b],.dat (dT T),.dat (.int v1),.dat (dR r),.dat (.int v2),.dat odd,.dat (.int v4),.dat (.lst i8),.dat one,.nil,.nil]):=
  P1 (e1:=[.par [.int a5,.bl b],.dat (dT T),.dat (.int v1),.dat (dR r),.dat (.int v2),.dat odd,.dat (.int v4),.dat (.lst i8),.nil,.nil,.nil]) (D8 rfl (D8 rfl t5 ej5) hone)
 obtain⟨n9,hsome3,s8⟩:∃n9:List D,n9.length=3/\(D7 9 (mF (J1 (B0 (B6 D5 (B6 D5 (rC (A0 1) N4 (N5 (A0 2))) (C9 (B0 (A0 8) B4))) (rC (A0 1) (N5 (B6 D5 (A0 2) (mC (.int 1)))) N4)) (B0 (B6 D5 (B6 D5 (rC (A0 1) N4 (N5 (A0 2))) (C9 (B0 (A0 3) B4))) (rC (A0 1) (N5 (A0 2)) N4)) (B0 (B6 D5 (rC (A0 1) N4 (N5 (A0 2))) (rC (A0 1) (N5 (B6 D5 (A0 2) (mC (.int 1)))) N4)) B4)))))) [.par [.int a5,.bl b],.dat (dT T),.dat (.int v1),.dat (dR r),.dat (.int v2),.dat odd,.dat (.int v4),.dat (.lst i8),.dat one,.nil,.nil]=some (.nx,[.par [.int a5,.bl b],.dat (dT T),.dat (.int v1),.dat (dR r),.dat (.int v2),.dat odd,.dat (.int v4),.dat (.lst i8),.dat one,.dat (.lst n9),.nil]):=by
  refine⟨[_,_,_],?_,P1 (e1:=[.par [.int a5,.bl b],.dat (dT T),.dat (.int v1),.dat (dR r),.dat (.int v2),.dat odd,.dat (.int v4),.dat (.lst i8),.dat one,.nil,.nil]) (K4 (X7 (E5
   (D8 (D8 (X6 rfl rfl rfl) rfl (Z7 ?_)) (X6 rfl rfl rfl) (Z7 ?_)) (E5
   (D8 (D8 (X6 rfl rfl rfl) rfl (Z7 ?_)) (X6 rfl rfl rfl) (Z7 ?_)) (E5
   (D8 (X6 rfl rfl rfl) (X6 rfl rfl rfl) (Z7 ?_)) rfl))) (by simp)))⟩
  ·rfl
  ·have:=cl2 none (some v1);simp;omega
  ·have:=cl2 none (some v1);have:=cl2 (some (v1+1)) none;simp;omega
  ·have:=cl2 none (some v1);simp;omega
  ·have:=cl2 none (some v1);have:=cl2 (some v1) none;simp;omega
  ·have:=cl2 none (some v1);have:=cl2 (some (v1+1)) none;omega
 have s9:(K7 10 (uX Bl (B0 (A0 1) B4))) [.par [.int a5,.bl b],.dat (dT T),.dat (.int v1),.dat (dR r),.dat (.int v2),.dat odd,.dat (.int v4),.dat (.lst i8),.dat one,.dat (.lst n9),.nil]=some (.nx,[.par [.int a5,.bl b],.dat (dT T),.dat (.int v1),.dat (dR r),.dat (.int v2),.dat odd,.dat (.int v4),.dat (.lst i8),.dat one,.dat (.lst n9),.own (T.map dR)]):=rfl
 have hv4:v4.toNat<T.length:=by omega
 obtain⟨d4,_,e4⟩:=AW (ds:=T.map dR) (v:=v4) p4 (by rw[Qk];exact q4)
 obtain⟨d1,_,e1⟩:=AW (ds:=T.map dR) (v:=v1) p1 (by rw[Qk];exact q1)
 have s10:(Q3 (C9 (B0 (N8 10 (A0 6)) (B0 (N8 10 (A0 2)) B4))) (gT 2 (j3 (gS 10 (A0 2)) (j3 (gS 10 (A0 6)) pZ)))) [.par [.int a5,.bl b],.dat (dT T),.dat (.int v1),.dat (dR r),.dat (.int v2),.dat odd,.dat (.int v4),.dat (.lst i8),.dat one,.dat (.lst n9),.own (T.map dR)]=some (.nx,[.par [.int a5,.bl b],.dat (dT T),.dat (.int v1),.dat (dR r),.dat (.int v2),.dat odd,.dat (.int v4),.dat (.lst i8),.dat one,.dat (.lst n9),.own (((T.map dR).set v1.toNat d4).set v4.toNat d1)]):=by
  have m1:(N8 10 (A0 6)) [.par [.int a5,.bl b],.dat (dT T),.dat (.int v1),.dat (dR r),.dat (.int v2),.dat odd,.dat (.int v4),.dat (.lst i8),.dat one,.dat (.lst n9),.own (T.map dR)]=some (d4,[.par [.int a5,.bl b],.dat (dT T),.dat (.int v1),.dat (dR r),.dat (.int v2),.dat odd,.dat (.int v4),.dat (.lst i8),.dat one,.dat (.lst n9),.own (T.map dR)]):=by
   show(m7 (.lst (T.map dR)) (.int v4)).map _=_;rw[e4];rfl
  have m2:(N8 10 (A0 2)) [.par [.int a5,.bl b],.dat (dT T),.dat (.int v1),.dat (dR r),.dat (.int v2),.dat odd,.dat (.int v4),.dat (.lst i8),.dat one,.dat (.lst n9),.own (T.map dR)]=some (d1,[.par [.int a5,.bl b],.dat (dT T),.dat (.int v1),.dat (dR r),.dat (.int v2),.dat odd,.dat (.int v4),.dat (.lst i8),.dat one,.dat (.lst n9),.own (T.map dR)]):=by
   show(m7 (.lst (T.map dR)) (.int v1)).map _=_;rw[e1];rfl
  have m3:(C9 (B0 (N8 10 (A0 6)) (B0 (N8 10 (A0 2)) B4))) [.par [.int a5,.bl b],.dat (dT T),.dat (.int v1),.dat (dR r),.dat (.int v2),.dat odd,.dat (.int v4),.dat (.lst i8),.dat one,.dat (.lst n9),.own (T.map dR)]=some (.tup [d4,d1],[.par [.int a5,.bl b],.dat (dT T),.dat (.int v1),.dat (dR r),.dat (.int v2),.dat odd,.dat (.int v4),.dat (.lst i8),.dat one,.dat (.lst n9),.own (T.map dR)]):=by
   unfold C9;rw[E5 m1 (E5 m2 rfl)];rfl
  unfold Q3;rw[m3];show(((vK (T.map dR).length v1).map _).bind _).map _=_;rw[QX p1 (by rw[Qk];exact q1)]
  show((((vK ((T.map dR).set v1.toNat d4).length v4).map _).bind _).map _)=_;rw[QX p4 (by rw[Zm,Qk];exact q4)];rfl
 obtain⟨sw,hsw⟩:∃sw:List D,sw=((T.map dR).set v1.toNat d4).set v4.toNat d1:=⟨_,rfl⟩;rw[←hsw]at s10;obtain⟨qU,hsome10,s11⟩:∃qU:List D,qU.length=10/\(D7 9 (mF (BD (A0 9) (mF (J1 (B0 (d6 K5 (B0 (A0 10) B4)) (B0 (mF (uX Bl (B0 (A0 1) B4))) (B0 (mC .non) (B0 (mC .emp) (B0 (C9 (B0 (A0 1) B4)) (B0 (A0 5) (B0 (Y5 (A0 1)) B4)))))))))))) [.par [.int a5,.bl b],.dat (dT T),.dat (.int v1),.dat (dR r),.dat (.int v2),.dat odd,.dat (.int v4),.dat (.lst i8),.dat one,.dat (.lst n9),.own sw]=some (.nx,[.par [.int a5,.bl b],.dat (dT T),.dat (.int v1),.dat (dR r),.dat (.int v2),.dat odd,.dat (.int v4),.dat (.lst i8),.dat one,.dat (.lst qU),.dat (.lst sw)]):=by
  refine⟨n9++[.tup sw,.lst (T.map dR),.non,.emp,.tup [dT T],odd,.tup (T.map dR).reverse],by simp[hsome3],?_⟩
  exact P1 (e1:=[.par [.int a5,.bl b],.dat (dT T),.dat (.int v1),.dat (dR r),.dat (.int v2),.dat odd,.dat (.int v4),.dat (.lst i8),.dat one,.dat (.lst n9),.dat (.lst sw)]) (K4 (lR rfl (K4 (X7 rfl (by simp))) (by simp[hsome3])))
 obtain⟨v6,a6,t6,p6,q6,a60⟩:=V9 (i:=0) (e:=[.par [.int a5,.bl b],.dat (dT T),.dat (.int v1),.dat (dR r),.dat (.int v2),.dat odd,.dat (.int v4),.dat (.lst i8),.dat one,.dat (.lst qU),.dat (.lst sw)]) (w:=.par [.int a5,.bl b]) (k:=15) (M:=mC (.int 15)) rfl rfl rfl a50 (by omega) (by omega)
 change c7 2 _ _ _=some (_,[.par [.int a6,.bl b],.dat (dT T),.dat (.int v1),.dat (dR r),.dat (.int v2),.dat odd,.dat (.int v4),.dat (.lst i8),.dat one,.dat (.lst qU),.dat (.lst sw)])at t6;obtain⟨j6,hj6,ej6⟩:=QW (L:=[0,0,0,0,0,1,2,3,3,4,5,6,7,8,9]) p6 q6;obtain⟨res,_,hres⟩:=AW (ds:=qU) (v:=j6) (by simp at hj6;omega) (by simp at hj6;omega)
 refine⟨res,a6,(M5 (d:=res) (env:=[.par [.int a6,.bl b],.dat (dT T),.dat (.int v1),.dat (dR r),.dat (.int v2),.dat odd,.dat (.int v4),.dat (.lst i8),.dat one,.dat (.lst qU),.dat (.lst sw)]) ?_).trans rfl,a60⟩;show Km [.par [.int a,.bl b],.dat (dT T),.nil,.nil,.nil,.nil,.nil,.nil,.nil,.nil,.nil]=_;unfold Km;rw[J3 s1,J3 s2,J3 s3,J3 s4,J3 s5,J3 s6,J3 s7,J3 s8,J3 s9,J3 s10,J3 s11];exact L8 (D8 rfl (D8 rfl t6 ej6) hres)
theorem lT(hT:Tab T)(ha:0≤a):∃d a',CL [.par [.int a,.bl b],.dat (dT T)]=some (.d d,[.par [.int a',.bl b],.dat (dT T)])/\0≤a':=
 lS hT.lo (Zp hT.hi (by decide)) hT.len ha
theorem Ek{t:Mo D}{r:Option (D×c5)}(h:t e=some (.bl true,e1))(h2:u e1=r):R5 t u e=r:=by unfold R5;rw[h];exact h2
theorem lU{t:Mo D}(h:t e=some (.bl false,e1)):R5 t u e=some (.bl false,e1):=by unfold R5;rw[h];rfl
theorem BH(h:m e=some (d,e1))(h2:as e1=some (q,e2)):B7 m as e=some (.d d::q,e2):=by
 unfold B7;rw[h,Qj,h2];rfl
theorem GX(x y:Int):j0 false (.int x) (.int y)=some (.bl (x==y)):=by
 rw[YZ];congr 2
theorem lV{m:Nat}{f:OO}:E9 [dT (gm n m f)]=some (.int n):=by show some (D.int _)=_;rw[Qk,AV]
theorem QZ(k:Nat)(i:Int):M6 (k+1) [.dat (.int i),.dat (.int i)]=some (.d (.bl true),[.dat (.int i),.dat (.int i)]):=by
 refine(M5 (d:=.bl true) (env:=[.dat (.int i),.dat (.int i)]) ?_).trans rfl;show Ap (M6 k) [.dat (.int i),.dat (.int i)]=_;unfold Ap;refine F8 (O1 rfl rfl) (L8 ?_);show some (D.bl (i==i),_)=_;rw[Yr]
def isI(o:Option D)(k:Int):Bool:=match o with
 |some (.int i)=>i==k
 |_=>false
theorem LA{o:Option D}{k:Int}(h:isI o k=true):o=some (.int k):=by
 unfold isI at h;split at h
 ·rw[Xu h]
 ·cases h
theorem lW:V8 (some "NoTable")=some (.int 0):=LA (by rfl')
theorem RA{w:W}{c:Mu}(hw:e[i]? =some w)(hm:w.mut=some c)(h:as e=some (q,e1)):F5 i as e=some (.sl i::q,e1):=by
 unfold F5;rw[hw,Qj,hm,Qj,h];rfl
theorem RB{t:Mo Bool}{x:Mx}(h:t e=some (true,e1)):yH t x y e=x e1:=by unfold yH;rw[h];rfl
theorem GY{x:Mx}{n:Str}(h:x e=some n):X1 x s y e=some n:=by unfold X1;rw[h]
theorem RC(h:qY d=false):Cz [.dat d]=some "NoTable":=by
 have e:=QE d
 rw[h]at e;show KL [.dat d]=_;unfold KL;exact(RB (e1:=[.dat d]) (Y6 (O3 (T3 (av:=[.d d]) rfl rfl rfl e)))).trans rfl
theorem RD{g:OZ}{b:Mo Fl}{P:c5->Prop}{R:D->c5->Prop}:∀{ds:List D}{env:c5},(∀d∈ds,∀e,P e->∃e1,g d e=some e1/\((∃e2,b e1=some (.nx,e2)/\P e2)\/ ∃r e2,b e1=some (.ret r,e2)/\R r e2))->P env->(∃env',loop g b ds env=some (.nx,env')/\P env')\/ ∃r env',loop g b ds env=some (.ret r,env')/\R r env'
 |[],env,_,p=>.inl ⟨env,rfl,p⟩
 |d::ds,env,h,p=>by
  obtain⟨e1,h1,h2|⟨r,e2,h2,h3⟩⟩:=h d (by simp) env p
  ·obtain⟨e2,h2,h3⟩:=h2
   have:=RD (ds:=ds) (fun x hx=>h x (by simp[hx])) h3
   unfold loop;rw[h1,Qj,h2,Qj];exact this
  ·refine .inr ⟨r,e2,?_,h3⟩
   unfold loop;rw[h1,Qj,h2,Qj]
abbrev nb:Mo Fl:=(C4 (D7 2 (c7 2 CL (F5 0 (B7 (c7 3 U6 (F5 0 (B7 (mC (.int 1)) (B7 (mC (.int 6)) B9)))) B9)))) (F1 (G8 (mT (c7 1 DL (B7 (A0 2) B9)))) (D1 (A0 2)) n5))
theorem lX(ha:0≤a)(w1 w2:W):(∃a' x2,0≤a'/\nb [.par [.int a,.bl b],w1,w2]=some (.nx,[.par [.int a',.bl b],w1,x2]))\/ ∃d a',0≤a'/\qY d=false/\nb [.par [.int a,.bl b],w1,w2]=some (.ret d,[.par [.int a',.bl b],w1,.dat d]):=by
 obtain⟨T,a1,et,a10,hT,_,_⟩:=Ky (a:=a) (l:=1) (m:=6) (b:=b) ha (by decide) (by decide) (by decide)
 obtain⟨d,a2,eb,a20⟩:=lT (b:=b) hT a10;have c1:(c7 3 U6 (F5 0 (B7 (mC (.int 1)) (B7 (mC (.int 6)) B9)))) [.par [.int a,.bl b],w1,w2]=some (dT T,[.par [.int a1,.bl b],w1,w2]):=
  S2 ((Ae (e1:=[.par [.int a,.bl b],w1,w2]) (w:=.par [.int a,.bl b]) (av:=[.sl 0,.d (.int 1),.d (.int 6)]) (i:=0) (c:=[.int a,.bl b]) (c':=[.int a1,.bl b]) rfl rfl rfl rfl rfl et rfl).trans rfl)
 have c2:(D7 2 (c7 2 CL (F5 0 (B7 (c7 3 U6 (F5 0 (B7 (mC (.int 1)) (B7 (mC (.int 6)) B9)))) B9)))) [.par [.int a,.bl b],w1,w2]=some (.nx,[.par [.int a2,.bl b],w1,.dat d]):=by
  refine P1 (e1:=[.par [.int a2,.bl b],w1,w2]) (S2 ((Ae (e1:=[.par [.int a1,.bl b],w1,w2]) (w:=.par [.int a1,.bl b]) (av:=[.sl 0,.d (dT T)]) (i:=0) (c:=[.int a1,.bl b]) (c':=[.int a2,.bl b]) (RA rfl rfl (BH c1 rfl)) rfl rfl rfl rfl eb rfl).trans rfl))
 have t:=Y6 (O3 (T3 (n:=1) (f:=DL) (as:=B7 (A0 2) B9) (env:=[.par [.int a2,.bl b],w1,.dat d]) (av:=[.d d]) rfl rfl rfl (kT d)))
 unfold nb;cases h:qY d with
 |true=>
  rw[h]at t;exact .inl ⟨a2,_,a20,F8 c2 (O1 t rfl)⟩
 |false=>
  rw[h]at t;exact .inr ⟨d,a2,a20,h,F8 c2 (BO t rfl)⟩
theorem nt0:qY .non=false:=by rfl'
theorem nt1:qY (.tup [])=false:=by rfl'
theorem nt2:qY (.tup [.tup [.int 0]])=false:=by rfl'
theorem nt3:qY (.tup [.tup [.int 1,.int 0],.tup [.int 1,.int 0]])=false:=by rfl'
theorem lY(ha:0≤a):∃d a',Ee [.par [.int a,.bl b]]=some (.d d,[.par [.int a',.bl b]])/\0≤a'/\qY d=false:=by
 have L:=RD (g:=gN 1) (b:=nb) (P:=fun e=>∃a x1 x2,0≤a/\e=[.par [.int a,.bl b],x1,x2]) (R:=fun d e=>qY d=false/\∃a x1 x2,0≤a/\e=[.par [.int a,.bl b],x1,x2]) (ds:=u5 8) (env:=[.par [.int a,.bl b],.nil,.nil])
  (fun d hd e ⟨a,x1,x2,ha,he⟩=>by
   subst he;refine⟨_,rfl,?_⟩;obtain⟨a',y2,a0,h⟩|⟨r,a',a0,hr,h⟩:=lX (b:=b) ha (.dat d) x2
   ·exact .inl ⟨_,h,a',_,_,a0,rfl⟩
   ·exact .inr ⟨r,_,h,hr,a',_,_,a0,rfl⟩) ⟨a,_,_,ha,rfl⟩
 obtain⟨e',h,a1,x1,x2,a10,rfl⟩|⟨d,e',h,hd,a1,x1,x2,a10,rfl⟩:=L
 ·obtain⟨v,a2,tk,v0,v4,a20⟩:=V9 (i:=0) (e:=[.par [.int a1,.bl b],x1,x2]) (w:=.par [.int a1,.bl b]) (k:=4) (M:=mC (.int 4)) rfl rfl rfl a10 (by decide) (by decide)
  obtain⟨d,hd,hx⟩:=AW (ds:=[.non,.tup [],.tup [.tup [.int 0]],.tup [.tup [.int 1,.int 0],.tup [.int 1,.int 0]]]) v0 v4;have hT:qY d=false:=by
   simp only[Qb,Qo,Yb]at hd;obtain rfl|rfl|rfl|rfl:=hd
   ·exact nt0
   ·exact nt1
   ·exact nt2
   ·exact nt3
  refine⟨d,a2,(M5 (d:=d) (env:=[.par [.int a2,.bl b],x1,x2]) ?_).trans rfl,a20,hT⟩;show Ed [.par [.int a,.bl b],.nil,.nil]=_;unfold Ed;exact F8 ((U3 (Aj (n:=8) rfl rfl (by decide))).trans h) (L8 (D8 rfl tk hx))
 ·refine⟨d,a1,(M5 (d:=d) (env:=[.par [.int a1,.bl b],x1,x2]) ?_).trans rfl,a10,hd⟩
  show Ed [.par [.int a,.bl b],.nil,.nil]=_;unfold Ed;exact Q8 ((U3 (Aj (n:=8) rfl rfl (by decide))).trans h)
theorem Tab.fn(hT:Tab T):T=gm T.length T.length (at2 T)/\sF T.length (at2 T):=by
 have e:=QT rfl hT.len
 refine⟨e,?_⟩;have h:=hT.ok;rw[e]at h;exact(Ej.mp h).2
theorem lZ{x:Mx}{r:Option Str}(h:x e=none)(hs:s e=some (.nx,e1))(hy:y e1=r):X1 x s y e=r:=by unfold X1;rw[h,hs];exact hy
theorem RE(n:Nat)(g:Nat->α):((List.range n).map g).reverse=(List.range n).map fun i=>g (n-1-i):=by
 apply Ua
 ·simp
 ·intro i h1 h2
  simp
theorem mB{m:Nat}{f:OO}:(gm n m f).reverse=gm n m fun i j=>f (n-1-i) j:=RE n _
theorem RF{r:D}(h:m e=some (.tup ds,e))(hr:.tup ds.reverse=r):Y5 m e=some (r,e):=by
 unfold Y5;rw[h,←hr]
 rfl
theorem RG{f:OO}(h:m e=some (dT (gm n k f),e)):Y5 m e=some (dT (gm n k fun i j=>f (n-1-i) j),e):=
 RF h (by unfold dT;rw[←mB,List.map_reverse])
section
variable{f:OO}
theorem RH(h1:1≤n)(h6:n≤6):V6 [.dat (dT (gm n n f))]=some (.d (dT (gm n n fun i j=>f j i)),[.dat (dT (gm n n f))]):=by
 have h:=QB (R:=gm n n f) (n:=n) (fun z=>by have:=Yu List.length z;rw[AV]at this;simp at this;omega) GW (by omega) (by rw[AV];omega)
 rw[QU]at h;exact h
theorem mD:DC [.dat (dT (gm n n f))]=some (.d (dT (gm n n f)),[.dat (dT (gm n n f))]):=rfl
theorem GZ(h1:1≤n)(h6:n≤6):Z6 [.dat (dT (gm n n f))]=some (.d (dT (gm n n fun i j=>f j (n-1-i))),[.dat (dT (gm n n f))]):=by
 refine Z4 (env:=[.dat (dT (gm n n f))]) ?_ rfl;show KO [.dat (dT (gm n n f))]=_;unfold KO;exact L8 (RG (c1 rfl (RH h1 h6)))
theorem LB(h1:1≤n)(h6:n≤6):AQ [.dat (dT (gm n n f))]=some (.d (dT (gm n n fun i j=>f (n-1-i) (n-1-j))),[.dat (dT (gm n n f))]):=by
 refine Z4 (env:=[.dat (dT (gm n n f))]) ?_ rfl;show KP [.dat (dT (gm n n f))]=_;unfold KP;exact L8 (c1 (c1 rfl (GZ h1 h6)) (GZ h1 h6))
theorem mG(h1:1≤n)(h6:n≤6):DD [.dat (dT (gm n n f))]=some (.d (dT (gm n n fun i j=>f (n-1-j) i)),[.dat (dT (gm n n f))]):=by
 refine Z4 (env:=[.dat (dT (gm n n f))]) ?_ rfl;show KQ [.dat (dT (gm n n f))]=_;unfold KQ;have h:gm n n (fun i j=>f (n-1-j) (n-1-(n-1-i)))=gm n n (fun i j=>f (n-1-j) i):=lN fun i hi j hj=>by rw[show n-1-(n-1-i)=i by omega]
 rw[←h];exact L8 (c1 (c1 rfl (LB h1 h6)) (GZ h1 h6))
theorem mH(h1:1≤n)(h6:n≤6):DE [.dat (dT (gm n n f))]=some (.d (dT (gm n n fun i j=>f i (n-1-j))),[.dat (dT (gm n n f))]):=by
 refine Z4 (env:=[.dat (dT (gm n n f))]) ?_ rfl;show KR [.dat (dT (gm n n f))]=_;unfold KR;refine L8 (O0 (E5 (K4 (CF (α:=Nat) (l:=List.range n) (q:=fun i=>dR (rw' n (f i))) (f:=fun i=>dR (rw' n fun j=>f i (n-1-j))) (base:=[.nil]) (V2 rfl (by show some ((gm n n f).map dR)=_;unfold gm;rw[Zk];rfl)) (by simp;omega) rfl rfl (fun i hi=>RF (ds:=(rw' n (f i)).map D.int) rfl ?_) (fun _=>rfl))) rfl) (d:=dT (gm n n fun i j=>f i (n-1-j))) ?_)
 ·unfold dR rw'
  rw[←RE,List.map_reverse]
 ·show some (D.tup _)=_
  unfold dT gm;rw[Zk]
  rfl
theorem mI:DF [.dat (dT (gm n n f))]=some (.d (dT (gm n n fun i j=>f (n-1-i) j)),[.dat (dT (gm n n f))]):=by
 refine Z4 (env:=[.dat (dT (gm n n f))]) ?_ rfl;show KU [.dat (dT (gm n n f))]=_;unfold KU;exact L8 (RG rfl)
theorem RI(h1:1≤n)(h6:n≤6):BR [.dat (dT (gm n n f))]=some (.d (dT (gm n n fun i j=>f j i)),[.dat (dT (gm n n f))]):=by
 refine Z4 (env:=[.dat (dT (gm n n f))]) ?_ rfl;show KW [.dat (dT (gm n n f))]=_;unfold KW;exact L8 (c1 rfl (RH h1 h6))
theorem mJ(h1:1≤n)(h6:n≤6):DG [.dat (dT (gm n n f))]=some (.d (dT (gm n n fun i j=>f (n-1-j) (n-1-i))),[.dat (dT (gm n n f))]):=by
 refine Z4 (env:=[.dat (dT (gm n n f))]) ?_ rfl;show KY [.dat (dT (gm n n f))]=_;unfold KY;exact L8 (c1 (c1 rfl (RI h1 h6)) (LB h1 h6))
end
abbrev TN:List (Str×Str):=[("stay","stayed"),("left","turned_left"),("half","turned_half"),("right","turned_right"),("upright","told_upright"),("flat","told_flat"),("slant","told_slant"),("other","told_other")]
abbrev TF:List (Str×Fn):=[("stayed",DC),("turned_left",Z6),("turned_half",AQ),("turned_right",DD),("told_upright",DE),("told_flat",DF),("told_slant",BR),("told_other",DG)]
abbrev W8:List Str:=["stay","left","half","right","upright","flat","slant","other"]
def pos(w:Str)(n r c:Nat):Nat×Nat:=
 if w="stay" then(r,c)else if w="left" then(c,n-1-r)else if w="half" then(n-1-r,n-1-c)else if w="right" then(n-1-c,r)
 else if w="upright" then(r,n-1-c)else if w="flat" then(n-1-r,c)else if w="slant" then(c,r)else(n-1-c,n-1-r)
def tf(w:Str)(n:Nat)(f:OO)(r c:Nat):Int:=f (pos w n r c).1 (pos w n r c).2
structure Turn(w:Str)(F:Fn):Prop where
 nm:∃x,tL TN (.inr w)=some x/\TF.lookup x=some F
 f:∀n f,1≤n->n≤6->F [.dat (dT (gm n n f))]=some (.d (dT (gm n n (tf w n f))),[.dat (dT (gm n n f))])
theorem RJ:pos "stay"=fun n r c=>(r,c):=by
 funext n r c
 unfold pos;rw[Qn rfl]
theorem RK:pos "left"=fun n r c=>(c,n-1-r):=by
 funext n r c
 unfold pos;rw[Ql (by rfl'),Qn rfl]
theorem RL:pos "half"=fun n r c=>(n-1-r,n-1-c):=by
 funext n r c
 unfold pos;rw[Ql (by rfl'),Ql (by rfl'),Qn rfl]
theorem RM:pos "right"=fun n r c=>(n-1-c,r):=by
 funext n r c
 unfold pos;rw[Ql (by rfl'),Ql (by rfl'),Ql (by rfl'),Qn rfl]
theorem RN:pos "upright"=fun n r c=>(r,n-1-c):=by
 funext n r c
 unfold pos;rw[Ql (by rfl'),Ql (by rfl'),Ql (by rfl'),Ql (by rfl'),Qn rfl]
theorem RO:pos "flat"=fun n r c=>(n-1-r,c):=by
 funext n r c
 unfold pos;rw[Ql (by rfl'),Ql (by rfl'),Ql (by rfl'),Ql (by rfl'),Ql (by rfl'),Qn rfl]
theorem RP:pos "slant"=fun n r c=>(c,r):=by
 funext n r c
 unfold pos;rw[Ql (by rfl'),Ql (by rfl'),Ql (by rfl'),Ql (by rfl'),Ql (by rfl'),Ql (by rfl'),Qn rfl]
theorem RQ:pos "other"=fun n r c=>(n-1-c,n-1-r):=by
 funext n r c
 unfold pos;rw[Ql (by rfl'),Ql (by rfl'),Ql (by rfl'),Ql (by rfl'),Ql (by rfl'),Ql (by rfl'),Ql (by rfl')]
theorem BW{x:Str}{l:List (Str×Fn)}{y:Str}{F:Fn}(h:(x==y)=true):((y,F)::l).lookup x=some F:=by unfold List.lookup;rw[h]
theorem M7{x:Str}{l:List (Str×Fn)}{y:Str}{F:Fn}{r:Option Fn}(h:(x==y)=false)(t:l.lookup x=r):((y,F)::l).lookup x=r:=by unfold List.lookup;rw[h];exact t
theorem BX{kvs:List (Str×Str)}{x:Str}(h:(tL kvs (.inr w)==some x)=true):tL kvs (.inr w)=some x:=Za.mp h
theorem tn0:Turn "stay" DC:=⟨⟨"stayed",BX (by rfl'),BW (by rfl')⟩,fun n f h1 h6=>by unfold tf;rw[RJ];exact mD⟩
theorem tn1:Turn "left" Z6:=⟨⟨"turned_left",BX (by rfl'),M7 (by rfl') (BW (by rfl'))⟩,fun n f h1 h6=>by unfold tf;rw[RK];exact GZ h1 h6⟩
theorem tn2:Turn "half" AQ:=⟨⟨"turned_half",BX (by rfl'),M7 (by rfl') (M7 (by rfl') (BW (by rfl')))⟩,fun n f h1 h6=>by unfold tf;rw[RL];exact LB h1 h6⟩
theorem tn3:Turn "right" DD:=⟨⟨"turned_right",BX (by rfl'),M7 (by rfl') (M7 (by rfl') (M7 (by rfl') (BW (by rfl'))))⟩,fun n f h1 h6=>by unfold tf;rw[RM];exact mG h1 h6⟩
theorem tn4:Turn "upright" DE:=⟨⟨"told_upright",BX (by rfl'),M7 (by rfl') (M7 (by rfl') (M7 (by rfl') (M7 (by rfl') (BW (by rfl')))))⟩,fun n f h1 h6=>by unfold tf;rw[RN];exact mH h1 h6⟩
theorem tn5:Turn "flat" DF:=⟨⟨"told_flat",BX (by rfl'),M7 (by rfl') (M7 (by rfl') (M7 (by rfl') (M7 (by rfl') (M7 (by rfl') (BW (by rfl'))))))⟩,fun n f h1 h6=>by unfold tf;rw[RO];exact mI⟩
theorem tn6:Turn "slant" BR:=⟨⟨"told_slant",BX (by rfl'),M7 (by rfl') (M7 (by rfl') (M7 (by rfl') (M7 (by rfl') (M7 (by rfl') (M7 (by rfl') (BW (by rfl')))))))⟩,fun n f h1 h6=>by unfold tf;rw[RP];exact RI h1 h6⟩
theorem tn7:Turn "other" DG:=⟨⟨"told_other",BX (by rfl'),M7 (by rfl') (M7 (by rfl') (M7 (by rfl') (M7 (by rfl') (M7 (by rfl') (M7 (by rfl') (M7 (by rfl') (BW (by rfl'))))))))⟩,fun n f h1 h6=>by unfold tf;rw[RQ];exact mJ h1 h6⟩
theorem RS(h:w∈W8):∃F,Turn w F:=by
 simp only[W8,Qb,Qo,Yb]at h;obtain rfl|rfl|rfl|rfl|rfl|rfl|rfl|rfl:=h
 ·exact⟨_,tn0⟩
 ·exact⟨_,tn1⟩
 ·exact⟨_,tn2⟩
 ·exact⟨_,tn3⟩
 ·exact⟨_,tn4⟩
 ·exact⟨_,tn5⟩
 ·exact⟨_,tn6⟩
 ·exact⟨_,tn7⟩
theorem mK{F:Fn}(T:Turn w F){f:OO}(h1:1≤n)(h6:n≤6):X4 [.dat (dT (gm n n f)),.dat (.str w)]=some (.d (dT (gm n n (tf w n f))),[.dat (dT (gm n n f)),.dat (.str w)]):=by
 obtain⟨x,hx,hF⟩:=T.nm;have e:=T.f n f h1 h6;generalize dT (gm n n f)=A at *;generalize dT (gm n n (tf w n f))=Z at *;refine Z4 (env:=[.dat A,.dat (.str w),.dat (.obj (.fn x))]) ?_ rfl;show Kc [.dat A,.dat (.str w),.nil]=_;unfold Kc;refine F8 (Z3 (d:=.obj (.fn x)) (e1:=[.dat A,.dat (.str w),.nil]) (e2:=[.dat A,.dat (.str w),.dat (.obj (.fn x))]) ?_ rfl) (L8 ?_)
 ·show(tL TN (.inr w)).map _=_
  rw[hx]
  rfl
 ·show(TF.lookup x).bind _=_
  rw[hF];exact c1 rfl e
def yM:D->Bool
 |.str x=>(tL TN (.inr x)).isSome
 |_=>false
theorem RT(d:D)(h:∀x,d≠.obj x):DH [.dat d]=some (.d (.bl (yM d)),[.dat d]):=by
 refine Z4 (env:=[.dat d]) ?_ rfl;show KZ [.dat d]=_;unfold KZ;cases d with
 |str x=>exact L8 (Ek (e1:=[.dat (.str x)]) rfl rfl)
 |obj o=>exact absurd rfl (h o)
 |_=>exact L8 (lU rfl)
theorem mL(h:∀x,d≠.obj x)(hi:yM d=true):DI [.dat d]=some (.d .non,[.dat d]):=by
 have e:=RT d h
 rw[hi]at e;refine(Mt (env:=[.dat d]) ?_).trans rfl;show Ka [.dat d]=_;unfold Ka;exact O1 (Y6 (b:=true) (O3 (c1 rfl e))) rfl
theorem mM(h:∀x,d≠.obj x)(hi:yM d=false):GR [.dat d]=some ("NoTurn":Str):=by
 have e:=RT d h
 rw[hi]at e;show Kb [.dat d]=_;unfold Kb;exact(RB (e1:=[.dat d]) (Y6 (b:=false) (O3 (c1 rfl e)))).trans rfl
section
variable{f:OO}
end
theorem mO:V8 (some "NoTurn")=some (.int 7):=LA (by rfl')
theorem BY{a:Str}{t:List (Str×List Int)}(h:a=w):t9 ((a,l)::t) (.inr w)=some l:=Qn (Yu Sum.inr h)
theorem Q1{a:Str}{t:List (Str×List Int)}{r:Option (List Int)}(h:¬ a=w)(ht:t9 t (.inr w)=r):t9 ((a,l)::t) (.inr w)=r:=(Ql fun z=>h (Sum.inr.inj z)).trans ht
section
variable{md:Mo D}{kvs:List (Str×List Int)}{r:D}
theorem BZ(h1:md e=some (.obj (.dt kvs),e))(h2:ma e=some (.str w,e))(h3:mb e=some (r,e))(h:t9 kvs (.inr w)=some l):Z1 md ma mb e=some (.tup (l.map .int),e):=by
 unfold Z1;rw[h1,Qj,h2,Qj,h3,Qj];show some (match t9 kvs (.inr w)with|none=>(r,e)|some l=>(.tup (l.map .int),e))=_
 rw[h]
theorem Ba(h1:md e=some (.obj (.dt kvs),e))(h2:ma e=some (.str w,e))(h3:mb e=some (r,e))(h:t9 kvs (.inr w)=none):Z1 md ma mb e=some (r,e):=by
 unfold Z1;rw[h1,Qj,h2,Qj,h3,Qj];show some (match t9 kvs (.inr w)with|none=>(r,e)|some l=>(.tup (l.map .int),e))=_
 rw[h]
end
abbrev d1(n r c:Int):List (Str×List Int):=[("stay",[r,c]),("left",[c,n-1-r]),("half",[n-1-r,n-1-c]),("right",[n-1-c,r])]
abbrev d2(n r c:Int):List (Str×List Int):=[("upright",[r,n-1-c]),("flat",[n-1-r,c]),("slant",[c,r]),("other",[n-1-c,n-1-r])]
theorem Ga{r:Nat}(h:r<n):(n:Int)-1-(r:Int)=((n-1-r:Nat):Int):=by omega
theorem mP{md me:Mo D}{r:Nat}(hw:w∈W8)(hr:r<n)(hc:c<n)(h1:md e=some (.obj (.dt (d1 n r c)),e))(h1':me e=some (.obj (.dt (d2 n r c)),e))(h2:ma e=some (.str w,e))(h3:mb e=some (.tup [.int r,.int c],e)):
  Z1 md ma (Z1 me ma mb) e=some (.tup [.int ((pos w n r c).1:Nat),.int ((pos w n r c).2:Nat)],e):=by
 rw[show d1 n r c=([("stay",[(r:Int),(c:Int)]),("left",[(c:Int),((n-1-r:Nat):Int)]),("half",[((n-1-r:Nat):Int),((n-1-c:Nat):Int)]),("right",[((n-1-c:Nat):Int),(r:Int)])]:List (Str×List Int)) by unfold d1;rw[Ga hr,Ga hc]]at h1
 rw[show d2 n r c=([("upright",[(r:Int),((n-1-c:Nat):Int)]),("flat",[((n-1-r:Nat):Int),(c:Int)]),("slant",[(c:Int),(r:Int)]),("other",[((n-1-c:Nat):Int),((n-1-r:Nat):Int)])]:List (Str×List Int)) by unfold d2;rw[Ga hr,Ga hc]]at h1'
 have nn {w:Str}{l1 l2 l3 l4:List Int}(a1:¬ "stay"=w) (a2:¬ "left"=w) (a3:¬ "half"=w) (a4:¬ "right"=w):t9 [("stay",l1),("left",l2),("half",l3),("right",l4)] (.inr w)=none:=Q1 a1 (Q1 a2 (Q1 a3 (Q1 a4 rfl)))
 have mm {w:Str}{l1 l2 l3 l4:List Int}(a1:¬ "upright"=w) (a2:¬ "flat"=w) (a3:¬ "slant"=w) (a4:¬ "other"=w):t9 [("upright",l1),("flat",l2),("slant",l3),("other",l4)] (.inr w)=none:=Q1 a1 (Q1 a2 (Q1 a3 (Q1 a4 rfl)))
 simp only[W8,Qb,Qo,Yb]at hw;obtain rfl|rfl|rfl|rfl|rfl|rfl|rfl|rfl:=hw
 ·rw[RJ];exact BZ h1 h2 (Ba h1' h2 h3 (mm (by rfl') (by rfl') (by rfl') (by rfl'))) (BY rfl)
 ·rw[RK];exact BZ h1 h2 (Ba h1' h2 h3 (mm (by rfl') (by rfl') (by rfl') (by rfl'))) (Q1 (by rfl') (BY rfl))
 ·rw[RL];exact BZ h1 h2 (Ba h1' h2 h3 (mm (by rfl') (by rfl') (by rfl') (by rfl'))) (Q1 (by rfl') (Q1 (by rfl') (BY rfl)))
 ·rw[RM];exact BZ h1 h2 (Ba h1' h2 h3 (mm (by rfl') (by rfl') (by rfl') (by rfl'))) (Q1 (by rfl') (Q1 (by rfl') (Q1 (by rfl') (BY rfl))))
 ·rw[RN];exact Ba h1 h2 (BZ h1' h2 h3 (BY rfl)) (nn (by rfl') (by rfl') (by rfl') (by rfl'))
 ·rw[RO];exact Ba h1 h2 (BZ h1' h2 h3 (Q1 (by rfl') (BY rfl))) (nn (by rfl') (by rfl') (by rfl') (by rfl'))
 ·rw[RP];exact Ba h1 h2 (BZ h1' h2 h3 (Q1 (by rfl') (Q1 (by rfl') (BY rfl)))) (nn (by rfl') (by rfl') (by rfl') (by rfl'))
 ·rw[RQ];exact Ba h1 h2 (BZ h1' h2 h3 (Q1 (by rfl') (Q1 (by rfl') (Q1 (by rfl') (BY rfl))))) (nn (by rfl') (by rfl') (by rfl') (by rfl'))
theorem mQ{r:Nat}(hr:r<n)(hc:c<n):(pos w n r c).1<n/\(pos w n r c).2<n:=by
 unfold pos
 repeat' split
 all_goals (constructor<;>dsimp only<;>omega)
abbrev Gb:Mo Fl:=(C4 (D7 7 (EC ["stay","left","half","right"] (B0 (C9 (B0 (A0 4) (B0 (A0 6) B4))) (B0 (C9 (B0 (A0 6) (B0 (B6 J0 (B6 J0 (A0 2) (mC (.int 1))) (A0 4)) B4))) (B0 (C9 (B0 (B6 J0 (B6 J0 (A0 2) (mC (.int 1))) (A0 4)) (B0 (B6 J0 (B6 J0 (A0 2) (mC (.int 1))) (A0 6)) B4))) (B0 (C9 (B0 (B6 J0 (B6 J0 (A0 2) (mC (.int 1))) (A0 6)) (B0 (A0 4) B4))) B4)))))) (C4 (D7 8 (EC ["upright","flat","slant","other"] (B0 (C9 (B0 (A0 4) (B0 (B6 J0 (B6 J0 (A0 2) (mC (.int 1))) (A0 6)) B4))) (B0 (C9 (B0 (B6 J0 (B6 J0 (A0 2) (mC (.int 1))) (A0 4)) (B0 (A0 6) B4))) (B0 (C9 (B0 (A0 6) (B0 (A0 4) B4))) (B0 (C9 (B0 (B6 J0 (B6 J0 (A0 2) (mC (.int 1))) (A0 6)) (B0 (B6 J0 (B6 J0 (A0 2) (mC (.int 1))) (A0 4)) B4))) B4)))))) (C4 (Q3 (Z1 (A0 7) (A0 1) (Z1 (A0 8) (A0 1) (C9 (B0 (A0 4) (B0 (A0 6) B4))))) (gT 2 (j3 (gN 9) (j3 (gN 10) pZ)))) (T9 5 (B6 m7 (B6 m7 (A0 0) (A0 9)) (A0 10))))))
abbrev LC:Mo Fl:=(C4 (K7 5 (J1 B4)) (C4 (K3 (J4 (B0 (A0 2) B4)) (gN 6) Gb) (T9 3 (d6 K5 (B0 (A0 5) B4)))))
section
variable{f:OO}
abbrev fl(A:D)(w:Str)(n:Nat)(w3 w4 w5 w6 w7 w8 w9 w10:W):c5:=[.dat A,.dat (.str w),.dat (.int (n:Int)),w3,w4,w5,w6,w7,w8,w9,w10]
theorem mR(hw:w∈W8)(h6:n≤6){r:Nat}(hr:r<n)(hc:c<n)(ls:List D)(hl:ls.length<100000)(w3 w7 w8 w9 w10:W):∃x7 x8 x9 x10,Gb (fl (dT (gm n n f)) w n w3 (.dat (.int r)) (.own ls) (.dat (.int c)) w7 w8 w9 w10)=some (.nx,fl (dT (gm n n f)) w n w3 (.dat (.int r)) (.own (ls++[.int (tf w n f r c)])) (.dat (.int c)) x7 x8 x9 x10):=by
 obtain⟨p1,p2⟩:=mQ (w:=w) hr hc;have i1:=lQ (n:=n) (m:=n) (f:=f) p1;have i2:=lP (n:=n) (g:=f (pos w n r c).1) p2;have hp:=mP (md:=A0 7) (me:=A0 8) (ma:=A0 1) (mb:=C9 (B0 (A0 4) (B0 (A0 6) B4))) (e:=fl (dT (gm n n f)) w n w3 (.dat (.int r)) (.own ls) (.dat (.int c)) (.dat (.obj (.dt (d1 n r c)))) (.dat (.obj (.dt (d2 n r c)))) w9 w10) hw hr hc rfl rfl rfl rfl;have ht:tf w n f r c=f (pos w n r c).1 (pos w n r c).2:=rfl;rw[ht];generalize dT (gm n n f)=A at *;generalize dR (rw' n (f (pos w n r c).1))=R at *;generalize f (pos w n r c).1 (pos w n r c).2=v at *;generalize (pos w n r c).1=a at *;generalize (pos w n r c).2=b at *;refine⟨.dat (.obj (.dt (d1 n r c))),.dat (.obj (.dt (d2 n r c))),.dat (.int a),.dat (.int b),?_⟩;unfold Gb;refine F8 (e1:=fl A w n w3 (.dat (.int r)) (.own ls) (.dat (.int c)) (.dat (.obj (.dt (d1 n r c)))) w8 w9 w10) (Z3 (e1:=fl A w n w3 (.dat (.int r)) (.own ls) (.dat (.int c)) w7 w8 w9 w10) (d:=.obj (.dt (d1 n r c))) rfl rfl) ?_
 refine F8 (e1:=fl A w n w3 (.dat (.int r)) (.own ls) (.dat (.int c)) (.dat (.obj (.dt (d1 n r c)))) (.dat (.obj (.dt (d2 n r c)))) w9 w10) (Z3 (e1:=fl A w n w3 (.dat (.int r)) (.own ls) (.dat (.int c)) (.dat (.obj (.dt (d1 n r c)))) w8 w9 w10) (d:=.obj (.dt (d2 n r c))) rfl rfl) ?_
 refine F8 (e1:=fl A w n w3 (.dat (.int r)) (.own ls) (.dat (.int c)) (.dat (.obj (.dt (d1 n r c)))) (.dat (.obj (.dt (d2 n r c)))) (.dat (.int a)) (.dat (.int b))) (PD hp rfl) ?_
 exact(GB (w':=.own ls) (w:=.own ls) (ds:=ls) (ds':=ls) rfl rfl (D8 (D8 rfl rfl i1) rfl i2) rfl rfl hl).trans rfl
theorem mS(hw:w∈W8)(h6:n≤6){r:Nat}(hr:r<n)(fs:List D)(hl:fs.length<100000)(w5 w6 w7 w8 w9 w10:W):∃x5 x6 x7 x8 x9 x10,LC (fl (dT (gm n n f)) w n (.own fs) (.dat (.int r)) w5 w6 w7 w8 w9 w10)=some (.nx,fl (dT (gm n n f)) w n (.own (fs++[dR (rw' n (tf w n f r))])) (.dat (.int r)) x5 x6 x7 x8 x9 x10):=by
 obtain⟨e,he,⟨x6,x7,x8,x9,x10,rfl⟩⟩:=EH (g:=gN 6) (b:=Gb) (n:=n) (fun c e=>∃x6 x7 x8 x9 x10,e=fl (dT (gm n n f)) w n (.own fs) (.dat (.int r)) (.own ((List.range c).map fun j=>.int (tf w n f r j))) x6 x7 x8 x9 x10) (env:=fl (dT (gm n n f)) w n (.own fs) (.dat (.int r)) (.own []) w6 w7 w8 w9 w10) (fun c hc e ⟨x6,x7,x8,x9,x10,he⟩=>by
  subst he;obtain⟨y7,y8,y9,y10,h⟩:=mR (f:=f) hw h6 hr hc ((List.range c).map fun j=>.int (tf w n f r j)) (by simp;omega) (.own fs) x7 x8 x9 x10
  exact⟨_,_,rfl,h,.dat (.int c),y7,y8,y9,y10,by rw[List.range_succ,Jf];rfl⟩) ⟨_,_,_,_,_,rfl⟩
 refine⟨.dat (.lst ((List.range n).map fun j=>.int (tf w n f r j))),x6,x7,x8,x9,x10,?_⟩
 have hR:D.tup ((List.range n).map fun j=>.int (tf w n f r j))=dR (rw' n (tf w n f r)):=by unfold dR rw';rw[Zk];rfl
 rw[←hR];generalize dT (gm n n f)=A at *;generalize ((List.range n).map fun j=>D.int (tf w n f r j))=L at *
 unfold LC;refine F8 (e1:=fl A w n (.own fs) (.dat (.int r)) (.own []) w6 w7 w8 w9 w10) (BP (e1:=fl A w n (.own fs) (.dat (.int r)) w5 w6 w7 w8 w9 w10) (X7 rfl (by simp)) rfl) ?_
 refine F8 ((U3 (Aj (n:=n) rfl rfl (by omega))).trans he) ?_
 exact(GB (w':=.own fs) (w:=.own fs) (ds:=fs) (ds':=fs) (env':=fl A w n (.own fs) (.dat (.int r)) (.dat (.lst L)) x6 x7 x8 x9 x10) (d:=.tup L) rfl rfl rfl rfl rfl hl).trans rfl
theorem RU(hw:w∈W8)(h6:n≤6):∃ws,An [.dat (dT (gm n n f)),.dat (.str w)]=some (.d (dT (gm n n (tf w n f))),ws):=by
 obtain⟨e,he,⟨x4,x5,x6,x7,x8,x9,x10,rfl⟩⟩:=EH (g:=gN 4) (b:=LC) (n:=n) (fun r e=>∃x4 x5 x6 x7 x8 x9 x10,e=fl (dT (gm n n f)) w n (.own ((List.range r).map fun i=>dR (rw' n (tf w n f i)))) x4 x5 x6 x7 x8 x9 x10) (env:=fl (dT (gm n n f)) w n (.own []) .nil .nil .nil .nil .nil .nil .nil) (fun r hr e ⟨x4,x5,x6,x7,x8,x9,x10,he⟩=>by
  subst he;obtain⟨y5,y6,y7,y8,y9,y10,h⟩:=mS (f:=f) hw h6 hr ((List.range r).map fun i=>dR (rw' n (tf w n f i))) (by simp;omega) x5 x6 x7 x8 x9 x10
  exact⟨_,_,rfl,h,.dat (.int r),y5,y6,y7,y8,y9,y10,by rw[List.range_succ,Jf];rfl⟩) ⟨_,_,_,_,_,_,_,rfl⟩
 have hR:D.tup ((List.range n).map fun i=>dR (rw' n (tf w n f i)))=dT (gm n n (tf w n f)):=by unfold dT gm;rw[Zk];rfl
 have hlen:E9 [dT (gm n n f)]=some (.int n):=lV
 rw[←hR];generalize dT (gm n n f)=A at *;generalize ((List.range n).map fun i=>dR (rw' n (tf w n f i)))=L at *
 refine⟨_,M5 (env:=fl A w n (.dat (.lst L)) x4 x5 x6 x7 x8 x9 x10) ?_⟩;show Kn [.dat A,.dat (.str w),.nil,.nil,.nil,.nil,.nil,.nil,.nil,.nil,.nil]=_;unfold Kn;refine F8 (e1:=fl A w n .nil .nil .nil .nil .nil .nil .nil .nil) (Z3 (e1:=[.dat A,.dat (.str w),.nil,.nil,.nil,.nil,.nil,.nil,.nil,.nil,.nil]) (O0 (E5 rfl rfl) hlen) rfl) ?_
 refine F8 (e1:=fl A w n (.own []) .nil .nil .nil .nil .nil .nil .nil) (BP (e1:=fl A w n .nil .nil .nil .nil .nil .nil .nil .nil) (X7 rfl (by simp)) rfl) ?_
 refine F8 ((U3 (Aj (n:=n) rfl rfl (by omega))).trans he) ?_
 exact L8 (O0 (ds:=[.lst L]) (E5 rfl rfl) rfl)
end
theorem Gd(hl:es.length≤1000)(h:∀x∈es,∃ws,M6 k [.dat x,.dat x]=some (.d (.bl true),ws)):∃ws,M6 (k+1) [.dat (.tup es),.dat (.tup es)]=some (.d (.bl true),ws):=by
 refine⟨_,(M5 (d:=.bl true) (env:=[.dat (.tup es),.dat (.tup es)]) ?_)⟩;show Ap (M6 k) [.dat (.tup es),.dat (.tup es)]=_;unfold Ap;refine Q8 (BO (e1:=[.dat (.tup es),.dat (.tup es)]) rfl (F8 (e1:=[.dat (.tup es),.dat (.tup es)]) (O1 (e1:=[.dat (.tup es),.dat (.tup es)]) rfl rfl) (L8 ?_)));have e1:(B6 (j0 false) (d6 E9 (B0 (A0 0) B4)) (d6 E9 (B0 (A0 1) B4))) [.dat (.tup es),.dat (.tup es)]=some (.bl ((es.length:Int)==(es.length:Int)),[.dat (.tup es),.dat (.tup es)]):=rfl;have c:=EF (mi:=R9 (B0 (A0 0) (B0 (A0 1) B4))) (keep:=[false,false]) (m:=c7 2 (M6 k) (B7 (A0 2) (B7 (A0 3) B9))) (env:=[.dat (.tup es),.dat (.tup es)]) (base:=[.nil,.nil]) (l:=es) (q:=fun p=>p) (q2:=fun p=>p) (f:=fun p=>.bl true) (k:=2) (eC (a:=.tup es) (b:=.tup es) rfl (by show some es=some (es.map fun p=>p);simp) (by show some es=some (es.map fun p=>p);simp)) (by omega) rfl rfl (fun p hp=>by
   obtain⟨ws,q⟩:=h p hp;exact T3 (av:=[.d p,.d p]) rfl rfl rfl q) (fun w w2=>rfl)
 refine(Ek (e1.trans ?_) (O0 (d:=.bl true) (E5 (K4 c) rfl) ?_))
 ·rw[Yr]
 ·show(U1 _).map _=_
  rw[Bt]
  simp
theorem mU{f:OO}(h6:n≤6):∃ws,M6 6 [.dat (dT (gm n n f)),.dat (dT (gm n n f))]=some (.d (.bl true),ws):=
 Gd (k:=5) (by rw[Qk,AV];omega) fun x hx=>by
  obtain⟨r,hr,rfl⟩:=Zq.mp hx;exact Gd (k:=4) (by rw[Qk,GW r hr];omega) fun y hy=>by
   obtain⟨i,_,rfl⟩:=Zq.mp hy;exact⟨_,QZ 3 i⟩
def El:List D->Option (List Int)
 |[]=>some []
 |.int i::r=>(El r).map (i:: ·)
 |_::_=>none
def CM:List D->Option (OI)
 |[]=>some []
 |.tup x::r=>(El x).bind fun a=>(CM r).map (a:: ·)
 |_::_=>none
def Em:List D->Option (List (OI))
 |[]=>some []
 |.tup x::r=>(CM x).bind fun a=>(Em r).map (a:: ·)
 |_::_=>none
def DO(o:Option (Rr×List W)):Option (List (OI)):=match o with
 |some (.l ds,[_])=>Em ds
 |_=>none
theorem RV:∀{l:List D}{r:List Int},El l=some r->l=r.map .int
 |[],r,h=>by cases h;rfl
 |d::l,r,h=>by
  cases d with
  |int i=>
   obtain⟨a,h1,h2⟩:=Uh.mp (show(El l).map (i:: ·)=some r from h)
   rw[←h2,Qh,←RV h1]
  |_=>cases h
theorem Ge:∀{l:List D}{r:OI},CM l=some r->l=r.map dR
 |[],r,h=>by cases h;rfl
 |d::l,r,h=>by
  cases d with
  |tup x=>
   obtain⟨a,h0,h'⟩:=Option.bind_eq_some_iff.mp (show(El x).bind (fun a=>(CM l).map (a:: ·))=some r from h)
   obtain⟨b,h1,h2⟩:=Uh.mp h';rw[←h2,Qh,←Ge h1,RV h0];rfl
  |_=>cases h
theorem LD:∀{l:List D}{r:List (OI)},Em l=some r->l=r.map dT
 |[],r,h=>by cases h;rfl
 |d::l,r,h=>by
  cases d with
  |tup x=>
   obtain⟨a,h0,h'⟩:=Option.bind_eq_some_iff.mp (show(CM x).bind (fun a=>(Em l).map (a:: ·))=some r from h)
   obtain⟨b,h1,h2⟩:=Uh.mp h';rw[←h2,Qh,←LD h1,Ge h0];rfl
  |_=>cases h
theorem mV(h:DO o=some L):∃w,o=some (.l (L.map dT),[w]):=by
 unfold DO at h;split at h
 ·rename_i ds w
  exact⟨w,by rw[LD h]⟩
 ·cases h
theorem mW{N:Nat}{m:Mo Fl}{r:Rr}{w:W}(h:k8 N m [.dat d]=some (r,[w])):k8 N m [.dat d]=some (r,[.dat d]):=by
 have key:∀env:c5,S8 [.dat d] env=[w]->w=.dat d:=fun env e=>by
  cases env with
  |nil=>cases e
  |cons a as=>
   have e':[Dk (.dat d) a]=[w]:=by
    cases as<;>exact e
   injection e' with e1 _
   rw[←e1];rfl
 suffices hw:w=.dat d by rw[h,hw]
 unfold k8 at h;split at h<;>first|(cases h;done)|(injection h with h;injection h with _ h;exact key _ h)
def LL:Nat->List (OI)
 |1=>[[[1]]]
 |2=>[[[0,1],[1,0]],[[1,0],[0,1]]]
 |3=>[[[0,0,1],[0,1,0],[1,0,0]],[[0,0,1],[1,0,0],[0,1,0]],[[0,1,0],[0,0,1],[1,0,0]],[[0,1,0],[1,-1,1],[0,1,0]],[[0,1,0],[1,0,0],[0,0,1]],[[1,0,0],[0,0,1],[0,1,0]],[[1,0,0],[0,1,0],[0,0,1]]]
 |_=>[[[0,0,0,1],[0,0,1,0],[0,1,0,0],[1,0,0,0]],[[0,0,0,1],[0,0,1,0],[1,0,0,0],[0,1,0,0]],[[0,0,0,1],[0,1,0,0],[0,0,1,0],[1,0,0,0]],[[0,0,0,1],[0,1,0,0],[1,-1,1,0],[0,1,0,0]],[[0,0,0,1],[0,1,0,0],[1,0,0,0],[0,0,1,0]],[[0,0,0,1],[1,0,0,0],[0,0,1,0],[0,1,0,0]],[[0,0,0,1],[1,0,0,0],[0,1,0,0],[0,0,1,0]],[[0,0,1,0],[0,0,0,1],[0,1,0,0],[1,0,0,0]],[[0,0,1,0],[0,0,0,1],[1,0,0,0],[0,1,0,0]],[[0,0,1,0],[0,1,-1,1],[0,0,1,0],[1,0,0,0]],[[0,0,1,0],[0,1,-1,1],[1,-1,1,0],[0,1,0,0]],[[0,0,1,0],[0,1,-1,1],[1,0,0,0],[0,0,1,0]],[[0,0,1,0],[0,1,0,0],[0,0,0,1],[1,0,0,0]],[[0,0,1,0],[0,1,0,0],[1,-1,0,1],[0,1,0,0]],[[0,0,1,0],[0,1,0,0],[1,0,-1,1],[0,0,1,0]],[[0,0,1,0],[0,1,0,0],[1,0,0,0],[0,0,0,1]],[[0,0,1,0],[1,0,-1,1],[0,0,1,0],[0,1,0,0]],[[0,0,1,0],[1,0,-1,1],[0,1,0,0],[0,0,1,0]],[[0,0,1,0],[1,0,0,0],[0,0,0,1],[0,1,0,0]],[[0,0,1,0],[1,0,0,0],[0,1,-1,1],[0,0,1,0]],[[0,0,1,0],[1,0,0,0],[0,1,0,0],[0,0,0,1]],[[0,1,0,0],[0,0,0,1],[0,0,1,0],[1,0,0,0]],[[0,1,0,0],[0,0,0,1],[1,-1,1,0],[0,1,0,0]],[[0,1,0,0],[0,0,0,1],[1,0,0,0],[0,0,1,0]],[[0,1,0,0],[0,0,1,0],[0,0,0,1],[1,0,0,0]],[[0,1,0,0],[0,0,1,0],[1,-1,0,1],[0,1,0,0]],[[0,1,0,0],[0,0,1,0],[1,0,-1,1],[0,0,1,0]],[[0,1,0,0],[0,0,1,0],[1,0,0,0],[0,0,0,1]],[[0,1,0,0],[1,-1,0,1],[0,0,1,0],[0,1,0,0]],[[0,1,0,0],[1,-1,0,1],[0,1,0,0],[0,0,1,0]],[[0,1,0,0],[1,-1,1,0],[0,0,0,1],[0,1,0,0]],[[0,1,0,0],[1,-1,1,0],[0,1,-1,1],[0,0,1,0]],[[0,1,0,0],[1,-1,1,0],[0,1,0,0],[0,0,0,1]],[[0,1,0,0],[1,0,0,0],[0,0,0,1],[0,0,1,0]],[[0,1,0,0],[1,0,0,0],[0,0,1,0],[0,0,0,1]],[[1,0,0,0],[0,0,0,1],[0,0,1,0],[0,1,0,0]],[[1,0,0,0],[0,0,0,1],[0,1,0,0],[0,0,1,0]],[[1,0,0,0],[0,0,1,0],[0,0,0,1],[0,1,0,0]],[[1,0,0,0],[0,0,1,0],[0,1,-1,1],[0,0,1,0]],[[1,0,0,0],[0,0,1,0],[0,1,0,0],[0,0,0,1]],[[1,0,0,0],[0,1,0,0],[0,0,0,1],[0,0,1,0]],[[1,0,0,0],[0,1,0,0],[0,0,1,0],[0,0,0,1]]]
theorem mX:DO (AO [.dat (.int 1)])=some (LL 1):=by rfl'
theorem mY:DO (AO [.dat (.int 2)])=some (LL 2):=by rfl'
theorem mZ:DO (AO [.dat (.int 3)])=some (LL 3):=by rfl'
def wJ(o:Option (Rr×List W)):Option (OI×OI×List Int):=match o with
 |some (.d (.tup rows),[.dat (.int _),.dat (.int _),.parD ks vs])=>(CM rows).bind fun T=>(i9 vs).map fun ns=>(T,ks,ns)
 |_=>none
def KS:OI:=[[0,1,1,1],[1,0,1,1],[0,0,1,1],[1,1,0,1],[0,1,0,1],[1,0,0,1],[0,0,0,1],[1,1,1,0],[0,1,1,0],[1,0,1,0],[0,0,1,0],[1,1,0,0],[0,1,0,0],[1,0,0,0]]
def NS:List Int:=[1,1,2,1,3,2,7,1,4,3,14,2,14,7]
def yN(i:Nat):OI:=(LL 4).getD i []
theorem la0:wJ (BQ [.dat (.int 4),.dat (.int 0),.parD [] []])=some (yN 0,KS,NS):=by rfl'
def zT(i:Nat):Bool:=wJ (BQ [.dat (.int 4),.dat (.int (i:Int)),.parD KS (NS.map D.int)])==some (yN i,KS,NS)
def gB(a:Nat):Bool:=(List.range' a 7).all zT
theorem g1:gB 1=true:=by rfl'
theorem g8:gB 8=true:=by rfl'
theorem g15:gB 15=true:=by rfl'
theorem g22:gB 22=true:=by rfl'
theorem g29:gB 29=true:=by rfl'
theorem g36:(List.range' 36 6).all zT=true:=by rfl'
abbrev yO:List Nat:=List.range' 1 41
theorem nA:∀i∈yO,zT i=true:=by
 have h:(List.range' 1 7++(List.range' 8 7++(List.range' 15 7++(List.range' 22 7++(List.range' 29 7++List.range' 36 6))))).all zT=true:=by
  simp only[Vk,Qy];exact⟨g1,g8,g15,g22,g29,g36⟩
 exact Qw.mp h
theorem RW:∀{vs:List D}{ns:List Int},i9 vs=some ns->vs=ns.map D.int
 |[],ns,h=>by cases h;rfl
 |d::vs,ns,h=>by
  cases d<;>first|(exact absurd (show(none:Option (List Int))=some ns from h) (by simp))|skip
  obtain⟨l,e1,e2⟩:=F4 (show(i9 vs).map _=some ns from h)
  subst e2;rw[RW e1]
  rfl
theorem RX{ns:List Int}(h:wJ o=some (T,ks,ns)):∃a b,o=some (.d (dT T),[.dat (.int a),.dat (.int b),.parD ks (ns.map D.int)]):=by
 unfold wJ at h;split at h
 ·rename_i rows a b ks' vs
  obtain⟨T',e1,e2⟩:=C6 h;obtain⟨ns',e3,e4⟩:=F4 e2;cases e4;exact⟨a,b,by rw[Ge e1,RW e3];rfl⟩
 ·cases h
abbrev lM4:Mo D:=c7 3 BQ (B7 (A0 0) (B7 (A0 2) (F5 1 B9)))
theorem RY{ks':OI}{vs vs':List D}{r:D}{b:Int}(h:BQ [.dat (.int 4),.dat (.int (i:Int)),.parD ks vs]=some (.d r,[.dat (.int a),.dat (.int b),.parD ks' vs'])):lM4 [.dat (.int 4),.ownD ks vs,.dat (.int (i:Int))]=some (r,[.dat (.int 4),.ownD ks' vs',.dat (.int (i:Int))]):=
 S2 ((ZB (i:=1) (e1:=[.dat (.int 4),.ownD ks vs,.dat (.int (i:Int))]) (w:=.ownD ks vs) (c:=.d ks vs) (c':=.d ks' vs') (av:=[.d (.int 4),.d (.int (i:Int)),.sl 1]) rfl rfl rfl rfl rfl h rfl).trans rfl)
def isC(o:Option (Rr×List W)):Bool:=match o with
 |some (.d (.int 42),_)=>true
 |_=>false
theorem nB(h:isC o=true):∃ws,o=some (.d (.int 42),ws):=by
 unfold isC at h;split at h
 ·exact⟨_,rfl⟩
 ·cases h
theorem nC:isC (EV [.dat (.int 4)])=true:=by rfl'
theorem ll4:(0::yO).map yN=LL 4:=by rfl'
theorem nD:(0::yO)=List.range 42:=by rfl'
theorem nE{g:OZ}{r:List D}{e3:c5}(h1:g d env=some e1)(h2:m e1=some (x,e2))(h3:M1 g E7 m ds e2=some (r,e3)):M1 g E7 m (d::ds) env=some (x::r,e3):=by
 unfold M1;rw[h1];simp only[Qj,E7,Zn];rw[h2];simp only[Qj];rw[h3];rfl
theorem nF:∃w2,M1 (gN 2) E7 lM4 (u5 42) [.dat (.int 4),.ownD [] [],.nil]=some ((LL 4).map dT,[.dat (.int 4),.ownD KS (NS.map D.int),w2]):=by
 obtain⟨a,b,h0⟩:=RX la0;have s0:=RY (i:=0) h0;obtain⟨e,he,w2,rfl⟩:=BU (g:=gN 2) (m:=lM4) (P:=fun e=>∃w2,e=[.dat (.int 4),.ownD KS (NS.map D.int),w2]) (q:=fun(i:Nat)=>D.int (i:Int)) (f:=fun i=>dT (yN i)) (l:=yO) (env:=[.dat (.int 4),.ownD KS (NS.map D.int),.dat (.int 0)]) (fun i hi e ⟨w2,he⟩=>by
  subst he;obtain⟨a,b,h⟩:=RX (Za.mp (nA i hi));exact⟨_,_,rfl,RY h,_,rfl⟩) ⟨_,rfl⟩
 refine⟨w2,?_⟩;have e1:u5 42=D.int ((0:Nat):Int)::yO.map (fun(i:Nat)=>D.int (i:Int)):=by
  show(List.range 42).map (fun(i:Nat)=>D.int (i:Int))=_
  rw[←nD]
  rfl
 have e2:(LL 4).map dT=dT (yN 0)::yO.map fun i=>dT (yN i):=by
  rw[←ll4,Zk]
  rfl
 rw[e1,e2];exact nE rfl s0 he
theorem nG:AO [.dat (.int 4)]=some (.l ((LL 4).map dT),[.dat (.int 4)]):=by
 obtain⟨_,ec⟩:=nB nC;obtain⟨w2,h⟩:=nF;refine(Ds (env:=[.dat (.int 4),.ownD KS (NS.map D.int)]) ?_).trans rfl;show KN [.dat (.int 4),.nil]=_;unfold KN;refine F8 (e1:=[.dat (.int 4),.nil]) (Cn (T3 (r:=.non) (ws':=[.dat (.int 4),.dat (.int 1),.dat (.int 4),.dat (.str "side")]) (av:=[.d (.int 4),.d (.int 1),.d (.int 4),.d (.str "side")]) rfl rfl rfl rfl)) ?_
 refine F8 (e1:=[.dat (.int 4),.ownD [] []]) rfl ?_
 exact Du (Ad (e1:=[.dat (.int 4),.ownD [] []]) (e2:=[.dat (.int 4),.ownD KS (NS.map D.int),w2]) (Aj (n:=42) (T3 (av:=[.d (.int 4)]) rfl rfl rfl ec) rfl (by decide)) (by simp[u5]) h rfl)
def zB:Nat->OI
 |0=>[[]]
 |n+1=>[-1,0,1].flatMap fun x=>(zB n).map fun r=>x::r
def vX(h:List Int):OI:=(zB h.length).filter fun r=>tt 0 r&&(M3 h r).all fun x=>x==0||x==1
def CN(o:Option (Rr×List W)):Option (OI):=match o with
 |some (.l ds,_)=>CM ds
 |_=>none
theorem nH(h:CN o=some R):∃ws,o=some (.l (R.map dR),ws):=by
 unfold CN at h;split at h
 ·rename_i ds ws
  exact⟨ws,by rw[Ge h]⟩
 ·cases h
theorem ln1:((bits 1).all fun h=>CN (S5 [.dat (dR h)])==some (vX h))=true:=by rfl'
theorem ln2:((bits 2).all fun h=>CN (S5 [.dat (dR h)])==some (vX h))=true:=by rfl'
theorem ln3:((bits 3).all fun h=>CN (S5 [.dat (dR h)])==some (vX h))=true:=by rfl'
theorem ln4:((bits 4).all fun h=>CN (S5 [.dat (dR h)])==some (vX h))=true:=by rfl'
theorem nI(h1:1≤n)(h4:n≤4)(hh:h∈bits n):∃ws,S5 [.dat (dR h)]=some (.l ((vX h).map dR),ws):=by
 have:CN (S5 [.dat (dR h)])=some (vX h):=by
  rcases(by omega:n=1\/n=2\/n=3\/n=4)with rfl|rfl|rfl|rfl
  ·exact Za.mp (Qw.mp ln1 h hh)
  ·exact Za.mp (Qw.mp ln2 h hh)
  ·exact Za.mp (Qw.mp ln3 h hh)
  ·exact Za.mp (Qw.mp ln4 h hh)
 exact nH this
abbrev TH:=OI×List Int
def qp(p:TH):D:=.tup [dT p.1,dR p.2]
def xB(p:TH):List TH:=(vX p.2).map fun r=>(p.1++[r],M3 p.2 r)
def nx(F:List TH):List TH:=F.flatMap xB
def Fs(n:Nat):Nat->List TH
 |0=>[([],List.replicate n 0)]
 |i+1=>nx (Fs n i)
def okP(n:Nat)(p:TH):Bool:=(bits n).contains p.2&&decide (p.1.length≤1000)&&decide ((vX p.2).length≤1000)
def okF(n:Nat)(F:List TH):Bool:=F.all (okP n)&&decide ((nx F).length<100000)
def okA(n:Nat):Bool:=(List.range n).all fun i=>okF n (Fs n i)
theorem nJ:∀n,1≤n->n≤4->okA n=true:=by
 intro n h1 h4
 rcases(by omega:n=1\/n=2\/n=3\/n=4)with rfl|rfl|rfl|rfl<;>rfl'
abbrev lI:Mo Fl:=(T9 3 (C9 (B0 (B6 D5 (A0 4) (C9 (B0 (A0 6) B4))) (B0 (d6 K5 (B0 (mF (D6 (R9 (B0 (A0 5) (B0 (A0 6) B4))) [false,false,false,false,false,false,false] 2 (gT 2 (j3 (gN 7) (j3 (gN 8) pZ))) E7 (B6 D5 (A0 7) (A0 8)))) B4)) B4))))
abbrev lM:Mo Fl:=(K3 (F3 (mF (J7 1 S5 (B7 (A0 5) B9)))) (gN 6) lI)
abbrev lO:Mo Fl:=(C4 (K7 3 (J1 B4)) (C4 (K3 (F3 (A0 1)) (gT 2 (j3 (gN 4) (j3 (gN 5) pZ))) lM) (D7 1 (A0 3))))
abbrev fa(n:Nat)(w1 w2 w3 w4 w5 w6:W):c5:=[.dat (.int (n:Int)),w1,w2,w3,w4,w5,w6]
section
variable{w1:W}
theorem nK(hh:h.length≤1000){T:D}:d6 K5 (B0 (mF (D6 (R9 (B0 (A0 5) (B0 (A0 6) B4))) [false,false,false,false,false,false,false] 2 (gT 2 (j3 (gN 7) (j3 (gN 8) pZ))) E7 (B6 D5 (A0 7) (A0 8)))) B4) (fa n w1 w2 w3 (.dat T) (.dat (dR h)) (.dat (dR r)))=some (dR (M3 h r),fa n w1 w2 w3 (.dat T) (.dat (dR h)) (.dat (dR r))):=by
 have zs:(R9 (B0 (A0 5) (B0 (A0 6) B4))) (fa n w1 w2 w3 (.dat T) (.dat (dR h)) (.dat (dR r)))=some ((h.zip r).map fun p=>.tup [.int p.1,.int p.2],fa n w1 w2 w3 (.dat T) (.dat (dR h)) (.dat (dR r))):=by
  show some (W9 (h.map D.int) (r.map D.int),_)=_;rw[QS]
 refine O0 (E5 (K4 (EF (α:=Int×Int) (l:=h.zip r) (q:=fun p=>.int p.1) (q2:=fun p=>.int p.2) (f:=fun p=>.int (p.1+p.2)) (base:=[.nil,.nil,.nil,.nil,.nil,.nil,.nil]) zs (by rw[List.length_zip];omega) rfl rfl (fun p hp=>rfl) (fun _ _=>rfl))) rfl) ?_
 show some (D.tup _)=_;have ez:(h.zip r).map (fun p=>D.int (p.1+p.2))=(M3 h r).map D.int:=by
  unfold M3;rw[Vr,List.zip_eq_zipWith,Vr]
 rw[ez]
 rfl
theorem RZ{T:OI}{h:List Int}(hT:T.length≤1000)(hh:h.length≤1000):∀(rs:OI) (acc:List D) (w6:W),acc.length+rs.length<100000->∃w6',loop (gN 6) lI (rs.map dR) (fa n w1 w2 (.own acc) (.dat (dT T)) (.dat (dR h)) w6)=some (.nx,fa n w1 w2 (.own (acc++rs.map fun r=>qp (T++[r],M3 h r))) (.dat (dT T)) (.dat (dR h)) w6')
 |[],acc,w6,_=>⟨w6,by rw[Ud,Ud,Yg];rfl⟩
 |r::rs,acc,w6,ha=>by
  simp only[Zj]at ha;obtain⟨w6',ih⟩:=RZ hT hh rs (acc++[qp (T++[r],M3 h r)]) (.dat (dR r)) (by rw[Qa];simp;omega)
  refine⟨w6',?_⟩;rw[Qh];unfold loop;show(lI (fa n w1 w2 (.own acc) (.dat (dT T)) (.dat (dR h)) (.dat (dR r)))).bind _=_;have ea:B6 D5 (A0 4) (C9 (B0 (A0 6) B4)) (fa n w1 w2 (.own acc) (.dat (dT T)) (.dat (dR h)) (.dat (dR r)))=some (dT (T++[r]),fa n w1 w2 (.own acc) (.dat (dT T)) (.dat (dR h)) (.dat (dR r))):=by
   refine D8 rfl (EJ (E5 rfl rfl) (by simp)) ((Z7 (by rw[Qk];simp;omega)).trans ?_)
   unfold dT;rw[Jf]
   rfl
  have e:lI (fa n w1 w2 (.own acc) (.dat (dT T)) (.dat (dR h)) (.dat (dR r)))=some (.nx,fa n w1 w2 (.own (acc++[qp (T++[r],M3 h r)])) (.dat (dT T)) (.dat (dR h)) (.dat (dR r))):=
   (GB (w':=.own acc) (w:=.own acc) (ds:=acc) (ds':=acc) rfl rfl (EJ (E5 ea (E5 (nK hh) rfl)) (by simp)) rfl rfl (by omega)).trans rfl
  rw[e];show loop (gN 6) lI (rs.map dR) _=_;rw[ih,Uc]
  rfl
theorem Ra(h1:1≤n)(h4:n≤4):∀(F:List TH) (acc:List D) (w4 w5 w6:W),(∀p∈F,okP n p=true)->acc.length+(nx F).length<100000->∃w4' w5' w6',loop (gT 2 (j3 (gN 4) (j3 (gN 5) pZ))) lM (F.map qp) (fa n w1 w2 (.own acc) w4 w5 w6)=some (.nx,fa n w1 w2 (.own (acc++(nx F).map qp)) w4' w5' w6')
 |[],acc,w4,w5,w6,_,_=>⟨w4,w5,w6,by show some _=_;rw[show(nx []).map qp=[]from rfl,Yg]⟩
 |p::F,acc,w4,w5,w6,ho,ha=>by
  have hp:=ho p (Zl ..)
  unfold okP at hp;simp only[Qy,Zh]at hp;obtain⟨⟨hb,hl⟩,hc⟩:=hp;have hb':p.2∈bits n:=by simpa using hb
  obtain⟨_,el⟩:=nI h1 h4 hb';have hn:nx (p::F)=xB p++nx F:=by unfold nx;rw[List.flatMap_cons]
  have hx:(xB p).length=(vX p.2).length:=by unfold xB;rw[Qk]
  rw[hn,Qa]at ha;have hh:p.2.length≤1000:=by
   have:((bits n).all fun h=>decide (h.length≤1000))=true:=by
    rcases(by omega:n=1\/n=2\/n=3\/n=4)with rfl|rfl|rfl|rfl<;>rfl'
   exact Xc (Qw.mp this _ hb')
  obtain⟨w6',e1⟩:=RZ (n:=n) (w1:=w1) (w2:=w2) (T:=p.1) (h:=p.2) hl hh (vX p.2) acc w6 (by omega)
  have em:(vX p.2).map (fun r=>qp (p.1++[r],M3 p.2 r))=(xB p).map qp:=by unfold xB;rw[Zk];rfl
  rw[em]at e1;obtain⟨w4',w5',w6'',ih⟩:=Ra h1 h4 F (acc++(xB p).map qp) (.dat (dT p.1)) (.dat (dR p.2)) w6' (fun q hq=>ho q (Ym _ hq)) (by rw[Qa,Qk];omega)
  refine⟨w4',w5',w6'',?_⟩;rw[Qh];unfold loop;show(lM (fa n w1 w2 (.own acc) (.dat (dT p.1)) (.dat (dR p.2)) w6)).bind _=_;have e:lM (fa n w1 w2 (.own acc) (.dat (dT p.1)) (.dat (dR p.2)) w6)=some (.nx,fa n w1 w2 (.own (acc++(xB p).map qp)) (.dat (dT p.1)) (.dat (dR p.2)) w6'):=
   (U3 (V2 (K4 (AH (S1 (av:=[.d (dR p.2)]) rfl rfl rfl el))) rfl)).trans e1
  rw[e];show loop _ lM (F.map qp) _=_;rw[ih,hn,Jf,Uc]
end
def zC(n:Nat):Option (List (OI)):=(Fy ((Fs n n).map fun p=>dT p.1)).bind Em
theorem nL:zC 1=some (LL 1):=by rfl'
theorem nM:zC 2=some (LL 2):=by rfl'
theorem nN:zC 3=some (LL 3):=by rfl'
theorem nO:zC 4=some (LL 4):=by rfl'
theorem nP(h1:1≤n)(h4:n≤4):Fy ((Fs n n).map fun p=>dT p.1)=some ((LL n).map dT):=by
 have h:zC n=some (LL n):=by
  rcases(by omega:n=1\/n=2\/n=3\/n=4)with rfl|rfl|rfl|rfl
  ·exact nL
  ·exact nM
  ·exact nN
  ·exact nO
 obtain⟨ds,e1,e2⟩:=C6 h;rw[e1,LD e2]
theorem nQ:∀n,1≤n->n≤4->(Fs n n).length≤100000:=by
 intro n h1 h4
 rcases(by omega:n=1\/n=2\/n=3\/n=4)with rfl|rfl|rfl|rfl<;>rfl'
theorem nR(h1:1≤n)(h4:n≤4):∃ws,DM [.dat (.int (n:Int))]=some (.l ((LL n).map dT),ws):=by
 have ok:=nJ n h1 h4
 obtain⟨e,he,w2,w3,w4,w5,w6,rfl⟩:=EH (g:=gN 2) (b:=lO) (n:=n) (fun i e=>∃w2 w3 w4 w5 w6,e=fa n (.dat (.lst ((Fs n i).map qp))) w2 w3 w4 w5 w6) (env:=fa n (.dat (.lst ((Fs n 0).map qp))) .nil .nil .nil .nil .nil) (fun i hi e ⟨w2,w3,w4,w5,w6,he⟩=>by
  subst he;have hok:=Qw.mp ok i (Zo.mpr hi);unfold okF at hok;simp only[Qy,Zh]at hok;obtain⟨w4',w5',w6',e1⟩:=Ra (n:=n) (w1:=.dat (.lst ((Fs n i).map qp))) (w2:=.dat (.int (i:Int))) h1 h4 (Fs n i) [] w4 w5 w6 (Qw.mp hok.1) (by simpa using hok.2)
  refine⟨_,fa n (.dat (.lst ((Fs n (i+1)).map qp))) (.dat (.int (i:Int))) (.dat (.lst ((Fs n (i+1)).map qp))) w4' w5' w6',rfl,?_,_,_,_,_,_,rfl⟩;show lO (fa n (.dat (.lst ((Fs n i).map qp))) (.dat (.int (i:Int))) w3 w4 w5 w6)=_;unfold lO;refine F8 (e1:=fa n (.dat (.lst ((Fs n i).map qp))) (.dat (.int (i:Int))) (.own []) w4 w5 w6) (BP (e1:=fa n (.dat (.lst ((Fs n i).map qp))) (.dat (.int (i:Int))) w3 w4 w5 w6) (X7 rfl (by simp)) rfl) ?_
  refine F8 ((U3 (V2 rfl rfl)).trans e1) ?_
  exact Z3 (d:=.lst ((Fs n (i+1)).map qp)) (e1:=fa n (.dat (.lst ((Fs n i).map qp))) (.dat (.int (i:Int))) (.dat (.lst ((Fs n (i+1)).map qp))) w4' w5' w6') rfl rfl) ⟨_,_,_,_,_,rfl⟩
 refine⟨_,Ds (env:=fa n (.dat (.lst ((Fs n n).map qp))) w2 w3 w4 w5 w6) ?_⟩;show Ko (fa n .nil .nil .nil .nil .nil .nil)=_;unfold Ko;have hz:B6 N9 (C9 (B0 (mC (.int 0)) B4)) (A0 0) (fa n .nil .nil .nil .nil .nil .nil)=some (dR (List.replicate n 0),fa n .nil .nil .nil .nil .nil .nil):=by
  rcases(by omega:n=1\/n=2\/n=3\/n=4)with rfl|rfl|rfl|rfl<;>rfl
 refine F8 (e1:=fa n (.dat (.lst ((Fs n 0).map qp))) .nil .nil .nil .nil .nil) (Z3 (d:=.lst ((Fs n 0).map qp)) (e1:=fa n .nil .nil .nil .nil .nil .nil) (K4 (X7 (E5 (EJ (E5 rfl (E5 hz rfl)) (by simp)) rfl) (show 1≤1000 by decide))) rfl) ?_
 refine F8 ((U3 (Aj (n:=n) rfl rfl (by omega))).trans he) ?_
 refine Du (ZA (E5 (K4 (EF (α:=TH) (l:=Fs n n) (q:=fun p=>dT p.1) (q2:=fun p=>dR p.2) (f:=fun p=>dT p.1) (base:=[.nil,.nil,.nil,.nil,.nil,.nil,.nil]) (V2 rfl rfl) (nQ n h1 h4) rfl rfl (fun p hp=>rfl) (fun _ _=>rfl))) rfl) (nP h1 h4))
theorem nS(l k:List Int):PyData.eqv (sH (dR l)) (sH (dR k))=decide (l=k):=by
 show PyData.eqvAll (K9 (l.map D.int)) (K9 (k.map D.int))=_;rw[BV,BV,Ks]
theorem Rb:∀R:OI,PyData.canLayAll0 (K9 (R.map dR))=true
 |[]=>rfl
 |r::R=>by
  show(PyData.canLayAll0 (K9 (r.map D.int))&&PyData.canLayAll0 (K9 (R.map dR)))=true;rw[Rb R,BV,By];rfl
theorem Rc:∀R:OI,PyData.depthAll (K9 (R.map dR))≤1
 |[]=>by decide
 |r::R=>by
  show max (PyData.depthAll (K9 (r.map D.int))+1) (PyData.depthAll (K9 (R.map dR)))≤1;have:=Rc R;rw[BV,Kr];omega
theorem Rf(R:OI):v8 (dT R)=true:=by
 unfold v8 SeqAt.shaped;show(PyData.canLayAll0 (K9 (R.map dR))&&decide (PyData.depthAll (K9 (R.map dR))+1≤64))=true;have:=Rc R;rw[Rb,Yn,Zh];omega
theorem Rg:∀A B:OI,PyData.eqvAll (K9 (A.map dR)) (K9 (B.map dR))=decide (A=B)
 |[],[]=>rfl
 |[],_::_=>rfl
 |_::_,[]=>rfl
 |x::l,y::k=>by
  show(PyData.eqv (sH (dR x)) (sH (dR y))&&PyData.eqvAll (K9 (l.map dR)) (K9 (k.map dR)))=_;rw[Rg l k,nS]
  by_cases h:x=y
  ·subst h;simp
  ·simp[h]
theorem Gf(A B:OI):j0 false (dT A) (dT B)=some (.bl (decide (A=B))):=by
 unfold j0;rw[Rf,Rf];show some (D.bl (PyData.eqvAll (K9 (A.map dR)) (K9 (B.map dR))))=_;rw[Rg]
theorem Rh:∀R:OI,pR (R.map dR)=some R
 |[]=>rfl
 |r::R=>by
  show(i9 (r.map D.int)).bind (fun a=>(pR (R.map dR)).map fun l=>a::l)=_
  rw[dY,Qj,Rh R]
  rfl
theorem Ri:∀L:List (OI),rS (L.map dT)=some L
 |[]=>rfl
 |T::L=>by
  show(pR (T.map dR)).bind (fun a=>(rS (L.map dT)).map fun l=>a::l)=_
  rw[Rh,Qj,Ri L]
  rfl
theorem nT(h:0<L.length):∃T∈L,CD [.lst (L.map dT)]=some (dT T):=by
 have hi:argBest (CC L) (L.length-1)<L.length:=by have:=Od (CC L) (L.length-1);omega
 refine⟨L[argBest (CC L) (L.length-1)],Jw hi,?_⟩;show(rS (L.map dT)).bind _=_;rw[Ri,Qj,Qk,Zw,Zf hi]
 rfl
section
variable{f:OO}
def own(n:Nat)(f:OO)(w:Str):Bool:=decide (gm n n (tf w n f)=gm n n f)
theorem Rj(e:c5):Cu TN e=some (W8.map D.str,e):=by
 unfold Cu;rw[Qn (by rfl')]
 rfl
theorem LF(hw:w∈W8)(h1:1≤n)(h6:n≤6):X4 [.dat (dT (gm n n f)),.dat (.str w)]=some (.d (dT (gm n n (tf w n f))),[.dat (dT (gm n n f)),.dat (.str w)]):=by
 obtain⟨F,hF⟩:=RS hw;exact mK hF h1 h6
theorem nU(h1:1≤n)(h6:n≤6)(T:sF n f):CI [.dat (dT (gm n n f))]=some (.l ((W8.filter (own n f)).map D.str),[.dat (dT (gm n n f))]):=by
 have em:=QV h1 h6 T
 refine PF (env:=[.dat (dT (gm n n f))]) ?_ rfl;show Kd [.dat (dT (gm n n f))]=_;unfold Kd;refine F8 (Cn (c1 rfl em)) (Du ?_);refine GA (α:=Str) (l:=W8) (q:=D.str) (f:=D.str) (p:=own n f) (base:=[.dat (dT (gm n n f))]) (Rj _) (by decide) rfl rfl (fun w hw=>⟨?_,fun _=>rfl⟩) (fun _=>rfl)
 have eb:=LF (f:=f) hw h1 h6
 have eq:=Gf (gm n n (tf w n f)) (gm n n f)
 exact O3 (D8 (T3 (av:=[.d (dT (gm n n f)),.d (.str w)]) rfl rfl rfl eb) rfl eq)
theorem nV(h1:1≤n)(h6:n≤6)(T:sF n f){m:D}(hm:CD [.lst ((W8.map fun w=>gm n n (tf w n f)).map dT)]=some m):CJ [.dat (dT (gm n n f))]=some (.d m,[.dat (dT (gm n n f))]):=by
 have em:=QV h1 h6 T
 refine Z4 (env:=[.dat (dT (gm n n f))]) ?_ rfl;show Kf [.dat (dT (gm n n f))]=_;unfold Kf;refine F8 (Cn (c1 rfl em)) (L8 (O0 (E5 (K4 (CF (α:=Str) (l:=W8) (q:=D.str) (f:=fun w=>dT (gm n n (tf w n f))) (base:=[.dat (dT (gm n n f))]) (Rj _) (by decide) rfl rfl (fun w hw=>?_) (fun _=>rfl))) rfl) ?_))
 ·have eb:=LF (f:=f) hw h1 h6
  exact T3 (av:=[.d (dT (gm n n f)),.d (.str w)]) rfl rfl rfl eb
 ·rw[Zk]at hm
  exact hm
theorem nW(h:qY d=false):DJ [.dat d]=some ("NoTable":Str):=by
 show Ke [.dat d]=_;unfold Ke;exact GY (AK (av:=[.d d]) rfl rfl rfl (RC h))
theorem nX(h:qY d=false):DK [.dat d]=some ("NoTable":Str):=by
 show Kg [.dat d]=_;unfold Kg;exact GY (AK (av:=[.d d]) rfl rfl rfl (RC h))
end
def zD(i j:Nat):Int:=if i=j then 1 else 0
def zE(n i j:Nat):Int:=if i+j+1=n then 1 else 0
theorem nY:∀n,1≤n->n≤6->qY (dT (gm n n zD))=true:=by
 intro n h1 h6
 rcases(by omega:n=1\/n=2\/n=3\/n=4\/n=5\/n=6)with rfl|rfl|rfl|rfl|rfl|rfl<;>rfl'
theorem nZ:∀n,1≤n->n≤6->qY (dT (gm n n (zE n)))=true:=by
 intro n h1 h6
 rcases(by omega:n=1\/n=2\/n=3\/n=4\/n=5\/n=6)with rfl|rfl|rfl|rfl|rfl|rfl<;>rfl'
abbrev E3:OI:=[[0,1,0],[1,-1,1],[0,1,0]]
abbrev E4:OI:=[[0,1,0,0],[0,0,0,1],[1,0,0,0],[0,0,1,0]]
theorem oA:qY (dT E3)=true:=by rfl'
theorem oB:qY (dT E4)=true:=by rfl'
theorem Rk:E3=gm 3 3 (at2 E3):=by rfl'
theorem Rl:E4=gm 4 4 (at2 E4):=by rfl'
structure Tb(d:D)(n:Nat)(f:OO):Prop where
 e:d=dT (gm n n f)
 lo:1≤n
 hi:n≤6
 t:sF n f
theorem Gg{f:OO}(h:qY (dT (gm n n f))=true):Tb (dT (gm n n f)) n f:=⟨rfl,(Ej.mp h).1.1,(Ej.mp h).1.2,(Ej.mp h).2⟩
theorem wK(hn:n≤1000)(hM:M e=some (.int (n:Int),e)):J4 (B0 M B4) e=some ((List.range n).map (fun(i:Nat)=>D.int (i:Int)),e):=Aj hM rfl (by omega)
theorem oC(h6:n≤6):(d6 K5 (B0 (mF (D6 (J4 (B0 (A0 1) B4)) [false,true,false] 1 (gN 3) E7 (d6 K5 (B0 (mF (D6 (J4 (B0 (A0 1) B4)) [false,false,false,true] 1 (gN 4) E7 (d6 Ac (B0 (B6 (j0 false) (A0 3) (A0 4)) B4)))) B4)))) B4)) [w0,.dat (.int (n:Int)),w2]=some (dT (gm n n zD),[w0,.dat (.int (n:Int)),w2]):=by
 refine O0 (E5 (K4 (CF (α:=Nat) (l:=List.range n) (q:=fun i=>.int (i:Int)) (f:=fun i=>dR (rw' n (zD i))) (base:=[.nil,.dat (.int (n:Int)),.nil]) (wK (by omega) rfl) (by simp;omega) rfl rfl (fun i hi=>?_) (fun _=>rfl))) rfl) ?_
 ·refine O0 (E5 (K4 (CF (α:=Nat) (l:=List.range n) (q:=fun j=>.int (j:Int)) (f:=fun j=>.int (zD i j)) (base:=[.nil,.nil,.nil,.dat (.int (i:Int))]) (wK (by omega) rfl) (by simp;omega) rfl rfl (fun j hj=>?_) (fun _=>rfl))) rfl) ?_
  ·refine O0 (E5 (D8 rfl rfl (GX _ _)) rfl) ?_
   show some (D.int (if((i:Int)==(j:Int))=true then 1 else 0))=_
   unfold zD
   by_cases h:i=j
   ·rw[Qn h,Qn (by simp[h])]
   ·rw[Ql h,Ql (by simp;omega)]
  ·show some (D.tup _)=_
   unfold dR rw';rw[Zk]
   rfl
 ·show some (D.tup _)=_
  unfold dT gm;rw[Zk]
  rfl
theorem oD(h6:n≤6):(d6 K5 (B0 (mF (D6 (J4 (B0 (A0 1) B4)) [false,true,false] 1 (gN 3) E7 (d6 K5 (B0 (mF (D6 (J4 (B0 (A0 1) B4)) [false,true,false,true] 1 (gN 4) E7 (d6 Ac (B0 (B6 (j0 false) (B6 D5 (A0 3) (A0 4)) (B6 J0 (A0 1) (mC (.int 1)))) B4)))) B4)))) B4)) [w0,.dat (.int (n:Int)),w2]=some (dT (gm n n (zE n)),[w0,.dat (.int (n:Int)),w2]):=by
 refine O0 (E5 (K4 (CF (α:=Nat) (l:=List.range n) (q:=fun i=>.int (i:Int)) (f:=fun i=>dR (rw' n (zE n i))) (base:=[.nil,.dat (.int (n:Int)),.nil]) (wK (by omega) rfl) (by simp;omega) rfl rfl (fun i hi=>?_) (fun _=>rfl))) rfl) ?_
 ·refine O0 (E5 (K4 (CF (α:=Nat) (l:=List.range n) (q:=fun j=>.int (j:Int)) (f:=fun j=>.int (zE n i j)) (base:=[.nil,.dat (.int (n:Int)),.nil,.dat (.int (i:Int))]) (wK (by omega) rfl) (by simp;omega) rfl rfl (fun j hj=>?_) (fun _=>rfl))) rfl) ?_
  ·refine O0 (E5 (D8 (D8 rfl rfl rfl) (D8 rfl rfl rfl) (GX _ _)) rfl) ?_
   show some (D.int (if(((i:Int)+(j:Int))==((n:Int)-1))=true then 1 else 0))=_
   unfold zE
   by_cases h:i+j+1=n
   ·rw[Qn h,Qn (by simp;omega)]
   ·rw[Ql h,Ql (by simp;omega)]
  ·show some (D.tup _)=_
   unfold dR rw';rw[Zk]
   rfl
 ·show some (D.tup _)=_
  unfold dT gm;rw[Zk]
  rfl
theorem oE(ha:0≤a)(h1:1≤n)(h6:n≤6):∃d a' m f,AU [.par [.int a,.bl b],.dat (.int (n:Int))]=some (.d d,[.par [.int a',.bl b],.dat (.int (n:Int))])/\0≤a'/\Tb d m f:=by
 obtain⟨v,a1,t1,p1,q1,a10⟩:=V9 (i:=0) (e:=[.par [.int a,.bl b],.dat (.int (n:Int)),.nil]) (w:=.par [.int a,.bl b]) (k:=4) (M:=mC (.int 4)) rfl rfl rfl ha (by decide) (by decide)
 have eqv:∀k:Int,mT (B6 (j0 false) (A0 2) (mC (.int k))) [.par [.int a1,.bl b],.dat (.int (n:Int)),.dat (.int v)]=some (v==k,[.par [.int a1,.bl b],.dat (.int (n:Int)),.dat (.int v)]):=fun k=>O3 (D8 rfl rfl (GX _ _))
 have eqn:∀k:Int,mT (B6 (j0 false) (A0 1) (mC (.int k))) [.par [.int a1,.bl b],.dat (.int (n:Int)),.dat (.int v)]=some ((n:Int)==k,[.par [.int a1,.bl b],.dat (.int (n:Int)),.dat (.int v)]):=fun k=>O3 (D8 rfl rfl (GX _ _))
 have fin:∀{d:D}{a':Int}{m:Nat}{f:OO},0≤a'->Tb d m f->(C4 (F1 (mT (B6 (j0 false) (A0 2) (mC (.int 0)))) (D1 (d6 K5 (B0 (mF (D6 (J4 (B0 (A0 1) B4)) [false,true,false] 1 (gN 3) E7 (d6 K5 (B0 (mF (D6 (J4 (B0 (A0 1) B4)) [false,false,false,true] 1 (gN 4) E7 (d6 Ac (B0 (B6 (j0 false) (A0 3) (A0 4)) B4)))) B4)))) B4))) n5) (C4 (F1 (mT (B6 (j0 false) (A0 2) (mC (.int 1)))) (D1 (d6 K5 (B0 (mF (D6 (J4 (B0 (A0 1) B4)) [false,true,false] 1 (gN 3) E7 (d6 K5 (B0 (mF (D6 (J4 (B0 (A0 1) B4)) [false,true,false,true] 1 (gN 4) E7 (d6 Ac (B0 (B6 (j0 false) (B6 D5 (A0 3) (A0 4)) (B6 J0 (A0 1) (mC (.int 1)))) B4)))) B4)))) B4))) n5) (C4 (F1 (S7 (mT (B6 (j0 false) (A0 2) (mC (.int 2)))) (mT (B6 (j0 false) (A0 1) (mC (.int 3))))) (D1 (C9 (B0 (C9 (B0 (mC (.int 0)) (B0 (mC (.int 1)) (B0 (mC (.int 0)) B4)))) (B0 (C9 (B0 (mC (.int 1)) (B0 (Q5 (mC (.int 1))) (B0 (mC (.int 1)) B4)))) (B0 (C9 (B0 (mC (.int 0)) (B0 (mC (.int 1)) (B0 (mC (.int 0)) B4)))) B4))))) n5) (C4 (F1 (S7 (mT (B6 (j0 false) (A0 2) (mC (.int 3)))) (mT (B6 (j0 false) (A0 1) (mC (.int 4))))) (D1 (C9 (B0 (C9 (B0 (mC (.int 0)) (B0 (mC (.int 1)) (B0 (mC (.int 0)) (B0 (mC (.int 0)) B4))))) (B0 (C9 (B0 (mC (.int 0)) (B0 (mC (.int 0)) (B0 (mC (.int 0)) (B0 (mC (.int 1)) B4))))) (B0 (C9 (B0 (mC (.int 1)) (B0 (mC (.int 0)) (B0 (mC (.int 0)) (B0 (mC (.int 0)) B4))))) (B0 (C9 (B0 (mC (.int 0)) (B0 (mC (.int 0)) (B0 (mC (.int 1)) (B0 (mC (.int 0)) B4))))) B4)))))) n5) (D1 (c7 3 U6 (F5 0 (B7 (A0 1) (B7 (A0 1) B9))))))))) [.par [.int a1,.bl b],.dat (.int (n:Int)),.dat (.int v)]=some (.ret d,[.par [.int a',.bl b],.dat (.int (n:Int)),.dat (.int v)])->∃d a' m f,AU [.par [.int a,.bl b],.dat (.int (n:Int))]=some (.d d,[.par [.int a',.bl b],.dat (.int (n:Int))])/\0≤a'/\Tb d m f:=fun{d a' m f} h0 ht h=>by
  refine⟨d,a',m,f,Z4 (env:=[.par [.int a',.bl b],.dat (.int (n:Int)),.dat (.int v)]) ?_ rfl,h0,ht⟩;show Kq [.par [.int a,.bl b],.dat (.int (n:Int)),.nil]=_;unfold Kq;exact F8 (Z3 (e1:=[.par [.int a1,.bl b],.dat (.int (n:Int)),.nil]) t1 rfl) h
 by_cases v0:v=0
 ·exact fin a10 (Gg (nY n h1 h6)) (Q8 (BO ((eqv 0).trans (by rw[v0];rfl)) (L8 (oC h6))))
 by_cases v1:v=1
 ·exact fin a10 (Gg (nZ n h1 h6)) (F8 (O1 ((eqv 0).trans (by rw[v1];rfl)) rfl) (Q8 (BO ((eqv 1).trans (by rw[v1];rfl)) (L8 (oD h6)))))
 have f0:(v==0)=false:=Zb.mpr v0
 have f1:(v==1)=false:=Zb.mpr v1
 have last:∃d a' m f,0≤a'/\Tb d m f/\D1 (c7 3 U6 (F5 0 (B7 (A0 1) (B7 (A0 1) B9)))) [.par [.int a1,.bl b],.dat (.int (n:Int)),.dat (.int v)]=some (.ret d,[.par [.int a',.bl b],.dat (.int (n:Int)),.dat (.int v)]):=by
  obtain⟨R,a2,et,a20,hR,_,_⟩:=Ky (a:=a1) (l:=n) (m:=n) (b:=b) a10 (by omega) (by omega) (by omega)
  obtain⟨eR,TR⟩:=hR.fn;refine⟨dT R,a2,R.length,at2 R,a20,⟨Yu dT eR,hR.lo,hR.hi,TR⟩,L8 (S2 ((Ae (e1:=[.par [.int a1,.bl b],.dat (.int (n:Int)),.dat (.int v)]) (w:=.par [.int a1,.bl b]) (av:=[.sl 0,.d (.int n),.d (.int n)]) (i:=0) (c:=[.int a1,.bl b]) (c':=[.int a2,.bl b]) rfl rfl rfl rfl rfl et rfl).trans rfl))⟩
 obtain⟨d,a2,m,f,a20,hd,hl⟩:=last
 by_cases v2:v=2/\n=3
 ·obtain⟨z1,z2⟩:=v2
  have ht:Tb (dT E3) 3 (at2 E3):=by
   have:=Gg (n:=3) (f:=at2 E3) (by rw[←Rk];exact oA)
   rw[←Rk]at this;exact this
  exact fin a10 ht (F8 (O1 ((eqv 0).trans (by rw[f0])) rfl) (F8 (O1 ((eqv 1).trans (by rw[f1])) rfl) (Q8 (BO (GC ((eqv 2).trans (by rw[z1];rfl)) ((eqn 3).trans (by rw[z2];rfl))) (L8 rfl)))))
 have n2:S7 (mT (B6 (j0 false) (A0 2) (mC (.int 2)))) (mT (B6 (j0 false) (A0 1) (mC (.int 3)))) [.par [.int a1,.bl b],.dat (.int (n:Int)),.dat (.int v)]=some (false,[.par [.int a1,.bl b],.dat (.int (n:Int)),.dat (.int v)]):=by
  by_cases z:v=2
  ·exact GC ((eqv 2).trans (by rw[z];rfl)) ((eqn 3).trans (by rw[Zb.mpr (fun y=>v2 ⟨z,by omega⟩)]))
  ·exact Oz ((eqv 2).trans (by rw[Zb.mpr z]))
 by_cases v3:v=3/\n=4
 ·obtain⟨z1,z2⟩:=v3
  have ht:Tb (dT E4) 4 (at2 E4):=by
   have:=Gg (n:=4) (f:=at2 E4) (by rw[←Rl];exact oB)
   rw[←Rl]at this;exact this
  exact fin a10 ht (F8 (O1 ((eqv 0).trans (by rw[f0])) rfl) (F8 (O1 ((eqv 1).trans (by rw[f1])) rfl) (F8 (O1 n2 rfl) (Q8 (BO (GC ((eqv 3).trans (by rw[z1];rfl)) ((eqn 4).trans (by rw[z2];rfl))) (L8 rfl))))))
 have n3:S7 (mT (B6 (j0 false) (A0 2) (mC (.int 3)))) (mT (B6 (j0 false) (A0 1) (mC (.int 4)))) [.par [.int a1,.bl b],.dat (.int (n:Int)),.dat (.int v)]=some (false,[.par [.int a1,.bl b],.dat (.int (n:Int)),.dat (.int v)]):=by
  by_cases z:v=3
  ·exact GC ((eqv 3).trans (by rw[z];rfl)) ((eqn 4).trans (by rw[Zb.mpr (fun y=>v3 ⟨z,by omega⟩)]))
  ·exact Oz ((eqv 3).trans (by rw[Zb.mpr z]))
 exact fin a20 hd (F8 (O1 ((eqv 0).trans (by rw[f0])) rfl) (F8 (O1 ((eqv 1).trans (by rw[f1])) rfl) (F8 (O1 n2 rfl) (F8 (O1 n3 rfl) hl))))
theorem oF(h1:1≤n)(h4:n≤4):AO [.dat (.int (n:Int))]=some (.l ((LL n).map dT),[.dat (.int (n:Int))]):=by
 by_cases e4:n=4
 ·subst e4;exact nG
 ·have k:DO (AO [.dat (.int (n:Int))])=some (LL n):=by
   rcases(by omega:n=1\/n=2\/n=3)with rfl|rfl|rfl
   ·exact mX
   ·exact mY
   ·exact mZ
  obtain⟨w,e⟩:=mV k;exact mW e
def oG(n:Nat):Bool:=(LL n).all fun T=>decide (T.length=n)&&T.all fun r=>decide (r.length=n)
theorem oH:∀n,1≤n->n≤4->oG n=true:=by
 intro n h1 h4
 rcases(by omega:n=1\/n=2\/n=3\/n=4)with rfl|rfl|rfl|rfl<;>rfl'
theorem LG(h1:1≤n)(h4:n≤4)(hT:T∈LL n):T=gm n n (at2 T):=by
 have:=Qw.mp (oH n h1 h4) T hT;simp only[Qy,Zh,Qw]at this;exact QT this.1 this.2
theorem LH:∀n,1≤n->n≤4->(LL n).length≤1000:=by
 intro n h1 h4
 rcases(by omega:n=1\/n=2\/n=3\/n=4)with rfl|rfl|rfl|rfl<;>rfl'
def vY(n:Nat)(w:Str)(T:OI):Bool:=decide (gm n n (tf w n (at2 T))=T)
theorem Rm(h1:1≤n)(h4:n≤4):AN [.dat (.int (n:Int)),.dat (.int 1),.dat (.int 4),.dat (.str "side")]=some (.d .non,[.dat (.int (n:Int)),.dat (.int 1),.dat (.int 4),.dat (.str "side")]):=by
 rcases(by omega:n=1\/n=2\/n=3\/n=4)with rfl|rfl|rfl|rfl<;>rfl
theorem oI(h1:1≤n)(h4:n≤4):CH [.dat (.int (n:Int)),.dat (.int 1),.dat (.int 4),.dat (.str "side")]=none:=by
 rcases(by omega:n=1\/n=2\/n=3\/n=4)with rfl|rfl|rfl|rfl<;>rfl
theorem oJ(hw:w∈W8):yM (.str w)=true:=by
 obtain⟨F,hF⟩:=RS hw;obtain⟨x,hx,_⟩:=hF.nm;show(tL TN (.inr w)).isSome=true;rw[hx]
 rfl
theorem LI(h1:1≤n)(h4:n≤4)(hw:w∈W8):V7 [.dat (.int (n:Int)),.dat (.str w)]=some (.l (((LL n).filter (vY n w)).map dT),[.dat (.int (n:Int)),.dat (.str w)]):=by
 have e1:=Rm h1 h4
 have e2:=mL (d:=.str w) (fun x z=>by cases z) (oJ hw)
 have e3:=oF h1 h4
 refine PF (env:=[.dat (.int (n:Int)),.dat (.str w)]) ?_ rfl;show Kh [.dat (.int (n:Int)),.dat (.str w)]=_;unfold Kh;refine F8 (e1:=[.dat (.int (n:Int)),.dat (.str w)]) (Cn (T3 (av:=[.d (.int n),.d (.int 1),.d (.int 4),.d (.str "side")]) rfl rfl rfl e1)) (F8 (e1:=[.dat (.int (n:Int)),.dat (.str w)]) (Cn (c1 rfl e2)) (Du ?_));refine GA (α:=OI) (l:=LL n) (q:=dT) (f:=dT) (p:=vY n w) (base:=[.nil,.dat (.str w)]) (V2 (K4 (AH (S1 (av:=[.d (.int n)]) rfl rfl rfl e3))) rfl) (by have:=LH n h1 h4;omega) rfl rfl (fun T hT=>⟨?_,fun _=>rfl⟩) (fun _=>rfl)
 have eb:=LF (f:=at2 T) hw h1 (by omega:n≤6)
 rw[←LG h1 h4 hT]at eb;exact O3 (D8 (T3 (av:=[.d (dT T),.d (.str w)]) rfl rfl rfl eb) rfl (Gf _ _))
def vZ:List D:=[.int 0,.int 5,.int (-1),.bl true,.non,.str "1",.tup [.int 1],.int (10^29),.lst [.int 1]]
theorem oK:∀d∈vZ,CH [.dat d,.dat (.int 1),.dat (.int 4),.dat (.str "side")]=some ("NoNumber":Str):=by
 intro d hd;simp only[vZ,Qb,Qo,Yb]at hd;obtain rfl|rfl|rfl|rfl|rfl|rfl|rfl|rfl|rfl:=hd<;>rfl
theorem Rn(hd:d∈vZ):AR [.dat d,.dat x]=some ("NoNumber":Str):=by
 show EX [.dat d,.dat x]=_;unfold EX;exact GY (AK (av:=[.d d,.d (.int 1),.d (.int 4),.d (.str "side")]) rfl rfl rfl (oK d hd))
theorem oM(h1:1≤n)(h4:n≤4)(hx:∀o,x≠.obj o)(hi:yM x=false):AR [.dat (.int (n:Int)),.dat x]=some ("NoTurn":Str):=by
 show EX [.dat (.int (n:Int)),.dat x]=_;unfold EX;exact lZ (e1:=[.dat (.int (n:Int)),.dat x]) (AK (av:=[.d (.int n),.d (.int 1),.d (.int 4),.d (.str "side")]) rfl rfl rfl (oI h1 h4)) (Cn (T3 (av:=[.d (.int n),.d (.int 1),.d (.int 4),.d (.str "side")]) rfl rfl rfl (Rm h1 h4))) (GY (AK (av:=[.d x]) rfl rfl rfl (mM hx hi)))
def wL:List D:=[.str "",.str "Left",.str "lef",.non,.int 0,.tup [.str "left"],.lst [.str "left"],.bl true]
theorem oN:∀d∈wL,yM d=false/\∀o,d≠.obj o:=by
 intro d hd;simp only[wL,Qb,Qo,Yb]at hd;obtain rfl|rfl|rfl|rfl|rfl|rfl|rfl|rfl:=hd
 ·exact⟨by rfl',fun o z=>by cases z⟩
 ·exact⟨by rfl',fun o z=>by cases z⟩
 ·exact⟨by rfl',fun o z=>by cases z⟩
 ·exact⟨rfl,fun o z=>by cases z⟩
 ·exact⟨rfl,fun o z=>by cases z⟩
 ·exact⟨rfl,fun o z=>by cases z⟩
 ·exact⟨rfl,fun o z=>by cases z⟩
 ·exact⟨rfl,fun o z=>by cases z⟩
theorem Ro:V8 (some "NoNumber")=some (.int 6):=LA (by rfl')
theorem oO:(W8.all fun w=>v8 (.str w))=true:=by rfl'
theorem oP(k:Nat)(hw:w∈W8):M6 (k+1) [.dat (.str w),.dat (.str w)]=some (.d (.bl true),[.dat (.str w),.dat (.str w)]):=by
 refine(M5 (d:=.bl true) (env:=[.dat (.str w),.dat (.str w)]) ?_).trans rfl;show Ap (M6 k) [.dat (.str w),.dat (.str w)]=_;unfold Ap;refine F8 (O1 rfl rfl) (L8 ?_);refine Ek (e1:=[.dat (.str w),.dat (.str w)]) rfl (D8 rfl rfl ?_);have h1:v8 (.str w)=true:=Qw.mp oO w hw;have h2:PyData.eqv (sH (.str w)) (sH (.str w))=true:=by
  show(w==w)=true;exact Yr w
 unfold j0;rw[h1,h2]
 rfl
theorem Rp(hl:es.length≤1000)(h:∀x∈es,∃ws,M6 k [.dat x,.dat x]=some (.d (.bl true),ws)):M6 (k+1) [.dat (.lst es),.dat (.lst es)]=some (.d (.bl true),[.dat (.lst es),.dat (.lst es)]):=by
 refine(M5 (d:=.bl true) (env:=[.dat (.lst es),.dat (.lst es)]) ?_).trans rfl;show Ap (M6 k) [.dat (.lst es),.dat (.lst es)]=_;unfold Ap;refine Q8 (BO (e1:=[.dat (.lst es),.dat (.lst es)]) rfl (F8 (e1:=[.dat (.lst es),.dat (.lst es)]) (O1 (e1:=[.dat (.lst es),.dat (.lst es)]) rfl rfl) (L8 ?_)));have e1:(B6 (j0 false) (d6 E9 (B0 (A0 0) B4)) (d6 E9 (B0 (A0 1) B4))) [.dat (.lst es),.dat (.lst es)]=some (.bl ((es.length:Int)==(es.length:Int)),[.dat (.lst es),.dat (.lst es)]):=rfl;rw[Yr]at e1;have z:W9 es es=es.map fun a=>.tup [a,a]:=by have:=PB es id id;simpa using this
 have c:=EF (mi:=R9 (B0 (A0 0) (B0 (A0 1) B4))) (keep:=[false,false]) (m:=c7 2 (M6 k) (B7 (A0 2) (B7 (A0 3) B9))) (env:=[.dat (.lst es),.dat (.lst es)]) (base:=[.nil,.nil]) (l:=es) (q:=fun p=>p) (q2:=fun p=>p) (f:=fun _=>.bl true) (k:=2) (by rw[←z];rfl) (by omega) rfl rfl (fun p hp=>by
   obtain⟨ws,q⟩:=h p hp;exact T3 (av:=[.d p,.d p]) rfl rfl rfl q) (fun w w2=>rfl)
 refine Ek e1 (O0 (d:=.bl true) (E5 (K4 c) rfl) ?_);show(U1 _).map _=_;rw[Bt];simp
theorem oQ{L:List Str}(h:∀w∈L,w∈W8)(hl:L.length≤1000):M6 6 [.dat (.lst (L.map D.str)),.dat (.lst (L.map D.str))]=some (.d (.bl true),[.dat (.lst (L.map D.str)),.dat (.lst (L.map D.str))]):=
 Rp (by rw[Qk];exact hl) fun x hx=>by
  obtain⟨w,hw,rfl⟩:=Zq.mp hx;exact⟨_,oP 4 (h w hw)⟩
theorem oR(h1:1≤n)(h4:n≤4)(h:∀T∈L,T∈LL n)(hl:L.length≤1000):M6 6 [.dat (.lst (L.map dT)),.dat (.lst (L.map dT))]=some (.d (.bl true),[.dat (.lst (L.map dT)),.dat (.lst (L.map dT))]):=
 Rp (by rw[Qk];exact hl) fun x hx=>by
  obtain⟨T,hT,rfl⟩:=Zq.mp hx;rw[LG h1 h4 (h T hT)];exact Gd (k:=4) (by rw[Qk,AV];omega) fun y hy=>by
   obtain⟨r,hr,rfl⟩:=Zq.mp hy;exact Gd (k:=3) (by rw[Qk,GW r hr];omega) fun z hz=>by
    obtain⟨i,_,rfl⟩:=Zq.mp hz;exact⟨_,QZ 2 i⟩
theorem oS{f:Fn}{d00 d0 d2 r:D}(h0:((env[i]?).bind W.view)=some d00)(h1:m env=some (d2,e1))(h2:((e1[i]?).bind W.view)=some d0)(h3:f [.dat d0,.dat d2]=some (.d r,ws))(hf:r.flat=true):EE f i m env=some (r,e1):=by
 unfold EE;rw[h0,Qj,h1,Qj,h2,Qj,h3,Qj];show(if r.flat then some (r,e1)else none)=_
 rw[Qn hf]
theorem Rq{mi:Mo (List D)}{keep:List Bool}{more:Nat}{g:OZ}{t:Mo Bool}(h1:mi env=some (ds,e1))(h2:mi e1=some (ds,e1)):D6 mi keep more g t m env=D6 mi keep more g t m e1:=by
 unfold D6;rw[h1,h2]
theorem Rt{l:List (Str×(List W->Option Str))}{g:List W->Option Str}{r:Option Str}(h:env[i]? =some (.dat (.obj (.fn nm))))(hl:l.lookup nm=some g)(hx:S3 n g as env=r):yB n i l as env=r:=by
 unfold yB;rw[h];dsimp only;rw[hl];exact hx
abbrev F(Z:D)(k:Nat)(w2 w3 w4 w5 w6 w7 w8 w9 w10 w11 w12 w13 w14:W):c5:=[.dat Z,.dat (.int (k:Int)),w2,w3,w4,w5,w6,w7,w8,w9,w10,w11,w12,w13,w14]
theorem Ru(e:c5):mF (J7 0 Ao B9) e=some (.lst (W8.map D.str),e):=
 K4 (AH (S1 (av:=[]) rfl rfl rfl (show Ao []=some (.l (W8.map D.str),[])from rfl)))
abbrev bB:Mo Fl:=(C4 (K7 14 (J7 1 CI (B7 (A0 4) B9))) (C4 (F1 (G8 (mT (EE (M6 6) 14 (mF (D6 (F3 (A0 9)) [false,false,false,false,true,false,false,false,false,false,false,false,false,false,false] 2 (gT 2 (j3 (gN 15) (j3 (gN 16) pZ))) (mT (B6 (j0 false) (A0 16) (A0 4))) (A0 15)))))) (D1 (mC (.bl false))) n5) (T9 14 (mC (.str "")))))
abbrev bA:Mo Fl:=(C4 (K7 9 (D6 (F3 (mF (J7 0 Ao B9))) [false,false,false,false,true,false,false,false,false,false,false,false,false,false,false] 1 (gN 15) E7 (C9 (B0 (A0 15) (B0 (c7 2 An (B7 (A0 4) (B7 (A0 15) B9))) B4))))) (C4 (K3 (J4 (B0 (mC (.int 2)) B4)) (gN 10) bB) (F1 (G8 (mT (c7 2 (M6 6) (B7 (c7 1 CJ (B7 (A0 4) B9)) (B7 (d6 CD (B0 (mF (D6 (F3 (A0 9)) [false,false,false,false,false,false,false,false,false,false,false,false,false,false,false] 2 (gT 2 (j3 (gN 15) (j3 (gN 16) pZ))) E7 (A0 16))) B4)) B9))))) (D1 (mC (.bl false))) n5)))
abbrev bC:Mo Fl:=(F1 (mT (B6 (j0 true) (Y9 xN [false,false,false,false,false,true,true,false,false,false,false,false,false,false,false] (y0 1 6 [("own_turns",CI),("least_turned",CJ)] (B7 (A0 5) B9)) (yB 1 6 [("own_turns",DJ),("least_turned",DK)] (B7 (A0 5) B9)) V8) (mC (.int 0)))) (D1 (mC (.bl false))) n5)
abbrev bK:Mo Fl:=(C4 (K7 13 (D6 (F3 (mF (J7 1 DM (B7 (A0 11) B9)))) [false,false,false,false,false,false,false,false,false,false,false,false,true,false,false] 1 (gN 15) (mT (B6 (j0 false) (c7 2 An (B7 (A0 15) (B7 (A0 12) B9))) (A0 15))) (A0 15))) (C4 (K7 14 (J7 2 V7 (B7 (A0 11) (B7 (A0 12) B9)))) (F1 (G8 (mT (Fq 2 (M6 6) [14,13]))) (D1 (mC (.bl false))) n5)))
abbrev bR:Mo Fl:=(C4 (D7 7 (B6 m7 (mF (J1 (B0 (mC (.int 0)) (B0 (mC (.int 5)) (B0 (Q5 (mC (.int 1))) (B0 (mC (.bl true)) (B0 (mC .non) (B0 (mC (.str "1")) (B0 (C9 (B0 (mC (.int 1)) B4)) (B0 (B6 T4 (mC (.int 10)) (mC (.int 29))) (B0 (mF (J1 (B0 (mC (.int 1)) B4))) B4))))))))))) (c7 2 J6 (F5 2 (B7 (mC (.int 9)) B9))))) (C4 (D7 8 (B6 m7 (mF (J1 (B0 (mC (.str "")) (B0 (mC (.str "Left")) (B0 (mC (.str "lef")) (B0 (mC .non) (B0 (mC (.int 0)) (B0 (C9 (B0 (mC (.str "left")) B4)) (B0 (mF (J1 (B0 (mC (.str "left")) B4))) (B0 (mC (.bl true)) B4)))))))))) (c7 2 J6 (F5 2 (B7 (mC (.int 8)) B9))))) (C4 (F1 (mT (B6 (j0 true) (Y9 xN [false,false,false,false,false,false,false,true,true,false,false,false,false,false,false] (mF (J7 2 V7 (B7 (A0 7) (B7 (A0 8) B9)))) (S3 2 AR (B7 (A0 7) (B7 (A0 8) B9))) V8) (mC (.int 6)))) (D1 (mC (.bl false))) n5) (C4 (F1 (mT (B6 (j0 true) (Y9 xN [false,false,false,false,false,false,false,true,false,false,false,false,true,false,false] (mF (J7 2 V7 (B7 (A0 7) (B7 (A0 12) B9)))) (S3 2 AR (B7 (A0 7) (B7 (A0 12) B9))) V8) (mC (.int 6)))) (D1 (mC (.bl false))) n5) (F1 (mT (B6 (j0 true) (Y9 xN [false,false,false,false,false,false,false,false,true,false,false,true,false,false,false] (mF (J7 2 V7 (B7 (A0 11) (B7 (A0 8) B9)))) (S3 2 AR (B7 (A0 11) (B7 (A0 8) B9))) V8) (mC (.int 7)))) (D1 (mC (.bl false))) n5)))))
abbrev b0:Mo Fl:=(C4 (K7 2 (J7 2 Eb (B7 (A0 0) (B7 (A0 1) B9)))) (C4 (D7 3 (c7 3 U6 (F5 2 (B7 (mC (.int 1)) (B7 (mC (.int 6)) B9))))) (C4 (K3 (F3 (mF (J1 (B0 (A0 3) (B0 (c7 2 AU (F5 2 (B7 (B6 D5 (mC (.int 1)) (c7 2 J6 (F5 2 (B7 (mC (.int 6)) B9)))) B9))) (B0 (c7 2 AU (F5 2 (B7 (B6 D5 (mC (.int 3)) (c7 2 J6 (F5 2 (B7 (mC (.int 2)) B9)))) B9))) B4)))))) (gN 4) bA) (C4 (D7 5 (c7 1 Ee (F5 2 B9))) (C4 (K3 (F3 (mF (J1 (B0 (mC (.obj (.fn "own_turns"))) (B0 (mC (.obj (.fn "least_turned"))) B4))))) (gN 6) bC) (C4 (Q3 (C9 (B0 (B6 D5 (mC (.int 1)) (c7 2 J6 (F5 2 (B7 (mC (.int 4)) B9)))) (B0 (B6 m7 (mF (J7 0 Ao B9)) (c7 2 J6 (F5 2 (B7 (mC (.int 8)) B9)))) B4))) (gT 2 (j3 (gN 11) (j3 (gN 12) pZ)))) (C4 (F1 (mT (B6 xO (A0 1) (mC (.int 2)))) bK n5) bR)))))))
section
variable{f:OO}{w11 w12:W}
def vE(n:Nat)(f:OO):List D:=W8.map fun w=>.tup [.str w,dT (gm n n (tf w n f))]
theorem oT(h6:n≤6):(D6 (F3 (mF (J7 0 Ao B9))) [false,false,false,false,true,false,false,false,false,false,false,false,false,false,false] 1 (gN 15) E7 (C9 (B0 (A0 15) (B0 (c7 2 An (B7 (A0 4) (B7 (A0 15) B9))) B4)))) (F Z k w2 w3 (.dat (dT (gm n n f))) w5 w6 w7 w8 w9 w10 w11 w12 w13 w14)=some (vE n f,(F Z k w2 w3 (.dat (dT (gm n n f))) w5 w6 w7 w8 w9 w10 w11 w12 w13 w14)):=by
 refine CF (α:=Str) (l:=W8) (q:=D.str) (f:=fun w=>.tup [.str w,dT (gm n n (tf w n f))]) (base:=[.nil,.nil,.nil,.nil,.dat (dT (gm n n f)),.nil,.nil,.nil,.nil,.nil,.nil,.nil,.nil,.nil,.nil]) (V2 (Ru _) rfl) (by decide) rfl rfl (fun w hw=>?_) (fun _=>rfl)
 obtain⟨_,e⟩:=RU (f:=f) hw h6;exact EJ (E5 rfl (E5 (T3 (av:=[.d (dT (gm n n f)),.d (.str w)]) rfl rfl rfl e) rfl)) (by simp)
def zF(L:List D)(w:W):Prop:=w=.own L\/w=.dat (.lst L)
theorem DP{L:List D}{A:W}(h:zF L w9):F3 (A0 9) (F Z k w2 w3 A w5 w6 w7 w8 w9 w10 w11 w12 w13 w14)=some (L,(F Z k w2 w3 A w5 w6 w7 w8 (.dat (.lst L)) w10 w11 w12 w13 w14)):=by
 rcases h with rfl|rfl<;>rfl
theorem oU(h:zF (vE n f) w9):(mF (D6 (F3 (A0 9)) [false,false,false,false,true,false,false,false,false,false,false,false,false,false,false] 2 (gT 2 (j3 (gN 15) (j3 (gN 16) pZ))) (mT (B6 (j0 false) (A0 16) (A0 4))) (A0 15))) (F Z k w2 w3 (.dat (dT (gm n n f))) w5 w6 w7 w8 w9 w10 w11 w12 w13 w14)=some (.lst ((W8.filter (own n f)).map D.str),(F Z k w2 w3 (.dat (dT (gm n n f))) w5 w6 w7 w8 (.dat (.lst (vE n f))) w10 w11 w12 w13 w14)):=by
 refine K4 ((Rq (DP h) (DP (.inr rfl))).trans ?_);refine Ox (α:=Str) (l:=W8) (q:=D.str) (q2:=fun w=>dT (gm n n (tf w n f))) (f:=D.str) (p:=own n f) (base:=[.nil,.nil,.nil,.nil,.dat (dT (gm n n f)),.nil,.nil,.nil,.nil,.nil,.nil,.nil,.nil,.nil,.nil]) (DP (.inr rfl)) (by decide) rfl rfl (fun w hw=>⟨O3 (D8 rfl rfl (Gf _ _)),fun _=>rfl⟩) (fun _ _=>rfl)
theorem oV(h:zF (vE n f) w9):(mF (D6 (F3 (A0 9)) [false,false,false,false,false,false,false,false,false,false,false,false,false,false,false] 2 (gT 2 (j3 (gN 15) (j3 (gN 16) pZ))) E7 (A0 16))) (F Z k w2 w3 (.dat (dT (gm n n f))) w5 w6 w7 w8 w9 w10 w11 w12 w13 w14)=some (.lst ((W8.map fun w=>gm n n (tf w n f)).map dT),(F Z k w2 w3 (.dat (dT (gm n n f))) w5 w6 w7 w8 (.dat (.lst (vE n f))) w10 w11 w12 w13 w14)):=by
 rw[Zk];refine K4 ((Rq (DP h) (DP (.inr rfl))).trans ?_);refine EF (α:=Str) (l:=W8) (q:=D.str) (q2:=fun w=>dT (gm n n (tf w n f))) (f:=fun w=>dT (gm n n (tf w n f))) (base:=[.nil,.nil,.nil,.nil,.nil,.nil,.nil,.nil,.nil,.nil,.nil,.nil,.nil,.nil,.nil]) (DP (.inr rfl)) (by decide) rfl rfl (fun w hw=>rfl) (fun _ _=>rfl)
theorem oW:((W8.filter (own n f)).map D.str).length≤1000:=by
 rw[Qk];exact Zp (Ut _ _) (by decide)
theorem oX(h1:1≤n)(h6:n≤6)(T:sF n f)(h:zF (vE n f) w9):∃x14,bB (F Z k w2 w3 (.dat (dT (gm n n f))) w5 w6 w7 w8 w9 w10 w11 w12 w13 w14)=some (.nx,(F Z k w2 w3 (.dat (dT (gm n n f))) w5 w6 w7 w8 (.dat (.lst (vE n f))) w10 w11 w12 w13 x14)):=by
 have eo:=nU h1 h6 T
 have es:=oQ (L:=W8.filter (own n f)) (fun w hw=>(Vs.mp hw).1) (Zp (Ut _ _) (by decide))
 have ep:=oU (Z:=Z) (k:=k) (w2:=w2) (w3:=w3) (w5:=w5) (w6:=w6) (w7:=w7) (w8:=w8) (w10:=w10) (w11:=w11) (w12:=w12) (w13:=w13) (w14:=.own ((W8.filter (own n f)).map D.str)) h
 have hl:=oW (n:=n) (f:=f)
 generalize (W8.filter (own n f)).map D.str=O at *;generalize vE n f=V at *;generalize dT (gm n n f)=A at *;refine⟨.own (O++[.str ""]),?_⟩;unfold bB;refine F8 (e1:=(F Z k w2 w3 (.dat A) w5 w6 w7 w8 w9 w10 w11 w12 w13 (.own O))) (BP (e1:=(F Z k w2 w3 (.dat A) w5 w6 w7 w8 w9 w10 w11 w12 w13 w14)) (AH (S1 (av:=[.d A]) rfl rfl rfl eo)) rfl) ?_
 refine F8 (e1:=(F Z k w2 w3 (.dat A) w5 w6 w7 w8 (.dat (.lst V)) w10 w11 w12 w13 (.own O))) (O1 (Y6 (b:=true) (O3 (oS rfl ep rfl es rfl))) rfl) ?_
 exact(GB (w':=.own O) (w:=.own O) (ds:=O) (ds':=O) (env':=(F Z k w2 w3 (.dat A) w5 w6 w7 w8 (.dat (.lst V)) w10 w11 w12 w13 (.own O))) (d:=.str "") rfl rfl rfl rfl rfl (by omega)).trans rfl
theorem oY(h1:1≤n)(h6:n≤6)(T:sF n f):∃x9 x10 x14,bA (F Z k w2 w3 (.dat (dT (gm n n f))) w5 w6 w7 w8 w9 w10 w11 w12 w13 w14)=some (.nx,(F Z k w2 w3 (.dat (dT (gm n n f))) w5 w6 w7 w8 x9 x10 w11 w12 w13 x14)):=by
 obtain⟨e,he,y9,y10,y14,hy,rfl⟩:=EH (g:=gN 10) (b:=bB) (n:=2) (fun i e=>∃y9 y10 y14,zF (vE n f) y9/\e=(F Z k w2 w3 (.dat (dT (gm n n f))) w5 w6 w7 w8 y9 y10 w11 w12 w13 y14)) (env:=(F Z k w2 w3 (.dat (dT (gm n n f))) w5 w6 w7 w8 (.own (vE n f)) w10 w11 w12 w13 w14)) (fun i hi e ⟨y9,y10,y14,hy,he⟩=>by
  subst he;obtain⟨x14,hb⟩:=oX (Z:=Z) (k:=k) (w2:=w2) (w3:=w3) (w5:=w5) (w6:=w6) (w7:=w7) (w8:=w8) (w10:=.dat (.int (i:Int))) (w11:=w11) (w12:=w12) (w13:=w13) (w14:=y14) h1 h6 T hy;exact⟨_,_,rfl,hb,.dat (.lst (vE n f)),.dat (.int (i:Int)),x14,.inr rfl,rfl⟩) ⟨_,_,_,.inl rfl,rfl⟩
 have ev:=oT (Z:=Z) (k:=k) (f:=f) (w2:=w2) (w3:=w3) (w5:=w5) (w6:=w6) (w7:=w7) (w8:=w8) (w9:=w9) (w10:=w10) (w11:=w11) (w12:=w12) (w13:=w13) (w14:=w14) h6
 have em:=oV (Z:=Z) (k:=k) (w2:=w2) (w3:=w3) (w5:=w5) (w6:=w6) (w7:=w7) (w8:=w8) (w10:=y10) (w11:=w11) (w12:=w12) (w13:=w13) (w14:=y14) hy
 obtain⟨M,hM,emin⟩:=nT (L:=W8.map fun w=>gm n n (tf w n f)) (by rw[Qk];decide)
 obtain⟨w,hw,rfl⟩:=Zq.mp hM;have el:=nV h1 h6 T emin;obtain⟨_,es⟩:=mU (f:=tf w n f) h6;generalize hLL:(W8.map fun w=>gm n n (tf w n f)).map dT=LL' at *
 generalize dT (gm n n (tf w n f))=M at *;generalize vE n f=V at *;generalize dT (gm n n f)=A at *;refine⟨.dat (.lst V),y10,y14,?_⟩;unfold bA;refine F8 (e1:=(F Z k w2 w3 (.dat A) w5 w6 w7 w8 (.own V) w10 w11 w12 w13 w14)) (BP (e1:=(F Z k w2 w3 (.dat A) w5 w6 w7 w8 w9 w10 w11 w12 w13 w14)) ev rfl) ?_
 refine F8 ((U3 (Aj (n:=2) rfl rfl (by decide))).trans he) ?_
 exact O1 (Y6 (b:=true) (O3 (T3 (av:=[.d M,.d M]) (e1:=(F Z k w2 w3 (.dat A) w5 w6 w7 w8 (.dat (.lst V)) y10 w11 w12 w13 y14)) (BH (e1:=(F Z k w2 w3 (.dat A) w5 w6 w7 w8 y9 y10 w11 w12 w13 y14)) (T3 (av:=[.d A]) rfl rfl rfl el) (BH (e1:=(F Z k w2 w3 (.dat A) w5 w6 w7 w8 (.dat (.lst V)) y10 w11 w12 w13 y14)) (O0 (E5 em rfl) emin) rfl)) rfl rfl es))) rfl
theorem Rv(hx:qY x=false)(h:nm="own_turns"\/nm="least_turned"):bC (F Z k w2 w3 w4 (.dat x) (.dat (.obj (.fn nm))) w7 w8 w9 w10 w11 w12 w13 w14)=some (.nx,(F Z k w2 w3 w4 (.dat x) (.dat (.obj (.fn nm))) w7 w8 w9 w10 w11 w12 w13 w14)):=by
 have key:yB 1 6 [("own_turns",DJ),("least_turned",DK)] (B7 (A0 5) B9) [.nil,.nil,.nil,.nil,.nil,.dat x,.dat (.obj (.fn nm)),.nil,.nil,.nil,.nil,.nil,.nil,.nil,.nil]=some ("NoTable":Str):=by
  rcases h with rfl|rfl
  ·exact Rt rfl (by unfold List.lookup;rw[Yr]) (AK (av:=[.d x]) rfl rfl rfl (nW hx))
  ·exact Rt rfl (by unfold List.lookup;rw[show(("least_turned":Str)=="own_turns")=false by rfl'];dsimp only;unfold List.lookup;rw[Yr]) (AK (av:=[.d x]) rfl rfl rfl (nX hx))
 unfold bC;exact O1 (O3 (D8 (GD (lw:=[.nil,.nil,.nil,.nil,.nil,.dat x,.dat (.obj (.fn nm)),.nil,.nil,.nil,.nil,.nil,.nil,.nil,.nil]) rfl key (by rfl') lW) rfl rfl)) rfl
end
theorem oZ{w:W}{c0:Mu}(hw0:e[i]? =some w0)(hm0:w0.mut=some c0)(hM:M e=some (.int (n:Int),e1))(hw:e1[i]? =some w)(hm:w.mutL=some [.int a,.bl b])(ha:0≤a)(h1:1≤n)(h6:n≤6):
  ∃d a' m f,c7 2 AU (F5 i (B7 M B9)) e=some (d,e1.set i (w.put [.int a',.bl b]))/\0≤a'/\Tb d m f:=by
 obtain⟨d,a',m,f,et,a0,ht⟩:=oE (a:=a) (b:=b) ha h1 h6;exact⟨d,a',m,f,S2 (Ae (av:=[.sl i,.d (.int n)]) (c:=[.int a,.bl b]) (RA hw0 hm0 (BH hM rfl)) rfl rfl hw hm et rfl),a0,ht⟩
section
variable{w11 w12:W}
abbrev mE(c m:Int):Mo D:=c7 2 AU (F5 2 (B7 (B6 D5 (mC (.int c)) (c7 2 J6 (F5 2 (B7 (mC (.int m)) B9)))) B9))
theorem e_E(ha:0≤a){m:Nat}(hc:1≤c)(hm:1≤m)(hcm:c+m≤7):∃d a' n f,mE c m (F Z k (.own [.int a,.bl b]) w3 w4 w5 w6 w7 w8 w9 w10 w11 w12 w13 w14)=some (d,(F Z k (.own [.int a',.bl b]) w3 w4 w5 w6 w7 w8 w9 w10 w11 w12 w13 w14))/\0≤a'/\Tb d n f:=by
 obtain⟨v,a1,t1,p1,q1,a10⟩:=V9 (i:=2) (e:=(F Z k (.own [.int a,.bl b]) w3 w4 w5 w6 w7 w8 w9 w10 w11 w12 w13 w14)) (w:=.own [.int a,.bl b]) (k:=(m:Int)) (M:=mC (.int m)) rfl rfl rfl ha (by omega) (by omega)
 obtain⟨d,a2,n,f,e2,a20,ht⟩:=oZ (i:=2) (e:=(F Z k (.own [.int a,.bl b]) w3 w4 w5 w6 w7 w8 w9 w10 w11 w12 w13 w14)) (e1:=(F Z k (.own [.int a1,.bl b]) w3 w4 w5 w6 w7 w8 w9 w10 w11 w12 w13 w14)) (w0:=.own [.int a,.bl b]) (w:=.own [.int a1,.bl b]) (n:=c+v.toNat) (M:=B6 D5 (mC (.int c)) (c7 2 J6 (F5 2 (B7 (mC (.int m)) B9)))) rfl rfl (D8 rfl t1 (by show some (D.int ((c:Int)+v))=_;rw[show(c:Int)+v=((c+v.toNat:Nat):Int) by omega])) rfl rfl a10 (by omega) (by omega)
 exact⟨d,a2,n,f,e2,a20,ht⟩
theorem V5{A1 A2 A3:D}(h1:∃n f,Tb A1 n f)(h2:∃n f,Tb A2 n f)(h3:∃n f,Tb A3 n f):∃x4 x9 x10 x14,loop (gN 4) bA [A1,A2,A3] (F Z k w2 w3 w4 w5 w6 w7 w8 w9 w10 w11 w12 w13 w14)=some (.nx,(F Z k w2 w3 x4 w5 w6 w7 w8 x9 x10 w11 w12 w13 x14)):=by
 obtain⟨e,he,x4,x9,x10,x14,rfl⟩:=Hi (g:=gN 4) (b:=bA) (P:=fun e=>∃x4 x9 x10 x14,e=(F Z k w2 w3 x4 w5 w6 w7 w8 x9 x10 w11 w12 w13 x14)) (ds:=[A1,A2,A3]) (env:=(F Z k w2 w3 w4 w5 w6 w7 w8 w9 w10 w11 w12 w13 w14)) (fun d hd e ⟨x4,x9,x10,x14,he⟩=>by
  subst he;obtain⟨n,f,T⟩:∃n f,Tb d n f:=by
   simp only[Qb,Qo,Yb]at hd;obtain rfl|rfl|rfl:=hd
   ·exact h1
   ·exact h2
   ·exact h3
  obtain⟨y9,y10,y14,hb⟩:=oY (Z:=Z) (k:=k) (w2:=w2) (w3:=w3) (w5:=w5) (w6:=w6) (w7:=w7) (w8:=w8) (w9:=x9) (w10:=x10) (w11:=w11) (w12:=w12) (w13:=w13) (w14:=x14) T.lo T.hi T.t;rw[←T.e]at hb;exact⟨_,_,rfl,hb,.dat d,y9,y10,y14,rfl⟩) ⟨_,_,_,_,rfl⟩
 exact⟨x4,x9,x10,x14,he⟩
theorem pA(hx:qY x=false):∃x6,loop (gN 6) bC [.obj (.fn "own_turns"),.obj (.fn "least_turned")] (F Z k w2 w3 w4 (.dat x) w6 w7 w8 w9 w10 w11 w12 w13 w14)=some (.nx,(F Z k w2 w3 w4 (.dat x) x6 w7 w8 w9 w10 w11 w12 w13 w14)):=by
 obtain⟨e,he,x6,rfl⟩:=Hi (g:=gN 6) (b:=bC) (P:=fun e=>∃x6,e=(F Z k w2 w3 w4 (.dat x) x6 w7 w8 w9 w10 w11 w12 w13 w14)) (ds:=[.obj (.fn "own_turns"),.obj (.fn "least_turned")]) (env:=(F Z k w2 w3 w4 (.dat x) w6 w7 w8 w9 w10 w11 w12 w13 w14)) (fun d hd e ⟨x6,he⟩=>by
  subst he;simp only[Qb,Qo,Yb]at hd;obtain rfl|rfl:=hd
  ·exact⟨_,_,rfl,Rv hx (.inl rfl),_,rfl⟩
  ·exact⟨_,_,rfl,Rv hx (.inr rfl),_,rfl⟩) ⟨_,rfl⟩
 exact⟨x6,he⟩
theorem pB(h1:1≤n)(h4:n≤4)(hw:w∈W8):∃x13 x14,bK (F Z k w2 w3 w4 w5 w6 w7 w8 w9 w10 (.dat (.int (n:Int))) (.dat (.str w)) w13 w14)=some (.nx,(F Z k w2 w3 w4 w5 w6 w7 w8 w9 w10 (.dat (.int (n:Int))) (.dat (.str w)) x13 x14)):=by
 obtain⟨_,ea⟩:=nR h1 h4;have el:=LI h1 h4 hw;have es:=oR h1 h4 (L:=(LL n).filter (vY n w)) (fun T hT=>(Vs.mp hT).1) (Zp (Ut _ _) (LH n h1 h4))
 have ed:(D6 (F3 (mF (J7 1 DM (B7 (A0 11) B9)))) [false,false,false,false,false,false,false,false,false,false,false,false,true,false,false] 1 (gN 15) (mT (B6 (j0 false) (c7 2 An (B7 (A0 15) (B7 (A0 12) B9))) (A0 15))) (A0 15)) (F Z k w2 w3 w4 w5 w6 w7 w8 w9 w10 (.dat (.int (n:Int))) (.dat (.str w)) w13 w14)=some (((LL n).filter (vY n w)).map dT,(F Z k w2 w3 w4 w5 w6 w7 w8 w9 w10 (.dat (.int (n:Int))) (.dat (.str w)) w13 w14)):=by
  refine GA (α:=OI) (l:=LL n) (q:=dT) (f:=dT) (p:=vY n w) (base:=[.nil,.nil,.nil,.nil,.nil,.nil,.nil,.nil,.nil,.nil,.nil,.nil,.dat (.str w),.nil,.nil]) (V2 (K4 (AH (S1 (av:=[.d (.int n)]) rfl rfl rfl ea))) rfl) (by have:=LH n h1 h4;omega) rfl rfl (fun T hT=>⟨?_,fun _=>rfl⟩) (fun _=>rfl)
  obtain⟨_,eb⟩:=RU (f:=at2 T) hw (by omega:n≤6)
  rw[←LG h1 h4 hT]at eb;exact O3 (D8 (T3 (av:=[.d (dT T),.d (.str w)]) rfl rfl rfl eb) rfl (Gf _ _))
 generalize ((LL n).filter (vY n w)).map dT=O at *;refine⟨.own O,.own O,?_⟩;unfold bK;refine F8 (e1:=(F Z k w2 w3 w4 w5 w6 w7 w8 w9 w10 (.dat (.int (n:Int))) (.dat (.str w)) (.own O) w14)) (BP (e1:=(F Z k w2 w3 w4 w5 w6 w7 w8 w9 w10 (.dat (.int (n:Int))) (.dat (.str w)) w13 w14)) ed rfl) ?_
 refine F8 (e1:=(F Z k w2 w3 w4 w5 w6 w7 w8 w9 w10 (.dat (.int (n:Int))) (.dat (.str w)) (.own O) (.own O))) (BP (e1:=(F Z k w2 w3 w4 w5 w6 w7 w8 w9 w10 (.dat (.int (n:Int))) (.dat (.str w)) (.own O) w14)) (AH (S1 (av:=[.d (.int n),.d (.str w)]) rfl rfl rfl el)) rfl) ?_
 refine O1 (Y6 (b:=true) (O3 (?_:Fq 2 (M6 6) [14,13] (F Z k w2 w3 w4 w5 w6 w7 w8 w9 w10 (.dat (.int (n:Int))) (.dat (.str w)) (.own O) (.own O))=some (.bl true,(F Z k w2 w3 w4 w5 w6 w7 w8 w9 w10 (.dat (.int (n:Int))) (.dat (.str w)) (.own O) (.own O)))))) rfl;show((M6 6 [.dat (.lst O),.dat (.lst O)]).bind _)=_;rw[es]
 rfl
end
theorem pC(ha:0≤a)(h1:1≤n)(h4:n≤4):∃a' x7 x8,0≤a'/\bR (F Z k (.own [.int a,.bl b]) w3 w4 w5 w6 w7 w8 w9 w10 (.dat (.int (n:Int))) (.dat (.str w)) w13 w14)=some (.nx,(F Z k (.own [.int a',.bl b]) w3 w4 w5 w6 x7 x8 w9 w10 (.dat (.int (n:Int))) (.dat (.str w)) w13 w14)):=by
 obtain⟨v1,a1,t1,p1,q1,a10⟩:=V9 (i:=2) (e:=(F Z k (.own [.int a,.bl b]) w3 w4 w5 w6 w7 w8 w9 w10 (.dat (.int (n:Int))) (.dat (.str w)) w13 w14)) (w:=.own [.int a,.bl b]) (k:=9) (M:=mC (.int 9)) rfl rfl rfl ha (by decide) (by decide)
 obtain⟨d1,hd1,ed1⟩:=AW (ds:=vZ) (v:=v1) p1 q1;obtain⟨v2,a2,t2,p2,q2,a20⟩:=V9 (i:=2) (e:=(F Z k (.own [.int a1,.bl b]) w3 w4 w5 w6 (.dat d1) w8 w9 w10 (.dat (.int (n:Int))) (.dat (.str w)) w13 w14)) (w:=.own [.int a1,.bl b]) (k:=8) (M:=mC (.int 8)) rfl rfl rfl a10 (by decide) (by decide)
 obtain⟨d2,hd2,ed2⟩:=AW (ds:=wL) (v:=v2) p2 q2;obtain⟨hi,hno⟩:=oN d2 hd2;have g1:=Rn (x:=d2) hd1;have g2:=Rn (x:=.str w) hd1;have g3:=oM h1 h4 hno hi;have hp:T4 (.int 10) (.int 29)=some (.int (10^29)):=Kv (by rfl') (by rfl')
 refine⟨a2,.dat d1,.dat d2,a20,?_⟩;unfold bR;refine F8 (e1:=(F Z k (.own [.int a1,.bl b]) w3 w4 w5 w6 (.dat d1) w8 w9 w10 (.dat (.int (n:Int))) (.dat (.str w)) w13 w14)) (Z3 (d:=d1) (e1:=(F Z k (.own [.int a1,.bl b]) w3 w4 w5 w6 w7 w8 w9 w10 (.dat (.int (n:Int))) (.dat (.str w)) w13 w14)) (D8 (K4 (X7 (ds:=vZ) (E5 rfl (E5 rfl (E5 rfl (E5 rfl (E5 rfl (E5 rfl (E5 rfl (E5 (D8 rfl rfl hp) rfl)))))))) (by decide))) t1 ed1) rfl) ?_
 refine F8 (e1:=(F Z k (.own [.int a2,.bl b]) w3 w4 w5 w6 (.dat d1) (.dat d2) w9 w10 (.dat (.int (n:Int))) (.dat (.str w)) w13 w14)) (Z3 (d:=d2) (e1:=(F Z k (.own [.int a2,.bl b]) w3 w4 w5 w6 (.dat d1) w8 w9 w10 (.dat (.int (n:Int))) (.dat (.str w)) w13 w14)) (D8 (K4 (X7 (ds:=wL) rfl (by decide))) t2 ed2) rfl) ?_
 refine F8 (O1 (O3 (D8 (GD (lw:=[.nil,.nil,.nil,.nil,.nil,.nil,.nil,.dat d1,.dat d2,.nil,.nil,.nil,.nil,.nil,.nil]) rfl (AK (av:=[.d d1,.d d2]) rfl rfl rfl g1) (by rfl') Ro) rfl rfl)) rfl) ?_
 refine F8 (O1 (O3 (D8 (GD (lw:=[.nil,.nil,.nil,.nil,.nil,.nil,.nil,.dat d1,.nil,.nil,.nil,.nil,.dat (.str w),.nil,.nil]) rfl (AK (av:=[.d d1,.d (.str w)]) rfl rfl rfl g2) (by rfl') Ro) rfl rfl)) rfl) ?_
 exact O1 (O3 (D8 (GD (lw:=[.nil,.nil,.nil,.nil,.nil,.nil,.nil,.nil,.dat d2,.nil,.nil,.dat (.int (n:Int)),.nil,.nil,.nil]) rfl (AK (av:=[.d (.int n),.d d2]) rfl rfl rfl g3) (by rfl') mO) rfl rfl)) rfl
theorem pD(ns:List Int)(k:Nat)(hk:k<1000)(w2 w3 w4 w5 w6 w7 w8 w9 w10 w11 w12 w13 w14:W):∃ws':List W,ws'.length=14/\b0 (F (.lst (ns.map .int)) k w2 w3 w4 w5 w6 w7 w8 w9 w10 w11 w12 w13 w14)=some (.nx,.dat (.lst (ns.map .int))::ws'):=by
 obtain⟨a,b,a0,est⟩:=kW ns k hk;generalize D.lst (ns.map .int)=Z at *;obtain⟨R,a1,et,a10,hR,_,_⟩:=Ky (a:=a) (l:=1) (m:=6) (b:=b) a0 (by decide) (by decide) (by decide)
 obtain⟨eR,TR⟩:=hR.fn;have hA1:∃n f,Tb (dT R) n f:=⟨_,_,Yu dT eR,hR.lo,hR.hi,TR⟩;generalize dT R=A1 at *;obtain⟨A2,a2,n2,f2,eE2,a20,hA2⟩:=e_E (Z:=Z) (k:=k) (w3:=.dat A1) (w4:=w4) (w5:=w5) (w6:=w6) (w7:=w7) (w8:=w8) (w9:=w9) (w10:=w10) (w11:=w11) (w12:=w12) (w13:=w13) (w14:=w14) (a:=a1) (b:=b) a10 (c:=1) (m:=6) (by decide) (by decide) (by decide)
 obtain⟨A3,a3,n3,f3,eE3,a30,hA3⟩:=e_E (Z:=Z) (k:=k) (w3:=.dat A1) (w4:=w4) (w5:=w5) (w6:=w6) (w7:=w7) (w8:=w8) (w9:=w9) (w10:=w10) (w11:=w11) (w12:=w12) (w13:=w13) (w14:=w14) (a:=a2) (b:=b) a20 (c:=3) (m:=2) (by decide) (by decide) (by decide)
 obtain⟨x4,x9,x10,x14,l1⟩:=V5 (Z:=Z) (k:=k) (w2:=.own [.int a3,.bl b]) (w3:=.dat A1) (w4:=w4) (w5:=w5) (w6:=w6) (w7:=w7) (w8:=w8) (w9:=w9) (w10:=w10) (w11:=w11) (w12:=w12) (w13:=w13) (w14:=w14) hA1 ⟨_,_,hA2⟩ ⟨_,_,hA3⟩;obtain⟨x,a4,en,a40,hx⟩:=lY (a:=a3) (b:=b) a30;obtain⟨x6,l2⟩:=pA (Z:=Z) (k:=k) (w2:=.own [.int a4,.bl b]) (w3:=.dat A1) (w4:=x4) (w6:=w6) (w7:=w7) (w8:=w8) (w9:=x9) (w10:=x10) (w11:=w11) (w12:=w12) (w13:=w13) (w14:=x14) hx;obtain⟨v1,a5,t1,p1,q1,a50⟩:=V9 (i:=2) (e:=F Z k (.own [.int a4,.bl b]) (.dat A1) x4 (.dat x) x6 w7 w8 x9 x10 w11 w12 w13 x14) (w:=.own [.int a4,.bl b]) (k:=4) (M:=mC (.int 4)) rfl rfl rfl a40 (by decide) (by decide)
 obtain⟨v2,a6,t2,p2,q2,a60⟩:=V9 (i:=2) (e:=F Z k (.own [.int a5,.bl b]) (.dat A1) x4 (.dat x) x6 w7 w8 x9 x10 w11 w12 w13 x14) (w:=.own [.int a5,.bl b]) (k:=8) (M:=mC (.int 8)) rfl rfl rfl a50 (by decide) (by decide)
 obtain⟨dw,hdw,edw⟩:=AW (ds:=W8.map D.str) (v:=v2) p2 q2;obtain⟨w,hw,rfl⟩:=Zq.mp hdw;obtain⟨n,hn⟩:∃n:Nat,(1:Int)+v1=(n:Int):=⟨1+v1.toNat,by omega⟩
 have n1:1≤n:=by omega
 have n4:n≤4:=by omega
 obtain⟨x13,y14,hK⟩:∃x13 y14,(F1 (mT (B6 xO (A0 1) (mC (.int 2)))) bK n5) (F Z k (.own [.int a6,.bl b]) (.dat A1) x4 (.dat x) x6 w7 w8 x9 x10 (.dat (.int (n:Int))) (.dat (.str w)) w13 x14)=some (.nx,F Z k (.own [.int a6,.bl b]) (.dat A1) x4 (.dat x) x6 w7 w8 x9 x10 (.dat (.int (n:Int))) (.dat (.str w)) x13 y14):=by
  have ht:mT (B6 xO (A0 1) (mC (.int 2))) (F Z k (.own [.int a6,.bl b]) (.dat A1) x4 (.dat x) x6 w7 w8 x9 x10 (.dat (.int (n:Int))) (.dat (.str w)) w13 x14)=some (decide ((k:Int)<2),F Z k (.own [.int a6,.bl b]) (.dat A1) x4 (.dat x) x6 w7 w8 x9 x10 (.dat (.int (n:Int))) (.dat (.str w)) w13 x14):=O3 rfl
  by_cases h2:(k:Int)<2
  ·rw[Ye h2]at ht
   obtain⟨x13,y14,hb⟩:=pB (Z:=Z) (k:=k) (w2:=.own [.int a6,.bl b]) (w3:=.dat A1) (w4:=x4) (w5:=.dat x) (w6:=x6) (w7:=w7) (w8:=w8) (w9:=x9) (w10:=x10) (w13:=w13) (w14:=x14) n1 n4 hw;exact⟨x13,y14,BO ht hb⟩
  ·rw[Qt h2]at ht
   exact⟨w13,x14,O1 ht rfl⟩
 obtain⟨a7,x7,x8,a70,hR'⟩:=pC (Z:=Z) (k:=k) (b:=b) (w3:=.dat A1) (w4:=x4) (w5:=.dat x) (w6:=x6) (w7:=w7) (w8:=w8) (w9:=x9) (w10:=x10) (w13:=x13) (w14:=y14) a60 n1 n4 (w:=w);refine⟨[.dat (.int k),.own [.int a7,.bl b],.dat A1,x4,.dat x,x6,x7,x8,x9,x10,.dat (.int (n:Int)),.dat (.str w),x13,y14],rfl,?_⟩;unfold b0;refine F8 (BP (e1:=F Z k w2 w3 w4 w5 w6 w7 w8 w9 w10 w11 w12 w13 w14) (e2:=F Z k (.own [.int a,.bl b]) w3 w4 w5 w6 w7 w8 w9 w10 w11 w12 w13 w14) (AH (S1 (av:=[.d Z,.d (.int k)]) rfl rfl rfl est)) rfl) ?_
 refine F8 (Z3 (d:=A1) (e1:=F Z k (.own [.int a1,.bl b]) w3 w4 w5 w6 w7 w8 w9 w10 w11 w12 w13 w14) (e2:=F Z k (.own [.int a1,.bl b]) (.dat A1) w4 w5 w6 w7 w8 w9 w10 w11 w12 w13 w14) (S2 ((Ae (e1:=F Z k (.own [.int a,.bl b]) w3 w4 w5 w6 w7 w8 w9 w10 w11 w12 w13 w14) (w:=.own [.int a,.bl b]) (av:=[.sl 2,.d (.int 1),.d (.int 6)]) (i:=2) (c:=[.int a,.bl b]) (c':=[.int a1,.bl b]) rfl rfl rfl rfl rfl et rfl).trans rfl)) rfl) ?_
 refine F8 ((U3 (V2 (ds:=[A1,A2,A3]) (e1:=F Z k (.own [.int a3,.bl b]) (.dat A1) w4 w5 w6 w7 w8 w9 w10 w11 w12 w13 w14) (K4 (X7 (E5 (e1:=F Z k (.own [.int a1,.bl b]) (.dat A1) w4 w5 w6 w7 w8 w9 w10 w11 w12 w13 w14) rfl (E5 (e1:=F Z k (.own [.int a2,.bl b]) (.dat A1) w4 w5 w6 w7 w8 w9 w10 w11 w12 w13 w14) eE2 (E5 eE3 rfl))) (by simp))) rfl)).trans l1) ?_
 refine F8 (Z3 (d:=x) (e1:=F Z k (.own [.int a4,.bl b]) (.dat A1) x4 w5 w6 w7 w8 x9 x10 w11 w12 w13 x14) (e2:=F Z k (.own [.int a4,.bl b]) (.dat A1) x4 (.dat x) w6 w7 w8 x9 x10 w11 w12 w13 x14) (S2 ((Ae (e1:=F Z k (.own [.int a3,.bl b]) (.dat A1) x4 w5 w6 w7 w8 x9 x10 w11 w12 w13 x14) (w:=.own [.int a3,.bl b]) (av:=[.sl 2]) (i:=2) (c:=[.int a3,.bl b]) (c':=[.int a4,.bl b]) rfl rfl rfl rfl rfl en rfl).trans rfl)) rfl) ?_
 refine F8 ((U3 (V2 (ds:=[.obj (.fn "own_turns"),.obj (.fn "least_turned")]) (K4 (X7 rfl (by simp))) rfl)).trans l2) ?_
 refine F8 (PD (a:=.int (n:Int)) (b:=.str w) (e1:=F Z k (.own [.int a6,.bl b]) (.dat A1) x4 (.dat x) x6 w7 w8 x9 x10 w11 w12 w13 x14) (e2:=F Z k (.own [.int a6,.bl b]) (.dat A1) x4 (.dat x) x6 w7 w8 x9 x10 (.dat (.int (n:Int))) (.dat (.str w)) w13 x14) (EJ (E5 (e1:=F Z k (.own [.int a5,.bl b]) (.dat A1) x4 (.dat x) x6 w7 w8 x9 x10 w11 w12 w13 x14) (D8 rfl t1 (by show some (D.int ((1:Int)+v1))=_;rw[hn])) (E5 (e1:=F Z k (.own [.int a6,.bl b]) (.dat A1) x4 (.dat x) x6 w7 w8 x9 x10 w11 w12 w13 x14) (D8 (Ru _) t2 edw) rfl)) (by simp)) rfl) ?_
 exact F8 hK hR'
def LJ(o:Option D)(b:Bool):Bool:=match o with
 |some (.bl c)=>c==b
 |_=>false
theorem pE{o:Option D}(h:LJ o b=true):o=some (.bl b):=by
 unfold LJ at h;split at h
 ·rw[Za.mp h]
 ·cases h
theorem l3:(LL 3).filter (vY 3 "left")=[[[0,1,0],[1,-1,1],[0,1,0]]]:=by rfl'
theorem pF:LJ (j0 false (.lst ([[[0,1,0],[1,-1,1],[0,1,0]]].map dT)) (.lst [.tup [.tup [.int 0,.int 1,.int 0],.tup [.int 1,.int (-1),.int 1],.tup [.int 0,.int 1,.int 0]]])) true=true:=by rfl'
theorem l4:((LL 4).filter (vY 4 "stay")).length=42:=by rfl'
theorem pG:∀ns:List Int,ns.length≤63->∃ws',GS [.dat (.lst (ns.map D.int))]=some (.d (.bl true),ws'):=by
 intro ns hns;refine dZ (C:=8) (N:=13) (by decide) (by decide) (fun k hk ws hw=>?_) fun ws hw=>?_
 ·rcases ws with _|⟨w2,_|⟨w3,_|⟨w4,_|⟨w5,_|⟨w6,_|⟨w7,_|⟨w8,_|⟨w9,_|⟨w10,_|⟨w11,_|⟨w12,_|⟨w13,_|⟨w14,_|_⟩⟩⟩⟩⟩⟩⟩⟩⟩⟩⟩⟩⟩<;>first|exact pD ns k hk w2 w3 w4 w5 w6 w7 w8 w9 w10 w11 w12 w13 w14|cases hw
 ·have e3:=LI (n:=3) (by decide) (by decide) (w:="left") (by simp[W8])
  have e4:=LI (n:=4) (by decide) (by decide) (w:="stay") (by simp[W8])
  rw[l3]at e3;have h4:E9 [.lst (((LL 4).filter (vY 4 "stay")).map dT)]=some (.int 42):=by
   show some (D.int ((((LL 4).filter (vY 4 "stay")).map dT).length:Nat))=_;rw[Qk,l4]
   rfl
  generalize ((LL 4).filter (vY 4 "stay")).map dT=L4 at *;exact⟨_,L8 (Ek (D8 (K4 (AH (S1 (av:=[.d (.int 3),.d (.str "left")]) rfl rfl rfl e3))) rfl (pE pF)) (D8 (O0 (E5 (K4 (AH (S1 (av:=[.d (.int 4),.d (.str "stay")]) rfl rfl rfl e4))) rfl) h4) rfl rfl))⟩
end K52
namespace K52
open L2 L2.Mir PySem
abbrev yP:Value:=.str "turnsigns.grids" 415
abbrev md1:Value:=.str "turnsigns.tables" 460
abbrev wC:Value:=.str "turnsigns.counts" 486
abbrev uO:Value:=.str "turnsigns.turned" 570
abbrev tY:Value:=.str "law_turnsigns_k52_own_turns_and_least_ones" 685
theorem pH{P:Program}(w:World)(mg:OU)(fa:Addr)(h:Heap)(X:(hK w.params).In h)(G:h.Ns mainGlobals mg)(hfa:mg "law"=some (.ref fa)):
 ∃fd:FuncData,(∀(s:Shared) (v:Value),BindsTo s fd ⟨[v],[]⟩ [("_law_script",v)])/\PySem.W.noTabs (hK w.params)=true/\(∀p∈[487],∃c,PySem.W.codeHdIn (hK w.params) c p=true)/\∀base:Heap,(hK w.params).In base->base.Ns mainGlobals mg->Ah mg base->c6 P w (hK w.params) mg base j7 24 fa fd ["_law_script"] (xY (hK w.params) [487] 1 GS):=by
 obtain⟨A1,A2,A3,A4,A5,A6,A7,A8,A9,A10,A11,A12,A13,A14,A15,A16,A17,A18,A19,A20,A21,A22,A23,A24,A25,A26,A27,A28,A29,A30,A31,A32,A33,A34,A35,A36,A37,A38,A39,A40,A41,A42,A43,A44,A45,A46,A47,A48,A49,A50⟩:f6 (hK w.params) "is_whole" Im 190 yP 189/\f6 (hK w.params) "is_within" Io 197 yP 196/\f6 (hK w.params) "is_row" Ip 202 yP 201/\f6 (hK w.params) "is_grid" Iq 207 yP 206/\f6 (hK w.params) "is_square" Ir 214 yP 213/\f6 (hK w.params) "flipped" Iu 219 yP 218/\f6 (hK w.params) "takes_turns" Iv 226 md1 225/\f6 (hK w.params) "is_table" Iw 231 md1 230/\f6 (hK w.params) "must_be_table" GF 238 md1 237/\f6 (hK w.params) "must_be_within" GG 245 wC 244/\f6 (hK w.params) "factorial" Iy 252 wC 251/\f6 (hK w.params) "counted" Iz 259 wC 258/\f6 (hK w.params) "rows_on" JA 264 wC 263/\f6 (hK w.params) "added" JB 269 wC 268/\f6 (hK w.params) "choices_on" GH 274 wC 273/\f6 (hK w.params) "ways_on" JC 279 wC 278/\f6 (hK w.params) "chosen" JD 286 wC 285/\f6 (hK w.params) "laid" JE 293 wC 292/\f6 (hK w.params) "all_tables" GI 298 wC 297/\f6 (hK w.params) "stayed" JF 305 uO 304/\f6 (hK w.params) "turned_left" JG 312 uO 311/\f6 (hK w.params) "turned_half" JH 319 uO 318/\f6 (hK w.params) "turned_right" JI 326 uO 325/\f6 (hK w.params) "told_upright" JJ 331 uO 330/\f6 (hK w.params) "told_flat" JK 338 uO 337/\f6 (hK w.params) "told_slant" JL 345 uO 344/\f6 (hK w.params) "told_other" JM 352 uO 351/\f6 (hK w.params) "is_turn" JN 360 uO 359/\f6 (hK w.params) "must_be_turn" GJ 367 uO 366/\f6 (hK w.params) "brought" JO 374 uO 373/\f6 (hK w.params) "own_turns" GK 379 uO 378/\f6 (hK w.params) "least_turned" GL 384 uO 383/\f6 (hK w.params) "left_so" GN 389 uO 388/\f6 (hK w.params) "_law_cell_at" JP 396 tY 395/\f6 (hK w.params) "_law_state" JQ 403 tY 402/\f6 (hK w.params) "_law_take" JR 410 tY 409/\f6 (hK w.params) "_law_refused" JS 415 tY 414/\f6 (hK w.params) "_law_lines" JT 420 tY 419/\f6 (hK w.params) "_law_table" JU 425 tY 424/\f6 (hK w.params) "_law_whole" JV 432 tY 431/\f6 (hK w.params) "_law_turns" JW 437 tY 436/\f6 (hK w.params) "_law_is_table" JX 442 tY 441/\f6 (hK w.params) "_law_bent" JY 449 tY 448/\f6 (hK w.params) "_law_no_table" JZ 456 tY 455/\f6 (hK w.params) "_law_turned" KA 463 tY 462/\f6 (hK w.params) "_law_turn_words" KB 470 tY 469/\f6 (hK w.params) "_law_all" KC 475 tY 474/\f6 (hK w.params) "_law_same" KD 480 tY 479/\f6 (hK w.params) "_law_even" KE 485 tY 484/\f6 (hK w.params) "law" Cv 490 tY 489:=by refine⟨?_,?_,?_,?_,?_,?_,?_,?_,?_,?_,?_,?_,?_,?_,?_,?_,?_,?_,?_,?_,?_,?_,?_,?_,?_,?_,?_,?_,?_,?_,?_,?_,?_,?_,?_,?_,?_,?_,?_,?_,?_,?_,?_,?_,?_,?_,?_,?_,?_,?_⟩<;>constructor<;>kernel_rfl
 have e:=hfa.symm.trans (Yz X G A50.a)
 cases e;have T:Txt (hK w.params) mg:=⟨by kernel_rfl,Zy X G (by kernel_rfl),Zy X G (by kernel_rfl),Zy X G (by kernel_rfl),Zy X G (by kernel_rfl),Zy X G (by kernel_rfl),Zy X G (by kernel_rfl),Zy X G (by kernel_rfl),Zy X G (by kernel_rfl),Zy X G (by kernel_rfl),Zy X G (by kernel_rfl),Zy X G (by kernel_rfl),Zy X G (by kernel_rfl),Zy X G (by kernel_rfl),Zy X G (by kernel_rfl),Zy X G (by kernel_rfl),⟨_,A27.a,A27.g X G,AJ (by kernel_rfl)⟩,⟨_,A26.a,A26.g X G,AJ (by kernel_rfl)⟩,⟨_,A25.a,A25.g X G,AJ (by kernel_rfl)⟩,⟨_,A24.a,A24.g X G,AJ (by kernel_rfl)⟩,⟨_,A23.a,A23.g X G,AJ (by kernel_rfl)⟩,⟨_,A22.a,A22.g X G,AJ (by kernel_rfl)⟩,⟨_,A21.a,A21.g X G,AJ (by kernel_rfl)⟩,⟨_,A20.a,A20.g X G,AJ (by kernel_rfl)⟩,⟨_,A32.a,A32.g X G,AJ (by kernel_rfl)⟩,⟨_,A31.a,A31.g X G,AJ (by kernel_rfl)⟩,⟨462,Yz X G (by kernel_rfl)⟩,⟨488,Yz X G (by kernel_rfl)⟩⟩
 have b1:=A1.f.binds (ps:=["thing"]) fun _ _ _ _ _ _=>rM fun _=>rfl
 have b2:=A2.f.binds (ps:=["thing","least","greatest"]) fun _ _ _ _ _ _=>yK fun _ _ _=>rfl
 have b3:=A3.f.binds (ps:=["thing","width"]) fun _ _ _ _ _ _=>uM fun _ _=>rfl
 have b4:=A4.f.binds (ps:=["thing","many","width"]) fun _ _ _ _ _ _=>yK fun _ _ _=>rfl
 have b5:=A5.f.binds (ps:=["thing","least","greatest"]) fun _ _ _ _ _ _=>yK fun _ _ _=>rfl
 have b6:=A6.f.binds (ps:=["grid"]) fun _ _ _ _ _ _=>rM fun _=>rfl
 have b7:=A7.f.binds (ps:=["line"]) fun _ _ _ _ _ _=>rM fun _=>rfl
 have b8:=A8.f.binds (ps:=["thing"]) fun _ _ _ _ _ _=>rM fun _=>rfl
 have b9:=A9.f.binds (ps:=["thing"]) fun _ _ _ _ _ _=>rM fun _=>rfl
 have b10:=A10.f.binds (ps:=["thing","least","greatest","name"]) fun _ _ _ _ _ _=>us4 fun _ _ _ _=>rfl
 have b11:=A11.f.binds (ps:=["number"]) fun _ _ _ _ _ _=>rM fun _=>rfl
 have b12:=A12.f.binds (ps:=["side"]) fun _ _ _ _ _ _=>rM fun _=>rfl
 have b13:=A13.f.binds (ps:=["sums"]) fun _ _ _ _ _ _=>rM fun _=>rfl
 have b14:=A14.f.binds (ps:=["sums","row"]) fun _ _ _ _ _ _=>uM fun _ _=>rfl
 have b15:=A15.f.binds (ps:=["sums","known"]) fun _ _ _ _ _ _=>uM fun _ _=>rfl
 have b16:=A16.f.binds (ps:=["sums","known"]) fun _ _ _ _ _ _=>uM fun _ _=>rfl
 have b17:=A17.f.binds (ps:=["choices","number"]) fun _ _ _ _ _ _=>uM fun _ _=>rfl
 have b18:=A18.f.binds (ps:=["side","number","known"]) fun _ _ _ _ _ _=>yK fun _ _ _=>rfl
 have b19:=A19.f.binds (ps:=["side"]) fun _ _ _ _ _ _=>rM fun _=>rfl
 have b20:=A20.f.binds (ps:=["table"]) fun _ _ _ _ _ _=>rM fun _=>rfl
 have b21:=A21.f.binds (ps:=["table"]) fun _ _ _ _ _ _=>rM fun _=>rfl
 have b22:=A22.f.binds (ps:=["table"]) fun _ _ _ _ _ _=>rM fun _=>rfl
 have b23:=A23.f.binds (ps:=["table"]) fun _ _ _ _ _ _=>rM fun _=>rfl
 have b24:=A24.f.binds (ps:=["table"]) fun _ _ _ _ _ _=>rM fun _=>rfl
 have b25:=A25.f.binds (ps:=["table"]) fun _ _ _ _ _ _=>rM fun _=>rfl
 have b26:=A26.f.binds (ps:=["table"]) fun _ _ _ _ _ _=>rM fun _=>rfl
 have b27:=A27.f.binds (ps:=["table"]) fun _ _ _ _ _ _=>rM fun _=>rfl
 have b28:=A28.f.binds (ps:=["thing"]) fun _ _ _ _ _ _=>rM fun _=>rfl
 have b29:=A29.f.binds (ps:=["thing"]) fun _ _ _ _ _ _=>rM fun _=>rfl
 have b30:=A30.f.binds (ps:=["table","turn"]) fun _ _ _ _ _ _=>uM fun _ _=>rfl
 have b31:=A31.f.binds (ps:=["table"]) fun _ _ _ _ _ _=>rM fun _=>rfl
 have b32:=A32.f.binds (ps:=["table"]) fun _ _ _ _ _ _=>rM fun _=>rfl
 have b33:=A33.f.binds (ps:=["side","turn"]) fun _ _ _ _ _ _=>uM fun _ _=>rfl
 have b34:=A34.f.binds (ps:=["_law_script","_law_k"]) fun _ _ _ _ _ _=>uM fun _ _=>rfl
 have b35:=A35.f.binds (ps:=["_law_script","_law_k"]) fun _ _ _ _ _ _=>uM fun _ _=>rfl
 have b36:=A36.f.binds (ps:=["_law_state_here","_law_many"]) fun _ _ _ _ _ _=>uM fun _ _=>rfl
 have b37:=A37.f.binds (ps:=["_law_call"]) fun _ _ _ _ _ _=>rM fun _=>rfl
 have b38:=A38.f.binds (ps:=["_law_held"]) fun _ _ _ _ _ _=>rM fun _=>rfl
 have b39:=A39.f.binds (ps:=["_law_state_here","_law_least","_law_most"]) fun _ _ _ _ _ _=>yK fun _ _ _=>rfl
 have b40:=A40.f.binds (ps:=["_law_thing","_law_least","_law_most"]) fun _ _ _ _ _ _=>yK fun _ _ _=>rfl
 have b41:=A41.f.binds (ps:=["_law_line"]) fun _ _ _ _ _ _=>rM fun _=>rfl
 have b42:=A42.f.binds (ps:=["_law_thing"]) fun _ _ _ _ _ _=>rM fun _=>rfl
 have b43:=A43.f.binds (ps:=["_law_state_here","_law_table_here"]) fun _ _ _ _ _ _=>uM fun _ _=>rfl
 have b44:=A44.f.binds (ps:=["_law_state_here"]) fun _ _ _ _ _ _=>rM fun _=>rfl
 have b45:=A45.f.binds (ps:=["_law_table_here","_law_turn"]) fun _ _ _ _ _ _=>uM fun _ _=>rfl
 have b46:=A46.f.binds (ps:=[]) fun _ _ _ _ _ _ us hl=>match us,hl with|[],_=>rfl
 have b47:=A47.f.binds (ps:=["_law_side"]) fun _ _ _ _ _ _=>rM fun _=>rfl
 have b48:=A48.f.binds (ps:=["_law_found","_law_due"]) fun _ _ _ _ _ _=>uM fun _ _=>rfl
 have b49:=A49.f.binds (ps:=["_law_state_here","_law_side"]) fun _ _ _ _ _ _=>uM fun _ _=>rfl
 have b50:=A50.f.binds (ps:=["_law_script"]) fun _ _ _ _ _ _=>rM fun _=>rfl
 have tc_law:Fe (hK w.params) (.ref 489) 487=true:=by kernel_rfl
 refine⟨PySem.W.fnOf "law" "law" (Be Cv) (W3 Cv) (E1 Cv) .none .none .none (.str "law_turnsigns_k52_own_turns_and_least_ones" 685) none (.ref 489) .none,fun s v=>.of_eq rfl,by kernel_rfl,fun p hp=>?_,fun base _ _ hBm=>?_⟩
 ·obtain rfl:=List.mem_singleton.mp hp
  obtain⟨c,_,hc⟩:=NQ tc_law;exact⟨c,hc⟩
 have j8:vC P w (hK w.params) mg "TURNS" Z5:=cY (es:=[HG.hE w.params "stay" 627 (.ref 305),HG.hE w.params "left" 628 (.ref 312),HG.hE w.params "half" 629 (.ref 319),HG.hE w.params "right" 630 (.ref 326),HG.hE w.params "upright" 631 (.ref 331),HG.hE w.params "flat" 632 (.ref 338),HG.hE w.params "slant" 633 (.ref 345),HG.hE w.params "other" 634 (.ref 352)]) (ep:=8) (Yz X G (v:=.ref 353) (by kernel_rfl)) (by kernel_rfl) (by decide) (.cons ⟨_,rfl⟩ rfl rfl (Yz X G (v:=.ref 305) (by kernel_rfl)) (.cons ⟨_,rfl⟩ rfl rfl (Yz X G (v:=.ref 312) (by kernel_rfl)) (.cons ⟨_,rfl⟩ rfl rfl (Yz X G (v:=.ref 319) (by kernel_rfl)) (.cons ⟨_,rfl⟩ rfl rfl (Yz X G (v:=.ref 326) (by kernel_rfl)) (.cons ⟨_,rfl⟩ rfl rfl (Yz X G (v:=.ref 331) (by kernel_rfl)) (.cons ⟨_,rfl⟩ rfl rfl (Yz X G (v:=.ref 338) (by kernel_rfl)) (.cons ⟨_,rfl⟩ rfl rfl (Yz X G (v:=.ref 345) (by kernel_rfl)) (.cons ⟨_,rfl⟩ rfl rfl (Yz X G (v:=.ref 352) (by kernel_rfl)) (.nil)))))))))
 have pW:=dM P w base (eF A1.f T ) A1 X G b1
 have pL:=dM P w base (eJ A2.f T pW) A2 X G b2
 have tU:=dM P w base (eL A3.f T pW) A3 X G b3
 have sZ:=dM P w base (eN A4.f T tU) A4 X G b4
 have rT:=dM P w base (eP A5.f T sZ) A5 X G b5
 have o7:=dM P w base (eT A6.f T ) A6 X G b6
 have qP:=dM P w base (eU A7.f T ) A7 X G b7
 have pX:=dM P w base (eW A8.f T rT qP o7) A8 X G b8
 have d8:=dM P w base (eX A9.f T pX) A9 X G b9
 have j9:=dX P w base (eY A9.f T pX ) A9 X G b9
 have d7:=dM P w base (fA A10.f T pL) A10 X G b10
 have j4:=dX P w base (fC A10.f T pL ) A10 X G b10
 have rV:=dM P w base (fE A11.f T ) A11 X G b11
 have qM:=dM P w base (fG A12.f T rV) A12 X G b12
 have o8:=dM P w base (fJ A13.f T ) A13 X G b13
 have pM:=dM P w base (fM A14.f T ) A14 X G b14
 have qL:Def P w (hK w.params) mg base "ways_on" 17 2 (Al 8):=⟨_,_,_,PU A16.f A15.f T o8 pM (A16.g X G) A16.k b16 (A15.g X G) A15.k b15 8,rfl,A16.g X G,A16.k,b16⟩
 have pY:Def P w (hK w.params) mg base "choices_on" 18 2 (DB (Al 8)):=⟨_,_,_,PR A15.f T o8 pM (by decide) qL,rfl,A15.g X G,A15.k,b15⟩
 have tV:=dM P w base (fT A17.f T ) A17 X G b17
 have tM:=dM P w base (fV A18.f T tV pM pY) A18 X G b18
 have o5:=dM P w base (fX A19.f T d7 tM qM) A19 X G b19
 have qQ:=dX P w base (fZ A19.f T d7 tM qM j4) A19 X G b19
 have tW:=dM P w base (gD A20.f T ) A20 X G b20
 have j1:=dM P w base (gF A21.f T o7) A21 X G b21
 have j2:=dM P w base (gH A22.f T j1) A22 X G b22
 have qE:=dM P w base (gJ A23.f T j1 j2) A23 X G b23
 have qF:=dM P w base (gM A24.f T ) A24 X G b24
 have rW:=dM P w base (gP A25.f T ) A25 X G b25
 have o4:=dM P w base (gR A26.f T o7) A26 X G b26
 have rF:=dM P w base (gW A27.f T j2 o4) A27 X G b27
 have qN:=dM P w base (gY A28.f T j8) A28 X G b28
 have m8:=dM P w base (gZ A29.f T qN) A29 X G b29
 have p0:=dX P w base (hG A29.f T qN ) A29 X G b29
 have i7:=dM P w base (hJ A30.f T tW j1 j2 qE qF rW o4 rF j8) A30 X G b30
 have rZ:=dM P w base (iA A31.f T d8 i7 j8) A31 X G b31
 have rK:=dX P w base (iB A31.f T d8 i7 j8 j9) A31 X G b31
 have qJ:=dM P w base (iD A32.f T d8 i7 j8) A32 X G b32
 have p9:=dX P w base (iE A32.f T d8 i7 j8 j9) A32 X G b32
 have tD:=dM P w base (iG A33.f T d7 m8 o5 i7) A33 X G b33
 have sQ:=dX P w base (iH A33.f T d7 m8 o5 i7 j4 p0 qQ) A33 X G b33
 have qG:=dM P w base (iJ A34.f T ) A34 X G b34
 have rJ:=dM P w base (iK A35.f T qG) A35 X G b35
 have g9:=dM P w base (iL A36.f T ) A36 X G b36
 have qI:=iP (P:=P) (w:=w) (mg:=mg) (base:=base) A37.f T (A37.g X G) b37
 have o6:=dM P w base (iS A38.f T ) A38 X G b38
 have k6:=dM P w base (iU A39.f T g9 o6) A39 X G b39
 have rH:=dM P w base (iW A40.f T ) A40 X G b40
 have rG:=dM P w base (iZ A41.f T ) A41 X G b41
 have p7:=dM P w base (jC A42.f T rG rH) A42 X G b42
 have rX:=dM P w base (jD A43.f T g9) A43 X G b43
 have p8:=dM P w base (jE A44.f T rX g9 k6 p7) A44 X G b44
 have qR:=dM P w base (jF A45.f T ) A45 X G b45
 have pN:=dM P w base (jI A46.f T ) A46 X G b46
 have sP:=dM P w base (jL A47.f T o6) A47 X G b47
 have qH:Def P w (hK w.params) mg base "_law_same" 7 2 (M6 6):=⟨_,_,_,Pq A48.f T (A48.g X G) A48.k b48 6,rfl,A48.g X G,A48.k,b48⟩
 have rY:=dM P w base (jS A49.f T g9 k6) A49 X G b49
 exact jX A50.f rfl T (bE tc_law A50.c (by kernel_rfl) hBm) rJ k6 p8 rY tD g9 qI rZ qH pN qR qJ sP sQ rK p9
end K52
theorem PySem.Challenge.cw_turnsigns_k52_own_turns_and_least_ones_holds : PySem.Challenge.rw_turnsigns_k52_own_turns_and_least_ones.Holds :=
 K52.SW (L2.Mir.aZ (l:=PySem.Challenge.rw_turnsigns_k52_own_turns_and_least_ones) (k:=24) (x := "_law_script") (fn:=K52.GS) rfl rfl ⟨rfl,by decide,by decide⟩ (fun w h Y=>⟨PySem.W.km_in_of Y,PySem.W.km_tabs_of Y⟩) K52.pH K52.pG)
