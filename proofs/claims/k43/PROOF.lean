import PyProof.Rows.All
import Wide.All
import OpenK.AllK
import Wide.FinOn
import Lean
import PyProof.EqAt
import PyProof.EqKinds
import PyProof.TupleCall
import PySem.Challenge.RW_turnsigns_k43_tables_by_number
set_option Elab.async false
set_option linter.all false
set_option maxRecDepth 100000
set_option maxHeartbeats 0
local macro_rules | `(tactic|rfl')=>`(tactic|decide +kernel)
abbrev Qq:=@PySem.wpAny_bind
abbrev Qz:=PySem.W.Frag
abbrev Qj:=@Option.bind_some
abbrev Qx:=@List.all_eq_true
abbrev Qk:=@List.length_map
abbrev Qv:=@PySem.Heap.get?_push_of_some
abbrev Qw:=@Bool.and_eq_true
abbrev Qy:=@PySem.wpAny_pure
abbrev Qu:=@PySem.Heap.lt_size
abbrev Qp:=@List.getElem?_eq_some_iff
abbrev Qb:=@List.size_toArray
abbrev Qg:=@List.map_cons
abbrev Qh:=@if_pos
abbrev Qm:=@Nat.le_refl
abbrev Qn:=@PySem.Heap.get?_push_size
abbrev Qc:=@List.getElem?_set_ne
abbrev Ql:=@List.mem_cons
abbrev Qd:=@Nat.lt_of_lt_of_le
abbrev Qr:=@List.mem_cons_of_mem
abbrev Qs:=@if_neg
abbrev Qi:=@Nat.ne_of_lt
abbrev Qt:=@List.length_append
abbrev Qa:=@List.mem_map
abbrev Qe:=@PySem.wpAny_mono
abbrev Qo:=@List.length_cons
abbrev Zq:=@List.mem_cons_self
abbrev Zz:=@List.map_map
abbrev Zj:=@decide_eq_false
abbrev Zx:=@Bool.false_eq_true
abbrev Zk:=@List.getElem?_eq_getElem
abbrev Zv:=@List.getElem?_map
abbrev Zw:=@decide_eq_true_eq
abbrev Zy:=@PySem.mem_of_lookup
abbrev Zu:=@List.filter_cons_of_pos
abbrev Zp:=@List.mem_append_right
abbrev Zb:=@PyProof.Rows.slot_tuple_getitem
abbrev Zg:=@PySem.W.kia_one
abbrev Zf:=@List.filter_cons_of_neg
abbrev Zh:=@PySem.W.mg_none_of
abbrev Zm:=@Ne.symm
abbrev Zn:=@if_true
abbrev Zc:=@List.map_congr_left
abbrev Zl:=@List.map_append
abbrev Zd:=@List.not_mem_nil
abbrev Zr:=@Nat.le_trans
abbrev Zs:=@List.mem_range
abbrev Zi:=@List.length_set
abbrev Zt:=@PySem.wpAny_newObj_type
abbrev Za:=@Option.some.injEq
abbrev Ze:=@congrArg
abbrev Zo:=@List.getElem?_set_self
abbrev Yq:=@Bool.false_ne_true
abbrev Yz:=@PySem.wpAny_field
abbrev Yj:=@List.replicate_succ
abbrev Yx:=@List.length_replicate
abbrev Yk:=@PySem.wpAny_loadPart'
abbrev Yv:=@PySem.W.kia_tup
abbrev Yw:=@List.getElem?_append_left
abbrev Yy:=@Option.isSome_iff_exists
abbrev Yu:=@if_false
abbrev Yp:=@PySem.Heap.size_push
abbrev Yb:=@List.contains_iff_mem
abbrev Yg:=@Option.some.inj
abbrev Yh:=@PySem.wpAny_callSpecial?_slot
abbrev Ym:=@List.getElem_mem
abbrev Yn:=@Bool.true_and
abbrev Yc:=@decide_eq_true
abbrev Yl:=@PySem.wpAny_truthy_bool
abbrev Yd:=@List.length_zipWith
abbrev Yr:=@List.mem_append
abbrev Ys:=@List.append_nil
abbrev Yi:=@beq_iff_eq
abbrev Yt:=@List.contains_cons
abbrev Ye:=@PySem.W.Fast.te14364793385576792824
abbrev Yo:=@List.getElem?_replicate
abbrev Jq:=@PySem.W.kitx_dict
abbrev Jz:=@Int.toNat_natCast
abbrev Jj:=@List.length_nil
abbrev Jx:=@Option.map_some
abbrev Jk:=@Nat.lt_irrefl
abbrev Jv:=@List.getElem?_append_right
abbrev Jw:=@List.sum_cons
abbrev Jy:=@List.length_take
abbrev Ju:=@PySem.F.slot_tuple_iterator_next
abbrev Jp:=@List.getElem?_zipWith
abbrev Jb:=@PySem.wpAny_holding
abbrev Jg:=@List.filterMap_cons
abbrev Jf:=@PySem.Heap.SameBut.update
abbrev Jh:=@PySem.wpAny_call_entry
abbrev Jm:=@or_false
abbrev Jn:=@PySem.wpAny_seqItems
abbrev Jc:=@PySem.W.hideAll_get
abbrev Jl:=@Nat.le_of_lt
abbrev Jd:=@PyProof.Rows.callWith_type1
abbrev Jr:=@PySem.wpAny_Call_Name_kw
abbrev Js:=@List.zip_cons_cons
abbrev Ji:=@PySem.wpAny_setField_rec
abbrev Jt:=@List.mem_filter
abbrev Ja:=@PySem.wpAny_passesOwn
abbrev Je:=@congrFun
abbrev Jo:=@Nat.le_of_succ_le
abbrev Uq:=@PySem.wpAny_rule
abbrev Uz:=@List.mem_of_getElem?
abbrev Uj:=@Classical.byContradiction
abbrev Ux:=@Nat.zero_le
abbrev Uk:=@Prod.ext
abbrev Uv:=@Nat.lt_trans
abbrev Uw:=@beq_eq_false_iff_ne
abbrev Uy:=@PySem.wpAny_standAt
abbrev Uu:=@PySem.wpAny_execs_nil
abbrev Up:=@List.nodup_cons
abbrev Ub:=@PySem.wpAny_pyIter_tuple
abbrev Ug:=@PySem.wpAny_ite_false
abbrev Uh:=@PySem.W.kasC_bind
abbrev Um:=@Option.map_none
abbrev Uc:=@Int.emod_nonneg
abbrev Ul:=@PySem.W.cellsFrom_some
abbrev Ud:=@PySem.SeqAt.canLay_of_shaped
abbrev Ur:=@Option.map_eq_some_iff
abbrev Us:=@List.zipWith_cons_cons
abbrev Ui:=@List.flatten_cons
abbrev Ut:=@PySem.wpAny_pyIter_list
abbrev Ua:=@Nat.lt_succ_of_lt
abbrev Ue:=@Bool.false_and
abbrev Uo:=@PySem.F.slot_zip_next
abbrev Vq:=@LawfulBEq.eq_of_beq
abbrev Vz:=@List.all_cons
abbrev Vj:=@Array.length_toList
abbrev Vx:=@PySem.F.args_tuple_add_2
abbrev Vk:=@PyProof.Rows.preSum_getD
abbrev Vv:=@PySem.tupleKind_room_in1
abbrev Vw:=@Int.emod_lt_of_pos
abbrev Vy:=@PySem.F.entry_tuple_add
abbrev Vu:=@PySem.W.kitx_list
abbrev Vp:=@List.append_assoc
abbrev Vb:=@PySem.F.args_tuple_iterator_next_1
abbrev Vg:=@PySem.F.slot_tuple_add
abbrev Vf:=@PySem.F.entry_tuple_iterator_next
abbrev Vh:=@List.take_of_length_le
abbrev Vm:=@List.map_id
abbrev Vn:=@List.range_succ_eq_map
abbrev Vc:=@Bool.false_or
abbrev Vl:=@PyProof.Rows.LSm.kept_iter
abbrev Vd:=@PySem.wpAny_onRaise
abbrev Vr:=@PySem.F.slot_tuple_mul
abbrev Vs:=@Nat.le_add_right
abbrev Vi:=@List.map_zipWith
abbrev Vt:=@beq_self_eq_true
abbrev Va:=@PySem.codeAny_mono
abbrev Ve:=@List.of_mem_zip
abbrev Vo:=@List.map_nil
abbrev Xq:=@List.find?_cons
abbrev Xz:=@List.cons.injEq
abbrev Xj:=@PySem.pushCells_keeps
abbrev Xx:=@List.nil_append
abbrev Xk:=@PySem.wpAny_updateSeq_pair
abbrev Xv:=@Bool.or_eq_true
abbrev Xw:=@Nat.pow_le_pow_right
abbrev Xy:=@List.all_append
abbrev Xu:=@Bool.or_eq_false_iff
abbrev Xp:=@List.length_reverse
abbrev Xb:=@List.filter_eq_self
abbrev Xg:=@List.forIn_nil
abbrev Xf:=@PySem.wpAny_Constant_int
abbrev Xh:=@List.mem_filterMap
abbrev Xm:=@PySem.W.kitx_tuple
abbrev Xn:=@Array.getElem?_map
abbrev Xc:=@List.any_cons
abbrev Xl:=@PySem.wpAny_attempt
abbrev Xd:=@PySem.W.mg_of
abbrev Xr:=@List.reverse_cons
abbrev Xs:=@Option.isSome_map
abbrev Xi:=@of_decide_eq_true
abbrev Xa:=@Bool.not_eq_true'
abbrev Xe:=@Nat.le_succ_of_le
abbrev Xo:=@PySem.call_meets
abbrev Tq:=@Nat.ne_of_gt
abbrev Tz:=@List.length_drop
abbrev Tj:=@List.lookup_cons
abbrev Tx:=@Nat.lt_succ_self
abbrev Tv:=@List.forIn_cons
abbrev Tw:=@List.range_succ
abbrev OO:=Nat->Nat->Int
abbrev OI:=List (List Int)
abbrev OU:=PySem.Str->Option PySem.Value
abbrev OE:=PySem.Value->PySem.Shared->Prop
abbrev OA:=PySem.Addr->Prop
abbrev OX:=List (PySem.Addr×PySem.Obj)
namespace HG
open PySem PySem.W PySem.Calls PyProof.Rows
noncomputable def sB {α:Type}(l:List α) (i:Nat) (d:α):α:=@List.rec α (fun _=>Nat->α) (fun _=>d) (fun a _ ih i=>@Nat.rec (fun _=>α) a (fun j _=>ih j) i) l i
def sC(s:Stmt):Str:=match s with
 |.FunctionDef n ..=>n
 |.ClassDef n ..=>n
 |_=>Str.empty
def xM(s:Stmt):Arguments:=match s with
 |.FunctionDef _ a ..=>a
 |_=>default
def xO(s:Stmt):List Stmt:=match s with
 |.FunctionDef _ _ b ..=>b
 |.ClassDef _ _ _ b ..=>b
 |_=>[]
def xP(s:Stmt):Scope:=match s with
 |.FunctionDef _ _ _ _ _ _ c ..=>c
 |_=>default
def yK(s:Stmt):Pos:=match s with
 |.FunctionDef _ _ _ _ _ _ _ _ _ p=>p
 |_=>⟨0,0,0,0⟩
def rM{α:Sort u}(_:α):Bool:=true
def hE(P:Params)(x:Str)(t:Tok)(v:Value):DictEntry:=⟨PyData.keyHash P x,.str x t,v⟩
def hZ:Obj:=⟨.type "tuple",none,.seq ⟨[]⟩ 0,⟨[]⟩⟩
def hU(l:List Value):Obj:=⟨.type "tuple",none,.seq ⟨l⟩ 0,⟨[]⟩⟩
def hN:Obj:=⟨.none,none,.fields ⟨[]⟩,⟨[]⟩⟩
def hC(n:Str)(t t2:Nat)(ln na fl:Int)(a:Addr)(g:Bool)(b:Addr)(v1 v2 v3 v4:Value):Obj:=
 ⟨.type "code",none,.fields ⟨[.str n t,.str n (Nat.add t 1),.str "/claim/cut.py" (Nat.add t 2),.int ln 0,.int na 0,.int 0 0,.int 0 0,.int fl 0,.ref a,.bool g,.int 181 0,.ref b,v1,v2,v3,v4,.int (Int.ofNat t2) 0,.int ln 0,.str "/claim/cut.py" (Nat.add t2 1)]⟩,⟨[]⟩⟩
def hX(s:Stmt)(q:Str)(g:Addr)(cl:List (Str×Addr))(d k dc m:Value)(an:Option Addr)(c ct:Value)(b:Addr):FuncData:=
 ⟨sC s,q,xM s,.stmts (xO s),xP s,g,cl,d,k,dc,m,an,c,ct,b⟩
def hR(s:Stmt):Obj:=⟨.none,none,.func (hX s (sC s) 0 [] .none .none .none .none none .none .none 0),⟨[]⟩⟩
def hF(s:Stmt)(m c:Value):Obj:=⟨.type "function",none,.func (hX s (sC s) 3 [] .none .none .none m none c .none 0),⟨[]⟩⟩
def pV(s:Stmt)(a t:Nat)(ln na:Int)(m:Value):List Obj:=[hZ,hN,hR s,hC (sC s) t (Nat.add t 3) ln na 3 a true (Nat.add a 1) .none .none .none (.ref (Nat.add a 2)),hF s m (.ref (Nat.add a 3))]
noncomputable def yL (l:List Str) (t:Nat):List Value:=@List.rec Str (fun _=>Nat->List Value) (fun _=>[]) (fun x _ ih t=>.str x t::ih (Nat.succ t)) l t
noncomputable def p0 (s:Stmt) (a t:Nat) (ln na:Int) (m:Value) (l:List Str):List Obj:=[hZ,hN,hU (yL l (Nat.add t 3)),hZ,hR s,hC (sC s) t (Nat.add (Nat.add t 3) l.length) ln na 3 a true (Nat.add a 1) .none (.ref (Nat.add a 2)) (.ref (Nat.add a 3)) (.ref (Nat.add a 4)),hF s m (.ref (Nat.add a 5))]
def rO(P:Params)(s:Stmt)(a t:Nat)(ln:Int)(m:Value):List Obj:=
 [⟨.type "builtin_function_or_method",none,.fields ⟨[.builtin "type.__prepare__",.type "type"]⟩,⟨[]⟩⟩,
  ⟨.type "dict",none,.dict ⟨[hE P "__module__" (Nat.add t 7) m,hE P "__qualname__" (Nat.add t 9) (.str (sC s) (Nat.add t 8)),hE P "__firstlineno__" (Nat.add t 11) (.int ln (Nat.add t 10)),hE P "__static_attributes__" (Nat.add t 12) (.ref (Nat.add a 6))]⟩ 4,⟨[]⟩⟩,
  hZ,hN,hC (sC s) (Nat.add t 2) (Nat.add t 5) ln 0 0 (Nat.add a 2) false (Nat.add a 3) .none .none .none .none,
  ⟨.type "frame",none,.plain,⟨[some (.ref (Nat.add a 4)),some (.ref 3),some (.ref (Nat.add a 1)),none,some m,none,some (.ref 0)]⟩⟩,hZ,
  ⟨.type "dict",none,.dict ⟨[hE P "__module__" (Nat.add t 7) m,hE P "__firstlineno__" (Nat.add t 11) (.int ln (Nat.add t 10)),hE P "__static_attributes__" (Nat.add t 12) (.ref (Nat.add a 6)),hE P "__doc__" (Nat.add t 13) .none]⟩ 2,⟨[]⟩⟩,
  ⟨.type "type",none,.cls ⟨sC s,[.ref 24],[.ref (Nat.add a 8),.ref 24,.type "ValueError",.type "Exception",.type "BaseException",.type "object"],Nat.add a 7,sC s,true,[],[],false,none,false⟩,⟨[some (.ref (Nat.sub a 1)),none,some (.str (sC s) t),some (.str (sC s) (Nat.add t 8)),some (.builtin "ValueError.__new__"),some (.bool true)]⟩⟩,
  ⟨.type "super",none,.fields ⟨[.ref (Nat.add a 8),.ref (Nat.add a 8),.ref (Nat.add a 8)]⟩,⟨[]⟩⟩,
  ⟨.type "builtin_function_or_method",none,.fields ⟨[.builtin "object.__init_subclass__",.ref (Nat.add a 8)]⟩,⟨[]⟩⟩]
noncomputable def yM (l:List (Nat×List Obj)) (b:Nat):Obj:=@List.rec (Nat×List Obj) (fun _=>Nat->Obj) (fun _=>hZ) (fun x _ ih b=>@Bool.rec (fun _=>Obj) (ih (Nat.sub b x.1)) (sB x.2 b hZ) (Nat.blt b x.1)) l b
def yN(l:List (Int×Addr)):List Value:=l.flatMap fun x=>[.int x.1 0,.int 0 0,.ref x.2]
noncomputable def yO (f:Nat->Obj) (n:Nat) (fuel:Nat):Nat->Nat->BT:=
 @Nat.rec (fun _=>Nat->Nat->BT) (fun _ _=>.nil) (fun _ ih a b=>@Bool.rec (fun _=>BT) .nil (.node (f b) (ih (Nat.mul 2 a) (Nat.add a b)) (ih (Nat.mul 2 a) (Nat.add (Nat.mul 2 a) b))) (Nat.blt b n)) fuel
def wG(p:Program)(c:Value)(f:Addr):Env:={scope:=p.main.scope,locals:=mainNs,globals:=mainNs,cells:=[],code:=c,frame:=some f}
def yP(p:Program)(l:List Nat):Program:={p with main:={p.main with body:=l.map fun i=>p.main.body.getD i (.Pass ⟨0,0,0,0⟩)}}
abbrev rE(tr:Nat->Params->BT)(k n t:Nat)(w:World)(os:OsState):SharedT:=⟨tr k w.params,n,{},⟨[]⟩,{},t,os⟩
abbrev qY(p:Program)(ev:Env):Code:=.body (behindTheImports p) ev
def tV(m0:Nat)(ann:Option Value)(n n0 t0:Nat)(q q0:Pos)(tg:(String->Option Builtin)->Program->World->Nat->Option Value->Nat->Shared->Thread->Option (Shared×Thread))(dn:(String->Option Builtin)->Code->Sem Fin)(tb:String->Option Builtin)(p:Program)(tr:Nat->Params->BT)(ev:Env):Prop:=
 ∀w:World,(fun os=>tg tb p w m0 ann n ⟨boot_heap w.params,⟨[]⟩,boot_drawn,boot_toks,os⟩ (topStub p))=fun os=>some ((rE tr 0 n0 t0 w os).abs,Thread.mk (dn tb (qY p ev)) (qY p ev) q0 [topFrame q])
def tW(m0:Nat)(ann:Option Value)(n n0 t0:Nat)(q q0 q1:Pos)(sr:(String->Option Builtin)->Program->World->Nat->Option Value->Nat->Nat->Shared->Thread->Option (Flow×Shared×Code×Pos))(tb:String->Option Builtin)(p:Program)(tr:Nat->Params->BT)(ev:Env):Prop:=
 ∀w:World,(fun os=>sr tb p w m0 ann 1 n (rE tr 0 n0 t0 w os).abs (blockOf (behindTheImports p) ev (qY p ev) q0 [topFrame q]))=fun os=>some (.next,(rE tr 0 n0 t0 w os).abs,qY p ev,q1)
def pP(m0:Nat)(ann:Option Value)(n i j k n0 t0 n1 t1:Nat)(q q0 q1:Pos)(sr:(String->Option Builtin)->Program->World->Nat->Option Value->Nat->Nat->SharedT->Thread->Option (Flow×SharedT×Code×Pos))(tb:String->Option Builtin)(p:Program)(tr:Nat->Params->BT)(ev:Env):Prop:=
 ∀w:World,(fun os=>sr tb p w m0 ann 1 n (rE tr k n0 t0 w os) (piecesOf (((behindTheImports p).drop i).take j) ev (qY p ev) q0 [topFrame q]))=fun os=>some (.next,rE tr (Nat.succ k) n1 t1 w os,qY p ev,q1)
def tX(m0:Nat)(ann:Option Value)(n k n0 t0:Nat)(q q0:Pos)(sr:(String->Option Builtin)->Program->World->Nat->Option Value->Nat->Shared->Thread->Option Shared)(tb:String->Option Builtin)(p:Program)(tr:Nat->Params->BT)(ev:Env):Prop:=
 ∀w:World,(fun os=>sr tb p w m0 ann n (rE tr k n0 t0 w os).abs (Thread.mk (doneF .next) (qY p ev) q0 [topFrame q]))=fun os=>some (rE tr k n0 t0 w os).abs
variable{m0:Nat}{ann:Option Value}{q q0 q1:Pos}{tb:String->Option Builtin}{p:Program}{tr:Nat->Params->BT}{ev:Env}{n N i j k n0 t0 n1 t1:Nat}{r:Shared}
theorem hgo(h:tV m0 ann n n0 t0 q q0 topGo denote tb p tr ev)(w:World)(os:OsState)(g:topRun tb p w m0 ann N (rE tr 0 n0 t0 w os).abs (Thread.mk (denote tb (qY p ev)) (qY p ev) q0 [topFrame q])=some r):
  topRun tb p w m0 ann (Nat.add n N) ⟨boot_heap w.params,⟨[]⟩,boot_drawn,boot_toks,os⟩ (topStub p)=some r:=go_top (Je (h w) os) g
theorem u8(h:tW m0 ann n n0 t0 q q0 q1 segRun tb p tr ev)(w:World)(os:OsState)(g:topRun tb p w m0 ann N (rE tr 0 n0 t0 w os).abs (restOf ((behindTheImports p).drop 0) ev (qY p ev) q1 [topFrame q])=some r):
  topRun tb p w m0 ann (Nat.add n N) (rE tr 0 n0 t0 w os).abs (Thread.mk (denote tb (qY p ev)) (qY p ev) q0 [topFrame q])=some r:=piece_block (Je (h w) os) g
theorem nS(h:pP m0 ann n i j k n0 t0 n1 t1 q q0 q1 segRunT tb p tr ev)(w:World)(os:OsState)(g:topRun tb p w m0 ann N (rE tr (Nat.succ k) n1 t1 w os).abs (restOf ((behindTheImports p).drop (Nat.add i j)) ev (qY p ev) q1 [topFrame q])=some r):
  topRun tb p w m0 ann (Nat.add n N) (rE tr k n0 t0 w os).abs (restOf ((behindTheImports p).drop i) ev (qY p ev) q0 [topFrame q])=some r:=by
 have a:=piece_app (segRun_of (Je (h w) os)) g
 have e:((behindTheImports p).drop i).take j++(behindTheImports p).drop (Nat.add i j)=(behindTheImports p).drop i:=by
  have:=List.take_append_drop j ((behindTheImports p).drop i);rw[List.drop_drop]at this;exact this
 rw[e]at a;exact a
theorem u9(e:(behindTheImports p).drop i=[])(h:tX m0 ann n k n0 t0 q q0 topRun tb p tr ev)(w:World)(os:OsState):
  topRun tb p w m0 ann n (rE tr k n0 t0 w os).abs (restOf ((behindTheImports p).drop i) ev (qY p ev) q0 [topFrame q])=some (rE tr k n0 t0 w os).abs:=by
 rw[e];exact Je (h w) os
abbrev rP(H:Params->Heap)(t:Nat)(w:World)(os:OsState):Shared:=⟨H w.params,⟨[]⟩,{},t,os⟩
structure wH(p v:Program)(H:Params->Heap)(K:Params->Frag)(as ts:List Addr)(t:Nat)(ls:List Str:=[]):Prop where
 l1:∀w:World,(fun os=>staticsOk (PySem.W.Fast.tw5923862056798008813 p.main.body) (boot_heap w.params) (H w.params)&&namesBound p (H w.params)&&gensDone (rP H t w os)&&laidKept (boot_heap w.params) (H w.params))=fun _=>true
 l2:∀w:World,(fun os=>PySem.W.Fast.tw5160383126252970620 (PySem.W.R.mapR (fun x=>x.name) (PySem.W.Fast.tw3399658132070893891 v)) (PySem.W.Fast.tw5991557255702980513 v) [] (rP H t w os))=fun _=>expectedOf v
 l3:∀w:World,(H w.params).bltView=bltViewBooted
 l4:∀w:World,(fun os=>PySem.W.Fast.tw10880121769531294198 (H w.params) (PySem.W.Fast.tw821141287760084731 v ls) (PySem.W.R.mapR (fun x=>x.name) (PySem.W.Fast.tw3399658132070893891 v)) (PySem.W.R.mapR (fun x=>x.1) (PySem.W.Fast.tw7409074990110511671 v)) (PySem.W.R.mapR (fun x=>x.name) (PySem.W.Fast.tw13664370479719496447 v (PySem.W.Fast.tw821141287760084731 v ls)))&&PySem.W.Fast.tw14722251495701143533 (H w.params) (PySem.W.Fast.tw5923862056798008813 p.main.body)&&(H w.params).isNs mainGlobals&&(H w.params).isNs builtinsNs&&PySem.W.Fast.tw10994771534591457954 v (H w.params)&&(xlAt v [] (rP H t w os)&&recOk [] (rP H t w os))&&(if true then(rP H t w os).gens.size==0 else !leftWithCleanup (rP H t w os).gens))=fun _=>true
 l5:∀w:World,(fun os=>PySem.W.Fast.tw479339242167458305 v (rP H t w os))=fun _=>true
 l6:∀w:World,(fun os=>PySem.W.Fast.tw16090120013241838585 v (PySem.W.Fast.tw3247288618530077131 v) (rP H t w os))=fun _=>pinGoodD (PySem.W.Fast.tw3247288618530077131 v)
 l7:∀w:World,(fun os=>PySem.W.Fast.tw2386780881361962483 v (PySem.W.Fast.tw821141287760084731 v ls) (rP H t w os))=fun _=>plainGoodE v (PySem.W.Fast.tw821141287760084731 v ls)
 l8:∀w:World,(fun os=>PySem.W.Fast.tw11698064438423848299 v ls (rP H t w os))=fun _=>plainGoodD v ls
 l9:∀w:World,(fun os=>PySem.W.Fast.tw7317090234206586261 v (rP H t w os))=fun _=>wideGood v
 l10:∀w:World,(fun os=>PySem.W.Fast.tw7369524293546568484 v ls (rP H t w os))=fun _=>clsGoodW v ls
 l11:∀w:World,PySem.W.R.mapR (H w.params).get? as=PySem.W.R.mapR (fun p=>some p.2) (K w.params)
 l12:∀w:World,PySem.W.R.mapR (H w.params).get? ts=PySem.W.R.mapR (fun _=>some (tabObj #[])) ts
theorem hsize(w:World):((boot_heap w.params).isNs mainGlobals&&(Array.mk []:Array GenState).size==0,(boot_heap w.params).objs.size,(boot_heap w.params).nsMap mainGlobals "__annotations__")=(true,11,some (.ref 6)):=by
 rw[PySem.W.Fast.te8920871248978507458,show("__annotations__":Str)=⟨⟨[95,95,97,110,110,111,116,97,116,105,111,110,115,95,95]⟩⟩from PySem.W.Fast.ofString_ofList ['_','_','a','n','n','o','t','a','t','i','o','n','s','_','_']]
 kernel_rfl
theorem hleft{v:Program}{H:Params->Heap}{K:Params->Frag}{as ts:List Addr}{t M:Nat}(e:∀P,as=(K P).map (·.1))(eo:opening p=plainProg p.main.scope.names)(hf:∀s,fenceModules? p s=some s)(hN:Nat.ble 600 N=true)(le:Nat.ble M N=true)
  (run:∀(w:World) (os:OsState),topRun treeTable p w 11 (some (.ref 6)) M ⟨boot_heap w.params,⟨[]⟩,boot_drawn,boot_toks,os⟩ (topStub p)=some (rP H t w os)){ls:List Str}(L:wH p v H K as ts t ls):
  LeftO p v ls (fun s=>xlAt v [] s&&recOk [] s) (Hook.obs (kmHook K as e ts)) (Hook.val (kmHook K as e ts)) N:=by
 refine LeftO.of_pieces (boot_open eo hN hf) hsize run le fun w=>?_
 have q1:=L.l1 w;have q2:=L.l2 w;have q3:=L.l3 w;have q4:=L.l4 w;have q5:=L.l5 w;have q6:=L.l6 w;have q7:=L.l7 w;have q8:=L.l8 w;have q9:=L.l9 w;have q10:=L.l10 w;have q11:=L.l11 w;have q12:=L.l12 w
 simp only[←PySem.W.Fast.te5923862056798008813,←PySem.W.Fast.te5160383126252970620,←PySem.W.R.mapR_eq,←PySem.W.Fast.te3399658132070893891,←PySem.W.Fast.te5991557255702980513,←PySem.W.Fast.te10880121769531294198,←PySem.W.Fast.te821141287760084731,←PySem.W.Fast.te7409074990110511671,←PySem.W.Fast.te13664370479719496447,←PySem.W.Fast.te14722251495701143533,←PySem.W.Fast.te10994771534591457954,←PySem.W.Fast.te479339242167458305,←PySem.W.Fast.te16090120013241838585,←PySem.W.Fast.te3247288618530077131,←PySem.W.Fast.te2386780881361962483,←PySem.W.Fast.te11698064438423848299,←PySem.W.Fast.te7317090234206586261,←PySem.W.Fast.te7369524293546568484]at q1 q2 q4 q5 q6 q7 q8 q9 q10 q11 q12
 funext os
 unfold openSeen openGood;refine Uk (Je q1 os) (Uk (Uk (Je q2 os) (Uk q3 (Uk (Je q4 os) (Uk (Je q5 os) (Uk (Je q6 os) (Uk (Je q7 os) (Uk (Je q8 os) (Uk (Je q9 os) (Je q10 os))))))))) (Uk q11 q12))
end HG
namespace K43
noncomputable section
open PySem PySem.W PySem.Calls PyProof.Rows HG PySem.W.Fast PySem.Challenge
def hS(i:Nat):Stmt:=pw_turnsigns_k43_tables_by_number.main.body.getD i (.Pass ⟨0,0,0,0⟩)
def hm0:Value:=(.str "turnsigns.errors" 187)
def hm1:Value:=(.str "turnsigns.grids" 415)
def hm2:Value:=(.str "turnsigns.tables" 482)
def sD:Value:=(.str "turnsigns.counts" 508)
def qV:Value:=(.str "law_turnsigns_k43_tables_by_number" 598)
def hc0(P:Params):List (Nat×List Obj):=[(15,[boot_o_0 P,boot_o_1 P,boot_o_2 P,hZ,boot_o_4 P,boot_o_5 P,boot_o_6 P,boot_o_7 P,boot_o_8 P,boot_o_9 P,boot_o_10 P,hZ,hZ,hC "<module>" 182 185 1 0 0 11 false 12 .none .none .none .none,⟨(.type "frame"),none,.plain,⟨[(some (.ref 13)),(some (.ref 3)),(some (.ref 3)),none,(some (.str "__main__" 164)),none,(some (.ref 0))]⟩⟩]),(13,[hU [(.type "ValueError")],⟨(.type "builtin_function_or_method"),none,.fields ⟨[(.builtin "type.__prepare__"),(.type "type")]⟩,⟨[]⟩⟩,⟨(.type "dict"),none,.dict ⟨[hE P "__module__" 196 (.str "turnsigns.errors" 187),hE P "__qualname__" 198 (.str "SignError" 197),hE P "__firstlineno__" 200 (.int 2 199),hE P "__static_attributes__" 201 (.ref 22)]⟩ 4,⟨[]⟩⟩,hZ,hN,hC "SignError" 191 194 2 0 0 18 false 19 .none .none .none .none,⟨(.type "frame"),none,.plain,⟨[(some (.ref 20)),(some (.ref 3)),(some (.ref 17)),none,(some (.str "turnsigns.errors" 187)),none,(some (.ref 0))]⟩⟩,hZ,⟨(.type "dict"),none,.dict ⟨[hE P "__module__" 196 (.str "turnsigns.errors" 187),hE P "__firstlineno__" 200 (.int 2 199),hE P "__static_attributes__" 201 (.ref 22),hE P "__weakref__" 203 (.ref 25),hE P "__doc__" 204 .none]⟩ 3,⟨[]⟩⟩,hZ,⟨(.type "getset_descriptor"),none,.fields ⟨[(.str "__weakref__" 202),(.ref 24),(.builtin "ExceptionGroup.__weakref__"),.none]⟩,⟨[]⟩⟩,⟨(.type "super"),none,.fields ⟨[(.ref 24),(.ref 24),(.ref 24)]⟩,⟨[]⟩⟩,⟨(.type "builtin_function_or_method"),none,.fields ⟨[(.builtin "object.__init_subclass__"),(.ref 24)]⟩,⟨[]⟩⟩]),(1,[hU [.ref 24]]),(11,rO P (hS 2) 29 207 4 hm0),(1,[hU [.ref 24]]),(11,rO P (hS 3) 41 223 6 hm0),(1,[hU [.ref 24]]),(11,rO P (hS 4) 53 239 8 hm0),(1,[hU [.ref 24]]),(11,rO P (hS 5) 65 255 10 hm0)]
def hc1(P:Params):List (Nat×List Obj):=[(1,[hU [.ref 24]]),(11,rO P (hS 6) 77 271 12 hm0),(1,[hU [.ref 24]]),(11,rO P (hS 7) 89 287 14 hm0),(1,[hU [.ref 24]]),(11,rO P (hS 8) 101 303 16 hm0),(1,[hU [.ref 24]]),(11,rO P (hS 9) 113 319 18 hm0),(1,[hU [.ref 24]]),(11,rO P (hS 10) 125 335 20 hm0)]
def hc2(P:Params):List (Nat×List Obj):=[(1,[hU [.ref 24]]),(11,rO P (hS 11) 137 351 22 hm0),(1,[hU [.ref 24]]),(11,rO P (hS 12) 149 367 24 hm0),(1,[hU [.ref 24]]),(11,rO P (hS 13) 161 383 26 hm0),(1,[hU [.ref 24]]),(11,rO P (hS 14) 173 399 28 hm0),(7,p0 (hS 16) 184 417 31 1 hm1 ["thing"]),(7,p0 (hS 17) 191 424 33 3 hm1 ["thing","least","greatest"])]
def hc3(P:Params):List (Nat×List Obj):=[(5,pV (hS 18) 198 433 35 2 hm1),(5,pV (hS 19) 203 439 39 3 hm1),(7,p0 (hS 20) 208 445 43 3 hm1 ["thing","least","greatest"]),(5,pV (hS 21) 215 454 47 1 hm1),(7,p0 (hS 22) 220 460 49 1 hm1 ["row","sums","number"]),(5,pV (hS 23) 227 469 54 1 hm1),(7,p0 (hS 24) 232 475 56 1 hm1 ["grid"]),(7,p0 (hS 27) 239 486 60 1 hm2 ["line","total","number"]),(5,pV (hS 28) 246 495 67 1 hm2),(7,p0 (hS 29) 251 501 71 1 hm2 ["thing"])]
def hc4(P:Params):List (Nat×List Obj):=[(7,p0 (hS 31) 258 510 75 4 sD ["thing","least","greatest","name"]),(7,p0 (hS 32) 265 520 78 1 sD ["number","product","factor"]),(7,p0 (hS 33) 272 529 83 1 sD ["side","top","bottom","at"]),(5,pV (hS 34) 279 539 90 1 sD),(5,pV (hS 35) 284 545 95 2 sD),(5,pV (hS 36) 289 551 97 2 sD),(5,pV (hS 37) 294 557 99 2 sD),(7,p0 (hS 38) 299 563 105 2 sD ["choices","number","at"]),(7,p0 (hS 39) 306 572 111 3 sD ["side","number","known","rows","sums","row"]),(5,pV (hS 40) 313 584 119 1 sD)]
def hc5(P:Params):List (Nat×List Obj):=[(7,p0 (hS 41) 318 590 126 2 sD ["side","number"]),(7,p0 (hS 43) 325 600 131 2 qV ["_law_script","_law_k"]),(7,p0 (hS 44) 332 608 135 2 qV ["_law_script","_law_k","_law_cell"]),(7,p0 (hS 45) 339 617 140 2 qV ["_law_state_here","_law_many","_law_found","_law_mixed"]),(5,pV (hS 46) 346 627 149 1 qV),(5,pV (hS 47) 351 633 161 2 qV),(5,pV (hS 48) 356 639 163 2 qV),(5,pV (hS 49) 361 645 176 1 qV),(7,p0 (hS 50) 366 651 186 1 qV ["_law_thing"]),(5,pV (hS 51) 373 658 188 1 qV)]
def hc6(P:Params):List (Nat×List Obj):=[(5,pV (hS 52) 378 664 191 1 qV),(7,p0 (hS 53) 383 670 200 1 qV ["_law_state_here","_law_some"]),(7,p0 (hS 54) 390 678 203 2 qV ["_law_state_here","_law_table_here","_law_at","_law_k","_law_row","_law_odd_here","_law_rows_here","_law_one","_law_other","_law_some"]),(5,pV (hS 55) 397 694 214 2 qV),(5,pV (hS 56) 402 700 220 1 qV),(5,pV (hS 57) 407 706 237 2 qV),(5,pV (hS 58) 412 712 244 1 qV)]
def hB(P:Params):Nat->Obj:=yM (hc0 P++hc1 P++hc2 P++hc3 P++hc4 P++hc5 P++hc6 P)
def Ro(P:Params)(v:Value):List DictEntry:=[hE P "__name__" 165 v,hE P "__doc__" 166 .none,hE P "__package__" 167 .none,hE P "__loader__" 168 (.builtin "__main__.__loader__#opaque"),hE P "__spec__" 169 .none,hE P "__annotations__" 170 (.ref 6),hE P "__builtins__" 171 (.ref 4),hE P "__file__" 173 (.str "/claim/cut.py" 172),hE P "__cached__" 174 .none,hE P "SignError" 206 (.ref 24),hE P "NoTable" 222 (.ref 37),hE P "NoHeights" 238 (.ref 49),hE P "NoNet" 254 (.ref 61),hE P "NoPlace" 270 (.ref 73),hE P "NoTriangle" 286 (.ref 85),hE P "NoRow" 302 (.ref 97)]
def Rp(P:Params)(v:Value):List DictEntry:=[hE P "NoNumber" 318 (.ref 109),hE P "NoTurn" 334 (.ref 121),hE P "NotAlike" 350 (.ref 133),hE P "NoStep" 366 (.ref 145),hE P "NoRows" 382 (.ref 157),hE P "TooMany" 398 (.ref 169),hE P "BadNote" 414 (.ref 181),hE P "is_whole" 423 (.ref 190),hE P "is_within" 432 (.ref 197),hE P "is_row" 438 (.ref 202),hE P "is_grid" 444 (.ref 207),hE P "is_square" 453 (.ref 214),hE P "flipped" 459 (.ref 219),hE P "running_sums" 468 (.ref 226),hE P "sums_across" 474 (.ref 231),hE P "sums_down" 481 (.ref 238)]
def Rq(P:Params)(v:Value):List DictEntry:=[hE P "GREATEST_SIDE" 485 (.int 6 484),hE P "takes_turns" 494 (.ref 245),hE P "is_table" 500 (.ref 250),hE P "must_be_table" 507 (.ref 257),hE P "must_be_within" 519 (.ref 264),hE P "factorial" 528 (.ref 271),hE P "counted" 538 (.ref 278),hE P "rows_on" 544 (.ref 283),hE P "added" 550 (.ref 288),hE P "choices_on" 556 (.ref 293),hE P "ways_on" 562 (.ref 298),hE P "chosen" 571 (.ref 305),hE P "laid" 583 (.ref 312),hE P "number_of" 589 (.ref 317),hE P "table_at" 597 (.ref 324),hE P "_law_cell_at" 607 (.ref 331)]
def Rt(P:Params)(v:Value):List DictEntry:=[hE P "_law_state" 616 (.ref 338),hE P "_law_take" 626 (.ref 345),hE P "_law_rows" 632 (.ref 350),hE P "_law_held" 638 (.ref 355),hE P "_law_table" 644 (.ref 360),hE P "_law_counts" 650 (.ref 365),hE P "_law_whole" 657 (.ref 372),hE P "_law_turns" 663 (.ref 377),hE P "_law_is_table" 669 (.ref 382),hE P "_law_odd" 677 (.ref 389),hE P "_law_bent" 693 (.ref 396),hE P "_law_same" 699 (.ref 401),hE P "_law_refused" 705 (.ref 406),hE P "_law_number" 711 (.ref 411),hE P "law" 717 (.ref 416)]
def yQ(P:Params)(v:Value):List DictEntry:=Ro P v++Rp P v++Rq P v++Rt P v
def wI(k:Nat):Nat×Nat×Value:=sB [(9,9,(.str "__main__" 164)),(10,10,(.str "turnsigns.errors" 187)),(11,11,(.str "turnsigns.errors" 187)),(12,12,(.str "turnsigns.errors" 187)),(13,13,(.str "turnsigns.errors" 187)),(14,14,(.str "turnsigns.errors" 187)),(15,15,(.str "turnsigns.errors" 187)),(16,16,(.str "turnsigns.errors" 187)),(17,17,(.str "turnsigns.errors" 187)),(18,18,(.str "turnsigns.errors" 187)),(19,19,(.str "turnsigns.errors" 187)),(20,20,(.str "turnsigns.errors" 187)),(21,21,(.str "turnsigns.errors" 187)),(22,22,(.str "turnsigns.errors" 187)),(29,29,(.str "turnsigns.grids" 415)),(43,43,(.str "turnsigns.counts" 508)),(56,56,(.str "law_turnsigns_k43_tables_by_number" 598)),(63,63,(.str "law_turnsigns_k43_tables_by_number" 598))] k (0,0,.none)
def yR(P:Params)(k:Nat):Obj:=⟨(.type "dict"),none,.dict ⟨(yQ P (wI k).2.2).take (wI k).1⟩ (wI k).2.1,⟨[]⟩⟩
def Ru:List Value:=yN [(2,20),(4,33),(6,45),(8,57),(10,69),(12,81),(14,93),(16,105),(18,117),(20,129),(22,141),(24,153),(26,165),(28,177),(31,189),(33,196),(35,201),(39,206),(43,213),(47,218),(49,225),(54,230),(56,237),(60,244),(67,249),(71,256),(75,263),(78,270),(83,277),(90,282),(95,287),(97,292),(99,297),(105,304),(111,311),(119,316),(126,323),(131,330),(135,337),(140,344),(149,349),(161,354),(163,359),(176,364),(186,371),(188,376),(191,381),(200,388),(203,395),(214,400),(220,405),(237,410),(244,415)]
def Rv(_:Params)(k:Nat):Obj:=⟨.none,none,.fields ⟨Ru.take (sB [0,3,6,9,12,15,18,21,24,27,30,33,36,39,60,99,138,159] k 0)⟩,⟨[]⟩⟩
def Rw:List Value:=[(.ref 37),(.ref 49),(.ref 61),(.ref 73),(.ref 85),(.ref 97),(.ref 109),(.ref 121),(.ref 133),(.ref 145),(.ref 157),(.ref 169),(.ref 181)]
def Rx(_:Params)(k:Nat):Obj:=⟨(.type "type"),none,.cls ⟨"SignError",[(.type "ValueError")],[(.ref 24),(.type "ValueError"),(.type "Exception"),(.type "BaseException"),(.type "object")],23,"SignError",true,[],Rw.take (sB [0,0,1,2,3,4,5,6,7,8,9,10,11,12,13,13,13,13] k 0),false,none,false⟩,⟨[(some (.ref 15)),none,(some (.str "SignError" 189)),(some (.str "SignError" 197)),(some (.builtin "ValueError.__new__")),(some (.bool true))]⟩⟩
def hO(P:Params)(k b:Nat):Obj:=match Nat.beq b 3 with|true=>yR P k|false=>match Nat.beq b 12 with|true=>Rv P k|false=>match Nat.beq b 24 with|true=>Rx P k|false=>hB P b
def hn(k:Nat):Nat:=sB [15,28,40,52,64,76,88,100,112,124,136,148,160,172,220,299,378,417] k 0
noncomputable def hT (k:Nat) (P:Params):BT:=yO (hO P k) (hn k) 12 1 0
def hV:Env:=wG pw_turnsigns_k43_tables_by_number (.ref 13) 14
def hQ:Program:=yP pw_turnsigns_k43_tables_by_number [1,2,3,4,5,6,7,8,9,10,11,12,13,14,16,17,18,19,20,21,22,23,24,26,27,28,29,31,32,33,34,35,36,37,38,39,40,41,43,44,45,46,47,48,49,50,51,52,53,54,55,56,57,58]
def hA:List Nat:=[2,3,15,22,23,24,25,28,35,36,37,40,47,48,49,52,59,60,61,64,71,72,73,76,83,84,85,88,95,96,97,100,107,108,109,112,119,120,121,124,131,132,133,136,143,144,145,148,155,156,157,160,167,168,169,172,179,180,181,184,186,187,189,190,191,193,194,196,197,198,201,202,203,206,207,208,210,211,213,214,215,218,219,220,222,223,225,226,227,230,231,232,234,235,237,238,239,241,242,244,245,246,249,250,251,253,254,256,257,258,260,261,263,264,265,267,268,270,271,272,274,275,277,278,279,282,283,284,287,288,289,292,293,294,297,298,299,301,302,304,305,306,308,309,311,312,313,316,317,318,320,321,323,324,325,327,328,330,331,332,334,335,337,338,339,341,342,344,345,346,349,350,351,354,355,356,359,360,361,364,365,366,368,369,371,372,373,376,377,378,381,382,383,385,386,388,389,390,392,393,395,396,397,400,401,402,405,406,407,410,411,412,415,416]
def hK(P:Params):Frag:=hA.map fun a=>(a,hO P 17 a)
def hH(P:Params):Heap:=absHeap (hT 17 P) 417 {}
theorem htw:(rM hT&&rM hH&&rM hV&&rM hQ&&rM hK&&rM pw_turnsigns_k43_tables_by_number)=true:=by k_qdec
abbrev qL:=pw_turnsigns_k43_tables_by_number
noncomputable abbrev fb:=tw14364793385576792824
noncomputable abbrev fp:=tw14768811097691100660
noncomputable abbrev ft:=tw6376794130668469000
noncomputable abbrev fv:=tw18054853473776291816
theorem Ry:tV 11 (some (.ref 6)) 12 15 187 ⟨0,0,0,0⟩ ⟨0,0,0,0⟩ tw15667345088766844465 tw11892475500146522536 fb fp ft fv:=fun w=>by kernel_rfl
theorem hpre:tV 11 (some (.ref 6)) 12 15 187 ⟨0,0,0,0⟩ ⟨0,0,0,0⟩ topGo denote treeTable pw_turnsigns_k43_tables_by_number hT hV:=by rw[te15667345088766844465,te11892475500146522536,Ye,te14768811097691100660,te6376794130668469000,te18054853473776291816];exact Ry
theorem Rz:tW 11 (some (.ref 6)) 1 15 187 ⟨0,0,0,0⟩ ⟨0,0,0,0⟩ ⟨0,0,0,0⟩ tw14374325043358763698 fb fp ft fv:=fun w=>by kernel_rfl
theorem wJ:tW 11 (some (.ref 6)) 1 15 187 ⟨0,0,0,0⟩ ⟨0,0,0,0⟩ ⟨0,0,0,0⟩ segRun treeTable pw_turnsigns_k43_tables_by_number hT hV:=by rw[te14374325043358763698,Ye,te14768811097691100660,te6376794130668469000,te18054853473776291816];exact Rz
theorem pW{m0:Nat}{ann:Option Value}{n i j k n0 t0 n1 t1:Nat}{q q0 q1:Pos}(h:pP m0 ann n i j k n0 t0 n1 t1 q q0 q1 tw10110043849684766642 fb fp ft fv):pP m0 ann n i j k n0 t0 n1 t1 q q0 q1 segRunT treeTable pw_turnsigns_k43_tables_by_number hT hV:=by rw[te10110043849684766642,Ye,te14768811097691100660,te6376794130668469000,te18054853473776291816];exact h
theorem hp0:pP 11 (some (.ref 6)) 196 0 2 0 15 187 28 207 ⟨0,0,0,0⟩ ⟨0,0,0,0⟩ ⟨2,0,3,8⟩ segRunT treeTable qL hT hV:=pW fun w=>by kernel_rfl
theorem hp1:pP 11 (some (.ref 6)) 214 2 1 1 28 207 40 223 ⟨0,0,0,0⟩ ⟨2,0,3,8⟩ ⟨4,0,5,8⟩ segRunT treeTable qL hT hV:=pW fun w=>by kernel_rfl
theorem hp2:pP 11 (some (.ref 6)) 214 3 1 2 40 223 52 239 ⟨0,0,0,0⟩ ⟨4,0,5,8⟩ ⟨6,0,7,8⟩ segRunT treeTable qL hT hV:=pW fun w=>by kernel_rfl
theorem hp3:pP 11 (some (.ref 6)) 214 4 1 3 52 239 64 255 ⟨0,0,0,0⟩ ⟨6,0,7,8⟩ ⟨8,0,9,8⟩ segRunT treeTable qL hT hV:=pW fun w=>by kernel_rfl
theorem yS:pP 11 (some (.ref 6)) 214 5 1 4 64 255 76 271 ⟨0,0,0,0⟩ ⟨8,0,9,8⟩ ⟨10,0,11,8⟩ segRunT treeTable qL hT hV:=pW fun w=>by kernel_rfl
theorem vM:pP 11 (some (.ref 6)) 214 6 1 5 76 271 88 287 ⟨0,0,0,0⟩ ⟨10,0,11,8⟩ ⟨12,0,13,8⟩ segRunT treeTable qL hT hV:=pW fun w=>by kernel_rfl
theorem yT:pP 11 (some (.ref 6)) 214 7 1 6 88 287 100 303 ⟨0,0,0,0⟩ ⟨12,0,13,8⟩ ⟨14,0,15,8⟩ segRunT treeTable qL hT hV:=pW fun w=>by kernel_rfl
theorem yU:pP 11 (some (.ref 6)) 214 8 1 7 100 303 112 319 ⟨0,0,0,0⟩ ⟨14,0,15,8⟩ ⟨16,0,17,8⟩ segRunT treeTable qL hT hV:=pW fun w=>by kernel_rfl
theorem yV:pP 11 (some (.ref 6)) 214 9 1 8 112 319 124 335 ⟨0,0,0,0⟩ ⟨16,0,17,8⟩ ⟨18,0,19,8⟩ segRunT treeTable qL hT hV:=pW fun w=>by kernel_rfl
theorem yW:pP 11 (some (.ref 6)) 214 10 1 9 124 335 136 351 ⟨0,0,0,0⟩ ⟨18,0,19,8⟩ ⟨20,0,21,8⟩ segRunT treeTable qL hT hV:=pW fun w=>by kernel_rfl
theorem SA:pP 11 (some (.ref 6)) 214 11 1 10 136 351 148 367 ⟨0,0,0,0⟩ ⟨20,0,21,8⟩ ⟨22,0,23,8⟩ segRunT treeTable qL hT hV:=pW fun w=>by kernel_rfl
theorem SD:pP 11 (some (.ref 6)) 214 12 1 11 148 367 160 383 ⟨0,0,0,0⟩ ⟨22,0,23,8⟩ ⟨24,0,25,8⟩ segRunT treeTable qL hT hV:=pW fun w=>by kernel_rfl
theorem SE:pP 11 (some (.ref 6)) 214 13 1 12 160 383 172 399 ⟨0,0,0,0⟩ ⟨24,0,25,8⟩ ⟨26,0,27,8⟩ segRunT treeTable qL hT hV:=pW fun w=>by kernel_rfl
theorem SF:pP 11 (some (.ref 6)) 392 14 8 13 172 399 220 460 ⟨0,0,0,0⟩ ⟨26,0,27,8⟩ ⟨47,0,48,82⟩ segRunT treeTable qL hT hV:=pW fun w=>by kernel_rfl
theorem SG:pP 11 (some (.ref 6)) 399 22 16 14 220 460 299 563 ⟨0,0,0,0⟩ ⟨47,0,48,82⟩ ⟨99,0,104,22⟩ segRunT treeTable qL hT hV:=pW fun w=>by kernel_rfl
theorem SH:pP 11 (some (.ref 6)) 383 38 14 15 299 563 378 664 ⟨0,0,0,0⟩ ⟨99,0,104,22⟩ ⟨188,0,190,112⟩ segRunT treeTable qL hT hV:=pW fun w=>by kernel_rfl
theorem SI:pP 11 (some (.ref 6)) 199 52 7 16 378 664 417 718 ⟨0,0,0,0⟩ ⟨188,0,190,112⟩ ⟨244,0,268,15⟩ segRunT treeTable qL hT hV:=pW fun w=>by kernel_rfl
theorem SJ:tX 11 (some (.ref 6)) 2 17 417 718 ⟨0,0,0,0⟩ ⟨244,0,268,15⟩ tw14082659384304107361 fb fp ft fv:=fun w=>by kernel_rfl
theorem wK:tX 11 (some (.ref 6)) 2 17 417 718 ⟨0,0,0,0⟩ ⟨244,0,268,15⟩ topRun treeTable pw_turnsigns_k43_tables_by_number hT hV:=by rw[te14082659384304107361,Ye,te14768811097691100660,te6376794130668469000,te18054853473776291816];exact SJ
theorem tY(w:World)(os:OsState):topRun treeTable pw_turnsigns_k43_tables_by_number w 11 (some (.ref 6)) (Nat.add 12 (Nat.add 1 (Nat.add 196 (Nat.add 214 (Nat.add 214 (Nat.add 214 (Nat.add 214 (Nat.add 214 (Nat.add 214 (Nat.add 214 (Nat.add 214 (Nat.add 214 (Nat.add 214 (Nat.add 214 (Nat.add 214 (Nat.add 392 (Nat.add 399 (Nat.add 383 (Nat.add 199 (2)))))))))))))))))))) ⟨boot_heap w.params,⟨[]⟩,boot_drawn,boot_toks,os⟩ (topStub pw_turnsigns_k43_tables_by_number)=some (SharedT.abs ⟨hT 17 w.params,417,{},⟨[]⟩,{},718,os⟩):=hgo hpre w os (u8 wJ w os (nS hp0 w os (nS hp1 w os (nS hp2 w os (nS hp3 w os (nS yS w os (nS vM w os (nS yT w os (nS yU w os (nS yV w os (nS yW w os (nS SA w os (nS SD w os (nS SE w os (nS SF w os (nS SG w os (nS SH w os (nS SI w os (u9 (by kernel_rfl) wK w os)))))))))))))))))))
theorem SK:wH tw14768811097691100660 tw9913802762373127476 tw15771962302980383765 tw3879178479791372127 hA [413] 718 []:=⟨fun _=>by kernel_rfl,fun _=>by kernel_rfl,fun _=>by kernel_rfl,fun _=>by kernel_rfl,fun _=>by kernel_rfl,fun _=>by kernel_rfl,fun _=>by kernel_rfl,fun _=>by kernel_rfl,fun _=>by kernel_rfl,fun _=>by kernel_rfl,fun _=>by kernel_rfl,fun _=>by kernel_rfl⟩
theorem hlk:wH pw_turnsigns_k43_tables_by_number hQ hH hK hA [413] 718 []:=by rw[te14768811097691100660,te9913802762373127476,te15771962302980383765,te3879178479791372127];exact SK
abbrev tZ:Hook:=kmHook hK hA (fun _=>by kernel_rfl) [413]
theorem yX:LeftO pw_turnsigns_k43_tables_by_number hQ [] (fun s=>xlAt hQ [] s&&recOk [] s) (Hook.obs tZ) (Hook.val tZ) 8366:=hleft (fun _=>by kernel_rfl) (by kernel_rfl) (fun _=>by kernel_rfl) (by decide) (by decide) tY hlk
abbrev yY:DefRec:=⟨"law",xM (hS 58),xO (hS 58),xP (hS 58),yK (hS 58)⟩
end
end K43
namespace K43
open PySem PySem.W PyProof.Rows
theorem SL(hc:WalkO hQ [] (XL hQ []) (Hook.says tZ) PySem.Challenge.rw_turnsigns_k43_tables_by_number.row.toRowW yY [] fun f vs=>call f vs):PySem.Challenge.rw_turnsigns_k43_tables_by_number.Holds:=by
 o_law
 exact holds_open (Xt:=fun s=>xlAt hQ [] s&&recOk [] s) (Yf:=Hook.obs tZ) (Ya:=Hook.val tZ) (N:=8366) yX (Hook.of tZ) (Hook.keeps tZ) (fun s e=>xl_of s (Bool.and_eq_true_iff.mp e).1) XL.keeps (by kernel_rfl) (by kernel_rfl) (by kernel_rfl) (fun s e=>recFacts_of (Bool.and_eq_true_iff.mp e).2) rfl (by assumption) (by rfl') ⟨rfl,rfl,rfl,rfl,rfl,by rfl'⟩ ⟨[.list []],by rfl',by rfl'⟩ hc
end K43
namespace L2
open PySem PySem.Spec PyProof.Rows
variable{A:Around}{C a b dx it:Addr}{E Q:OE}{K:Qz}{M:Model}{N ps:List Str}{P:Program}{base h h':Heap}{body:List Stmt}{c e tg:Expr}{ch fp:List Addr}{d':Drawn}{es:List Expr}{fd:FuncData}{g':Array GenState}{i j k n t':Nat}{mA mg:OU}{op op':CmpOp}{p pos':Pos}{pins:OX}{qual x:Str}{s s':Shared}{scope:Scope}{u:Value}{us:List Value}{w:World}{α:Type}
abbrev Key:=Sum Int Str
def Bk:Key->Value->Bool
 |.inl k,v=>Value.isInt k v
 |.inr x,v=>Value.isStrOf x v
def SM(w:World):Key->Int
 |.inl k=>hashInt k
 |.inr x=>hashStr w x
theorem Ah:∀{k:Key}{v:Value},Bk k v=true->(∃i t,k=Sum.inl i/\v=Value.int i t)\/(∃x t,k=Sum.inr x/\v=Value.str x t)
 |.inl i,v,h=>by
  obtain⟨t,e⟩:=Value.isInt_shape (k:=i) (v:=v) h;exact .inl ⟨i,t,rfl,e⟩
 |.inr x,v,h=>by
  obtain⟨t,e⟩:=Value.isStrOf_shape (x:=x) (v:=v) h;exact .inr ⟨x,t,rfl,e⟩
theorem SN(i:Int)(t:Tok):Bk (.inl i) (.int i t)=true:=by simp[Bk,Value.isInt]
theorem SO(x:Str)(t:Tok):Bk (.inr x) (.str x t)=true:=by simp[Bk,Value.isStrOf]
theorem SQ(a b:Int):decide ((Sum.inl a:Key)=Sum.inl b)=(a==b):=by
 by_cases e:a=b
 ·subst e;simp
 ·have h:¬ (Sum.inl a:Key)=Sum.inl b:=fun q=>e (Sum.inl.inj q)
  rw[Zj h];exact(Uw.mpr e).symm
theorem SR(a b:Str):decide ((Sum.inr a:Key)=Sum.inr b)=decide (a=b):=by
 by_cases e:a=b
 ·subst e;simp
 ·have h:¬ (Sum.inr a:Key)=Sum.inr b:=fun q=>e (Sum.inr.inj q)
  rw[Zj h,Zj e]
theorem SS(a:Int)(b:Str):decide ((Sum.inl a:Key)=Sum.inr b)=false:=Zj (fun q=>nomatch q)
theorem SU(a:Str)(b:Int):decide ((Sum.inr a:Key)=Sum.inl b)=false:=Zj (fun q=>nomatch q)
def Q4(prog:Program)(w:World):PySem.KeyKind prog w Key where
 is:=Bk
 hash:=SM w
 inj:=fun v a b ha hb=>by
  rcases Ah ha with⟨i,t,rfl,rfl⟩|⟨x,t,rfl,rfl⟩
  ·rcases Ah hb with⟨j,u,rfl,e⟩|⟨y,u,rfl,e⟩
   ·injection e with e1 _;rw[e1]
   ·exact nomatch e
  ·rcases Ah hb with⟨j,u,rfl,e⟩|⟨y,u,rfl,e⟩
   ·exact nomatch e
   ·injection e with e1 _;rw[e1]
 byValue:=fun k v h=>by
  rcases Ah h with⟨i,t,rfl,rfl⟩|⟨x,t,rfl,rfl⟩<;>rfl
 pyHash:=fun hv h=>by
  rcases Ah hv with⟨i,t,rfl,rfl⟩|⟨x,t,rfl,rfl⟩
  ·exact wpAny_pyHash_int h
  ·exact wpAny_pyHash_str h
 eqBool:=fun hu hv h=>by
  rcases Ah hu with⟨i,t,rfl,rfl⟩|⟨x,t,rfl,rfl⟩
  ·rcases Ah hv with⟨j,u,rfl,rfl⟩|⟨y,u,rfl,rfl⟩
   ·rw[SQ]at h;exact wpAny_eqBool_int h
   ·rw[SS]at h;exact SeqAt.EqAt.int_str i t y u _ _ _ _ h
  ·rcases Ah hv with⟨j,u,rfl,rfl⟩|⟨y,u,rfl,rfl⟩
   ·rw[SU]at h;exact SeqAt.EqAt.str_int x t j u _ _ _ _ h
   ·rw[SR]at h;exact wpAny_eqBool_str h
 «strs»:=fun k x t v h=>by
  rcases Ah h with⟨i,u,rfl,e⟩|⟨y,u,rfl,e⟩
  ·exact nomatch e
  ·injection e with e1 _
   subst e1;cases v<;>rfl
theorem SV(prog:Program)(w:World)(i:Int)(t:Tok):(Q4 prog w).is (.inl i) (.int i t)=true:=SN i t
theorem SW(prog:Program)(w:World)(x:Str)(t:Tok):(Q4 prog w).is (.inr x) (.str x t)=true:=SO x t
inductive V where
 |non|bl (b:Bool)|int (i:Int)|str (x:Str)|byt (b:Array UInt8)|flt (b:UInt64)|ref (a:Addr)|ty (n:String)
 deriving DecidableEq
variable{v y:V}{vs:List V}
def E3:V->Value->Prop
 |.non,u=>u=Value.none
 |.bl b,u=>u=Value.bool b
 |.int i,u=>∃t,u=Value.int i t
 |.str x,u=>∃t,u=Value.str x t
 |.byt b,u=>∃t,u=Value.bytes b t
 |.flt b,u=>∃t,u=Value.float b t
 |.ref a,u=>u=Value.ref a
 |.ty n,u=>u=Value.type n
abbrev D4:List V->List Value->Prop:=Paired E3
theorem D4.length{xs:List V}(r:D4 xs us):xs.length=us.length:=Paired.length r
theorem D4.get:∀{xs:List V}{us:List Value}{i:Nat}{x:V},D4 xs us->xs[i]? =some x->∃u,us[i]? =some u/\E3 x u
 |_,_,_,_,.nil,e=>by simp at e
 |_,_,0,_,.cons r _,e=>by simp at e;subst e;exact⟨_,rfl,r⟩
 |_,_,i+1,x,.cons _ t,e=>by
  obtain⟨u,h1,h2⟩:=D4.get (i:=i) (x:=x) t (by simpa using e)
  exact⟨u,by simpa using h1,h2⟩
theorem D4.set{x:V}{u:Value}(r:E3 x u):∀{xs:List V}{us:List Value}(i:Nat),D4 xs us->D4 (xs.set i x) (us.set i u)
 |_,_,_,.nil=>.nil
 |_,_,0,.cons _ t=>.cons r t
 |_,_,i+1,.cons q t=>.cons q (D4.set r i t)
theorem D4.append:∀{xs ys:List V}{us ws:List Value},D4 xs us->D4 ys ws->D4 (xs++ys) (us++ws)
 |_,_,_,_,.nil,s=>s
 |_,_,_,_,.cons r t,s=>.cons r (D4.append t s)
theorem D4.take:∀{xs:List V}{us:List Value}(n:Nat),D4 xs us->D4 (xs.take n) (us.take n)
 |_,_,0,_=>.nil
 |_,_,_+1,.nil=>.nil
 |_,_,n+1,.cons r t=>.cons r (D4.take n t)
theorem D4.drop:∀{xs:List V}{us:List Value}(n:Nat),D4 xs us->D4 (xs.drop n) (us.drop n)
 |_,_,0,r=>r
 |_,_,_+1,.nil=>.nil
 |_,_,n+1,.cons _ t=>D4.drop n t
def AN:Option V->Option Value->Prop
 |some v,some u=>E3 v u
 |none,none=>True
 |_,_=>False
def KV{κ:Type}:List (κ×V)->List (κ×Value)->Prop:=Paired fun(p:κ×V) (q:κ×Value)=>p.1=q.1/\E3 p.2 q.2
def kV:Key->V
 |.inl i=>.int i
 |.inr x=>.str x
inductive HO where
 |lst (xs:List V)
 |tup (xs:List V)
 |dK (kvs:List (Key×V))|dT (C:Addr->List Key->Prop) (kvs:List (List Key×V))
 |set (S:Int->Bool) (n:Nat)
 |ins (C dx:Addr) (fs:List (Str×V))
 |own (x:Addr)
 |xd (fs:List (Str×V))
 |met (f x:Addr)
 |rng (lo hi:Int)
 |frz (o:Obj) (u:HO)
 |tbl (ps:Array Value)
 |ext (φ:Heap->Prop)
variable{o:HO}
abbrev Hp:=Addr->Option HO
variable{H H':Hp}
def upd(H:Hp)(a:Addr)(o:HO):Hp:=fun b=>if b=a then some o else H b
theorem J0:upd H a o a=some o:=by unfold upd;rw[Qh rfl]
theorem D7(h:b≠a):upd H a o b=H b:=by unfold upd;rw[Qs h]
theorem LP{u:HO}:upd (upd H a o) a u=upd H a u:=by
 funext b;unfold upd;split<;>rfl
theorem SX{u:HO}(h:H a=some o)(h':H b=some u)(d:o≠u):a≠b:=by
 intro e;subst e;rw[h]at h';exact d (Yg h')
theorem Q5(h:H a=some o)(h':H b=none):a≠b:=by
 intro e;subst e;rw[h]at h';cases h'
def W6(h:Heap)(a:Addr)(items:Array Value):Prop:=∃o,h.get? a=some o/\o.cls=.type "tuple"/\o.dict=none/\∃n,o.data=.seq items n
theorem W6.tup{items:Array Value}:W6 h a items->IsTup h a items:=fun⟨o,e,c,_,d⟩=>⟨o,e,c,d⟩
theorem W6.lt{items:Array Value}(p:W6 h a items):a<h.objs.size:=p.tup.lt
theorem W6.new(h:Heap)(items:Array Value):W6 (h.push {cls:=.type "tuple",data:=.seq items}) h.objs.size items:=⟨_,Qn _ rfl,rfl,rfl,_,rfl⟩
section
variable(P:Program)(w:World)
def K2(H:Hp)(h:Heap)(a:Addr):HO->Prop
 |.lst xs=>xs.length≤sizeLine/\∃(its:List Value) (n:Nat),D4 xs its/\h.get? a=some {cls:=.type "list",data:=.seq its.toArray n}
 |.tup xs=>xs.length≤sizeLine/\∃its:List Value,D4 xs its/\W6 h a its.toArray
 |.dK kvs=>kvs.length≤sizeLine/\(a==sysModules)=false/\∃vs,KV kvs vs/\h.DictOf (Q4 P w) a vs
 |.dT C kvs=>kvs.length≤sizeLine/\(a==sysModules)=false/\∃xs:List (List Key×Addr×Value),
   Paired (fun(p:List Key×V) (q:List Key×Addr×Value)=>p.1=q.1/\(H q.2.1=some (.tup (p.1.map kV))\/C q.2.1 p.1)/\E3 p.2 q.2.2) kvs xs/\
   ∃o es ep,h.get? a=some o/\o.ExactDict/\o.data=.dict es ep/\es.toList=xs.map (entryOfKey (tupleKind (Q4 P w)))/\(xs.map (·.1)).Nodup
 |.set S n=>h.SetOf (intKind P w) a S n
 |.ins C dx fs=>H dx=some (.own a)/\fs.length≤1000/\dx≠a/\h.get? a=some (PySem.W.instObj C dx)/\
   ∃mA,h.Ns1 dx mA/\(∀f,AN (fs.lookup f) (mA f))/\PySem.Within mA (fs.map (·.1))
 |.own _=>∃o,h.get? a=some o
 |.xd fs=>∃mA,h.Ns1 a mA/\∀f,AN (fs.lookup f) (mA f)
 |.rng lo hi=>∃t u v,h.get? a=some {cls:=.type "range",data:=.fields #[.int lo t,.int hi u,.int 1 v]}
 |.frz o u=>h.get? a=some o/\K2 H h a u
 |.tbl ps=>h.get? a=some {cls:=.none,data:=.fields ps}
 |.met f x=>h.get? a=some (PySem.W.methodObj (.ref f) (.ref x))
 |.ext φ=>φ h/\(∃o,h.get? a=some o)/\∀h1 h2:Heap,φ h1->(∀o,h1.get? a=some o->h2.get? a=some o)->φ h2
def oN(H:Hp)(h:Heap):Prop:=∀a o,H a=some o->K2 P w H h a o
end
theorem K2.lt(x:K2 P w H h a o):a<h.objs.size:=by
 cases o with
 |lst xs=>obtain⟨_,_,_,_,e⟩:=x;exact Qu e
 |tup xs=>obtain⟨_,_,_,p⟩:=x;exact p.lt
 |dK kvs=>obtain⟨_,_,_,_,o,_,_,e,_⟩:=x;exact Qu e
 |dT C kvs=>obtain⟨_,_,_,_,o,_,_,e,_⟩:=x;exact Qu e
 |set S n=>obtain⟨o,_,_,_,e,_⟩:=x;exact Qu e
 |ins C dx fs=>obtain⟨_,_,_,e,_⟩:=x;exact Qu e
 |own y=>obtain⟨_,e⟩:=x;exact Qu e
 |xd fs=>obtain⟨_,⟨_,_,_,e,_⟩,_⟩:=x;exact Qu e
 |rng lo hi=>obtain⟨_,_,_,e⟩:=x;exact Qu e
 |frz ob u=>obtain⟨e,_⟩:=x;exact Qu e
 |tbl ps=>exact Qu (show h.get? a=some _ from x)
 |met f y=>exact Qu (show h.get? a=some _ from x)
 |ext φ=>obtain⟨_,⟨_,e⟩,_⟩:=x;exact Qu e
theorem Paired.mapP{α β:Type}{F G:α->β->Prop}:∀{l₁:List α}{l₂:List β},Paired F l₁ l₂->(∀a b,F a b->G a b)->Paired G l₁ l₂
 |_,_,.nil,_=>.nil
 |_,_,.cons r t,f=>.cons (f _ _ r) (Paired.mapP t f)
theorem K2.stay(x:K2 P w H h a o)(k:∀b u,(b=a\/H b=some (.own a))->h.get? b=some u->h'.get? b=some u)
  (ho:∀b,H b=some (.own a)->H' b=some (.own a))(ht:∀b xs,H b=some (.tup xs)->H' b=some (.tup xs)):K2 P w H' h' a o:=by
 induction o with
 |lst xs=>obtain⟨z,its,n,r,e⟩:=x;exact⟨z,its,n,r,k _ _ (.inl rfl) e⟩
 |tup xs=>obtain⟨z,its,r,ob,e,c⟩:=x;exact⟨z,its,r,ob,k _ _ (.inl rfl) e,c⟩
 |dK kvs=>obtain⟨z,y,vs,r,ob,es,ep,e,c⟩:=x;exact⟨z,y,vs,r,ob,es,ep,k _ _ (.inl rfl) e,c⟩
 |dT C kvs=>
  obtain⟨z,y,xs,r,ob,es,ep,e,c⟩:=x;exact⟨z,y,xs,Paired.mapP r fun p q z=>⟨z.1,z.2.1.imp (ht _ _) id,z.2.2⟩,ob,es,ep,k _ _ (.inl rfl) e,c⟩
 |set S n=>obtain⟨ob,es,ep,t,e,c⟩:=x;exact⟨ob,es,ep,t,k _ _ (.inl rfl) e,c⟩
 |ins C dx fs=>
  obtain⟨d,z,ne,e,mA,⟨od,es,ep,e2,c⟩,r⟩:=x;exact⟨ho _ d,z,ne,k _ _ (.inl rfl) e,mA,⟨od,es,ep,k _ _ (.inr d) e2,c⟩,r⟩
 |own y=>obtain⟨ob,e⟩:=x;exact⟨ob,k _ _ (.inl rfl) e⟩
 |xd fs=>obtain⟨mA,⟨od,es,ep,e,c⟩,r⟩:=x;exact⟨mA,⟨od,es,ep,k _ _ (.inl rfl) e,c⟩,r⟩
 |rng lo hi=>obtain⟨t,u,v,e⟩:=x;exact⟨t,u,v,k _ _ (.inl rfl) e⟩
 |frz ob u ih=>obtain⟨e,q⟩:=x;exact⟨k _ _ (.inl rfl) e,ih q⟩
 |tbl ps=>
  have e:h.get? a=some {cls:=.none,data:=.fields ps}:=x
  show h'.get? a=some {cls:=.none,data:=.fields ps};exact k a _ (.inl rfl) e
 |met f y=>
  have e:h.get? a=some (PySem.W.methodObj (.ref f) (.ref y)):=x
  show h'.get? a=some (PySem.W.methodObj (.ref f) (.ref y));exact k a _ (.inl rfl) e
 |ext φ=>obtain⟨p,⟨o,e⟩,st⟩:=x;exact⟨st _ _ p fun o q=>k _ _ (.inl rfl) q,⟨o,k _ _ (.inl rfl) e⟩,st⟩
theorem oN.lt(x:oN P w H h)(e:H a=some o):a<h.objs.size:=(x a o e).lt
theorem oN.fresh(x:oN P w H h)(e:h.objs.size≤a):H a=none:=by
 cases q:H a with
 |none=>rfl
 |some u=>exact absurd (Qd (x.lt q) e) (Jk _)
theorem oN.kept(x:oN P w H h)(k:∀b u,h.get? b=some u->h'.get? b=some u):oN P w H h':=fun a o e=>
 (x a o e).stay (fun b u _ q=>k b u q) (fun _ q=>q) fun _ _ q=>q
theorem oN.laid(x:oN P w H h)(k:∀b u,h.get? b=some u->h'.get? b=some u)(hp:h.objs.size≤a)(new:K2 P w (upd H a o) h' a o):oN P w (upd H a o) h':=fun b u e=>by
 have hn:=x.fresh hp
 by_cases hb:b=a
 ·subst hb;rw[J0]at e;cases e;exact new
 ·rw[D7 hb]at e
  exact(x b u e).stay (fun c v _ q=>k c v q) (fun c q=>by rw[D7 (Q5 q hn)];exact q) fun c xs q=>by rw[D7 (Q5 q hn)];exact q
def Rd(H:Hp)(a:Addr)(u:HO):Prop:=H a=some u\/ ∃o,H a=some (.frz o u)
theorem Rd.ok{u:HO}(r:Rd H a u)(x:oN P w H h):K2 P w H h a u:=by
 rcases r with r|⟨o,r⟩
 ·exact x a u r
 ·obtain⟨_,q⟩:=x a _ r
  exact q
def vA:Option HO->Prop
 |some (.lst _)=>True
 |some (.dK _)=>True
 |some (.dT _ _)=>True
 |some (.set _ _)=>True
 |some (.ins _ _ _)=>True
 |some (.ext _)=>True
 |_=>False
section
variable{x e:Addr}{o':HO}
theorem oN.write(ok:oN P w H h)(mu:vA (H x))(he:e=x\/H e=some (.own x))(k:∀b u,b≠e->h.get? b=some u->h'.get? b=some u)(heo:∃u,h'.get? e=some u)
  (new:K2 P w (upd H x o') h' x o'):oN P w (upd H x o') h':=fun b u q=>by
 have nown:∀c y,H c=some (.own y)->c≠x:=fun c y r z=>by subst z;rw[r]at mu;exact mu
 have ntup:∀c xs,H c=some (.tup xs)->c≠x:=fun c xs r z=>by subst z;rw[r]at mu;exact mu
 by_cases hb:b=x
 ·subst hb;rw[J0]at q;cases q;exact new
 ·rw[D7 hb]at q
  by_cases hbe:b=e
  ·have q':H b=some (.own x):=by
    rcases he with z|z
    ·exact absurd (hbe.trans z) hb
    ·rw[hbe];exact z
   rw[q]at q';cases q';obtain⟨v,hv⟩:=heo;exact⟨v,by rw[hbe];exact hv⟩
  ·refine(ok b u q).stay (fun c v hc r=>k c v ?_ r) (fun c r=>by rw[D7 (nown c b r)];exact r) fun c xs r=>by rw[D7 (ntup c xs r)];exact r
   rcases hc with rfl|hc
   ·exact hbe
   ·rintro rfl
    rcases he with z|z
    ·exact nown c b hc z
    ·rw[hc]at z;cases z;exact hb rfl
end
structure Un(fs ex:List Addr)(H H':Hp)(h h':Heap):Prop where
 keep:∀b o,h.get? b=some o->H b=none->b∉fs->b∉ex->h'.get? b=some o
 slot:∀b o,h.get? b=some o->H b=none->b∈fs->b∉ex->∃sl,h'.get? b=some {o with slots:=sl}
 free:∀b o,h.get? b=some o->H b=none->b∉ex->H' b=none
 there:∀b o,h.get? b=some o->b∉ex->∃o',h'.get? b=some o'
 tups:∀b xs,H b=some (.tup xs)->H' b=some (.tup xs)
 frzs:∀b o u,H b=some (.frz o u)->H' b=some (.frz o u)
 tbls:∀b ps,H b=some (.tbl ps)->∃more,H' b=some (.tbl (ps++more))
section
variable{fs fs' ex ex':List Addr}{H1 H2:Hp}{h1 h2:Heap}{x e:Addr}
theorem Un.any(u:Un fs ex H H1 h h1){ob:Obj}(q:h.get? b=some ob)(n:H b=none)(hx:b∉ex):∃sl,h1.get? b=some {ob with slots:=sl}:=by
 by_cases hb:b∈fs
 ·exact u.slot b ob q n hb hx
 ·exact⟨ob.slots,u.keep b ob q n hb hx⟩
theorem Un.kept(k:∀b u,h.get? b=some u->h'.get? b=some u):Un fs ex H H h h':=
 ⟨fun b ob q _ _ _=>k b ob q,fun b ob q _ _ _=>⟨ob.slots,k b ob q⟩,fun _ _ _ n _=>n,fun b ob q _=>⟨ob,k b ob q⟩,fun _ _ q=>q,fun _ _ _ q=>q,fun _ ps q=>⟨#[],by rw[q];simp⟩⟩
theorem Un.refl:Un fs ex H H h h:=Un.kept fun _ _ q=>q
theorem Un.laid(k:∀b u,h.get? b=some u->h'.get? b=some u)(hp:h.objs.size≤a)(hn:H a=none):Un fs ex H (upd H a o) h h' where
 keep:=fun b u q _ _ _=>k b u q
 slot:=fun b u q _ _ _=>⟨u.slots,k b u q⟩
 free:=fun b u q n _=>by rw[D7 (Qi (Qd (Qu q) hp))];exact n
 there:=fun b u q _=>⟨u,k b u q⟩
 tups:=fun b xs q=>by rw[D7 (Q5 q hn)];exact q
 frzs:=fun b u xs q=>by rw[D7 (Q5 q hn)];exact q
 tbls:=fun b ps q=>⟨#[],by rw[D7 (Q5 q hn),q];simp⟩
theorem Un.write(mu:vA (H x))(he:e=x\/H e=some (.own x))(k:∀b u,b≠e->h.get? b=some u->h'.get? b=some u)(heo:∃u,h'.get? e=some u):Un fs ex H (upd H x o) h h':=by
 have hx:∀b,H b=none->b≠x:=fun b n z=>by subst z;rw[n]at mu;exact mu
 have hb:∀b,H b=none->b≠e:=fun b n z=>by
  subst z
  rcases he with r|r
  ·exact hx b n r
  ·rw[n]at r;cases r
 have hm:∀b u,H b=some u-> ¬ vA (some u)->b≠x:=fun b u q nm z=>by subst z;rw[q]at mu;exact nm mu
 refine⟨fun b u q n _ _=>k b u (hb b n) q,fun b u q n _ _=>⟨u.slots,k b u (hb b n) q⟩,fun b u q n _=>by rw[D7 (hx b n)];exact n,fun b u q _=>?_,
  fun b xs q=>by rw[D7 (hm b _ q fun z=>z)];exact q,fun b u xs q=>by rw[D7 (hm b _ q fun z=>z)];exact q,fun b ps q=>⟨#[],by rw[D7 (hm b _ q fun z=>z),q];simp⟩⟩
 by_cases hbe:b=e
 ·subst hbe;exact heo
 ·exact⟨u,k b u hbe q⟩
end
def vN(h:Heap)(H:Hp):List Addr:=(List.range h.objs.size).filter fun a=>(H a).isSome
def AO(h:Heap)(H:Hp):Heap:=PySem.W.hideAll h (vN h H)
theorem SY(h:Heap)(H:Hp):(AO h H).objs.size=h.objs.size:=PySem.W.hideAll_size _ _
theorem SZ{o:Obj}(e:h.get? b=some o)(n:H b=none):(AO h H).get? b=some o:=
 Jc _ e fun hm=>by
  have q:(H b).isSome=true:=(Jt.mp hm).2
  rw[n]at q;simp at q
theorem Sa{o:Obj}(e:(AO h H).get? b=some o):h.get? b=some o/\H b=none:=by
 have e':h.get? b=some o:=PySem.W.of_hideAll (vN h H) e
 refine⟨e',?_⟩;cases q:H b with
 |none=>rfl
 |some x=>
  have hm:b∈vN h H:=Jt.mpr ⟨Zs.mpr (Qu e'),by simp[q]⟩
  have z:(AO h H).get? b=none:=PySem.W.hideAll_none (vN h H) hm
  rw[z]at e;cases e
def Sb(g h:Heap)(L:Addr):OX:=(List.range h.objs.size).filterMap fun a=>if a=L\/(g.get? a).isSome=true then none else(h.get? a).map fun o=>(a,o)
def rest(g h:Heap)(L d:Addr):OX:=(Sb g h L).filter fun p=>decide (p.1≠d)
structure Mod(K:Qz)(mg:OU)(base:Heap):Prop where
 kin:K.In base
 glob:base.Ns mainGlobals mg
 blt:∃mb,base.Ns builtinsNs mb/\∀x:Str,x≠"__name__"->mb x=bootBuiltins x
 nolimit:base.NoLimit
structure Cx where
 prog:Program
 w:World
 K:Qz
 mg:OU
 base:Heap
 A:Around
 N:List Str
 s₀:Shared
 H₀:Hp
 env:Env
 outer:List Env
 stack:List Env
 ex:List Addr
 fn:Str->Bool
 calm:Bool
 pn:OX
 xe:OE
variable{X:Cx}
def nR(l:List Env):List Addr:=l.filterMap (·.frame)
abbrev Cx.fs(X:Cx):List Addr:=nR X.outer
def sZ(sc:Scope)(x:Str):Prop:=sc.names.lookup x=some .local\/sc.names.lookup x=some .cell\/sc.names.lookup x=some .free
def Loc(sc:Scope)(x:Str):Prop:=sc.names.lookup x=some .local\/sc.names.lookup x=some .cell
def LQ(env:Env)(h:Heap)(m:OU)(x:Str)(u:Value):Prop:=
 (env.kindOf x=some .local/\m x=some u)\/((env.kindOf x=some .cell\/env.kindOf x=some .free)/\∃c,env.cells.lookup x=some c/\h.IsCell c (some u))
structure Cx.Ok(X:Cx):Prop where
 mod:Mod X.K X.mg X.base
 kind:X.env.scope.kind=.function
 glob:X.env.globals=mainGlobals
 blt:X.env.builtins=builtinsNs
 above:X.s₀.heap.objs.size≤X.env.locals
 inj:∀x y c,X.env.cells.lookup x=some c->X.env.cells.lookup y=some c->x=y
 has:∀x,(X.env.kindOf x=some .cell\/X.env.kindOf x=some .free)->∃c,X.env.cells.lookup x=some c
 cab:∀x c,X.fn x=true->X.env.cells.lookup x=some c->X.s₀.heap.objs.size≤c
 hd:X.calm=true->X.A.handled=none
 frames:X.A.frames=some X.stack
 stk:X.stack=X.outer\/(X.stack=X.env::X.outer/\X.env.frame=some X.env.locals)
 exf:∀b∈X.ex,b≠X.env.locals/\∀x c,X.env.cells.lookup x=some c->c≠b
 bs:∀b o,X.base.get? b=some o->X.s₀.heap.get? b=some o/\X.H₀ b=none
 bsz:X.base.objs.size≤X.s₀.heap.objs.size
 noex:∀b o,X.base.get? b=some o->b∉X.ex
 exfs:∀b∈X.ex,b∉X.fs
 funs:X.s₀.heap.FunFrames X.base X.outer
 frf:∀b∈X.fs,X.H₀ b=none
structure Inv(X:Cx)(pins:OX)(σ:List (Option V))(H:Hp)(s:Shared):Prop where
 ok:X.Ok
 os:s.os=X.s₀.os
 bare:AllBare s.gens
 base:Un X.fs X.ex X.H₀ H X.s₀.heap s.heap
 loc:∃m,s.heap.Ns X.env.locals m/\∀(i:Nat) (x:Str) (v:V),X.N[i]? =some x->σ[i]? =some (some v)->sZ X.env.scope x->∃u,E3 v u/\LQ X.env s.heap m x u
 cell:∀x c,X.env.cells.lookup x=some c->∃v,s.heap.IsCell c v
 free:H X.env.locals=none
 freeC:∀x c,X.env.cells.lookup x=some c->H c=none
 pin:∀p∈X.pn++pins,s.heap.get? p.1=some p.2/\H p.1=none/\p.1≠X.env.locals/\p.1∉X.fs/\∀v,p.2.data≠.cell v
 hok:oN X.prog X.w H s.heap
 len:σ.length=X.N.length
section
variable{σ:List (Option V)}
theorem Cx.Ok.nofr(ok:X.Ok){o:Obj}(e:X.base.get? b=some o):b∉X.fs:=fun hb=>by
 have:=(ok.funs.mem hb).1;rw[e]at this;cases this
theorem Inv.bs(I:Inv X pins σ H s):∀b o,X.base.get? b=some o->s.heap.get? b=some o/\H b=none:=fun b o e=>
 ⟨I.base.keep b o (I.ok.bs b o e).1 (I.ok.bs b o e).2 (I.ok.nofr e) (I.ok.noex b o e),I.base.free b o (I.ok.bs b o e).1 (I.ok.bs b o e).2 (I.ok.noex b o e)⟩
theorem Inv.bk(I:Inv X pins σ H s):∀b o,X.base.get? b=some o->s.heap.get? b=some o:=fun b o e=>(I.bs b o e).1
theorem Inv.mod(I:Inv X pins σ H s):Mod X.K X.mg X.base:=I.ok.mod
theorem Inv.kIn(I:Inv X pins σ H s):X.K.In s.heap:=I.ok.mod.kin.keeps I.bk
theorem Inv.lt(I:Inv X pins σ H s):X.env.locals<s.heap.objs.size:=let ⟨_,hn,_⟩:=I.loc;hn.lt
theorem Inv.sz(I:Inv X pins σ H s):X.s₀.heap.objs.size≤s.heap.objs.size:=Zr I.ok.above (Jl I.lt)
theorem Inv.nofs(I:Inv X pins σ H s)(h:s.heap.objs.size≤a):a∉X.fs:=fun hb=>by
 obtain⟨_,o,ho,_⟩:=I.ok.funs.mem hb;exact absurd (Qd (Qu ho) (Zr I.sz h)) (Jk _)
theorem Inv.cne(I:Inv X pins σ H s):∀x c,X.env.cells.lookup x=some c->c≠X.env.locals:=fun x c e z=>by
 obtain⟨v,o,ho,hd⟩:=I.cell x c e;obtain⟨m,⟨o',es,ep,ho',hd',_⟩,_⟩:=I.loc;rw[z,ho']at ho;cases ho;rw[hd']at hd;cases hd
theorem Inv.funs(I:Inv X pins σ H s):s.heap.FunFrames X.base X.outer:=by
 have all:∀(l:List Env),(∀b∈nR l,b∈X.fs)->X.s₀.heap.FunFrames X.base l->s.heap.FunFrames X.base l:=by
  intro l
  induction l with
  |nil=>intro _ _;trivial
  |cons env r ih=>
   intro hs hl;obtain⟨hk,⟨L,o,hf,hn,ho,hd⟩,hr⟩:=hl;have hL:L∈X.fs:=hs L (by unfold nR;rw[Jg,hf];exact Zq)
   obtain⟨sl,e⟩:=I.base.slot L o ho (I.ok.frf L hL) hL fun z=>I.ok.exfs L z hL
   exact⟨hk,⟨L,_,hf,hn,e,hd⟩,ih (fun b hb=>hs b (by unfold nR;rw[Jg,hf];exact Qr _ hb)) hr⟩
 exact all X.outer (fun _ hb=>hb) I.ok.funs
theorem Inv.stack(I:Inv X pins σ H s):s.heap.FunFrames X.base X.stack:=by
 rcases I.ok.stk with e|⟨e,hf⟩
 ·rw[e];exact I.funs
 ·rw[e]
  obtain⟨m,hn,_⟩:=I.loc;refine .cons (by rw[I.ok.kind];decide) hf hn ?_ I.funs
  exact Heap.get?_none_of_le (Zr I.ok.bsz I.ok.above)
theorem Inv.stkSub(I:Inv X pins σ H s):∀b∈nR X.stack,b∈X.env.locals::X.fs:=fun b hb=>by
 rcases I.ok.stk with e|⟨e,hf⟩
 ·rw[e]at hb;exact Qr _ hb
 ·rw[e]at hb
  unfold nR at hb;rw[Jg,hf]at hb;exact hb
theorem Inv.stkFree(I:Inv X pins σ H s):∀b∈nR X.stack,H b=none:=fun b hb=>by
 rcases Ql.mp (I.stkSub b hb)with e|hb
 ·rw[e];exact I.free
 ·obtain⟨_,o,ho,_⟩:=I.ok.funs.mem hb
  exact I.base.free b o ho (I.ok.frf b hb) fun z=>I.ok.exfs b z hb
theorem Inv.step(I:Inv X pins σ H s)
  (hch:∀b∈ch,(b∈X.ex\/X.s₀.heap.objs.size≤b)/\b≠X.env.locals/\(∀x c,X.env.cells.lookup x=some c->c≠b)/\∀p∈X.pn++pins,p.1≠b)
  (keep:∀b o,b≠X.env.locals->b∉X.fs->b∉ch->s.heap.get? b=some o->H b=none->h'.get? b=some o)
  (slot:∀b o,b≠X.env.locals->b∈X.fs->b∉ch->s.heap.get? b=some o->H b=none->∃sl,h'.get? b=some {o with slots:=sl})(free:∀b o,b∉ch->s.heap.get? b=some o->H b=none->H' b=none)
  (there:∀b o,b∉ch->s.heap.get? b=some o->∃o',h'.get? b=some o')
  (tups:∀b xs,H b=some (.tup xs)->H' b=some (.tup xs))(frzs:∀b o u,H b=some (.frz o u)->H' b=some (.frz o u))(tbls:∀b ps,H b=some (.tbl ps)->∃more,H' b=some (.tbl (ps++more)))
  (ns:∀m,s.heap.Ns X.env.locals m->h'.Ns X.env.locals m)(hok:oN X.prog X.w H' h')(hg:AllBare g'):
  Inv X pins σ H' {s with heap:=h',gens:=g',drawn:=d',toks:=t'}:=by
 have neL:∀b o,X.s₀.heap.get? b=some o->b≠X.env.locals:=fun b o e=>Qi (Qd (Qu e) I.ok.above)
 have neC:∀b o,X.s₀.heap.get? b=some o->b∉X.ex->b∉ch:=fun b o e hx hb=>by
  rcases(hch b hb).1 with z|z
  ·exact hx z
  ·exact absurd (Qd (Qu e) z) (Jk _)
 have cellK:∀x c,X.env.cells.lookup x=some c->∀v,s.heap.IsCell c v->h'.IsCell c v:=fun x c e v ⟨o,ho,hd⟩=>by
  have nch:c∉ch:=fun z=>(hch c z).2.2.1 x c e rfl
  by_cases hc:c∈X.fs
  ·obtain⟨sl,q⟩:=slot c o (I.cne x c e) hc nch ho (I.freeC x c e)
   exact⟨_,q,hd⟩
  ·exact⟨o,keep c o (I.cne x c e) hc nch ho (I.freeC x c e),hd⟩
 refine⟨I.ok,I.os,hg,⟨fun b o e n hb hx=>?_,fun b o e n hb hx=>?_,fun b o e n hx=>?_,fun b o e hx=>?_,fun b xs e=>tups b xs (I.base.tups b xs e),fun b o xs e=>frzs b o xs (I.base.frzs b o xs e),fun b ps e=>?_⟩,?_,fun x c e=>?_,?_,fun x c e=>?_,fun p hp=>?_,hok,I.len⟩
 ·exact keep b o (neL b o e) hb (neC b o e hx) (I.base.keep b o e n hb hx) (I.base.free b o e n hx)
 ·obtain⟨sl,e1⟩:=I.base.slot b o e n hb hx
  obtain⟨sl',e2⟩:=slot b _ (neL b o e) hb (neC b o e hx) e1 (I.base.free b o e n hx);exact⟨sl',e2⟩
 ·obtain⟨o',e1⟩:=I.base.there b o e hx
  exact free b o' (neC b o e hx) e1 (I.base.free b o e n hx)
 ·obtain⟨o',e1⟩:=I.base.there b o e hx
  exact there b o' (neC b o e hx) e1
 ·obtain⟨m1,e1⟩:=I.base.tbls b ps e
  obtain⟨m2,e2⟩:=tbls b _ e1;exact⟨m1++m2,by rw[e2,Array.append_assoc]⟩
 ·obtain⟨m,hn,hl⟩:=I.loc
  refine⟨m,ns m hn,fun i x v e1 e2 e3=>?_⟩
  obtain⟨u,r,l⟩:=hl i x v e1 e2 e3;refine⟨u,r,?_⟩
  rcases l with l|⟨k,c,e,z⟩
  ·exact .inl l
  ·exact .inr ⟨k,c,e,cellK x c e _ z⟩
 ·obtain⟨v,z⟩:=I.cell x c e
  exact⟨v,cellK x c e v z⟩
 ·obtain⟨m,⟨o,_,_,ho,_⟩,_⟩:=I.loc
  exact free _ o (fun z=>(hch _ z).2.1 rfl) ho I.free
 ·obtain⟨v,o,ho,hd⟩:=I.cell x c e
  exact free c o (fun z=>(hch c z).2.2.1 x c e rfl) ho (I.freeC x c e)
 ·obtain⟨e,n,ne,nf,d⟩:=I.pin p hp
  have nch:p.1∉ch:=fun z=>(hch p.1 z).2.2.2 p hp rfl
  exact⟨keep p.1 p.2 ne nf nch e n,free p.1 p.2 nch e n,ne,nf,d⟩
theorem Inv.un(I:Inv X pins σ H s)(u:Un X.fs [] H H' s.heap h')(hok:oN X.prog X.w H' h'):Inv X pins σ H' {s with heap:=h',toks:=t'}:=by
 obtain⟨m,⟨o,es,ep,ho,r⟩,_⟩:=id I.loc;obtain⟨sl,hL⟩:=u.any ho I.free (by simp)
 exact I.step (g':=s.gens) (d':=s.drawn) (ch:=[]) (fun _ z=>nomatch z) (fun b o _ hb _ e n=>u.keep b o e n hb (by simp)) (fun b o _ hb _ e n=>u.slot b o e n hb (by simp)) (fun b o _ e n=>u.free b o e n (by simp)) (fun b o _ e=>u.there b o e (by simp)) u.tups u.frzs u.tbls (fun m' hm=>by
  obtain⟨o',es',ep',ho',r'⟩:=hm;rw[ho]at ho';cases ho';exact⟨_,es',ep',hL,r'⟩) hok I.bare
theorem Inv.call(I:Inv X pins σ H s)(u:Un (nR X.stack) ch H H' s.heap h')(hok:oN X.prog X.w H' h')(hg:AllBare g')
  (hch:∀b∈ch,(b∈X.ex\/X.s₀.heap.objs.size≤b)/\b≠X.env.locals/\(∀x c,X.env.cells.lookup x=some c->c≠b)/\∀p∈X.pn++pins,p.1≠b):
  Inv X pins σ H' {s with heap:=h',gens:=g',drawn:=d',toks:=t'}:=by
 obtain⟨m,⟨o,es,ep,ho,r⟩,_⟩:=id I.loc;obtain⟨sl,hL⟩:=u.any ho I.free fun z=>(hch _ z).2.1 rfl
 exact I.step (ch:=ch) hch (fun b o hL hb hc e n=>u.keep b o e n (fun z=>(Ql.mp (I.stkSub b z)).elim hL hb) hc) (fun b o _ _ hc e n=>u.any e n hc) (fun b o hc e n=>u.free b o e n hc) (fun b o hc e=>u.there b o e hc) u.tups u.frzs u.tbls (fun m' hm=>by
  obtain⟨o',es',ep',ho',r'⟩:=hm;rw[ho]at ho';cases ho';exact⟨_,es',ep',hL,r'⟩) hok hg
theorem Inv.turned(I:Inv X pins σ H s)(k:∀b o,b≠it->s.heap.get? b=some o->h'.get? b=some o)(hn:H it=none)(hL:it≠X.env.locals)
  (h1:it∈X.ex\/X.s₀.heap.objs.size≤it)(h2:∀x c,X.env.cells.lookup x=some c->c≠it)(h3:∀p∈X.pn++pins,p.1≠it):Inv X pins σ H {s with heap:=h',toks:=t'}:=by
 have nit:∀b u,H b=some u->b≠it:=fun b u e z=>by rw[z,hn]at e;cases e
 refine I.step (g':=s.gens) (d':=s.drawn) (ch:=[it]) (fun b hb=>?_) (fun b o _ _ hc e _=>k b o (fun z=>hc (by simp[z])) e) (fun b o _ _ hc e _=>⟨o.slots,k b o (fun z=>hc (by simp[z])) e⟩) (fun _ _ _ _ n=>n)
  (fun b o hc e=>⟨o,k b o (fun z=>hc (by simp[z])) e⟩) (fun _ _ e=>e) (fun _ _ _ e=>e) (fun b ps e=>⟨#[],by rw[e];simp⟩) (fun m hm=>?_) (fun b u e=>?_) I.bare
 ·have e:b=it:=by simpa using hb
  subst e;exact⟨h1,hL,h2,h3⟩
 ·obtain⟨o,es,ep,ho,r⟩:=hm
  exact⟨o,es,ep,k _ o (Zm hL) ho,r⟩
 ·refine(I.hok b u e).stay (fun c v hc q=>k c v ?_ q) (fun _ q=>q) fun _ _ q=>q
  rcases hc with z|z
  ·rw[z];exact nit b u e
  ·exact nit c _ z
theorem Inv.tok(I:Inv X pins σ H s)(t:Nat):Inv X pins σ H {s with toks:=t}:=I.un (h':=s.heap) (t':=t) Un.refl I.hok
theorem Inv.kept(I:Inv X pins σ H s)(k:∀b u,s.heap.get? b=some u->h'.get? b=some u):Inv X pins σ H {s with heap:=h',toks:=t'}:=I.un (Un.kept k) (I.hok.kept k)
theorem Inv.laid(I:Inv X pins σ H s)(k:∀b u,s.heap.get? b=some u->h'.get? b=some u)(hp:s.heap.objs.size≤a)(new:K2 X.prog X.w (upd H a o) h' a o):
  Inv X pins σ (upd H a o) {s with heap:=h',toks:=t'}:=I.un (Un.laid k hp (I.hok.fresh hp)) (I.hok.laid k hp new)
theorem Inv.write{x e:Addr}(I:Inv X pins σ H s)(mu:vA (H x))(he:e=x\/H e=some (.own x))(k:∀b u,b≠e->s.heap.get? b=some u->h'.get? b=some u)(heo:∃u,h'.get? e=some u)
  (new:K2 X.prog X.w (upd H x o) h' x o):Inv X pins σ (upd H x o) {s with heap:=h',toks:=t'}:=I.un (Un.write mu he k heo) (I.hok.write mu he k heo new)
theorem Inv.pins_of{pins':OX}(I:Inv X pins σ H s)(h:∀p∈pins',s.heap.get? p.1=some p.2/\H p.1=none/\p.1≠X.env.locals/\p.1∉X.fs/\∀v,p.2.data≠.cell v):Inv X pins' σ H s:=
 ⟨I.ok,I.os,I.bare,I.base,I.loc,I.cell,I.free,I.freeC,fun p hp=>(Yr.mp hp).elim (fun z=>I.pin p (List.mem_append_left _ z)) (h p),I.hok,I.len⟩
theorem Gn(hN:N.Nodup)(a:N[i]? =some x)(b:N[j]? =some x):i=j:=by
 obtain⟨h1,e1⟩:=Qp.mp a;obtain⟨h2,e2⟩:=Qp.mp b;exact(List.getElem_inj hN).mp (e1.trans e2.symm)
theorem LR{Q:Unit->Shared->Prop}(I:Inv X pins σ H s)(hN:X.N.Nodup)(hi:X.N[i]? =some x)(hx:Loc X.env.scope x)(r:E3 v u)
  (h:∀s',Inv X pins (σ.set i (some v)) H s'->(∃a,Heap.SameBut a s.heap s'.heap/\(a=X.env.locals\/X.env.cells.lookup x=some a))->Q () s')(hf:X.fn x=true\/X.env.scope.names.lookup x=some .local:=by first|exact .inl rfl|exact .inr rfl|assumption):wpAny M A (storeName X.env x u) Q E s:=by
 obtain⟨m,hn,hl⟩:=id I.loc;have hcls:(X.env.scope.kind==.class||(X.env.scope.kind==.module&&X.env.locals !=X.env.globals))=false:=by rw[I.ok.kind];rfl
 have hiσ:i<σ.length:=by rw[I.len];exact(Qp.mp hi).1
 have cne:=I.cne
 have tracked:∀{a:Addr}{h':Heap},(∃o,s.heap.get? a=some o/\H a=none)->Heap.SameBut a s.heap h'->oN X.prog X.w H h':=fun{a h'} ha hs b ob e=>by
  obtain⟨_,_,hfree⟩:=ha;refine(I.hok b ob e).stay (fun c w' hc q=>(hs.2 c ?_).trans q) (fun _ q=>q) fun _ _ q=>q
  rintro rfl
  rcases hc with rfl|hc
  ·rw[hfree]at e;cases e
  ·rw[hfree]at hc;cases hc
 rcases hx with hk|hk
 ·refine wpAny_storeName_local hk hn (fun h' hn' hs=>?_) hcls
  obtain⟨oL,_,_,hoL,_⟩:=id hn;refine h _ ⟨I.ok,I.os,I.bare,⟨fun b o e n hb hx=>?_,fun b o e n hb hx=>?_,I.base.free,fun b o e hx=>?_,I.base.tups,I.base.frzs,I.base.tbls⟩,⟨_,hn',fun j y v' e1 e2 e3=>?_⟩,fun y c e=>?_,I.free,I.freeC,fun p hp=>?_,tracked ⟨oL,hoL,I.free⟩ hs,by simpa using I.len⟩ ⟨_,hs,.inl rfl⟩
  ·exact(hs.2 b (Qi (Qd (Qu e) I.ok.above))).trans (I.base.keep b o e n hb hx)
  ·obtain⟨sl,e1⟩:=I.base.slot b o e n hb hx
   exact⟨sl,(hs.2 b (Qi (Qd (Qu e) I.ok.above))).trans e1⟩
  ·obtain⟨o',e1⟩:=I.base.there b o e hx
   exact⟨o',(hs.2 b (Qi (Qd (Qu e) I.ok.above))).trans e1⟩
  ·by_cases hj:j=i
   ·subst hj
    rw[hi]at e1;cases e1;rw[Zo hiσ]at e2;cases e2;exact⟨u,r,.inl ⟨hk,by simp⟩⟩
   ·rw[Qc (Zm hj)]at e2
    obtain⟨u',r',q⟩:=hl j y v' e1 e2 e3;refine⟨u',r',?_⟩
    rcases q with⟨k,e⟩|⟨k,c,e,z⟩
    ·refine .inl ⟨k,?_⟩
     have:y≠x:=fun e=>hj (Gn hN e1 (e ▸ hi))
     simp[this,e]
    ·exact .inr ⟨k,c,e,z.sameBut hs (cne y c e)⟩
  ·obtain⟨w',z⟩:=I.cell y c e
   exact⟨w',z.sameBut hs (cne y c e)⟩
  ·obtain⟨e,n,ne,nf,d⟩:=I.pin p hp
   exact⟨(hs.2 p.1 ne).trans e,n,ne,nf,d⟩
 ·have hfn:X.fn x=true:=by
   rcases hf with z|z
   ·exact z
   ·rw[z]at hk;cases hk
  obtain⟨c,hc⟩:=I.ok.has x (.inl hk);obtain⟨w',z⟩:=I.cell x c hc;refine wpAny_storeName_cell I.ok.kind hk hc z (fun h' hc' hs=>?_)
  obtain⟨oc,hoc,hocd⟩:=id z;refine h {s with heap:=h'} ⟨I.ok,I.os,I.bare,⟨fun b o e n hb hx=>?_,fun b o e n hb hx=>?_,I.base.free,fun b o e hx=>?_,I.base.tups,I.base.frzs,I.base.tbls⟩,⟨m,hn.sameBut hs (Zm (cne x c hc)),fun j y v' e1 e2 e3=>?_⟩,fun y c' e=>?_,I.free,I.freeC,fun p hp=>?_,tracked ⟨oc,hoc,I.freeC x c hc⟩ hs,by simpa using I.len⟩ ⟨c,hs,.inr hc⟩
  ·exact(hs.2 b (Qi (Qd (Qu e) (I.ok.cab x c hfn hc)))).trans (I.base.keep b o e n hb hx)
  ·obtain⟨sl,e1⟩:=I.base.slot b o e n hb hx
   exact⟨sl,(hs.2 b (Qi (Qd (Qu e) (I.ok.cab x c hfn hc)))).trans e1⟩
  ·obtain⟨o',e1⟩:=I.base.there b o e hx
   exact⟨o',(hs.2 b (Qi (Qd (Qu e) (I.ok.cab x c hfn hc)))).trans e1⟩
  ·by_cases hj:j=i
   ·subst hj
    rw[hi]at e1;cases e1;rw[Zo hiσ]at e2;cases e2;exact⟨u,r,.inr ⟨.inl hk,c,hc,hc'⟩⟩
   ·rw[Qc (Zm hj)]at e2
    obtain⟨u',r',q⟩:=hl j y v' e1 e2 e3;refine⟨u',r',?_⟩
    rcases q with q|⟨k,c',e,z'⟩
    ·exact .inl q
    ·refine .inr ⟨k,c',e,z'.sameBut hs ?_⟩
     rintro rfl;exact hj (Gn hN e1 (I.ok.inj _ _ _ e hc ▸ hi))
  ·by_cases hcc:c'=c
   ·subst hcc;exact⟨_,hc'⟩
   ·obtain⟨w2,z2⟩:=I.cell y c' e
    exact⟨w2,z2.sameBut hs hcc⟩
  ·obtain⟨e,n,ne,nf,d⟩:=I.pin p hp
   refine⟨(hs.2 p.1 ?_).trans e,n,ne,nf,d⟩;intro q;rw[q,hoc]at e;have q':oc=p.2:=Yg e;exact d w' (by rw[←q'];exact hocd)
theorem Bl{Q:Unit->Shared->Prop}(I:Inv X pins σ H s)(hN:X.N.Nodup)(hi:X.N[i]? =some x)(hx:Loc X.env.scope x)(r:E3 v u)
  (h:∀s',Inv X pins (σ.set i (some v)) H s'->Q () s')(hf:X.fn x=true\/X.env.scope.names.lookup x=some .local:=by first|exact .inl rfl|exact .inr rfl|assumption):wpAny M A (storeName X.env x u) Q E s:=
 LR I hN hi hx r (fun s' I' _=>h s' I') hf
theorem Inv.call'(I:Inv X pins σ H s)(ho:s'.os=s.os)(u:Un (nR X.stack) ch H H' s.heap s'.heap)(hok:oN X.prog X.w H' s'.heap)(hg:AllBare s'.gens)
  (hch:∀b∈ch,(b∈X.ex\/X.s₀.heap.objs.size≤b)/\b≠X.env.locals/\(∀x c,X.env.cells.lookup x=some c->c≠b)/\∀p∈X.pn++pins,p.1≠b):Inv X pins σ H' s':=by
 obtain⟨h',g',d',t',o'⟩:=s';have e:o'=s.os:=ho;subst e;exact I.call (g':=g') (t':=t') (d':=d') u hok hg hch
end
abbrev XK:=Value->Option Addr->Hp->Prop
abbrev St:=List (Option V)
variable{σ:St}
abbrev VK:=V->Hp->Prop
abbrev TE:=St->Hp->VK->Prop
variable{ta tb te:TE}
abbrev TT:=St->Hp->(Bool->Hp->Prop)->Prop
variable{tc:TT}
abbrev TA:=St->Hp->(List V->Hp->Prop)->Prop
structure Ends where
 nx:St->Hp->Prop
 rt:VK
 bk:St->Hp->Prop:=fun _ _=>False
 ct:St->Hp->Prop:=fun _ _=>False
abbrev TS:=Ends->St->Hp->Prop
def EP(X:Cx)(pins:OX)(σ:St)(Q:VK)(u:Value)(s':Shared):Prop:=∃v H',Inv X pins σ H' s'/\E3 v u/\Q v H'
def TP(X:Cx)(pins:OX)(σ:St)(Q:Bool->Hp->Prop)(b:Bool)(s':Shared):Prop:=∃H',Inv X pins σ H' s'/\Q b H'
def AP(X:Cx)(pins:OX)(σ:St)(Q:List V->Hp->Prop)(us:List Value)(s':Shared):Prop:=∃vs H',Inv X pins σ H' s'/\D4 vs us/\Q vs H'
def SP(X:Cx)(pins:OX)(D:Ends)(f:Flow)(s':Shared):Prop:=
 match f with
 |.next=>∃σ' H',Inv X pins σ' H' s'/\D.nx σ' H'
 |.brk=>∃σ' H',Inv X pins σ' H' s'/\D.bk σ' H'
 |.cont=>∃σ' H',Inv X pins σ' H' s'/\D.ct σ' H'
 |.ret u=>∃v σ' H',Inv X pins σ' H' s'/\E3 v u/\D.rt v H'
def PE(X:Cx)(e:Expr)(t:TE):Prop:=
 ∀(pins:OX) (s:Shared) (σ:St) (H:Hp) (Q:VK),Inv X pins σ H s->t σ H Q->wpAny (model X.prog X.w) X.A (eval e X.env) (EP X pins σ Q) X.xe s
def PT(X:Cx)(e:Expr)(t:TT):Prop:=
 ∀(pins:OX) (s:Shared) (σ:St) (H:Hp) (Q:Bool->Hp->Prop),Inv X pins σ H s->t σ H Q->wpAny (model X.prog X.w) X.A (isTrue e X.env (eval e X.env)) (TP X pins σ Q) X.xe s
def PW(X:Cx)(e:Expr)(t:TT):Prop:=
 ∀(whole:Sem Value) (pins:OX) (s:Shared) (σ:St) (H:Hp) (Q:Bool->Hp->Prop),Inv X pins σ H s->t σ H Q->wpAny (model X.prog X.w) X.A (isTrue e X.env whole) (TP X pins σ Q) X.xe s
theorem PW.pt{t:TT}(h:PW X e t):PT X e t:=h _
def PA(X:Cx)(es:List Expr)(t:TA):Prop:=
 ∀(pos:Pos) (pins:OX) (s:Shared) (σ:St) (H:Hp) (Q:List V->Hp->Prop),Inv X pins σ H s->t σ H Q->wpAny (model X.prog X.w) X.A (spliced (backTo pos (starEach es X.env))) (AP X pins σ Q) X.xe s
def PS(X:Cx)(st:Stmt)(t:TS):Prop:=
 ∀(pins:OX) (s:Shared) (σ:St) (H:Hp) (D:Ends),Inv X pins σ H s->t D σ H->wpAny (model X.prog X.w) X.A (exec st X.env) (SP X pins D) X.xe s
def pQ(X:Cx)(st:List Stmt)(t:TS):Prop:=
 ∀(pins:OX) (s:Shared) (σ:St) (H:Hp) (D:Ends),Inv X pins σ H s->t D σ H->wpAny (model X.prog X.w) X.A (execs st X.env) (SP X pins D) X.xe s
theorem g6{t:Sem α}{Q Q':α->Shared->Prop}(h:wpAny M A t Q E s)(hQ:∀a s,Q a s->Q' a s):wpAny M A t Q' E s:=Qe h hQ fun _ _ x=>x
section
theorem bin{a b:Expr}(ha:PE X a ta)(hb:PE X b tb){R:V->V->Hp->Prop}(I:Inv X pins σ H s)(h:ta σ H fun x H1=>tb σ H1 fun y H2=>R x y H2)
  {Q:α->Shared->Prop}{f:Value->Value->Sem α}
  (hf:∀v u s2 x y H2,Inv X pins σ H2 s2->E3 x v->E3 y u->R x y H2->wpAny (model X.prog X.w) X.A (f v u) Q X.xe s2):
  wpAny (model X.prog X.w) X.A (eval a X.env) (fun v s₁=>wpAny (model X.prog X.w) X.A (eval b X.env) (fun u s₂=>wpAny (model X.prog X.w) X.A (f v u) Q X.xe s₂) X.xe s₁) X.xe s:=by
 refine g6 (ha pins s σ H _ I h) fun v s1 ⟨x,H1,I1,r1,q1⟩=>?_
 refine g6 (hb pins s1 σ H1 _ I1 q1) fun u s2 ⟨y,H2,I2,r2,q2⟩=>?_
 exact hf v u s2 x y H2 I2 r1 r2 q2
def V0(i:Nat):TE:=fun σ H Q=>∃v,σ[i]? =some (some v)/\Q v H
def tC(v:V):TE:=fun _ H Q=>Q v H
theorem Go{pos:Pos}(hN:X.N[i]? =some x)(hv:sZ X.env.scope x)(hd:(x==("__debug__":Str))=false:=by decide)(hcd:(x==("__classdict__":Str))=false:=by decide):PE X (.Name x pos) (V0 i):=by
 intro pins s σ H Q I h;obtain⟨v,e,h⟩:=h;obtain⟨m,hn,hl⟩:=I.loc;obtain⟨u,r,l⟩:=hl i x v hN e hv;have fin:EP X pins σ Q u s:=⟨v,H,I,r,h⟩
 rcases l with⟨hk,hm⟩|⟨hk,c,hc,hcell⟩
 ·exact wpAny_Name (wpAny_loadName_local I.ok.kind hk hn hm fin) hd
 ·rcases hk with hk|hk
  ·exact wpAny_Name (wpAny_loadName_cell I.ok.kind hk hc hcell fin) hd
  ·exact wpAny_Name (wpAny_loadName_free I.ok.kind hk hc hcell fin hcd) hd
theorem LS{i j pos}:PE X (.Constant (.int i) j pos) (tC (.int i)):=fun _ _ _ H _ I h=>Xf ⟨.int i,H,I.tok _,⟨_,rfl⟩,h⟩
theorem LU{b j pos}:PE X (.Constant (.bool b) j pos) (tC (.bl b)):=fun _ _ _ H _ I h=>Constant_bool ⟨.bl b,H,I,rfl,h⟩
theorem LV{j pos}:PE X (.Constant .none j pos) (tC .non):=fun _ _ _ H _ I h=>Constant_none ⟨.non,H,I,rfl,h⟩
theorem Se{x j pos}:PE X (.Constant (.str x) j pos) (tC (.str x)):=fun _ _ _ H _ I h=>Calls.Constant_str ⟨.str x,H,I.tok _,⟨_,rfl⟩,h⟩
def Gl(X:Cx)(x:Str):Prop:=X.env.kindOf x=some .globalImplicit
theorem Dc{pos:Pos}(I:Inv X pins σ H s)(hg:Gl X x)(hm:X.mg x=some u)(h:Q u s)
  (hd:(x==("__debug__":Str))=false:=by decide):wpAny (model X.prog X.w) X.A (eval (.Name x pos) X.env) Q E s:=
 Calls.Name_function_global I.ok.kind hg (Calls.loadGlobal_global (by rw[I.ok.glob];exact I.mod.glob.keeps I.bk) hm h) hd
theorem BL{pos:Pos}(I:Inv X pins σ H s)(hg:Gl X x)(hm:X.mg x=none)(hv:bootBuiltins x=some u)(h:Q u s)
  (hn:x≠"__name__":=by decide)(hd:(x==("__debug__":Str))=false:=by decide):wpAny (model X.prog X.w) X.A (eval (.Name x pos) X.env) Q E s:=by
 obtain⟨mb,h1,h2⟩:=I.mod.blt;exact Calls.Name_function_global I.ok.kind hg (Calls.loadGlobal_builtin (by rw[I.ok.glob];exact I.mod.glob.keeps I.bk) hm (by rw[I.ok.blt];exact h1.keeps I.bk) ((h2 x hn).trans hv) h) hd
theorem LX{pos:Pos}(hg:Gl X x)(hm:X.mg x=some u)(r:E3 v u)(hd:(x==("__debug__":Str))=false:=by decide):PE X (.Name x pos) (tC v):=
 fun _ _ _ H _ I h=>Dc I hg hm ⟨v,H,I,r,h⟩ hd
theorem Ew{pos:Pos}(hg:Gl X x)(hm:X.mg x=none)(hv:bootBuiltins x=some u)(r:E3 v u)(hn:x≠"__name__":=by decide)(hd:(x==("__debug__":Str))=false:=by decide):PE X (.Name x pos) (tC v):=
 fun _ _ _ H _ I h=>BL I hg hm hv ⟨v,H,I,r,h⟩ hn hd
variable{a b:Expr}{pos:Pos}
def PC(X:Cx)(op:CmpOp)(a b:Expr)(t:TE):Prop:=
 ∀(pins:OX) (s:Shared) (σ:St) (H:Hp) (Q:VK),Inv X pins σ H s->t σ H Q->
  wpAny (model X.prog X.w) X.A (eval a X.env) (fun v s₁=>wpAny (model X.prog X.w) X.A (eval b X.env) (fun u s₂=>wpAny (model X.prog X.w) X.A (compareOp op v u) (EP X pins σ Q) X.xe s₂) X.xe s₁) X.xe s
theorem sE(b:Expr)(h:op≠.In)(h2:op≠.NotIn):behindInMarks op b=false:=by
 have e1:(op==CmpOp.In)=false:=by cases op<;>first|rfl|exact absurd rfl h
 have e2:(op==CmpOp.NotIn)=false:=by cases op<;>first|rfl|exact absurd rfl h2
 cases b<;>simp[behindInMarks,e1,e2]
def tB(t:TE):TT:=fun σ H Q=>t σ H fun x H1=>∃c,x=.bl c/\Q c H1
theorem Sf{t:TE}(h:PC X op a b t)(h1:behindInMarks op b=false:=by first|exact sE _ (by decide) (by decide)|rfl):PT X (.Compare a [op] [b] pos) (tB t):=by
 intro pins s σ H Q I hw;refine wpAny_isTrue_Compare1 (g6 (h pins s σ H _ I hw) fun v s1 h1=>g6 h1 fun u s2 h2=>g6 h2 fun c s3 ⟨x,H1,I1,r1,q1⟩=>?_) h1
 obtain⟨d,rfl,q⟩:=q1;cases r1;exact Yl ⟨H1,I1,q⟩
theorem Sg{t:TE}(h:PE X e t)(he:∀whole,isTrue e X.env whole=(do let v←whole;standAt e.pos;holding [v] (truthy v)):=by intro _;rfl):PT X e (tB t):=by
 intro pins s σ H Q I hw;refine isTrue_plain (g6 (h pins s σ H _ I hw) fun v s1 ⟨x,H1,I1,r1,q1⟩=>?_) (he _)
 obtain⟨d,rfl,q⟩:=q1;cases r1;exact Yl ⟨H1,I1,q⟩
variable{tA tB':TT}{rest:List Expr}
def LY(t u:TT):TT:=fun σ H Q=>t σ H fun c H1=>if c=true then u σ H1 Q else Q false H1
def xQ(t u:TT):TT:=fun σ H Q=>t σ H fun c H1=>if c=true then Q true H1 else u σ H1 Q
def Sh(t:TT):TT:=fun σ H Q=>t σ H fun c H1=>Q (!c) H1
theorem Si(ha:PT X a tA):PW X (.BoolOp .And [a] pos) tA:=by
 intro wh pins s σ H Q I h;refine isTrue_and (g6 (ha pins s σ H Q I h) fun c s1 e=>?_)
 cases c with
 |true=>exact isTrue_and_nil e
 |false=>exact e
theorem Sj(ha:PT X a tA):PW X (.BoolOp .Or [a] pos) tA:=by
 intro wh pins s σ H Q I h;refine isTrue_or (g6 (ha pins s σ H Q I h) fun c s1 e=>?_)
 cases c with
 |false=>exact isTrue_or_nil e
 |true=>exact e
theorem Sk(ha:PT X a tA)(hb:PW X (.BoolOp .And (b::rest) pos) tB'):PW X (.BoolOp .And (a::b::rest) pos) (LY tA tB'):=by
 intro wh pins s σ H Q I h;refine isTrue_and (g6 (ha pins s σ H _ I h) fun c s1 ⟨H1,I1,q1⟩=>?_)
 cases c with
 |true=>exact hb wh pins s1 σ H1 Q I1 q1
 |false=>exact⟨H1,I1,q1⟩
theorem Sl(ha:PT X a tA)(hb:PW X (.BoolOp .Or (b::rest) pos) tB'):PW X (.BoolOp .Or (a::b::rest) pos) (xQ tA tB'):=by
 intro wh pins s σ H Q I h;refine isTrue_or (g6 (ha pins s σ H _ I h) fun c s1 ⟨H1,I1,q1⟩=>?_)
 cases c with
 |true=>exact⟨H1,I1,q1⟩
 |false=>exact hb wh pins s1 σ H1 Q I1 q1
theorem Sm(ha:PT X a tA):PT X (.UnaryOp .Not a pos) (Sh tA):=by
 intro pins s σ H Q I h;exact isTrue_not (ha pins s σ H (fun c H1=>Q (!c) H1) I h)
def Sn(ta tb:TE):TE:=fun σ H Q=>ta σ H fun x H1=>∃c,x=.bl c/\if c=true then tb σ H1 Q else Q (.bl false) H1
def So(ta:TE):TE:=fun σ H Q=>ta σ H fun x H1=>∃c,x=.bl c/\Q (.bl (!c)) H1
theorem Sq{op}{t:TE}(h:PE X a t):PE X (.BoolOp op [a] pos) t:=fun pins s σ H Q I hw=>BoolOp_one (h pins s σ H Q I hw)
theorem Sr(ha:PE X a ta)(hb:PE X (.BoolOp .And (b::rest) pos) tb):PE X (.BoolOp .And (a::b::rest) pos) (Sn ta tb):=by
 intro pins s σ H Q I h;refine BoolOp_and (g6 (ha pins s σ H _ I h) fun v s1 ⟨x,H1,I1,r1,q1⟩=>?_)
 obtain⟨c,rfl,q1⟩:=q1;cases r1;refine Yl ?_
 cases c with
 |true=>exact hb pins s1 σ H1 Q I1 q1
 |false=>exact⟨.bl false,H1,I1,rfl,q1⟩
theorem Ss(ha:PE X a ta):PE X (.UnaryOp .Not a pos) (So ta):=by
 intro pins s σ H Q I h;refine UnaryOp_ (g6 (ha pins s σ H _ I h) fun v s1 ⟨x,H1,I1,r1,q1⟩=>?_)
 obtain⟨c,rfl,q1⟩:=q1;cases r1;exact not_of (Yl ⟨.bl (!c),H1,I1,rfl,q1⟩)
end
def oD(K:Qz)(H:Hp)(a:Addr)(xs:List V):Prop:=
 Rd H a (.lst xs)\/
  ∃(o:Obj) (its:Array Value) (n:Nat),K.lookup a=some o/\o.cls=.type "list"/\o.dict=none/\o.data=.seq its n/\its.size≤sizeLine/\D4 xs its.toList
def nZ(K:Qz)(H:Hp)(a:Addr)(xs:List V):Prop:=
 Rd H a (.tup xs)\/
  ∃(o:Obj) (its:Array Value) (n:Nat),K.lookup a=some o/\o.cls=.type "tuple"/\o.dict=none/\o.data=.seq its n/\its.size≤sizeLine/\D4 xs its.toList
def Su:Value->Option V
 |.none=>some .non
 |.bool b=>some (.bl b)
 |.int i _=>some (.int i)
 |.str x _=>some (.str x)
 |.bytes b _=>some (.byt b)
 |.float b _=>some (.flt b)
 |.ref a=>some (.ref a)
 |.type n=>some (.ty n)
 |_=>none
theorem E3.abs{x:V}(r:E3 x u):Su u=some x:=by
 cases x with
 |non=>cases r;rfl
 |bl _=>cases r;rfl
 |int _=>obtain⟨t,rfl⟩:=r;rfl
 |str _=>obtain⟨t,rfl⟩:=r;rfl
 |byt _=>obtain⟨t,rfl⟩:=r;rfl
 |flt _=>obtain⟨t,rfl⟩:=r;rfl
 |ref _=>cases r;rfl
 |ty _=>cases r;rfl
theorem E3.inj{x:V}(r:E3 x u)(q:E3 y u):x=y:=Yg (r.abs.symm.trans q.abs)
theorem D4.inj:∀{xs ys:List V}{us:List Value},D4 xs us->D4 ys us->xs=ys
 |_,_,_,.nil,.nil=>rfl
 |_,_,_,.cons r t,.cons r' t'=>by rw[r.inj r',D4.inj t t']
section
variable{xs ys:List V}
theorem Inv.list(I:Inv X pins σ H s)(h:oD X.K H a xs):∃its:List Value,D4 xs its/\PlainL s.heap a its.toArray/\xs.length≤sizeLine:=by
 rcases h with h|⟨o,its,n,hk,hc,hd,hs,hz,r⟩
 ·obtain⟨z,its,n,r,e⟩:=h.ok I.hok
  exact⟨its,r,⟨_,n,e,rfl,rfl,rfl⟩,z⟩
 ·refine⟨its.toList,r,⟨o,n,I.kIn a o hk,hc,hd,by simpa using hs⟩,?_⟩
  have e:=r.length
  simp only[Vj]at e
  omega
theorem Inv.tupleD(I:Inv X pins σ H s)(h:nZ X.K H a xs):∃its:List Value,D4 xs its/\W6 s.heap a its.toArray/\xs.length≤sizeLine:=by
 rcases h with h|⟨o,its,n,hk,hc,hd,hs,hz,r⟩
 ·obtain⟨z,its,r,p⟩:=h.ok I.hok
  exact⟨its,r,p,z⟩
 ·refine⟨its.toList,r,⟨o,I.kIn a o hk,hc,hd,n,by simpa using hs⟩,?_⟩
  have e:=r.length
  simp only[Vj]at e
  omega
theorem Inv.tuple(I:Inv X pins σ H s)(h:nZ X.K H a xs):∃its:List Value,D4 xs its/\IsTup s.heap a its.toArray/\xs.length≤sizeLine:=
 let ⟨its,r,p,z⟩:=I.tupleD h
 ⟨its,r,p.tup,z⟩
theorem Inv.list_inj(I:Inv X pins σ H s)(h:oD X.K H a xs)(h':oD X.K H a ys):xs=ys:=by
 obtain⟨its,r,⟨o,n,e,_,_,d⟩,_⟩:=I.list h;obtain⟨its',r',⟨o',n',e',_,_,d'⟩,_⟩:=I.list h';rw[e]at e';cases e';rw[d]at d';injection d' with d1 _
 have:its=its':=by simpa using Ze Array.toList d1
 subst this;exact r.inj r'
theorem Inv.tuple_inj(I:Inv X pins σ H s)(h:nZ X.K H a xs)(h':nZ X.K H a ys):xs=ys:=by
 obtain⟨its,r,⟨o,e,_,n,d⟩,_⟩:=I.tuple h;obtain⟨its',r',⟨o',e',_,n',d'⟩,_⟩:=I.tuple h';rw[e]at e';cases e';rw[d]at d';injection d' with d1 _
 have:its=its':=by simpa using Ze Array.toList d1
 subst this;exact r.inj r'
end
abbrev Cx.wish(X:Cx)(E:OE):Cx:={X with xe:=E}
abbrev Cx.nox(X:Cx):Cx:=X.wish fun _ _=>False
theorem Cx.Ok.wish(ok:X.Ok)(E:OE):(X.wish E).Ok:=
 ⟨ok.mod,ok.kind,ok.glob,ok.blt,ok.above,ok.inj,ok.has,ok.cab,ok.hd,ok.frames,ok.stk,ok.exf,ok.bs,ok.bsz,ok.noex,ok.exfs,ok.funs,ok.frf⟩
theorem Cx.Ok.unwish(ok:(X.wish E).Ok):X.Ok:=
 ⟨ok.mod,ok.kind,ok.glob,ok.blt,ok.above,ok.inj,ok.has,ok.cab,ok.hd,ok.frames,ok.stk,ok.exf,ok.bs,ok.bsz,ok.noex,ok.exfs,ok.funs,ok.frf⟩
theorem Inv.wish(I:Inv X pins σ H s)(E:OE):Inv (X.wish E) pins σ H s:=⟨I.ok.wish E,I.os,I.bare,I.base,I.loc,I.cell,I.free,I.freeC,I.pin,I.hok,I.len⟩
theorem Inv.unwish(I:Inv (X.wish E) pins σ H s):Inv X pins σ H s:=⟨I.ok.unwish,I.os,I.bare,I.base,I.loc,I.cell,I.free,I.freeC,I.pin,I.hok,I.len⟩
theorem SP.unwish{D:Ends}{f:Flow}(h:SP (X.wish E) pins D f s'):SP X pins D f s':=by
 cases f with
 |next=>obtain⟨σ',H',I,q⟩:=h;exact⟨σ',H',I.unwish,q⟩
 |brk=>obtain⟨σ',H',I,q⟩:=h;exact⟨σ',H',I.unwish,q⟩
 |cont=>obtain⟨σ',H',I,q⟩:=h;exact⟨σ',H',I.unwish,q⟩
 |ret u=>obtain⟨v,σ',H',I,r,q⟩:=h;exact⟨v,σ',H',I.unwish,r,q⟩
theorem PE.nox{t:TE}(h:PE X.nox e t):PE X e t:=fun pins s σ H Q I hw=>
 Qe (h pins s σ H Q (I.wish _) hw) (fun _ _ ⟨v,H',I',r,q⟩=>⟨v,H',I'.unwish,r,q⟩) fun _ _ z=>False.elim z
theorem PT.nox{t:TT}(h:PT X.nox e t):PT X e t:=fun pins s σ H Q I hw=>
 Qe (h pins s σ H Q (I.wish _) hw) (fun _ _ ⟨H',I',q⟩=>⟨H',I'.unwish,q⟩) fun _ _ z=>False.elim z
theorem pQ.nox{st:List Stmt}{t:TS}(h:pQ X.nox st t):pQ X st t:=fun pins s σ H D I hw=>
 Qe (h pins s σ H D (I.wish _) hw) (fun _ _ q=>q.unwish) fun _ _ z=>False.elim z
section
variable{st:Stmt}{rest:List Stmt}{t u:TS}{pos:Pos}
def Sv:TS:=fun D σ H=>D.nx σ H
def Sw(t u:TS):TS:=fun D σ H=>t {D with nx:=u D} σ H
theorem Sy:pQ X [] Sv:=fun _ _ σ H _ I h=>Uu ⟨σ,H,I,h⟩
theorem Ca(h1:PS X st t)(h2:pQ X rest u):pQ X (st::rest) (Sw t u):=by
 intro pins s σ H D I h;refine wpAny_execs_cons (g6 (h1 pins s σ H {D with nx:=u D} I h) fun f s1 q=>?_)
 cases f with
 |next=>
  obtain⟨σ',H',I',q⟩:=q;exact h2 pins s1 σ' H' D I' q
 |ret v=>exact q
 |brk=>exact q
 |cont=>exact q
theorem LZ(h1:PS X st t):pQ X [st] t:=by
 intro pins s σ H D I h;refine wpAny_execs_cons (g6 (h1 pins s σ H D I h) fun f s1 q=>?_)
 cases f with
 |next=>exact Uu q
 |ret v=>exact q
 |brk=>exact q
 |cont=>exact q
theorem Inv.quiet(I:Inv X pins σ H s):interactive X.env=false:=by simp[interactive,I.ok.kind]
def Sz(te:TE):TS:=fun D σ H=>te σ H fun _ H1=>D.nx σ H1
theorem Gp(he:PE X e te)(hs:swapsWith e none pos.line X.env=pure false:=by rfl):PS X (.Expr e pos) (Sz te):=by
 intro pins s σ H D I h;exact wpAny_Expr_any (g6 (he pins s σ H _ I h) fun v s1 ⟨x,H1,I1,r1,q1⟩=>⟨σ,H1,I1,q1⟩) I.quiet hs
def TB(te:TE):TS:=fun D σ H=>te σ H D.rt
theorem La(he:PE X e te):PS X (.Return (some e) pos) (TB te):=by
 intro pins s σ H D I h;exact wpAny_Return_some (g6 (he pins s σ H _ I h) fun v s1 ⟨x,H1,I1,r1,q1⟩=>⟨x,σ,H1,I1,r1,q1⟩)
def TC(c:TT)(t u:TS):TS:=fun D σ H=>c σ H fun b H1=>if b=true then t D σ H1 else u D σ H1
theorem Lb{a b:List Stmt}(hc:PT X c tc)(ha:pQ X a t)(hb:pQ X b u):PS X (.If c a b pos) (TC tc t u):=by
 intro pins s σ H D I h;refine wpAny_If (g6 (hc pins s σ H _ I h) fun d s1 ⟨H1,I1,q1⟩=>?_)
 cases d with
 |true=>exact ha pins s1 σ H1 D I1 q1
 |false=>exact hb pins s1 σ H1 D I1 q1
def Lc:TS:=fun _ _ _=>False
theorem TH:PS X st Lc:=fun _ _ _ _ _ _ h=>h.elim
theorem Ld{sts:List Stmt}:pQ X sts Lc:=fun _ _ _ _ _ _ h=>h.elim
end
abbrev TG:=V->St->Hp->(St->Hp->Prop)->Prop
abbrev tE:=List V->St->Hp->(St->Hp->Prop)->Prop
def PG(X:Cx)(target:Expr)(t:TG):Prop:=
 ∀(pins:OX) (s:Shared) (σ:St) (H:Hp) (v:V) (u:Value) (Q:St->Hp->Prop),Inv X pins σ H s->E3 v u->t v σ H Q->
  wpAny (model X.prog X.w) X.A (assign target X.env u) (fun _ s'=>∃σ' H',Inv X pins σ' H' s'/\Q σ' H') X.xe s
def tL(X:Cx)(ts:List Expr)(t:tE):Prop:=
 ∀(pins:OX) (s:Shared) (σ:St) (H:Hp) (vs:List V) (us:List Value) (Q:St->Hp->Prop),Inv X pins σ H s->D4 vs us->t vs σ H Q->
  wpAny (model X.prog X.w) X.A (assignInOrder ((assignEach ts X.env).map (·.2)) us) (fun _ s'=>∃σ' H',Inv X pins σ' H' s'/\Q σ' H') X.xe s
abbrev Ex:=V->V->V->Hp->(Hp->Prop)->Prop
def Gq(X:Cx)(t:Ex):Prop:=
 ∀(pins:OX) (s:Shared) (σ:St) (H:Hp) (o i v:V) (ov iv u:Value) (Q:Hp->Prop),Inv X pins σ H s->E3 o ov->E3 i iv->E3 v u->t o i v H Q->
  wpAny (model X.prog X.w) X.A (setItem ov iv u) (fun _ s'=>∃H',Inv X pins σ H' s'/\Q H') X.xe s
abbrev wL:=V->V->Hp->VK->Prop
def yZ(X:Cx)(op:Operator)(t:wL):Prop:=
 ∀(pins:OX) (s:Shared) (σ:St) (H:Hp) (x y:V) (v u:Value) (Q:VK),Inv X pins σ H s->E3 x v->E3 y u->t x y H Q->
  wpAny (model X.prog X.w) X.A (inplaceOp op v u) (EP X pins σ Q) X.xe s
section
variable{pos:Pos}
def Gr(i:Nat):TG:=fun v σ H Q=>Q (σ.set i (some v)) H
theorem TJ(hN:X.N.Nodup)(hi:X.N[i]? =some x)(hx:Loc X.env.scope x)(hf:X.fn x=true\/X.env.scope.names.lookup x=some .local:=by first|exact .inl rfl|exact .inr rfl|assumption):PG X (.Name x pos) (Gr i):=by
 intro pins s σ H v u Q I r h;exact wpAny_assign_Name (Bl I hN hi hx r (fun s' I'=>⟨_,H,I',h⟩) hf)
def TK:tE:=fun vs σ H Q=>vs=[]/\Q σ H
def TM(t:TG)(u:tE):tE:=fun vs σ H Q=>∃v r,vs=v::r/\t v σ H fun σ' H'=>u r σ' H' Q
theorem TN:tL X [] TK:=by
 intro pins s σ H vs us Q I r h;obtain⟨e,h⟩:=h;subst e;cases r;exact assignInOrder_nil ⟨σ,H,I,h⟩
theorem TQ{t:TG}{u:tE}(h1:PG X e t)(h2:tL X es u)
  (hs:(assignEach (e::es) X.env).map (·.2)=assign e X.env::(assignEach es X.env).map (·.2):=by rfl):tL X (e::es) (TM t u):=by
 intro pins s σ H vs us Q I r h;obtain⟨v,vr,e1,h⟩:=h;subst e1;cases r with
 |cons r rr=>
  rw[hs];refine assignInOrder_cons (g6 (h1 pins s σ H _ _ _ I r h) fun _ s1 ⟨σ1,H1,I1,q1⟩=>?_)
  exact h2 pins s1 σ1 H1 _ _ Q I1 rr q1
def TR(K:Qz)(n:Nat)(t:tE):TG:=fun v σ H Q=>∃a xs,v=.ref a/\nZ K H a xs/\xs.length=n/\t xs σ H Q
theorem TU{t:tE}(hc:X.calm=true)(h:tL X es t)
  (hn:(assignEach es X.env).length=n:=by rfl)(hst:(assignEach es X.env).findIdx? (·.1)=none:=by rfl):PG X (.Tuple es k pos) (TR X.K n t):=by
 intro pins s σ H v u Q I r hw;obtain⟨a,xs,e1,hq,hl,hw⟩:=hw;subst e1;cases r;obtain⟨its,rv,ht,hz⟩:=I.tuple hq;refine assign_Tuple_tuple (I.ok.hd hc) ht (by simp[hn,←hl,rv.length]) hst fun h' hx=>?_
 have I1:Inv X pins σ H {s with heap:=h'}:=I.kept (t':=s.toks) fun b o e=>hx b o (Qi (Qu e)) e
 exact h pins _ σ H xs _ Q I1 (by simpa using rv) hw
def TV(to ti:TE)(t:Ex):TG:=fun v σ H Q=>to σ H fun o H1=>ti σ H1 fun i H2=>t o i v H2 fun H3=>Q σ H3
theorem Lf{o i:Expr}{to ti:TE}{t:Ex}(ho:PE X o to)(hi:PE X i ti)(hs:Gq X t)
  (ha:∀v,assign (.Subscript o i pos) X.env v=(do
   let ov←holding [v] (eval o X.env)
   let iv←holding [v,ov] (eval i X.env)
   standAt pos
   holding [v,ov,iv] (setItem ov iv v)
   release [v,ov,iv] []):=by intro _;rfl):PG X (.Subscript o i pos) (TV to ti t):=by
 intro pins s σ H v u Q I r h;rw[ha];refine Qq (Jb (g6 (ho pins s σ H _ I h) fun ov s1 ⟨x,H1,I1,r1,q1⟩=>?_))
 refine Qq (Jb (g6 (hi pins s1 σ H1 _ I1 q1) fun iv s2 ⟨y,H2,I2,r2,q2⟩=>?_))
 refine Qq (Uy (Qq (Jb (g6 (hs pins s2 σ H2 x y v ov iv u _ I2 r1 r2 r q2) fun _ s3 ⟨H3,I3,q3⟩=>?_))))
 exact wpAny_release ⟨σ,H3,I3,q3⟩
def Gs(te:TE)(g:TG):TS:=fun D σ H=>te σ H fun x H1=>g x σ H1 D.nx
theorem TY{g:TG}(he:PE X e te)(hg:PG X tg g)(hs:swapsWithSole [tg] e pos.line X.env=pure false:=by rfl)(hw:swappedStores [tg] e X.env=pure none:=by rfl)
  (h1:(assignEach [tg] X.env).map (·.2)=[assign tg X.env]:=by rfl):PS X (.Assign [tg] e pos) (Gs te g):=by
 intro pins s σ H D I h;refine wpAny_Assign_stores (g6 (he pins s σ H _ I h) fun v s1 ⟨x,H1,I1,r1,q1⟩=>?_) hs hw
 rw[h1];exact g6 (hg pins s1 σ H1 x v _ I1 r1 q1) fun _ s2 q=>q
theorem De(hN:X.N.Nodup)(hi:X.N[i]? =some x)(hx:Loc X.env.scope x)(he:PE X e te)(hs:swapsWith e (some (.Name x pos')) pos.line X.env=pure false:=by rfl)(hf:X.fn x=true\/X.env.scope.names.lookup x=some .local:=by first|exact .inl rfl|exact .inr rfl|assumption):
  PS X (.Assign [.Name x pos'] e pos) (Gs te (Gr i)):=by
 intro pins s σ H D I h;refine wpAny_Assign_Name (g6 (he pins s σ H _ I h) fun v s1 ⟨y,H1,I1,r1,q1⟩=>?_) hs
 exact Bl I1 hN hi hx r1 (fun s2 I2=>⟨_,H1,I2,q1⟩) hf
def TZ(i j:Nat)(ta:TA):TS:=fun D σ H=>ta σ H fun vs H1=>∃v w,vs=[v,w]/\D.nx ((σ.set i (some v)).set j (some w)) H1
theorem Ta{y:Str}{a b:Expr}{ta:TA}{px py pt:Pos}{kt k2 pt2}(hc:X.calm=true)(hN:X.N.Nodup)(hi:X.N[i]? =some x)(hj:X.N[j]? =some y)(hij:i≠j)
  (hx:X.env.scope.names.lookup x=some .local)(hy:X.env.scope.names.lookup y=some .local)(ha:PA X [a,b] ta)
  (hw:swappedStores [.Tuple [.Name x px,.Name y py] kt pt] (.Tuple [a,b] k2 pt2) X.env=pure (some [x,y]))
  (hs:swapsWithSole [.Tuple [.Name x px,.Name y py] kt pt] (.Tuple [a,b] k2 pt2) pos.line X.env=pure false:=by rfl):
  PS X (.Assign [.Tuple [.Name x px,.Name y py] kt pt] (.Tuple [a,b] k2 pt2) pos) (TZ i j ta):=by
 intro pins s σ H D I h;rw[exec_Assign_arm];refine Qq (Uy ?_);rw[hs];refine Qq (Qy ?_);rw[Qs (by decide)]
 refine Qq (Tuple_ (g6 (ha _ pins s σ H _ I h) fun us s1 ⟨vs,H1,I1,r1,q1⟩=>?_))
 obtain⟨v,w,e1,q1⟩:=q1;subst e1;obtain⟨u1,u2,rfl,rv,rw'⟩:∃u1 u2,us=[u1,u2]/\E3 v u1/\E3 w u2:=by
  cases r1 with
  |cons p q=>
   cases q with
   |cons p' q'=>
    cases q';exact⟨_,_,rfl,p,p'⟩
 refine Zt ?_ (by show 2≤sizeLine;decide)
 have I2:Inv X pins σ H1 {s1 with heap:=s1.heap.push {cls:=.type "tuple",data:=.seq [u1,u2].toArray}}:=I1.kept (t':=s1.toks) fun b o e=>Qv _ e
 rw[hw];refine Qq (Qy ?_);show wpAny (model X.prog X.w) X.A (do rule "assign.swapped-stores";let items←unpackItems (.ref s1.heap.objs.size) 2 none;assignInOrder [fun v=>bindName X.env y v,fun v=>bindName X.env x v] items.reverse;pure Flow.next) _ _ _
 refine Qq (Uq (Qq (unpackItems_tuple (items:=#[u1,u2]) (I.ok.hd hc) (IsTup.new s1.heap _) fun h' hx'=>?_)))
 have I3:=I2.kept (h':=h') (t':=s1.toks) fun b o e=>hx' b o (Qi (Qu e)) e
 show wpAny _ _ (assignInOrder [fun v=>bindName X.env y v,fun v=>bindName X.env x v] [u2,u1]>>=fun _=>pure Flow.next) _ _ _
 refine Qq (assignInOrder_cons (wpAny_bindName (Bl I3 hN hj (.inl hy) rw' (fun s2 I4=>?_) (.inr hy))))
 refine assignInOrder_cons (wpAny_bindName (Bl I4 hN hi (.inl hx) rv (fun s3 I5=>assignInOrder_nil (Qy ?_)) (.inr hx)))
 rw[List.set_comm _ _ (Zm hij)]at I5;exact⟨_,H1,I5,q1⟩
def Tb(i:Nat)(te:TE)(ti:wL):TS:=fun D σ H=>∃x,σ[i]? =some (some x)/\te σ H fun y H1=>ti x y H1 fun z H2=>D.nx (σ.set i (some z)) H2
theorem Tc{op:Operator}{ti:wL}(hN:X.N.Nodup)(hi:X.N[i]? =some x)(hx:Loc X.env.scope x)(he:PE X e te)(ho:yZ X op ti)(hf:X.fn x=true\/X.env.scope.names.lookup x=some .local:=by first|exact .inl rfl|exact .inr rfl|assumption):
  PS X (.AugAssign (.Name x pos') op e pos) (Tb i te ti):=by
 intro pins s σ H D I h;obtain⟨v,e1,h⟩:=h;obtain⟨m,hn,hl⟩:=I.loc;have vis:sZ X.env.scope x:=by rcases hx with k|k;exact .inl k;exact .inr (.inl k)
 obtain⟨u,r,l⟩:=hl i x v hi e1 vis;refine wpAny_AugAssign_Name ?_
 have go:wpAny (model X.prog X.w) X.A (eval e X.env) (fun w s₂=>wpAny (model X.prog X.w) X.A (inplaceOp op u w) (fun r s₃=>wpAny (model X.prog X.w) X.A (storeName X.env x r) (fun _=>SP X pins D .next) X.xe s₃) X.xe s₂) X.xe s:=by
  refine g6 (he pins s σ H _ I h) fun w s1 ⟨y,H1,I1,r1,q1⟩=>?_
  refine g6 (ho pins s1 σ H1 v y u w _ I1 r r1 q1) fun z s2 ⟨zv,H2,I2,r2,q2⟩=>?_
  exact Bl I2 hN hi hx r2 (fun s3 I3=>⟨_,H2,I3,q2⟩) hf
 rcases l with⟨hk,hm⟩|⟨hk,c,hc,hcell⟩
 ·exact wpAny_loadName_local I.ok.kind hk hn hm go
 ·rcases hk with hk|hk
  ·exact wpAny_loadName_cell I.ok.kind hk hc hcell go
  ·rcases hx with k|k
   ·have:X.env.scope.names.lookup x=some .free:=hk
    rw[k]at this;cases this
   ·have:X.env.scope.names.lookup x=some .free:=hk
    rw[k]at this;cases this
end
section
variable{pos:Pos}
def Td(c:TT)(tb:TS):TS:=fun D σ H=>∃W:Nat->St->Hp->Prop,(∃m,W m σ H)/\∀m σ H,W m σ H->
 c σ H fun b H1=>if b=true then∃N:St->Hp->Prop,(∀σ' H',N σ' H'->∃m',m'<m/\W m' σ' H')/\tb {D with nx:=N,ct:=N,bk:=D.nx} σ H1 else D.nx σ H1
theorem Te{tb:TS}(hp:PassesOwn (model X.prog X.w) X.A X.env X.xe)(hc:PT X c tc)(hb:pQ X body tb):PS X (.While c body [] pos) (Td tc tb):=by
 intro pins s σ H D I h;obtain⟨W,⟨m0,w0⟩,turn⟩:=h;refine wpAny_While (codeAny_whileLoop (fun n s'=>∃σ' H',Inv X pins σ' H' s'/\W n σ' H') ?_ m0 ⟨σ,H,I,w0⟩)
 rintro n s1 ⟨σ1,H1,I1,w1⟩;refine Ja hp (g6 (hc pins s1 σ1 H1 _ I1 (turn n σ1 H1 w1)) fun b s2 ⟨H2,I2,q2⟩=>?_)
 cases b with
 |true=>
  obtain⟨N,hN,q2⟩:=q2;rw[Qh rfl];refine Ja hp (g6 (hb pins s2 σ1 H2 _ I2 q2) fun f s3 q3=>?_)
  cases f with
  |next=>
   obtain⟨σ3,H3,I3,n3⟩:=q3;obtain⟨m',hm,w3⟩:=hN σ3 H3 n3;exact⟨m',hm,σ3,H3,I3,w3⟩
  |cont=>
   obtain⟨σ3,H3,I3,n3⟩:=q3;obtain⟨m',hm,w3⟩:=hN σ3 H3 n3;exact⟨m',hm,σ3,H3,I3,w3⟩
  |brk=>exact q3
  |ret v=>exact q3
 |false=>
  rw[Qs Yq];exact Uu ⟨σ1,H2,I2,q2⟩
end
structure It where
 go:Nat->Hp->Prop
 yld:Nat->Hp->V->Hp->Prop
 stop:Nat->Hp->Prop
def T3(X:Cx)(pins:OX)(H:Hp)(b:Addr):Prop:=
 H b=none/\b≠X.env.locals/\b∉X.fs/\(b∈X.ex\/X.s₀.heap.objs.size≤b)/\(∀x c,X.env.cells.lookup x=some c->c≠b)/\∀p∈X.pn++pins,p.1≠b
theorem Inv.fpOk(I:Inv X pins σ H s)(hb:s.heap.objs.size≤b)(hn:H' b=none):T3 X pins H' b:=by
 refine⟨hn,Tq (Qd I.lt hb),I.nofs hb,.inr (Zr I.sz hb),fun x c e z=>?_,fun p hp z=>?_⟩
 ·obtain⟨v,q⟩:=I.cell x c e
  exact absurd (Qd q.lt (by rw[z];exact hb)) (Jk _)
 ·exact absurd (Qd (Qu (I.pin p hp).1) (by rw[z];exact hb)) (Jk _)
structure Turn(P:Program)(w:World)(K:Qz)(tg:Expr)(J:It)(fp:List Addr)(it:Addr)(tn:Nat->Heap->Prop):Prop where
 mem:it∈fp
 obj:∀i h,tn i h->∀b∈fp,∃o,h.get? b=some o/\∀v,o.data≠.cell v
 keep:∀i h h',tn i h->(∀b∈fp,∀o,h.get? b=some o->h'.get? b=some o)->tn i h'
 item:∀(X:Cx),X.prog=P->X.w=w->X.K=K->X.calm=true->∀(i:Nat) (pins:OX) (s:Shared) (σ:St) (H:Hp) (E:OE),Inv X pins σ H s->(∀b∈fp,T3 X pins H b)->tn i s.heap->J.go i H->
  wpAny (model P w) X.A (pyNext (.ref it)) (fun r s1=>∃u,r=some u/\
   wpAny (model P w) X.A (letOwnedTupleGo tg (.ref it) u) (fun _ s2=>∃x H',Inv X pins σ H' s2/\E3 x u/\J.yld i H x H'/\tn (i+1) s2.heap/\∀b∈fp,H' b=none) E s1) E s
 done:∀(X:Cx),X.prog=P->X.w=w->X.K=K->X.calm=true->∀(i:Nat) (pins:OX) (s:Shared) (σ:St) (H:Hp) (E:OE),Inv X pins σ H s->(∀b∈fp,T3 X pins H b)->tn i s.heap->J.stop i H->
  wpAny (model P w) X.A (pyNext (.ref it)) (fun r s1=>r=none/\Inv X pins σ H s1) E s
 self:∀(A:Around) (i:Nat) (s:Shared) (Q:OE) (E:OE),tn i s.heap->Q (.ref it) s->wpAny (model P w) A (pyIter (.ref it)) Q E s
abbrev TI:=St->Hp->(It->Hp->Prop)->Prop
def xR(X:Cx)(pins:OX)(σ:St)(tg:Expr)(R:It->Hp->Prop)(itv:Value)(s2:Shared):Prop:=
 ∃(it:Addr) (fp:List Addr) (tn:Nat->Heap->Prop) (J:It) (H':Hp),itv=.ref it/\Inv X pins σ H' s2/\Turn X.prog X.w X.K tg J fp it tn/\tn 0 s2.heap/\(∀b∈fp,T3 X pins H' b)/\R J H'
def PI(X:Cx)(tg iter:Expr)(wi:TI):Prop:=
 ∀(pins:OX) (s:Shared) (σ:St) (H:Hp) (R:It->Hp->Prop),Inv X pins σ H s->wi σ H R->
  wpAny (model X.prog X.w) X.A (eval iter X.env) (fun v s1=>wpAny (model X.prog X.w) X.A (pyIter v) (xR X pins σ tg R) X.xe s1) X.xe s
theorem Gu{o:Obj}{n:String}{vs:Array Value}{Q:Unit->Shared->Prop}(ho:s.heap.get? it=some o)(hc:o.cls=.type n)(hd:o.data=.fields vs)
    (hn:["enumerate","zip","dict_itemiterator","dict_reverseitemiterator","odict_iterator","itertools.zip_longest","itertools.pairwise"].contains n=false)(hQ:Q () s):wpAny M A (letOwnedTupleGo tg (.ref it) u) Q E s:=by
  unfold letOwnedTupleGo;cases tg<;>first
    |exact Qy hQ
    | (cases u<;>first
        |exact Qy hQ
        | (refine Qq (wpAny_load ho ?_)
           rw[hc,hd];show wpAny M A (if(["enumerate","zip","dict_itemiterator","dict_reverseitemiterator","odict_iterator","itertools.zip_longest","itertools.pairwise"].contains n&&vs[0]? ==some (rawInt _))=true then _ else _) Q E s
           rw[Qs (by intro h;rw[hn,Ue]at h;cases h)]
           exact Qy hQ))
def wM(K:Qz)(a:Addr):It:=
 ⟨fun i H=>∃xs x,oD K H a xs/\xs[i]? =some x,fun i H x H'=>H'=H/\∀xs,oD K H a xs->xs[i]? =some x,fun i H=>∃xs,oD K H a xs/\xs.length≤i⟩
def wN(K:Qz)(a:Addr):It:=
 ⟨fun i H=>∃xs x,nZ K H a xs/\xs[i]? =some x,fun i H x H'=>H'=H/\∀xs,nZ K H a xs->xs[i]? =some x,fun i H=>∃xs,nZ K H a xs/\xs.length≤i⟩
def vB(lo:Int)(n:Nat):It:=⟨fun i _=>i<n,fun i H x H'=>H'=H/\x=.int (lo+i),fun i _=>n≤i⟩
theorem Tf(a it:Addr):Turn P w K tg (wM K a) [it] it (fun i h=>h.IsListIter it a i)where
 mem:=by simp
 obj:=fun i h st b hb=>by
  have e:b=it:=by simpa using hb
  subst e;obtain⟨o,e,c,d⟩:=st;exact⟨o,e,fun v z=>by rw[d]at z;cases z⟩
 keep:=fun i h h' st k=>st.at fun o e=>k it (by simp) o e
 item:=by
  intro X hP hw hK hc i pins s σ H E I hf st hg;subst hP hw hK;obtain⟨xs,x,hq,hx⟩:=hg;obtain⟨its,rv,p,hz⟩:=I.list hq;obtain⟨u,hu,ru⟩:=rv.get hx;obtain⟨f0,f1,f2,f3,f4,f5⟩:=hf it (by simp)
  refine wpAny_pyNext_list_item st p.isList (x:=u) (by simpa using hu) fun h' st' sb=>?_
  have I1:Inv X pins σ H {s with heap:=h'}:=I.turned (t':=s.toks) (fun b o hb e=>(sb.2 b hb).trans e) f0 f1 f3 f4 f5
  obtain⟨o,e,c,d⟩:=id st';exact⟨u,rfl,Gu (s:={s with heap:=h'}) e c d (by decide) ⟨x,H,I1,ru,⟨rfl,fun ys hy=>by rw[I.list_inj hy hq];exact hx⟩,st',fun b hb=>(hf b hb).1⟩⟩
 done:=by
  intro X hP hw hK hc i pins s σ H E I hf st hg;subst hP hw hK;obtain⟨xs,hq,hx⟩:=hg;obtain⟨its,rv,p,hz⟩:=I.list hq;obtain⟨f0,f1,f2,f3,f4,f5⟩:=hf it (by simp)
  have hl:=rv.length
  exact wpAny_pyNext_list_end (I.ok.hd hc) st p.isList (by simp;omega) fun h' eb=>⟨rfl,I.turned (t':=s.toks) (fun b o hb e=>eb b o hb e) f0 f1 f3 f4 f5⟩
 self:=fun _ _ _ _ _ st h=>wpAny_pyIter_listiter st h
theorem Tg(a it:Addr):Turn P w K tg (wN K a) [it] it (fun i h=>h.IsTupleIter it a i)where
 mem:=by simp
 obj:=fun i h st b hb=>by
  have e:b=it:=by simpa using hb
  subst e;obtain⟨o,e,c,d⟩:=st;exact⟨o,e,fun v z=>by rw[d]at z;cases z⟩
 keep:=fun i h h' st k=>st.at fun o e=>k it (by simp) o e
 item:=by
  intro X hP hw hK hc i pins s σ H E I hf st hg;subst hP hw hK;obtain⟨xs,x,hq,hx⟩:=hg;obtain⟨its,rv,p,hz⟩:=I.tuple hq;obtain⟨u,hu,ru⟩:=rv.get hx;obtain⟨f0,f1,f2,f3,f4,f5⟩:=hf it (by simp)
  refine wpAny_pyNext_tuple_item st (show s.heap.IsTuple a its.toArray from p) (x:=u) (by simpa using hu) fun h' st' sb=>?_
  have I1:Inv X pins σ H {s with heap:=h'}:=I.turned (t':=s.toks) (fun b o hb e=>(sb.2 b hb).trans e) f0 f1 f3 f4 f5
  obtain⟨o,e,c,d⟩:=id st';exact⟨u,rfl,Gu (s:={s with heap:=h'}) e c d (by decide) ⟨x,H,I1,ru,⟨rfl,fun ys hy=>by rw[I.tuple_inj hy hq];exact hx⟩,st',fun b hb=>(hf b hb).1⟩⟩
 done:=by
  intro X hP hw hK hc i pins s σ H E I hf st hg;subst hP hw hK;obtain⟨xs,hq,hx⟩:=hg;obtain⟨its,rv,p,hz⟩:=I.tuple hq;obtain⟨f0,f1,f2,f3,f4,f5⟩:=hf it (by simp)
  have hl:=rv.length
  exact wpAny_pyNext_tuple_end (I.ok.hd hc) st (show s.heap.IsTuple a its.toArray from p) (by simp;omega) fun h' eb=>⟨rfl,I.turned (t':=s.toks) (fun b o hb e=>eb b o hb e) f0 f1 f3 f4 f5⟩
 self:=fun _ _ _ _ _ st h=>wpAny_pyIter_tupleiter st h
theorem Th(it:Addr)(lo:Int)(n:Nat):Turn P w K tg (vB lo n) [it] it (fun i h=>IsRangeIter h it (lo+(i:Nat) * 1) ((n:Int)-(i:Nat)) 1)where
 mem:=by simp
 obj:=fun i h st b hb=>by
  have e:b=it:=by simpa using hb
  subst e;exact⟨_,st,fun v z=>by
   have z':Data.fields _=Data.cell v:=z
   cases z'⟩
 keep:=fun i h h' st k=>k it (by simp) _ st
 item:=by
  intro X hP hw hK hc i pins s σ H E I hf st hg;subst hP hw hK;obtain⟨f0,f1,f2,f3,f4,f5⟩:=hf it (by simp)
  have W:=Walks.range (prog:=X.prog) (w:=X.w) (I.ok.hd hc) it lo 1 n
  refine W.item i s _ _ hg st fun v h' tk hv st' kk=>?_
  obtain⟨t,rfl⟩:=hv;have I1:Inv X pins σ H {s with heap:=h',toks:=tk}:=I.turned (fun b o hb e=>kk b o (by simpa using hb) e) f0 f1 f3 f4 f5
  refine⟨_,rfl,Gu (s:={s with heap:=h',toks:=tk}) (n:="range_iterator") st' rfl rfl (by decide) ⟨.int (lo+i),H,I1,⟨t,?_⟩,⟨rfl,rfl⟩,st',fun b hb=>(hf b hb).1⟩⟩
  rw[Int.mul_one]
 done:=by
  intro X hP hw hK hc i pins s σ H E I hf st hg;subst hP hw hK;obtain⟨f0,f1,f2,f3,f4,f5⟩:=hf it (by simp)
  exact wpAny_pyNext_range_end (I.ok.hd hc) st (by have:n≤i:=hg;omega) fun h' eb=>⟨rfl,I.turned (t':=s.toks) (fun b o hb e=>eb b o hb e) f0 f1 f3 f4 f5⟩
 self:=fun _ _ _ _ _ st h=>wpAny_pyIter_rangeiter st h
theorem Lg{R:It->Hp->Prop}{lo hi:Int}{t u v:Tok}{tk:Nat}(I:Inv X pins σ H s)(h1: -(2^62)≤lo)(h2:lo<2^62)(h3: -(2^62)≤hi)(h4:hi<2^62)
  (q:R (vB lo (hi-lo).toNat) H):wpAny (model X.prog X.w) X.A (pyIter (.ref s.heap.objs.size)) (xR X pins σ tg R) E {s with heap:=s.heap.push {cls:=.type "range",data:=.fields #[.int lo t,.int hi u,.int 1 v]},toks:=tk}:=by
 refine wpAny_pyIter_range (IsRange.new ..) (small_one h1 h2 h3 h4) ?_
 have I1:Inv X pins σ H {s with heap:=s.heap.push {cls:=.type "range",data:=.fields #[.int lo t,.int hi u,.int 1 v]},toks:=tk}:=I.kept fun b o e=>Qv _ e
 refine⟨(s.heap.push {cls:=.type "range",data:=.fields #[.int lo t,.int hi u,.int 1 v]}).objs.size,[(s.heap.push {cls:=.type "range",data:=.fields #[.int lo t,.int hi u,.int 1 v]}).objs.size],_,_,H,rfl,
  I1.kept (t':=tk) fun b o e=>Qv _ e,Th _ lo (hi-lo).toNat,?_,fun b hb=>?_,q⟩
 ·have e1:lo+((0:Nat):Int) * 1=lo:=by simp
  have e2:(((hi-lo).toNat:Nat):Int)-((0:Nat):Int)=Builtin.Range.rangeSize lo hi 1:=by rw[rangeSize_one];split<;>omega
  show IsRangeIter _ _ (lo+((0:Nat):Int) * 1) ((((hi-lo).toNat:Nat):Int)-((0:Nat):Int)) 1;rw[e1,e2];exact Qn _ rfl
 ·have e:b=(s.heap.push {cls:=.type "range",data:=.fields #[.int lo t,.int hi u,.int 1 v]}).objs.size:=by simpa using hb
  subst e;exact I1.fpOk (Qm _) (I1.hok.fresh (Qm _))
def Ti(ta:TA):TI:=fun σ H R=>ta σ H fun vs H1=>∃j:Int,vs=[.int j]/\ -(2^62)≤j/\j<2^62/\R (vB 0 j.toNat) H1
def Tl(ta:TA):TI:=fun σ H R=>ta σ H fun vs H1=>∃i j:Int,vs=[.int i,.int j]/\(-(2^62)≤i/\i<2^62/\ -(2^62)≤j/\j<2^62)/\R (vB i (j-i).toNat) H1
theorem Tn{a:Expr}{ta:TA}{pos:Pos}(hg:Gl X "range")(hm:X.mg "range"=none)(ha:PA X [a] ta)(hs:starEach [a] X.env=[(false,eval a X.env)]:=by rfl):PI X tg (.Call (.Name "range" p) [a] [] pos) (Ti ta):=by
 intro pins s σ H R I h;refine Call_ (BL I hg hm boot_range (Jd (g6 (ha pos pins s σ H _ I h) fun us s1 ⟨vs,H1,I1,r1,q1⟩=>?_) hs rfl))
 obtain⟨j,e,q1,q2,q⟩:=q1;subst e;cases r1 with
 |cons r rr=>
  cases rr;obtain⟨t,rfl⟩:=r;exact call_range_1 (Lg I1 (by omega) (by omega) q1 q2 (by simpa using q))
theorem To{a b:Expr}{ta:TA}{pos:Pos}(hg:Gl X "range")(hm:X.mg "range"=none)(ha:PA X [a,b] ta)(hs:starEach [a,b] X.env=[(false,eval a X.env),(false,eval b X.env)]:=by rfl)(hs2:starEach [b] X.env=[(false,eval b X.env)]:=by rfl):
  PI X tg (.Call (.Name "range" p) [a,b] [] pos) (Tl ta):=by
 intro pins s σ H R I h;refine Call_ (BL I hg hm boot_range (Jd (g6 (ha pos pins s σ H _ I h) fun us s1 ⟨vs,H1,I1,r1,q1⟩=>?_) (by rw[hs,hs2]) (by rw[hs2];rfl)))
 obtain⟨i,j,e,⟨q1,q2,q3,q4⟩,q⟩:=q1;subst e;cases r1 with
 |cons r rr=>
  cases rr with
  |cons r' rr=>
   cases rr;obtain⟨t,rfl⟩:=r;obtain⟨t',rfl⟩:=r';exact call_range_2 (Lg I1 q1 q2 q3 q4 q)
def Tp(wi:TI)(g:TG)(tb:TS):TS:=fun D σ H=>wi σ H fun J H1=>∃W:Nat->Nat->St->Hp->Prop,(∃m,W 0 m σ H1)/\∀i m σ H,W i m σ H->
 (J.stop i H/\D.nx σ H)\/(J.go i H/\∃N:St->Hp->Prop,(∀σ' H',N σ' H'->∃m',m'<m/\W (i+1) m' σ' H')/\∀x H',J.yld i H x H'->g x σ H' fun σ2 H2=>tb {D with nx:=N,ct:=N,bk:=D.nx} σ2 H2)
def Cb(fp:List Addr)(h:Heap):OX:=fp.filterMap fun b=>(h.get? b).map fun o=>(b,o)
theorem Cc{o:Obj}(hb:b∈fp)(e:h.get? b=some o):(b,o)∈Cb fp h:=Xh.mpr ⟨b,hb,by rw[e];rfl⟩
theorem Tr{p:Addr×Obj}(hp:p∈Cb fp h):p.1∈fp/\h.get? p.1=some p.2:=by
 obtain⟨b,hb,e⟩:=List.mem_filterMap.mp hp;cases q:h.get? b with
 |none=>rw[q]at e;cases e
 |some o=>
  rw[q]at e;have e':(b,o)=p:=Yg e;subst e';exact⟨hb,q⟩
theorem Inv.pinned(I:Inv X pins σ H s)(hf:∀b∈fp,T3 X pins H b)(ho:∀b∈fp,∃o,s.heap.get? b=some o/\∀v,o.data≠.cell v):Inv X (pins++Cb fp s.heap) σ H s:=
 I.pins_of fun p hp=>(Yr.mp hp).elim (fun z=>I.pin p (Zp _ z)) fun z=>by
  obtain⟨hb,e⟩:=Tr z;obtain⟨f0,f1,f2,_⟩:=hf p.1 hb;obtain⟨o,e',d⟩:=ho p.1 hb;rw[e]at e';cases e';exact⟨e,f0,f1,f2,d⟩
theorem Inv.unpinned{pl:OX}(I:Inv X (pins++pl) σ H s):Inv X pins σ H s:=I.pins_of fun p hp=>I.pin p (Zp _ (List.mem_append_left _ hp))
theorem Ts{iter:Expr}{wi:TI}{g:TG}{tb:TS}{pos:Pos}(hp:PassesOwn (model X.prog X.w) X.A X.env X.xe)(hc:X.calm=true)(hi:PI X tg iter wi)(hg:PG X tg g)(hb:pQ X body tb)
  (hs:∀x,foldedSetIterable iter X.env x=pure x:=by intro _;rfl):PS X (.For tg iter body [] pos) (Tp wi g tb):=by
 intro pins s σ H D I h;refine wpAny_For (g6 (hi pins s σ H _ I h) fun v s1 h1=>g6 h1 fun itv s2 h2=>?_) hs
 obtain⟨it,fp,tn,J,H2,e,I2,T,st2,f2,W,⟨m0,w0⟩,turn⟩:=h2;subst e;have stat:∀{H':Hp},(∀b∈fp,H' b=none)->∀b∈fp,T3 X pins H' b:=fun hn b hb=>⟨hn b hb,(f2 b hb).2⟩
 refine codeAny_forLoop_any (fun n s'=>∃i σ' H',Inv X pins σ' H' s'/\tn i s'.heap/\(∀b∈fp,H' b=none)/\W i n σ' H') ?_ m0 ⟨0,σ,H2,I2,st2,fun b hb=>(f2 b hb).1,w0⟩
 rintro n s3 ⟨i,σ3,H3,I3,st3,fr3,w3⟩
 rcases turn i n σ3 H3 w3 with⟨stop,qn⟩|⟨go,N,hN,step⟩
 ·refine Ja hp (g6 (T.done X rfl rfl rfl hc i pins s3 σ3 H3 X.xe I3 (stat fr3) st3 stop) fun r s4 ⟨hr,I4⟩=>?_)
  subst hr;exact Uu ⟨σ3,H3,I4,qn⟩
 ·refine Ja hp (g6 (T.item X rfl rfl rfl hc i pins s3 σ3 H3 X.xe I3 (stat fr3) st3 go) fun r s4 ⟨u,hr,h4⟩=>?_)
  subst hr;refine Ja hp (g6 h4 fun _ s5 ⟨x,H5,I5,r5,y5,st5,fr5⟩=>?_)
  have I5':=I5.pinned (stat fr5) (T.obj _ _ st5)
  refine Ja hp (g6 (hg _ s5 σ3 H5 x u _ I5' r5 (step x H5 y5)) fun _ s6 ⟨σ6,H6,I6,q6⟩=>?_)
  refine Ja hp (g6 (hb _ s6 σ6 H6 _ I6 q6) fun f s7 q7=>?_)
  have again:∀{σ7:St}{H7:Hp},Inv X (pins++Cb fp s5.heap) σ7 H7 s7->N σ7 H7->∃m,m<n/\∃i σ' H',Inv X pins σ' H' s7/\tn i s7.heap/\(∀b∈fp,H' b=none)/\W i m σ' H':=fun{σ7 H7} I7 n7=>by
   obtain⟨m',hm,w7⟩:=hN σ7 H7 n7;refine⟨m',hm,i+1,σ7,H7,I7.unpinned,T.keep _ _ _ st5 fun b hb o e=>(I7.pin (b,o) (Zp _ (Zp _ (Cc hb e)))).1,fun b hb=>?_,w7⟩
   obtain⟨o,e,d⟩:=T.obj _ _ st5 b hb;exact(I7.pin (b,o) (Zp _ (Zp _ (Cc hb e)))).2.1
  cases f with
  |next=>obtain⟨σ7,H7,I7,n7⟩:=q7;exact again I7 n7
  |cont=>obtain⟨σ7,H7,I7,n7⟩:=q7;exact again I7 n7
  |brk=>obtain⟨σ7,H7,I7,q7⟩:=q7;exact⟨σ7,H7,I7.unpinned,q7⟩
  |ret v=>obtain⟨x7,σ7,H7,I7,r7,q7⟩:=q7;exact⟨x7,σ7,H7,I7.unpinned,r7,q7⟩
abbrev R2:=V->V->Hp->VK->Prop
variable{r r':R2}
def k8(X:Cx)(f:Value->Value->Sem Value)(r:R2):Prop:=
 ∀(pins:OX) (s:Shared) (σ:St) (H:Hp) (x y:V) (v u:Value) (Q:VK),Inv X pins σ H s->E3 x v->E3 y u->r x y H Q->
  wpAny (model X.prog X.w) X.A (f v u) (EP X pins σ Q) X.xe s
def wO(X:Cx)(f:Value->Sem Value)(r:V->Hp->VK->Prop):Prop:=
 ∀(pins:OX) (s:Shared) (σ:St) (H:Hp) (x:V) (v:Value) (Q:VK),Inv X pins σ H s->E3 x v->r x H Q->
  wpAny (model X.prog X.w) X.A (f v) (EP X pins σ Q) X.xe s
def P4(X:Cx)(f:Value)(r:List V->Hp->VK->Prop):Prop:=
 ∀(pins:OX) (s:Shared) (σ:St) (H:Hp) (xs:List V) (us:List Value) (Q:VK),Inv X pins σ H s->D4 xs us->r xs H Q->
  wpAny (model X.prog X.w) X.A (call f us) (EP X pins σ Q) X.xe s
def vC(r:R2)(ta tb:TE):TE:=fun σ H Q=>ta σ H fun x H1=>tb σ H1 fun y H2=>r x y H2 Q
def y0(r:V->Hp->VK->Prop)(ta:TE):TE:=fun σ H Q=>ta σ H fun x H1=>r x H1 Q
def rI(C:Int->Int->Prop)(g:Int->Int->V):R2:=fun x y H Q=>∃i j,x=.int i/\y=.int j/\C i j/\Q (g i j) H
def p7(g:Int->Int->V):R2:=fun x y H Q=>∃i j,x=.int i/\y=.int j/\Q (g i j) H
def rU(g:Int->V):V->Hp->VK->Prop:=fun x H Q=>∃i,x=.int i/\Q (g i) H
section
variable{a b:Expr}{tc:TE}{pos:Pos}
theorem Gv(ha:PE X a ta)(hb:PE X b tb){R:V->V->Hp->Prop}(I:Inv X pins σ H s)
  (h:ta σ H fun x H1=>tb σ H1 fun y H2=>R x y H2){f:Value->Value->Sem Value}
  (hf:∀v u s2 x y H2,Inv X pins σ H2 s2->E3 x v->E3 y u->R x y H2->wpAny (model X.prog X.w) X.A (f v u) Q X.xe s2):
  wpAny (model X.prog X.w) X.A (eval a X.env) (fun v s₁=>wpAny (model X.prog X.w) X.A (eval b X.env) (fun u s₂=>wpAny (model X.prog X.w) X.A (f v u) Q X.xe s₂) X.xe s₁) X.xe s:=by
 refine g6 (ha pins s σ H _ I h) fun v s1 ⟨x,H1,I1,r1,q1⟩=>?_
 refine g6 (hb pins s1 σ H1 _ I1 q1) fun u s2 ⟨y,H2,I2,r2,q2⟩=>?_
 exact hf v u s2 x y H2 I2 r1 r2 q2
theorem Lh{op:Operator}(ho:k8 X (binaryOp op) r)(ha:PE X a ta)(hb:PE X b tb):PE X (.BinOp a op b pos) (vC r ta tb):=by
 intro pins s σ H Q I h;exact wpAny_BinOp (Gv ha hb I h fun v u s2 x y H2 I2 rx ry q=>ho pins s2 σ H2 x y v u Q I2 rx ry q)
theorem Li{op:UnaryOp}{r:V->Hp->VK->Prop}(ho:wO X (unaryOp op) r)(ha:PE X a ta):PE X (.UnaryOp op a pos) (y0 r ta):=by
 intro pins s σ H Q I h;exact UnaryOp_ (g6 (ha pins s σ H _ I h) fun v s1 ⟨x,H1,I1,r1,q1⟩=>ho pins s1 σ H1 x v Q I1 r1 q1)
theorem uT{f:Value->Value->Sem Value}{C:Int->Int->Prop}{g:Int->Int->Int}
  (rule:∀(i j:Int) (t u:Tok) (s:Shared) (Q:OE) (E:OE),C i j->Q (.int (g i j) s.toks) {s with toks:=s.toks+1}->wpAny (model X.prog X.w) X.A (f (.int i t) (.int j u)) Q E s):
  k8 X f (rI C fun i j=>.int (g i j)):=by
 intro pins s σ H x y v u Q I rx ry h;obtain⟨i,j,rfl,rfl,hc,q⟩:=h;obtain⟨t,rfl⟩:=rx;obtain⟨t',rfl⟩:=ry;exact rule i j t t' s _ _ hc ⟨.int (g i j),H,I.tok _,⟨_,rfl⟩,q⟩
theorem Ey{f:Value->Value->Sem Value}{g:Int->Int->Int}
  (rule:∀(i j:Int) (t u:Tok) (s:Shared) (Q:OE) (E:OE),Q (.int (g i j) s.toks) {s with toks:=s.toks+1}->wpAny (model X.prog X.w) X.A (f (.int i t) (.int j u)) Q E s):
  k8 X f (p7 fun i j=>.int (g i j)):=by
 intro pins s σ H x y v u Q I rx ry h;obtain⟨i,j,rfl,rfl,q⟩:=h;obtain⟨t,rfl⟩:=rx;obtain⟨t',rfl⟩:=ry;exact rule i j t t' s _ _ ⟨.int (g i j),H,I.tok _,⟨_,rfl⟩,q⟩
theorem Gw{f:Value->Value->Sem Value}{g:Int->Int->Bool}
  (rule:∀(i j:Int) (t u:Tok) (s:Shared) (Q:OE) (E:OE),Q (.bool (g i j)) s->wpAny (model X.prog X.w) X.A (f (.int i t) (.int j u)) Q E s):
  k8 X f (p7 fun i j=>.bl (g i j)):=by
 intro pins s σ H x y v u Q I rx ry h;obtain⟨i,j,rfl,rfl,q⟩:=h;obtain⟨t,rfl⟩:=rx;obtain⟨t',rfl⟩:=ry;exact rule i j t t' s _ _ ⟨.bl (g i j),H,I,rfl,q⟩
def Gx(i j:Int):Prop:=0<j/\j<1073741824
def Gy(i j:Int):Prop:=0≤j/\j≤1000000/\i.natAbs<2^64
def Bm(i j:Int):Prop:=(-(2^64)<i/\i<2^64)\/(-(2^64)<j/\j<2^64)
theorem Bm.ok{i j:Int}(h:Bm i j):IntMulOk i j:=by
 rcases h with⟨h1,h2⟩|⟨h1,h2⟩
 ·exact .of_left (intBits_le_64 h1 h2)
 ·exact .of_right (intBits_le_64 h1 h2)
theorem Tt:k8 X (binaryOp .Add) (p7 fun i j=>.int (i+j)):=Ey fun _ _ _ _ _ _ _ q=>add_int q
theorem Tu:k8 X (binaryOp .Sub) (p7 fun i j=>.int (i-j)):=Ey fun _ _ _ _ _ _ _ q=>sub_int q
theorem UA:k8 X (binaryOp .Mult) (rI Bm fun i j=>.int (i * j)):=uT fun _ _ _ _ _ _ _ hc q=>mul_int q hc.ok
theorem UB:k8 X (binaryOp .FloorDiv) (rI Gx fun i j=>.int (i/j)):=uT fun i j _ _ _ _ _ hc q=>by
 have h1:(0:Int)<j:=hc.1
 have h2:j<1073741824:=hc.2
 exact floordiv_int (by omega) (by rw[Int.fdiv_eq_ediv_of_nonneg i (by omega)];exact q) (.inl (PyProof.noPylong_small (by omega)))
theorem UC:k8 X (binaryOp .Mod) (rI (fun _ j=>0<j) fun i j=>.int (i%j)):=uT fun i j _ _ _ _ _ hc q=>by
 have h1:(0:Int)<j:=hc
 exact mod_int' (by omega) (by rw[Int.fmod_eq_emod_of_nonneg i (by omega)];exact q)
theorem UD:k8 X (binaryOp .Pow) (rI Gy fun i j=>.int (i^j.toNat)):=uT fun _ _ _ _ _ _ _ hc q=>pow_int_small hc.1 hc.2.1 hc.2.2 q
theorem UE:k8 X (inplaceOp .Add) (p7 fun i j=>.int (i+j)):=Ey fun _ _ _ _ _ _ _ q=>iadd_int q
theorem UG:k8 X (inplaceOp .Sub) (p7 fun i j=>.int (i-j)):=Ey fun _ _ _ _ _ _ _ q=>isub_int q
theorem rY{f:Value->Sem Value}{g:Int->Int}
  (rule:∀(i:Int) (t:Tok) (s:Shared) (Q:OE) (E:OE),Q (.int (g i) s.toks) {s with toks:=s.toks+1}->wpAny (model X.prog X.w) X.A (f (.int i t)) Q E s):
  wO X f (rU fun i=>.int (g i)):=by
 intro pins s σ H x v Q I rx h;obtain⟨i,rfl,q⟩:=h;obtain⟨t,rfl⟩:=rx;exact rule i t s _ _ ⟨.int (g i),H,I.tok _,⟨_,rfl⟩,q⟩
theorem Lj:wO X (unaryOp .USub) (rU fun i=>.int (-i)):=rY fun _ _ _ _ _ q=>neg_int q
end
section
variable{a b:Expr}{tc:TE}{pos:Pos}
theorem UH{Q:VK}{k k':Bool}(I:Inv X pins σ H s)(q:Q (.bl k) H)(e:k=k'):EP X pins σ Q (.bool k') s:=by
 subst e;exact⟨.bl k,H,I,rfl,q⟩
theorem Lk:k8 X (compareOp .Lt) (p7 fun i j=>.bl (decide (i<j))):=Gw fun _ _ _ _ _ _ _ q=>lt_int q
theorem UI:k8 X (compareOp .LtE) (p7 fun i j=>.bl (decide (i≤j))):=Gw fun _ _ _ _ _ _ _ q=>le_int q
theorem UJ:k8 X (compareOp .GtE) (p7 fun i j=>.bl (decide (j≤i))):=Gw fun _ _ _ _ _ _ _ q=>ge_int q
theorem UK:k8 X (compareOp .Is) (fun x y H Q=>y=.non/\Q (.bl (decide (x=.non))) H):=by
 intro pins s σ H x y v u Q I rx ry h;obtain⟨rfl,q⟩:=h;cases ry;refine is_none_gen (UH I q ?_);cases x<;>first
  |(cases rx;rfl)
  |(obtain⟨t,rfl⟩:=rx;rfl)
theorem t7(b:Expr)(h:op≠.In:=by decide)(h2:op≠.NotIn:=by decide):behindInMarks op b=false:=by
 have e1:(op==CmpOp.In)=false:=by cases op<;>first|rfl|exact absurd rfl h
 have e2:(op==CmpOp.NotIn)=false:=by cases op<;>first|rfl|exact absurd rfl h2
 cases b<;>simp[behindInMarks,e1,e2]
theorem UL(ho:k8 X (compareOp op) r)(ha:PE X a ta)(hb:PE X b tb)(hm:behindInMarks op b=false):PE X (.Compare a [op] [b] pos) (vC r ta tb):=by
 intro pins s σ H Q I h;exact wpAny_Compare1 (Gv ha hb I h fun v u s2 x y H2 I2 rx ry q=>ho pins s2 σ H2 x y v u Q I2 rx ry q) hm
def Ll(t:TE):TT:=fun σ H Q=>t σ H fun x H'=>∃k,x=.bl k/\Q k H'
theorem UM(ho:k8 X (compareOp op) r)(ha:PE X a ta)(hb:PE X b tb)(hm:behindInMarks op b=false):PT X (.Compare a [op] [b] pos) (Ll (vC r ta tb)):=by
 intro pins s σ H Q I h;refine wpAny_isTrue_Compare1 (g6 (ha pins s σ H _ I h) fun v s1 ⟨x,H1,I1,r1,q1⟩=>g6 (hb pins s1 σ H1 _ I1 q1) fun u s2 ⟨y,H2,I2,r2,q2⟩=>
  g6 (ho pins s2 σ H2 x y v u _ I2 r1 r2 q2) fun c s3 ⟨z,H3,I3,r3,k,e,q3⟩=>?_) hm
 subst e;cases r3;exact Yl ⟨H3,I3,q3⟩
def Gz(r r':R2)(ta tb tc:TE):TE:=fun σ H Q=>ta σ H fun x H1=>tb σ H1 fun y H2=>r x y H2 fun z H3=>∃k,z=.bl k/\
 (if k=true then tc σ H3 fun w' H4=>r' y w' H4 Q else Q (.bl false) H3)
theorem UN(ho:k8 X (compareOp op) r)(ho':k8 X (compareOp op') r')(ha:PE X a ta)(hb:PE X b tb)(hc:PE X c tc)
  (hm:lastMarks [op,op'] [b,c]=false:=by with_unfolding_all rfl):PE X (.Compare a [op,op'] [b,c] pos) (Gz r r' ta tb tc):=by
 intro pins s σ H Q I h;refine Compare_chain (g6 (ha pins s σ H _ I h) fun v s1 ⟨x,H1,I1,r1,q1⟩=>chain_link (g6 (hb pins s1 σ H1 _ I1 q1) fun u s2 ⟨y,H2,I2,r2,q2⟩=>
  g6 (ho pins s2 σ H2 x y v u _ I2 r1 r2 q2) fun d s3 ⟨z,H3,I3,r3,k,e,q3⟩=>?_)) hm
 subst e;cases r3;refine Yl ?_
 cases k with
 |false=>exact ite_ff ⟨.bl false,H3,I3,rfl,q3⟩
 |true=>exact ite_tt (chain_last (g6 (hc pins s3 σ H3 _ I3 q3) fun w' s4 ⟨z',H4,I4,r4,q4⟩=>ho' pins s4 σ H4 y z' u w' Q I4 r2 r4 q4))
theorem UO(ho:k8 X (compareOp op) r)(ho':k8 X (compareOp op') r')(ha:PE X a ta)(hb:PE X b tb)(hc:PE X c tc)
  (hm:lastMarks [op,op'] [b,c]=false:=by with_unfolding_all rfl):PT X (.Compare a [op,op'] [b,c] pos) (Ll (Gz r r' ta tb tc)):=by
 intro pins s σ H Q I h;refine isTrue_chain (g6 (ha pins s σ H _ I h) fun v s1 ⟨x,H1,I1,r1,q1⟩=>test_link (g6 (hb pins s1 σ H1 _ I1 q1) fun u s2 ⟨y,H2,I2,r2,q2⟩=>
  g6 (ho pins s2 σ H2 x y v u _ I2 r1 r2 q2) fun d s3 ⟨z,H3,I3,r3,k,e,q3⟩=>?_)) hm
 subst e;cases r3;refine Yl ?_
 cases k with
 |false=>
  obtain⟨k',e',q'⟩:=q3;cases e';exact ite_ff ⟨H3,I3,q'⟩
 |true=>
  refine ite_tt (test_last (g6 (hc pins s3 σ H3 _ I3 q3) fun w' s4 ⟨z',H4,I4,r4,q4⟩=>g6 (ho' pins s4 σ H4 y z' u w' _ I4 r2 r4 q4) fun d' s5 ⟨z2,H5,I5,r5,k2,e2,q5⟩=>?_))
  subst e2;cases r5;exact Yl ⟨H5,I5,q5⟩
theorem Dg:(sizeLine:Nat)<2^63:=by rw[sizeLine_eq];decide
theorem Ai{x:V}(r:D4 [x] us):∃u,us=[u]/\E3 x u:=by
 cases r with
 |cons r1 r2=>cases r2;exact⟨_,rfl,r1⟩
theorem BM{x:V}(r:D4 [x,y] us):∃u w',us=[u,w']/\E3 x u/\E3 y w':=by
 cases r with
 |cons r1 r2=>
  cases r2 with
  |cons r3 r4=>cases r4;exact⟨_,_,rfl,r1,r3⟩
theorem Lm(hc:X.calm=true):P4 X (.builtin "max") (fun xs H Q=>∃i j,xs=[.int i,.int j]/\Q (.int (if j>i then j else i)) H):=by
 intro pins s σ H xs us Q I r h;obtain⟨i,j,rfl,q⟩:=h;obtain⟨u,w',rfl,⟨t,rfl⟩,⟨t',rfl⟩⟩:=BM r;refine max_two_ints (I.ok.hd hc) fun h' tk k=>⟨_,H,I.kept k,?_,q⟩
 by_cases hj:j>i
 ·rw[Qh hj,Qh hj];exact⟨_,rfl⟩
 ·rw[Qs hj,Qs hj];exact⟨_,rfl⟩
theorem Ln(hc:X.calm=true):P4 X (.builtin "min") (fun xs H Q=>∃i j,xs=[.int i,.int j]/\Q (.int (if j<i then j else i)) H):=by
 intro pins s σ H xs us Q I r h;obtain⟨i,j,rfl,q⟩:=h;obtain⟨u,w',rfl,⟨t,rfl⟩,⟨t',rfl⟩⟩:=BM r;refine min_two_ints (I.ok.hd hc) fun h' tk k=>⟨_,H,I.kept k,?_,q⟩
 by_cases hj:j<i
 ·rw[Qh hj,Qh hj];exact⟨_,rfl⟩
 ·rw[Qs hj,Qs hj];exact⟨_,rfl⟩
theorem Cd:P4 X (.type "int") (fun xs H Q=>(∃i,xs=[.int i]/\Q (.int i) H)\/ ∃k,xs=[.bl k]/\Q (.int (if k then 1 else 0)) H):=by
 intro pins s σ H xs us Q I r h
 rcases h with⟨i,rfl,q⟩|⟨k,rfl,q⟩
 ·obtain⟨u,rfl,t,rfl⟩:=Ai r
  exact call_int_int ⟨.int i,H,I,⟨_,rfl⟩,q⟩
 ·obtain⟨u,rfl,r1⟩:=Ai r
  cases r1;exact call_int_bool ⟨.int (if k then 1 else 0),H,I.tok _,⟨_,rfl⟩,q⟩
end
structure t9(h:Heap)(x dx C:Addr)(mA:OU):Prop where
 obj:h.get? x=some (PySem.W.instObj C dx)
 ns:h.Ns1 dx mA
 ne:dx≠x
theorem UP(n:h.Ns1 dx mA):∃od,h.get? dx=some od/\∀name,PySem.W.lookIn name od=some (mA name):=by
 obtain⟨o,es,ep,ho,hd,hk,_,hm⟩:=n;refine⟨o,ho,fun name=>?_⟩
 have e:=hm name
 unfold nsFind findBy at e;rw[←Array.find?_toList]at e;unfold PySem.W.lookIn;rw[hd];dsimp only;split
 ·rename_i y q
  rw[q]at e;exact Ze some e
 ·rename_i q
  rw[q]at e;have a:es.toList.any (·.refKey)=false:=by
   rw[List.any_eq_false];intro y hy;obtain⟨z,t,hkey⟩:=hk y (Array.mem_toList_iff.mp hy)
   simp[DictEntry.refKey,hkey]
  have a':¬ es.toList.any (·.refKey)=true:=by rw[a];exact Yq
  rw[Qs a'];exact Ze some e
theorem t9.look{x:Addr}(I:t9 h x dx C mA):∃od,PySem.W.InstAt h x (PySem.W.instObj C dx) C (some od)/\∀name,PySem.W.lookIn name od=some (mA name):=
 let ⟨od,ho,hl⟩:=UP I.ns
 ⟨od,⟨I.obj,rfl,rfl,ho⟩,hl⟩
section
variable{prog:Program}{x f:Addr}{name:Str}{v:Value}
end
theorem AN.some_of{o:Option Value}(r:AN (some v) o):∃u,o=some u/\E3 v u:=by
 cases o with
 |none=>exact(show False from r).elim
 |some u=>exact⟨u,rfl,r⟩
section
variable{fs fs':List (Str×V)}
theorem UQ(hok:oN P w H h)(e:H a=some (.ins C dx fs)):∃mA,t9 h a dx C mA/\(∀f,AN (fs.lookup f) (mA f))/\PySem.Within mA (fs.map (·.1))/\fs.length≤1000/\H dx=some (.own a):=by
 obtain⟨d,z,ne,ob,mA,n,r,q⟩:=(show K2 P w H h a (.ins C dx fs)from hok a _ e)
 exact⟨mA,⟨ob,n,ne⟩,r,q,z,d⟩
end
structure wQ(K:Qz)(C:Addr):Prop where
 pg:PySem.W.plainGet K C Str.empty=true
 hd:PySem.W.hasDictIn K C=true
 po:PySem.W.plainOver K C=true
 sa:PySem.W.findIn K (.ref C) "__setattr__"=some (some (.builtin "object.__setattr__"))
theorem wQ.get(c:wQ K C)(f:Str):PySem.W.plainGet K C f=true:=c.pg
structure Con(K:Qz)(C:Addr)(f:Str)(v:V)(u:Value):Prop where
 at_:PySem.W.findIn K (.ref C) f=some (some u)
 rel:E3 v u
 get:PySem.W.specialIn K u "__get__"=some none
 cp:PySem.W.copiedNames.contains f=false
structure y8(K:Qz)(C:Addr)(m:Str)(f:Addr):Prop where
 at_:PySem.W.findIn K (.ref C) m=some (some (.ref f))
 fn:PySem.W.isFn K (.ref f)=true
 kp:PySem.W.keepIn K (.ref f)=true
section
variable{fs:List (Str×V)}{f:Str}
end
section
variable{o value:Expr}{f:Str}{pos tpos:Pos}{tv:TE}
end
section
variable{c:Value}{b:Bool}
inductive pA (K:Qz) (H:Hp):V->Value->Prop where
 |non:pA K H .non (.type "NoneType")
 |bl (x:Bool):pA K H (.bl x) (.type "bool")
 |int (i:Int):pA K H (.int i) (.type "int")
 |str (x:Str):pA K H (.str x) (.type "str")
 |flt (x:UInt64):pA K H (.flt x) (.type "float")
 |lst {a:Addr}{xs:List V}(e:H a=some (.lst xs)):pA K H (.ref a) (.type "list")
 |frz {a:Addr}{o:Obj}{xs:List V}(e:H a=some (.frz o (.lst xs))):pA K H (.ref a) (.type "list")
 |tup {a:Addr}{xs:List V}(e:H a=some (.tup xs)):pA K H (.ref a) (.type "tuple")
 |dK {a:Addr}{kvs:List (Key×V)}(e:H a=some (.dK kvs)):pA K H (.ref a) (.type "dict")
 |dT {a:Addr}{C:Addr->List Key->Prop}{kvs:List (List Key×V)}(e:H a=some (.dT C kvs)):pA K H (.ref a) (.type "dict")
 |ins {a C dx:Addr}{fs:List (Str×V)}(e:H a=some (.ins C dx fs)) (cl:wQ K C) (ha:PySem.W.findIn K (.ref C) "__class__"=some (some (.builtin "object.__class__")))
   (hn:PySem.W.specialIn K (.builtin "object.__class__") "__get__"=some (some (.builtin "getset_descriptor.__get__"))) (htk:PySem.W.takesIn K (.builtin "object.__class__")=some true)
   (hm:PySem.W.mroIn K C (.type "object")=some true):pA K H (.ref a) (.ref C)
theorem Ce{x:V}{t:Value}(I:Inv X pins σ H s)(rx:E3 x u)(ty:pA X.K H x t)(e:PySem.W.kitOne X.K t c=some b)(h:∀tk,Q (.bool b) {s with toks:=tk}):
  wpAny (model X.prog X.w) A (call (.builtin "isinstance") [u,c]) Q E s:=by
 cases ty with
 |non=>cases (show u=Value.none from rx);exact Zg PySem.W.kitx_none I.kIn True.intro e (fun z=>nomatch z) h
 |bl y=>cases (show u=Value.bool y from rx);exact Zg PySem.W.kitx_bool I.kIn True.intro e (fun z=>nomatch z) h
 |int i=>obtain⟨t,q⟩:=(show∃t,u=Value.int i t from rx);cases q;exact Zg PySem.W.kitx_int I.kIn True.intro e (fun z=>nomatch z) h
 |str y=>obtain⟨t,q⟩:=(show∃t,u=Value.str y t from rx);cases q;exact Zg PySem.W.kitx_str I.kIn True.intro e (fun z=>nomatch z) h
 |flt y=>obtain⟨t,q⟩:=(show∃t,u=Value.float y t from rx);cases q;exact Zg PySem.W.kitx_float I.kIn True.intro e (fun z=>nomatch z) h
 |@lst a xs ea=>
  cases (show u=Value.ref a from rx)
  obtain⟨_,_,n,_,h1⟩:=(show K2 X.prog X.w H s.heap a (.lst xs)from I.hok a _ ea)
  exact Zg Vu I.kIn ⟨_,h1,rfl⟩ e (fun z=>nomatch z) h
 |@frz a ob xs ea=>
  cases (show u=Value.ref a from rx)
  obtain⟨_,_,_,n,_,h1⟩:=(show K2 X.prog X.w H s.heap a (.frz ob (.lst xs))from I.hok a _ ea)
  exact Zg Vu I.kIn ⟨_,h1,rfl⟩ e (fun z=>nomatch z) h
 |@tup a xs ea=>
  cases (show u=Value.ref a from rx)
  obtain⟨_,_,_,p⟩:=(show K2 X.prog X.w H s.heap a (.tup xs)from I.hok a _ ea)
  obtain⟨o,h1,h2,_⟩:=p;exact Zg Xm I.kIn ⟨o,h1,h2⟩ e (fun z=>nomatch z) h
 |@dK a kvs ea=>
  cases (show u=Value.ref a from rx)
  obtain⟨_,_,vs,_,p⟩:=(show K2 X.prog X.w H s.heap a (.dK kvs)from I.hok a _ ea)
  obtain⟨o,es,ep,h1,h2,_⟩:=p;exact Zg Jq I.kIn ⟨o,h1,h2.1⟩ e (fun z=>nomatch z) h
 |@dT a C kvs ea=>
  cases (show u=Value.ref a from rx)
  obtain⟨_,_,xs,_,o,es,ep,h1,h2,_⟩:=(show K2 X.prog X.w H s.heap a (.dT C kvs)from I.hok a _ ea)
  exact Zg Jq I.kIn ⟨o,h1,h2.1⟩ e (fun z=>nomatch z) h
 |@ins a C dx fs ea cl ha hn htk hm=>
  cases (show u=Value.ref a from rx)
  obtain⟨mA,O,_⟩:=UQ I.hok ea;obtain⟨od,J,_⟩:=O.look;exact Zg (PySem.W.kitx_own (cl.get _) cl.hd ha hn htk hm) I.kIn J e (fun z=>nomatch z) h
end
structure f9(k:Nat)(A:Around):Prop where
 hd:A.handled=none
 dp:A.depth+3 * k+5<recursionLimit
 un:A.units+16 * k+200<cLine
theorem f9.mono(r:f9 k A)(h:j≤k):f9 j A:=⟨r.hd,by have:=r.dp;omega,by have:=r.un;omega⟩
theorem f9.deeper(r:f9 (k+1) A)(env:Env):f9 k (A.deeper env):=
 ⟨r.hd,by have:=r.dp;show A.depth+1+3 * k+5<_;omega,by have:=r.un;show A.units+3+16 * k+200<_;omega⟩
theorem f9.depth(r:f9 k A):A.depth<recursionLimit:=by have:=r.dp;omega
theorem f9.units(r:f9 k A):A.units+64<cLine:=by have:=r.un;omega
def Lo:TA:=fun _ H Q=>Q [] H
def HA(ta:TE)(tr:TA):TA:=fun σ H Q=>ta σ H fun x H1=>tr σ H1 fun xs H2=>Q (x::xs) H2
section
variable{t:TA}{pos:Pos}
theorem Aj:PA X [] Lo:=fun _ _ _ _ H Q I h=>Calls.spliced_nil ⟨[],H,I,.nil,h⟩
theorem R5(ha:PE X e te)(hr:PA X es t)(hs:starEach (e::es) X.env=(false,eval e X.env)::starEach es X.env:=by rfl):PA X (e::es) (HA te t):=by
 intro pos pins s σ H Q I h;rw[hs];show wpAny _ _ (spliced ((false,eval e X.env)::backTo pos (starEach es X.env))) _ _ s;refine Calls.spliced_cons (g6 (ha pins s σ H _ I h) fun u s1 ⟨x,H1,I1,r1,q1⟩=>?_)
 exact g6 (hr pos pins s1 σ H1 _ I1 q1) fun us s2 ⟨xs,H2,I2,r2,q2⟩=>⟨x::xs,H2,I2,.cons r1 r2,q2⟩
def Lp(t:TA):TE:=fun σ H Q=>t σ H fun xs H1=>xs.length≤sizeLine/\∀p,H1 p=none->Q (.ref p) (upd H1 p (.tup xs))
def UR(t:TA):TE:=fun σ H Q=>t σ H fun xs H1=>xs.length≤sizeLine/\∀p,H1 p=none->Q (.ref p) (upd H1 p (.lst xs))
theorem Lq{x1}(h:PA X es t):PE X (.Tuple es x1 pos) (Lp t):=by
 intro pins s σ H Q I hq;refine wpAny_Tuple_spliced (g6 (h pos pins s σ H _ I hq) fun us s1 ⟨xs,H1,I1,r,z,q⟩=>⟨by rw[←r.length];exact z,?_⟩)
 have hf:H1 s1.heap.objs.size=none:=I1.hok.fresh (Qm _)
 refine⟨.ref s1.heap.objs.size,upd H1 s1.heap.objs.size (.tup xs),I1.laid (t':=s1.toks) (fun b u e=>Qv _ e) (Qm _) ?_,rfl,q _ hf⟩
 exact⟨z,us,r,⟨_,Qn _ rfl,rfl,rfl,_,rfl⟩⟩
theorem US(h:PA X es t):PE X (.List es pos) (UR t):=by
 intro pins s σ H Q I hq;refine wpAny_List_spliced (g6 (h pos pins s σ H _ I hq) fun us s1 ⟨xs,H1,I1,r,z,q⟩=>⟨by rw[←r.length];exact z,?_⟩)
 have hf:H1 s1.heap.objs.size=none:=I1.hok.fresh (Qm _)
 refine⟨.ref s1.heap.objs.size,upd H1 s1.heap.objs.size (.lst xs),I1.laid (t':=s1.toks) (fun b u e=>Qv _ e) (Qm _) ?_,rfl,q _ hf⟩
 exact⟨z,us,0,r,Qn _ rfl⟩
end
abbrev Sp:=List V->Hp->VK->XK->Prop
variable{sp:Sp}
abbrev tM:=List Env->Hp->Shared->XK->OE
variable{CX:tM}
structure qM(P:Program)(w:World)(K:Qz)(mg:OU)(base:Heap)(A:Around)(outer:List Env)(s:Shared)(H:Hp):Prop where
 frames:A.frames=some outer
 mod:Mod K mg base
 bs:∀b o,base.get? b=some o->s.heap.get? b=some o/\H b=none
 bsz:base.objs.size≤s.heap.objs.size
 funs:s.heap.FunFrames base outer
 frf:∀b∈nR outer,H b=none
 hok:oN P w H s.heap
 bare:AllBare s.gens
def CE(outer:List Env)(P:Program)(w:World)(H:Hp)(s:Shared)(Q:VK)(u:Value)(s':Shared):Prop:=
 ∃v H',s'.os=s.os/\AllBare s'.gens/\Un (nR outer) [] H H' s.heap s'.heap/\oN P w H' s'.heap/\E3 v u/\Q v H'
def CR(CX:tM)(outer:List Env)(P:Program)(w:World)(H:Hp)(s:Shared)(Q:VK)(E:XK)(r:Result)(s':Shared):Prop:=
 match r with
 |.ok (.ret u)=>CE outer P w H s Q u s'
 |.ok _=>False
 |.error e=>CX outer H s E e s'
structure d9(P:Program)(w:World)(K:Qz)(mg:OU)(base:Heap)(CX:tM)(k:Nat)(f:Addr)(fd:FuncData)(ps:List Str)(sp:Sp):Prop where
 len:∀vs H Q E,sp vs H Q E->vs.length=ps.length
 run:∀(A:Around) (outer:List Env) (s:Shared) (H:Hp) (args:Args) (us:List Value) (vs:List V) (Q:VK) (E:XK),f9 k A->qM P w K mg base A outer s H->BindsTo s fd args (ps.zip us)->D4 vs us->sp vs H Q E->
  codeAny (model P w) A (.call (.ref f) args) (CR CX outer P w H s Q E) s
theorem Inv.qO(I:Inv X pins σ H s):qM X.prog X.w X.K X.mg X.base X.A X.stack s H:=
 ⟨I.ok.frames,I.ok.mod,I.bs,Zr I.ok.bsz I.sz,I.stack,I.stkFree,I.hok,I.bare⟩
theorem Inv.after{Q:VK}(I:Inv X pins σ H s)(h:CE X.stack X.prog X.w H s Q u s'):EP X pins σ Q u s':=by
 obtain⟨v,H',os,bare,un,hok,r,q⟩:=h;obtain⟨hh,g,d,t,os'⟩:=s';obtain rfl:os'=s.os:=os;exact⟨v,H',I.call (h':=hh) (g':=g) (d':=d) (t':=t) (ch:=[]) un hok bare (fun b z=>absurd z (by simp)),r,q⟩
def HC(sp:Sp)(dvs:List V)(E:XK)(t:TA):TE:=fun σ H Q=>t σ H fun vs H1=>sp (vs++dvs) H1 Q E
def Q6(K:Qz)(fd:FuncData)(ps:List Str)(ds:List Value):Prop:=
 ∀(s:Shared) (us:List Value),K.In s.heap->(us++ds).length=ps.length->BindsTo s fd ⟨us,[]⟩ (ps.zip (us++ds))
theorem Q6.all(h:∀us:List Value,us.length=ps.length->bindArgs fd ⟨us,[]⟩=pure (ps.zip us)):Q6 K fd ps []:=fun s us _ hl=>by
 rw[Ys]at hl ⊢;exact .of_eq (h us hl)
def Ez(CX:tM)(X:Cx)(E:XK):Prop:=∀(pins:OX) (σ:St) (H:Hp) (s:Shared) (e:Value) (s':Shared),Inv X pins σ H s->CX X.stack H s E e s'->X.xe e s'
section
variable{f:Addr}{dvs:List V}{ds:List Value}{E:XK}{m:Str}{pos apos:Pos}{o:Expr}{t:TA}
theorem UT{Q:VK}(F:d9 X.prog X.w X.K X.mg X.base CX k f fd ps sp)(hr:f9 k X.A)(hb:Q6 X.K fd ps ds)(hd:D4 dvs ds)(hx:Ez CX X E)
  (I:Inv X pins σ H s)(r:D4 vs us)(h:sp (vs++dvs) H Q E):wpAny (model X.prog X.w) X.A (call (.ref f) us) (EP X pins σ Q) X.xe s:=by
 have r2:D4 (vs++dvs) (us++ds):=r.append hd
 have hl:(us++ds).length=ps.length:=by rw[←r2.length];exact F.len _ _ _ _ h
 refine wpAny_call (Va (F.run X.A X.stack s H ⟨us,[]⟩ (us++ds) (vs++dvs) Q E hr I.qO (hb s us I.kIn hl) r2 h) fun r s' hq=>?_)
 cases r with
 |error e=>exact hx pins σ H s e s' I hq
 |ok fl=>
  cases fl with
  |ret u=>exact I.after hq
  |next=>exact False.elim hq
  |brk=>exact False.elim hq
  |cont=>exact False.elim hq
theorem FA(F:d9 X.prog X.w X.K X.mg X.base CX k f fd ps sp)(hr:f9 k X.A)(hg:Gl X x)(hm:X.mg x=some (.ref f))(hk:PySem.W.keepIn X.K (.ref f)=true)(hb:Q6 X.K fd ps ds)(hd:D4 dvs ds)(hx:Ez CX X E)
  (ha:PA X (e::es) t)(hdb:(x==("__debug__":Str))=false:=by decide)(he:starEach (e::es) X.env=(false,eval e X.env)::starEach es X.env:=by rfl)(hpl:(backTo pos (starEach es X.env)).any (·.1)=false:=by rfl):
  PE X (.Call (.Name x p) (e::es) [] pos) (HC sp dvs E t):=by
 intro pins s σ H Q I h;refine Jr (Dc I hg hm ?_ hdb);refine PySem.W.callWith_K (h₀:=X.base) I.ok.mod.kin hk (g6 (ha pos pins s σ H _ I h) fun us s1 ⟨vs,H1,I1,r,q⟩=>⟨I1.kIn,?_⟩) he hpl
 exact UT F hr hb hd hx I1 r q
structure Mk(K:Qz)(C f:Addr):Prop where
 makes:PySem.W.makesIn K C=true
 init:PySem.W.findIn K (.ref C) "__init__"=some (some (.ref f))
 fn:PySem.W.isFn K (.ref f)=true
 kp:PySem.W.keepIn K (.ref C)=true
end
section
variable{f:Addr}{ks:List Str}{E:XK}{m:Str}{pos apos kpos:Pos}{o:Expr}{kws:List Keyword}{t tk:TA}{nm:Option Str}
structure wR(K:Qz)(fd:FuncData)(ps ks:List Str)(g:List Value->List Value->List Value)(gV:List V->List V->List V):Prop where
 to:∀(s:Shared) (us ws:List Value),K.In s.heap->(g us ws).length=ps.length->BindsTo s fd ⟨us,ks.zip ws⟩ (ps.zip (g us ws))
 rel:∀{vs:List V}{us:List Value}{zs:List V}{ws:List Value},D4 vs us->D4 zs ws->D4 (gV vs zs) (g us ws)
variable{g:List Value->List Value->List Value}{gV:List V->List V->List V}
end
structure c8(N P:List Str)(sc:Scope):Prop where
 kind:sc.kind=.function
 co:sc.isCoroutine=false
 gen:sc.isGenerator=false
 nd:N.Nodup
 pre:N.take P.length=P
 par:∀x∈P,sc.names.lookup x=some .local\/sc.names.lookup x=some .cell
 nofree:∀y∈sc.names,y.2≠.free
theorem Lr{kindOf:Str->Option NameKind}{x:Str}:∀{binds:List (Str×Value)}{m:OU},(∀v,(x,v)∉binds)->bindL kindOf binds m x=m x
 |[],_,_=>rfl
 |(n,v)::r,m,h=>by
  unfold bindL;rw[Lr fun w hw=>h w (Qr _ hw)]
  split
  ·have:x≠n:=by rintro rfl;exact h v Zq
   simp[this]
  ·rfl
theorem Ls{kindOf:Str->Option NameKind}{x:Str}:∀{binds:List (Str×Value)}{m:OU},(∀v,(x,v)∉binds)->bindC kindOf binds m x=m x
 |[],_,_=>rfl
 |(n,v)::r,m,h=>by
  unfold bindC;rw[Ls fun w hw=>h w (Qr _ hw)]
  split
  ·rfl
  ·have:x≠n:=by rintro rfl;exact h v Zq
   simp[this]
theorem Lu{kindOf:Str->Option NameKind}{x:Str}{v:Value}:∀{P:List Str}{vs:List Value}{i:Nat}{m:OU},P.Nodup->P[i]? =some x->vs[i]? =some v->kindOf x=some .local->
  bindL kindOf (P.zip vs) m x=some v
 |[],_,_,_,_,h,_,_=>by simp at h
 |_::_,[],_,_,_,_,h,_=>by simp at h
 |p::P,w::vs,0,m,nd,h1,h2,hk=>by
  simp at h1 h2;subst h1;subst h2
  show bindL kindOf ((p,w)::P.zip vs) m p=_;unfold bindL;rw[Lr fun v hv=>(Up.mp nd).1 (Ve hv).1,Qh hk]
  simp
 |p::P,w::vs,i+1,m,nd,h1,h2,hk=>by
  show bindL kindOf ((p,w)::P.zip vs) m x=_;unfold bindL;exact Lu (i:=i) (Up.mp nd).2 (by simpa using h1) (by simpa using h2) hk
theorem Lv{kindOf:Str->Option NameKind}{x:Str}{v:Value}:∀{P:List Str}{vs:List Value}{i:Nat}{m:OU},P.Nodup->P[i]? =some x->vs[i]? =some v->kindOf x≠some .local->
  bindC kindOf (P.zip vs) m x=some v
 |[],_,_,_,_,h,_,_=>by simp at h
 |_::_,[],_,_,_,_,h,_=>by simp at h
 |p::P,w::vs,0,m,nd,h1,h2,hk=>by
  simp at h1 h2;subst h1;subst h2
  show bindC kindOf ((p,w)::P.zip vs) m p=_;unfold bindC;rw[Ls fun v hv=>(Up.mp nd).1 (Ve hv).1,Qs hk]
  simp
 |p::P,w::vs,i+1,m,nd,h1,h2,hk=>by
  show bindC kindOf ((p,w)::P.zip vs) m x=_;unfold bindC;exact Lv (i:=i) (Up.mp nd).2 (by simpa using h1) (by simpa using h2) hk
def start(N:List Str)(vs:List V):St:=vs.map some++List.replicate (N.length-vs.length) none
def O0(CX:tM)(P:Program)(w:World)(K:Qz)(mg:OU)(base:Heap)(N:List Str)(qual:Str)(scope:Scope)(f:Addr)(cd:Value)(A:Around)(outer:List Env)(s:Shared)(H:Hp)(E:XK):Cx where
 prog:=P
 w:=w
 K:=K
 mg:=mg
 base:=base
 A:=A.deeper (envOfC qual scope s.heap.objs.size f cd)
 N:=N
 s₀:=s
 H₀:=H
 env:=envOfC qual scope s.heap.objs.size f cd
 outer:=outer
 stack:=envOfC qual scope s.heap.objs.size f cd::outer
 ex:=[]
 calm:=true
 fn:=fun _=>true
 pn:=[]
 xe:=fun e s'=>wpAny (model P w) (A.deeper (envOfC qual scope s.heap.objs.size f cd)) (leaving (envOfC qual scope s.heap.objs.size f cd) e) (fun _ s''=>CX outer H s E e s'') (fun e' s''=>CX outer H s E e' s'') s'
theorem Lw{sc:Scope}(h:sc.names.lookup x=some .cell):∃c,(cellsFrom n sc.names []).lookup x=some c:=by
 have q:=Ul sc.names n [] (.inl h)
 exact Yy.mp q
theorem Lx{f:Addr}{cd:Value}{outer:List Env}{s1:Shared}{E:XK}
  (S:c8 N ps scope)(hd:A.handled=none)(e0:qM P w K mg base A outer s H)(hl:vs.length=ps.length)(r:D4 vs us)
  (x:InCallC s s.heap.objs.size (bindL (envOfC qual scope s.heap.objs.size f cd).kindOf (ps.zip us) fun _=>none) (cellsFrom (s.heap.objs.size+1) scope.names []) (bindC (envOfC qual scope s.heap.objs.size f cd).kindOf (ps.zip us) fun _=>none) s1):
  Inv (O0 CX P w K mg base N qual scope f cd A outer s H E) [] (start N vs) H s1:=by
 have hpl:ps.length≤N.length:=by have:=Ze List.length S.pre;rw[Jy]at this;omega
 obtain⟨h1,tk,rfl,hk⟩:=x.done;have noA:∀b:Addr,b∉(O0 CX P w K mg base N qual scope f cd A outer s H E).ex:=fun b z=>absurd (show b∈([]:List Addr)from z) (by simp)
 refine⟨⟨e0.mod,S.kind,rfl,rfl,Qm _,fun y z c h1 h2=>?_,fun y hy=>?_,fun y c _ h=>?_,fun _=>hd,Around.frames_deeper e0.frames,.inr ⟨rfl,rfl⟩,fun b z=>absurd z (noA b),e0.bs,e0.bsz,fun b _ _=>noA b,fun b z=>absurd z (noA b),e0.funs,e0.frf⟩,
  rfl,e0.bare,Un.kept hk,⟨_,x.toInCall.ns,fun i y v h1 h2 h3=>?_⟩,fun y c h=>⟨_,x.cell y c h⟩,e0.hok.fresh (Qm _),fun y c h=>?_,fun p hp=>absurd (show p∈([]:OX)from hp) (by simp),e0.hok.kept hk,?_⟩
 ·exact name_of_addr x.apart (Zy h1) (Zy h2)
 ·have hy:scope.names.lookup y=some .cell\/scope.names.lookup y=some .free:=hy
  rcases hy with hy|hy
  ·exact Lw hy
  ·exact absurd rfl (S.nofree _ (Zy hy))
 ·exact Jl (x.above y c (Zy h))
 ·have hi:i<vs.length:=by
   unfold start at h2
   by_cases hi:i<vs.length
   ·exact hi
   ·rw[Jv (by simpa using hi)]at h2
    rw[Yo]at h2;split at h2<;>cases h2
  have ha:vs[i]? =some v:=by
   unfold start at h2;rw[Yw (by simpa using hi),Zv]at h2
   cases e:vs[i]? with
   |none=>rw[e]at h2;cases h2
   |some a=>rw[e]at h2;cases h2;rfl
  obtain⟨u,hu,rv⟩:=r.get ha;have hp:ps[i]? =some y:=by
   rw[←S.pre,List.getElem?_take_of_lt (by omega)];exact h1
  have ndP:ps.Nodup:=by rw[←S.pre];exact S.nd.sublist (List.take_sublist _ _)
  refine⟨u,rv,?_⟩
  rcases S.par y (Uz hp)with k|k
  ·exact .inl ⟨k,Lu ndP hp hu k⟩
  ·obtain⟨c,e⟩:=Lw (n:=s.heap.objs.size+1) k
   refine .inr ⟨.inl k,c,e,?_⟩;have q:=x.cell y c e;rw[Lv ndP hp hu (by show scope.names.lookup y≠_;rw[k];decide)]at q
   exact q
 ·exact e0.hok.fresh (Jl (x.above y c (Zy h)))
 ·unfold start
  show _=N.length;rw[Qt,Qk,Yx]
  omega
theorem HD{f:Addr}{name:Str}{params:Arguments}{dV kV doc pm cdv ct oc:Value}{an od:Option Addr}
  {osl:Array (Option Value)}(lk:K.lookup f=some ⟨oc,od,.func (PySem.W.fnOf name qual params body scope dV kV doc pm an cdv ct),osl⟩)(hcd:PySem.W.codeIn K cdv qual=true)(S:c8 N ps scope)
  (len:∀vs H Q E,sp vs H Q E->vs.length=ps.length)
  (hbody:∀(A:Around) (outer:List Env) (s:Shared) (H:Hp) (vs:List V) (Q:VK) (E:XK),f9 k (A.deeper (envOfC qual scope s.heap.objs.size f cdv))->sp vs H Q E->
   ∃t,pQ (O0 CX P w K mg base N qual scope f cdv A outer s H E) body t/\t {nx:=fun _ H'=>Q .non H',rt:=Q} (start N vs) H):
  d9 P w K mg base CX (k+1) f (PySem.W.fnOf name qual params body scope dV kV doc pm an cdv ct) ps sp:=by
 refine⟨len,fun A outer s H args us vs Q E hr e0 hb r hsp=>?_⟩
 have hl:=len _ _ _ _ hsp
 have KX:K.In s.heap:=e0.mod.kin.keeps fun b o e=>(e0.bs b o e).1
 have lim:s.heap.NoLimit:=e0.mod.nolimit.keeps fun b o e=>(e0.bs b o e).1
 have hkind:∀y∈ps.zip us,scope.names.lookup y.1=some .local\/(scope.names.lookup y.1=some .cell/\((cellsFrom (s.heap.objs.size+1) scope.names []).lookup y.1).isSome=true):=fun⟨n,v⟩ hy=>by
  rcases S.par n (Ve hy).1 with q|q
  ·exact .inl q
  ·exact .inr ⟨q,Ul _ _ _ (.inl q)⟩
 refine codeAny_call_function hr.depth (KX _ _ lk) rfl S.co S.gen rfl (PySem.W.codeRec_of KX hcd) (hb _ _ _ _ ?_);refine wpAny_newFunctionEnv_cells S.kind hkind fun env he s1 x=>?_
 subst he;refine⟨lim.keeps x.toInCall.keep,codeAny_func ?_⟩;obtain⟨t,ht,hq⟩:=hbody A outer s H vs Q E (hr.deeper _) hsp;have I:Inv (O0 CX P w K mg base N qual scope f cdv A outer s H E) [] (start N vs) H s1:=Lx S hr.hd e0 hl r x;refine Qe (ht [] s1 (start N vs) H _ I hq) (fun fl s' hs=>?_) fun e s' hs=>hs
 have fin:∀{σ':St}{H':Hp}{v:V}{u:Value},Inv (O0 CX P w K mg base N qual scope f cdv A outer s H E) [] σ' H' s'->E3 v u->Q v H'->CE outer P w H s Q u s':=
  fun{σ' H' v u} J rv q=>⟨v,H',J.os,J.bare,J.base,J.hok,rv,q⟩
 cases fl with
 |ret u=>
  obtain⟨v,σ',H',J,rv,q⟩:=hs;exact fin J rv q
 |next=>
  obtain⟨σ',H',J,q⟩:=hs;exact fin (v:=V.non) (u:=Value.none) J rfl q
 |brk=>
  obtain⟨_,_,_,q⟩:=hs;exact False.elim q
 |cont=>
  obtain⟨_,_,_,q⟩:=hs;exact False.elim q
section
variable{pos:Pos}{t:TA}{id T:String}{r:List V->Hp->VK->Prop}
def vO(r:List V->Hp->VK->Prop)(t:TA):TE:=fun σ H Q=>t σ H fun vs H1=>r vs H1 Q
theorem Dh(hc:P4 X (.builtin id) r)(hg:Gl X x)(hm:X.mg x=none)(hv:bootBuiltins x=some (.builtin id))(ha:PA X (e::es) t)(hn:x≠"__name__":=by decide)(hdb:(x==("__debug__":Str))=false:=by decide)
  (he:starEach (e::es) X.env=(false,eval e X.env)::starEach es X.env:=by rfl)(hpl:(backTo pos (starEach es X.env)).any (·.1)=false:=by rfl):PE X (.Call (.Name x p) (e::es) [] pos) (vO r t):=by
 intro pins s σ H Q I h;refine Jr (BL I hg hm hv ?_ hn hdb);exact PyProof.Rows.callWith_builtin1 (g6 (ha pos pins s σ H _ I h) fun us s1 ⟨vs,H1,I1,r1,q1⟩=>hc pins s1 σ H1 vs us Q I1 r1 q1) he hpl
theorem Ly(hc:P4 X (.type T) r)(hg:Gl X x)(hm:X.mg x=none)(hv:bootBuiltins x=some (.type T))(ha:PA X (e::es) t)(hn:x≠"__name__":=by decide)(hdb:(x==("__debug__":Str))=false:=by decide)
  (he:starEach (e::es) X.env=(false,eval e X.env)::starEach es X.env:=by rfl)(hpl:(backTo pos (starEach es X.env)).any (·.1)=false:=by rfl):PE X (.Call (.Name x p) (e::es) [] pos) (vO r t):=by
 intro pins s σ H Q I h;refine Jr (BL I hg hm hv ?_ hn hdb);exact Jd (g6 (ha pos pins s σ H _ I h) fun us s1 ⟨vs,H1,I1,r1,q1⟩=>hc pins s1 σ H1 vs us Q I1 r1 q1) he hpl
end
end L2
namespace HT
open PySem PyProof.Rows
variable{Q:OE}{hi lo:Option Int}{vl vu:Value}
def lexLt:List Int->List Int->Bool
 |[],[]=>false
 |[],_::_=>true
 |_::_,[]=>false
 |x::xs,y::ys=>if x=y then lexLt xs ys else decide (x<y)
theorem oJ(x y:Int)(xs ys:List Int):lexLt (x::xs) (y::ys)=if x=y then lexLt xs ys else decide (x<y):=rfl
theorem pT:lexLt [] []=false:=rfl
theorem pH(y:Int)(ys:List Int):lexLt [] (y::ys)=true:=rfl
theorem pI(x:Int)(xs:List Int):lexLt (x::xs) []=false:=rfl
theorem sF(A:Around)(s:Shared)(a:Int)(t:Tok)(c:Int)(u:Tok):∃e,SeqAt.EqAt A s (.int a t) (.int c u) e/\(e=true↔a=c):=
 ⟨(a==c),SeqAt.EqAt.int_int a t c u,by simp⟩
theorem sG(A:Around)(s:Shared)(a:Int)(t:Tok)(c:Int)(u:Tok)(prog:Program)(w:World)(E:OE)(Q:OE)(h:Q (.bool (decide (a<c))) s):
  wpAny (model prog w) A (richCompare .Lt (.int a t) (.int c u)) Q E s:=
 (PyProof.Rows.lt_int h:wpAny (model prog w) A (compareOp .Lt (.int a t) (.int c u)) Q E s)
section
open PySem.SeqAt
open PySem.AutoSeq1 (wpAny_loadPart')
open PySem.MeetsSeq PySem.MeetsSeq2 PySem.MeetsSeq3
theorem pU(l b:Addr)(items items2:Array Value)(n n2:Nat)(dd dd2:Option Addr)(sl sl2:Array (Option Value))(ns ms:List Int)(hi:IntsAre items.toList ns)(hj:IntsAre items2.toList ms):
  Meets (Builtin.«tuple.__lt__» ⟨[.ref l,.ref b],[]⟩)
   (fun _ R s=>s.heap.get? l=some {cls:=.type "tuple",dict:=dd,data:=.seq items n,slots:=sl}/\s.heap.get? b=some {cls:=.type "tuple",dict:=dd2,data:=.seq items2 n2,slots:=sl2}/\
    R (.ok (.ret (.bool (lexLt ns ms)))) s):=
 .of_wp fun prog w A R s h=>by
  obtain⟨hp,g,d,tk,os⟩:=s;obtain⟨hl,hb,h⟩:=h;have f2:=AutoSeq1.sub_tuple_tuple;have z1:items.size=ns.length:=by rw[←hi.length];simp
  have z2:items2.size=ms.length:=by rw[←hj.length];simp
  wp_walk using Yk hl,Yk hb,wpAny_forIn_list _ (fun rest b s'=>b.1=none/\s'=⟨hp,g,d,tk,os⟩/\∃(vs ws:List Value) (ns' ms':List Int),rest=vs.zip ws/\
   IntsAre vs ns'/\IntsAre ws ms'/\ns'.length+items2.size=ms'.length+items.size/\R (.ok (.ret (.bool (lexLt ns' ms')))) ⟨hp,g,d,tk,os⟩) _
  case turn=>
   rintro⟨y,x⟩ rest b s' ⟨hb',rfl,vs,ws,ns',ms',hz,hvi,hwi,hlen,hR⟩;cases hvi with
   |nil=>rw[List.zip_nil_left]at hz;cases hz
   |cons a t hvi'=>
    cases hwi with
    |nil=>rw[List.zip_nil_right]at hz;cases hz
    |cons c u hwi'=>
     rw[Js]at hz;injection hz with hyx hrest
     injection hyx with hy hx
     subst hy hx;rw[oJ]at hR;simp only[Qo]at hlen;obtain⟨e,he,hiff⟩:=sF A.in1 ⟨hp,g,d,tk,os⟩ a t c u;refine Qq (he prog w _ _ ?_);cases e with
     |true=>
      rw[Qh (hiff.mp rfl)]at hR
      wp_walk
      exact⟨rfl,rfl,_,_,_,_,hrest,hvi',hwi',by omega,hR⟩
     |false=>
      rw[Qs (fun q=>absurd (hiff.mpr q) Yq)]at hR
      have hri:=sG A.in1 ⟨hp,g,d,tk,os⟩ a t c u prog w
      wp_walk using hri
      exact⟨_,rfl,by simpa using hR⟩
  case fin=>
   rintro⟨b1,b2⟩ s' ⟨hb',rfl,vs,ws,ns',ms',hz,hvi,hwi,hlen,hR⟩;simp only at hb';subst hb';have hv:lexLt ns' ms'=decide (items.size<items2.size):=by
    cases hvi with
    |nil=>
     cases hwi with
     |nil=>
      simp only[Jj]at hlen;rw[pT];exact(Zj (by omega)).symm
     |cons c u hw=>
      simp only[Jj,Qo]at hlen;rw[pH];exact(Yc (by omega)).symm
    |cons a t hv=>
     cases hwi with
     |nil=>
      simp only[Jj,Qo]at hlen;rw[pI];exact(Zj (by omega)).symm
     |cons c u hw=>
      rw[Js]at hz;cases hz
   rw[hv]at hR
   wp_walk
   exact⟨_,rfl,by simpa [Builtin.Tuple.tupleCompareSizes]using hR⟩
  case h=>
   exact⟨rfl,rfl,items.toList,items2.toList,ns,ms,rfl,hi,hj,by omega,h⟩
end
section
variable{prog:Program}{w:World}{A:Around}{E:OE}{s:Shared}
theorem pJ{l b:Addr}{items items2:Array Value}{ns ms:List Int}(hl:IsTup s.heap l items)(hb:IsTup s.heap b items2)(hi:IntsAre items.toList ns)(hj:IntsAre items2.toList ms)
  (hu:A.units<cLine)(h:Q (.bool (lexLt ns ms)) s):wpAny (model prog w) A (compareOp .Lt (.ref l) (.ref b)) Q E s:=by
 obtain⟨⟨cls,dd,data,sl⟩,ho,hc,n,hd⟩:=id hl;obtain⟨⟨cls2,dd2,data2,sl2⟩,ho2,hc2,n2,hd2⟩:=id hb;simp only at hc hd hc2 hd2;subst hc hd hc2 hd2;exact richCompare_meets_room (op:=.Lt) ⟨_,ho,rfl⟩ ⟨_,ho2,rfl⟩ PySem.F.slot_tuple_lt PySem.F.entry_tuple_lt (PySem.F.args_tuple_lt_2 _ _) (pU l b items items2 n n2 dd dd2 sl sl2 ns ms hi hj)
  ⟨ho,ho2,show Value.bool (lexLt ns ms)≠Value.notImplemented/\Q (.bool (lexLt ns ms)) s from⟨(fun x=>nomatch x),h⟩⟩ hu
def k7(n d:Nat):Option Int->Nat
 |none=>d
 |some v=>if v<0 then(v+(n:Int)).toNat else min v.toNat n
theorem uA(n d:Nat)(hd:d≤n)(o:Option Int):k7 n d o≤n:=by
 cases o with
 |none=>exact hd
 |some v=>
  show(if v<0 then(v+(n:Int)).toNat else min v.toNat n)≤n
  by_cases hv:v<0
  ·rw[Qh hv];omega
  ·rw[Qs hv];exact Nat.min_le_right _ _
theorem rG(v:Int)(n d:Nat):(if v<0 then max (v+(n:Int)) 0 else min v (n:Int))=((k7 n d (some v):Nat):Int):=by
 show(if v<0 then max (v+(n:Int)) 0 else min v (n:Int))=(((if v<0 then(v+(n:Int)).toNat else min v.toNat n):Nat):Int)
 by_cases hv:v<0
 ·simp only[Qh hv];omega
 ·simp only[Qs hv];omega
theorem qZ(lo hi:Option Int)(n:Nat):Builtin.Slice.sliceAdjust lo hi 1 (n:Int)=(((k7 n 0 lo:Nat):Int),((k7 n n hi:Nat):Int)):=by
 have h1:¬ ((1:Int)<0):=by omega
 unfold Builtin.Slice.sliceAdjust;simp only[h1,Yu];refine Uk ?_ ?_
 ·cases lo with
  |none=>rfl
  |some v=>exact rG v n 0
 ·cases hi with
  |none=>rfl
  |some v=>exact rG v n n
theorem rA(i j:Nat):Builtin.Slice.slicePlaces (i:Int) (j:Int) 1=j-i:=by
 unfold Builtin.Slice.slicePlaces;have h1:(1:Int)>0:=by omega
 simp only[h1,Zn,Int.ediv_one];split<;>omega
theorem pK{v:Value}{o:Option Int}{Q:Option Int->Shared->Prop}(p:IsPart v o)(h:Q o s):wpAny (model prog w) A (Builtin.Slice.slicePartIndex v) Q E s:=by
 cases p with
 |none=>exact slicePart_none h
 |int i t=>exact slicePart_int h
theorem nF{sl:Addr}{n:Nat}{Q:Int×Int×Nat->Shared->Prop}(hs:s.heap.IsSliceOf sl vl vu .none)(pl:IsPart vl lo)(pu:IsPart vu hi)
  (h:Q (((k7 n 0 lo:Nat):Int),1,k7 n n hi-k7 n 0 lo) s):wpAny (model prog w) A (Builtin.Slice.sliceApplied (.ref sl) (pure (n:Int))) Q E s:=by
 obtain⟨os,hos,hcs,hds⟩:=id hs;unfold Builtin.Slice.sliceApplied Builtin.Slice.sliceFields;refine Qq (Qq (Yz hos hds (x:=vl) rfl (Qq (Yz hos hds (x:=vu) rfl (Qq (Yz hos hds (x:=.none) rfl (Qy ?_)))))));refine Qq (slicePart_none ?_);show wpAny _ _ (if((1:Int)==0)=true then _ else _) _ _ s
 rw[Qs (by decide)]
 refine Qq (pK pl (Qq (pK pu (Qq (Qy ?_)))));show wpAny _ _ (match Builtin.Slice.sliceAdjust lo hi 1 (n:Int)with|(lo,hi)=>pure (lo,(1:Int),Builtin.Slice.slicePlaces lo hi 1)) _ _ s
 rw[qZ lo hi n];show wpAny _ _ (pure (((k7 n 0 lo:Nat):Int),(1:Int),Builtin.Slice.slicePlaces ((k7 n 0 lo:Nat):Int) ((k7 n n hi:Nat):Int) 1)) _ _ s;rw[rA];exact Qy h
theorem sH(xs:Array Value)(i k:Nat):((List.range k).filterMap fun(m:Nat)=>xs[((i:Int)+(m:Int) * 1).toNat]?).toArray=((xs.toList.drop i).take k).toArray:=by
 have e:(fun(m:Nat)=>xs[((i:Int)+(m:Int) * 1).toNat]?)=fun m=>xs[i+m]?:=by
  funext m
  have:((i:Int)+(m:Int) * 1).toNat=i+m:=by omega
  rw[this]
 rw[e];have:=pick_run xs i k;rw[List.filterMap_map]at this;have e2:((fun x=>xs[x]?)∘fun x=>i+x)=fun m=>xs[i+m]?:=rfl
 rw[e2]at this;rw[this]
theorem oO{t sl:Addr}{items:Array Value}(ht:IsTup s.heap t items)(hs:s.heap.IsSliceOf sl vl vu .none)(pl:IsPart vl lo)(pu:IsPart vu hi)
  (hw:¬ (k7 items.size 0 lo=0/\k7 items.size items.size hi=items.size))
  (h:Q (.ref s.heap.objs.size) {s with heap:=s.heap.push {cls:=.type "tuple",data:=.seq ((items.toList.drop (k7 items.size 0 lo)).take (k7 items.size items.size hi-k7 items.size 0 lo)).toArray}})
  (hsz:items.size≤sizeLine):wpAny (model prog w) A (getItem (.ref t) (.ref sl)) Q E s:=by
 have htake:sizeOk (.seq ((items.toList.drop (k7 items.size 0 lo)).take (k7 items.size items.size hi-k7 items.size 0 lo)).toArray):=by
  show((items.toList.drop (k7 items.size 0 lo)).take (k7 items.size items.size hi-k7 items.size 0 lo)).toArray.size≤sizeLine;rw[Qb,Jy,Tz,Vj]
  omega
 have hj:k7 items.size items.size hi≤items.size:=uA _ _ (Qm _) hi
 obtain⟨os,hos,hcs,hds⟩:=id hs;have hTs:s.TypeIs (.ref sl) "slice":=⟨os,hos,hcs⟩;unfold getItem
 try with_reducible refine Jb ?_
 first|refine Qq (Qy ?_)|skip
 refine Qq (wpAny_sequenceKey ht.typeIs (by decide) ?_)
 refine Qq (Yh (name:=Str.ofString "__getitem__") ht.typeIs Zb
  (Jh Zb ht.typeIs entry_tuple_getitem ?_ (args_tuple_getitem _ _)))
 show wpAny _ _ (Builtin.Tuple.tupleItemsOf (.ref t)>>=_) _ _ s;refine Qq (tupleItemsOf_ ht ?_);refine Qq (wpAny_typeOf hTs ?_);rw[Qh (by decide)]
 refine Qq (nF hs pl pu ?_);have hno:¬ ((((k7 items.size 0 lo:Nat):Int)==0&&(1:Int)==1&&(k7 items.size items.size hi-k7 items.size 0 lo)==items.size)=true):=by
  intro q;rw[Qw,Qw]at q;have q1:((k7 items.size 0 lo:Nat):Int)=0:=Vq q.1.1;have q2:k7 items.size items.size hi-k7 items.size 0 lo=items.size:=Vq q.2;exact hw ⟨by omega,by omega⟩
 show wpAny _ _ (if(((k7 items.size 0 lo:Nat):Int)==0&&(1:Int)==1&&(k7 items.size items.size hi-k7 items.size 0 lo)==items.size)=true then _ else _) _ _ s
 rw[Qs hno,sH]
 first
  |exact Qq (m:=Builtin.Tuple.tupleExact _) (Zt (Qy ⟨_,rfl,Qy h⟩) htake)
  |exact Qq (m:=Builtin.Tuple.tupleExact _) (Zt (Qq (Qy (Qy ⟨_,rfl,Qy h⟩))) htake)
  |exact Qq (Qq (m:=Builtin.Tuple.tupleExact _) (Zt (Qy (Qy ⟨_,rfl,Qy h⟩)) htake))
  |exact Qq (Qq (m:=Builtin.Tuple.tupleExact _) (Zt (Qy ⟨_,rfl,Qy h⟩) htake))
end
end HT
namespace L2
open PySem PySem.Spec PyProof.Rows
variable{H:Hp}{X:Cx}{i:Int}{its its' us:List Value}{n t':Nat}{p:Addr}{pins:OX}{r:R2}{s:Shared}{u v:Value}{x y:V}{xs:List V}{α:Type}{σ:St}
abbrev TO:=St->Hp->(Option Int->Hp->Prop)->Prop
def PO(X:Cx)(e:Option Expr)(t:TO):Prop:=
 ∀(pins:OX) (s:Shared) (σ:St) (H:Hp) (Q:Option Int->Hp->Prop),Inv X pins σ H s->t σ H Q->
  wpAny (model X.prog X.w) X.A (evalPart e X.env) (fun u s'=>∃o H',Inv X pins σ H' s'/\IsPart u o/\Q o H') X.xe s
def UU:TO:=fun _ H Q=>Q none H
def UW(t:TE):TO:=fun σ H Q=>t σ H fun x H1=>∃i,x=.int i/\Q (some i) H1
theorem Bn{ns:List Int}:∀{us:List Value},D4 (ns.map V.int) us->IntsAre us ns:=by
 induction ns with
 |nil=>intro us r;rw[Vo]at r;cases r;exact .nil
 |cons n ns ih=>
  intro us r;rw[Qg]at r;cases r with
  |cons r1 r2=>
   obtain⟨t,e⟩:=r1;subst e;exact .cons n t (ih r2)
section
variable{e:Expr}{te:TE}{lo hi:Option Expr}{tl th:TO}{pos p2:Pos}
theorem UX:PO X none UU:=by
 intro pins s σ H Q I h;rw[evalPart_none];exact Qy ⟨none,H,I,.none,h⟩
theorem UY(h:PE X e te):PO X (some e) (UW te):=by
 intro pins s σ H Q I hw;rw[evalPart_some];refine g6 (h pins s σ H _ I hw) fun u s1 ⟨x,H1,I1,r1,q1⟩=>?_
 obtain⟨i,rfl,q⟩:=q1;obtain⟨t,rfl⟩:=r1;exact⟨some i,H1,I1,.int i t,q⟩
def wU(X:Cx)(r:V->Option Int->Option Int->Hp->VK->Prop):Prop:=
 ∀(pins:OX) (s:Shared) (σ:St) (H:Hp) (x:V) (v vl vu:Value) (lo hi:Option Int) (sl:Addr) (Q:VK),Inv X pins σ H s->E3 x v->s.heap.IsSliceOf sl vl vu .none->IsPart vl lo->IsPart vu hi->r x lo hi H Q->
  ∃T id,typeLookup (.type T) "__getitem__"=pure (some (.builtin id))/\s.TypeIs v T/\wpAny (model X.prog X.w) X.A (getItem v (.ref sl)) (EP X pins σ Q) X.xe s
def y9(r:V->Option Int->Option Int->Hp->VK->Prop)(te:TE)(tl th:TO):TE:=fun σ H Q=>te σ H fun x H1=>tl σ H1 fun l H2=>th σ H2 fun u H3=>r x l u H3 Q
theorem UZ{r:V->Option Int->Option Int->Hp->VK->Prop}(hr:wU X r)(he:PE X e te)(hl:PO X lo tl)(hu:PO X hi th):PE X (.Subscript e (.Slice lo hi none p2) pos) (y9 r te tl th):=by
 intro pins s σ H Q I h;refine Subscript_ (g6 (he pins s σ H _ I h) fun v s1 ⟨x,H1,I1,r1,q1⟩=>?_)
 refine wpAny_Slice (g6 (hl pins s1 σ H1 _ I1 q1) fun vl s2 ⟨l,H2,I2,pl,q2⟩=>g6 (hu pins s2 σ H2 _ I2 q2) fun vu s3 ⟨u,H3,I3,pu,q3⟩=>?_)
 rw[evalPart_none];refine Qy ?_
 have I4:Inv X pins σ H3 {s3 with heap:=s3.heap.push {cls:=.type "slice",data:=.fields #[vl,vu,.none]}}:=I3.kept (t':=s3.toks) fun b ob q=>Qv _ q
 obtain⟨T,id,hT,ht,hg⟩:=hr pins {s3 with heap:=s3.heap.push {cls:=.type "slice",data:=.fields #[vl,vu,.none]}} σ H3 x v vl vu l u s3.heap.objs.size Q I4 r1 (Heap.IsSliceOf.new ..) pl pu q3
 show wpAny (model X.prog X.w) X.A (subscriptTail e (.Slice lo hi none p2) v (.ref s3.heap.objs.size)) (EP X pins σ Q) X.xe {s3 with heap:=s3.heap.push {cls:=.type "slice",data:=.fields #[vl,vu,.none]}}
 exact tail_any (ops:=[.ref s3.heap.objs.size,v]) ht hT hg (by with_unfolding_all rfl)
def Bo(xs:List V)(lo hi:Option Int):List V:=(xs.drop (HT.k7 xs.length 0 lo)).take (HT.k7 xs.length xs.length hi-HT.k7 xs.length 0 lo)
theorem VA(xs:List V)(lo hi:Option Int):(Bo xs lo hi).length≤xs.length:=by
 unfold Bo;rw[Jy,Tz]
 omega
def VB(K:Qz):V->Option Int->Option Int->Hp->VK->Prop:=fun x lo hi H Q=>∃a xs,x=.ref a/\nZ K H a xs/\
 ¬ (HT.k7 xs.length 0 lo=0/\HT.k7 xs.length xs.length hi=xs.length)/\∀p,H p=none->Q (.ref p) (upd H p (.tup (Bo xs lo hi)))
theorem Lz:wU X (VB X.K):=by
 intro pins s σ H x v vl vu lo hi sl Q I rx hs pl pu h;obtain⟨a,xs,rfl,hx,hw,q⟩:=h;cases rx;obtain⟨its,r,ht,hz⟩:=I.tuple hx;have hlen:its.toArray.size=xs.length:=by rw[Qb];exact r.length.symm
 refine⟨"tuple",_,Zb.lookup,ht.typeIs,?_⟩;refine HT.oO ht hs pl pu (by rw[hlen];exact hw) ?_ (by rw[hlen];exact hz)
 rw[hlen];refine⟨.ref s.heap.objs.size,_,I.laid (t':=s.toks) (o:=.tup (Bo xs lo hi)) (fun b ob q=>Qv _ q) (Qm _) ?_,rfl,q _ (I.hok.fresh (Qm _))⟩
 exact⟨Zr (VA xs lo hi) hz,_,(r.drop (HT.k7 xs.length 0 lo)).take (HT.k7 xs.length xs.length hi-HT.k7 xs.length 0 lo),W6.new _ _⟩
def FB(K:Qz):R2:=fun x y H Q=>∃a b ns ms,x=.ref a/\y=.ref b/\nZ K H a (ns.map V.int)/\nZ K H b (ms.map V.int)/\Q (.bl (HT.lexLt ns ms)) H
theorem VC(hu:X.A.units<cLine):k8 X (compareOp .Lt) (FB X.K):=by
 intro pins s σ H x y v u Q I rx ry h;obtain⟨a,b,ns,ms,rfl,rfl,ha,hb,q⟩:=h;cases rx;cases ry;obtain⟨its,r1,p1,_⟩:=I.tuple ha;obtain⟨its2,r2,p2,_⟩:=I.tuple hb;have i1:IntsAre its.toArray.toList ns:=Bn r1;have i2:IntsAre its2.toArray.toList ms:=Bn r2;exact HT.pJ p1 p2 i1 i2 hu ⟨.bl (HT.lexLt ns ms),H,I,rfl,q⟩
theorem D4.nil_iff(r:D4 xs us):us=[]↔xs=[]:=by
 cases r with
 |nil=>simp
 |cons _ _=>simp
end
def tN(n:Nat)(i:Int):Option Nat:=if 0≤i then(if i<n then some i.toNat else none)else if-(n:Int)≤i then some (i+n).toNat else none
def p8{α:Type}(xs:List α)(i:Int):Option α:=(tN xs.length i).bind fun j=>xs[j]?
theorem MA{j:Nat}(h:tN n i=some j):seqIndex? i n=some j/\j<n/\ -(n:Int)≤i/\i<n:=by
 unfold tN at h
 by_cases h0:0≤i
 ·rw[Qh h0]at h
  by_cases h1:i<n
  ·rw[Qh h1]at h
   have e:i.toNat=j:=Yg h
   exact⟨by rw[seqIndex_of h0 h1,e],by omega,by omega,h1⟩
  ·rw[Qs h1]at h;cases h
 ·rw[Qs h0]at h
  by_cases h1: -(n:Int)≤i
  ·rw[Qh h1]at h
   have e:(i+n).toNat=j:=Yg h
   exact⟨by rw[seqIndex_neg (by omega) h1,e],by omega,h1,by omega⟩
  ·rw[Qs h1]at h;cases h
theorem HE{xs:List α}{v:α}(h:p8 xs i=some v):∃j,seqIndex? i xs.length=some j/\xs[j]? =some v/\j<xs.length/\ -(xs.length:Int)≤i/\i<xs.length:=by
 unfold p8 at h;cases e:tN xs.length i with
 |none=>rw[e]at h;cases h
 |some j=>
  rw[e]at h;obtain⟨h1,h2,h3,h4⟩:=MA e;exact⟨j,h1,h,h2,h3,h4⟩
def Di(b:Expr):Prop:=∀o i,subscripted b false o i=operate [o,i] (getItem o i)
def tF(X:Cx)(r:R2):Prop:=
 ∀(value slice:Expr) (pins:OX) (s:Shared) (σ:St) (H:Hp) (x y:V) (v u:Value) (Q:VK),Inv X pins σ H s->E3 x v->E3 y u->r x y H Q->
  subscripted slice false v u=operate [v,u] (getItem v u)->wpAny (model X.prog X.w) X.A (subscriptTail value slice v u) (EP X pins σ Q) X.xe s
def zA(X:Cx)(id:String)(r:V->List V->Hp->VK->Prop):Prop:=
 ∀(pins:OX) (s:Shared) (σ:St) (H:Hp) (x:V) (xs:List V) (v:Value) (us:List Value) (Q:VK),Inv X pins σ H s->E3 x v->D4 xs us->r x xs H Q->
  wpAny (model X.prog X.w) X.A (call (.builtin id) (v::us)) (EP X pins σ Q) X.xe s
section
variable{a b:Expr}{ta tb:TE}{pos:Pos}
theorem tF.or{r':R2}(h:tF X r)(h':tF X r'):tF X (fun x y H Q=>r x y H Q\/r' x y H Q):=by
 intro value slice pins s σ H x y v u Q I rx ry q hs
 rcases q with q|q
 ·exact h value slice pins s σ H x y v u Q I rx ry q hs
 ·exact h' value slice pins s σ H x y v u Q I rx ry q hs
theorem MB(hr:tF X r)(ha:PE X a ta)(hb:PE X b tb)(hs:Di b):PE X (.Subscript a b pos) (vC r ta tb):=by
 intro pins s σ H Q I h;exact Subscript_ (Gv ha hb I h fun v u s2 x y H2 I2 rx ry q=>hr a b pins s2 σ H2 x y v u Q I2 rx ry q (hs _ _))
def MC(K:Qz):R2:=fun x y H Q=>∃p xs i v,x=.ref p/\y=.int i/\oD K H p xs/\p8 xs i=some v/\Q v H
def MD(K:Qz):R2:=fun x y H Q=>∃p xs i v,x=.ref p/\y=.int i/\nZ K H p xs/\p8 xs i=some v/\Q v H
def ME:R2:=fun x y H Q=>∃z i c,x=.str z/\y=.int i/\z.length≤sizeLine/\p8 z.cps.toList i=some c/\Q (.str ⟨#[c]⟩) H
theorem MF:tF X (MC X.K):=by
 intro value slice pins s σ H x y v u Q I rx ry h hs;obtain⟨p,xs,i,z,rfl,rfl,hq,he,q⟩:=h;cases rx;obtain⟨t,rfl⟩:=ry;obtain⟨its,r,pl,hz⟩:=I.list hq;obtain⟨j,h1,h2,h3,h4,h5⟩:=HE he;obtain⟨w,ew,rw'⟩:=r.get h2;have hl:=r.length;have hn:=Dg;have fin:EP X pins σ Q w s:=⟨z,H,I,rw',q⟩
 by_cases h0:0≤i
 ·have hj:i.toNat=j:=by
   rw[seqIndex_of h0 h5]at h1;exact Yg h1
  exact item_listR pl.isList h0 (by omega) (by rw[hj];simpa using ew) fin hs
 ·have hj:(i+(its.toArray.size:Int)).toNat=j:=by
   rw[seqIndex_neg (by omega) h4]at h1
   rw[Qb,←hl];exact Yg h1
  exact subscriptTail_builtinR (x:=w) pl.isList.typeIs slot_list_getitem.lookup
   (wpAny_getItem_list_neg (Q:=fun r s'=>r=w/\EP X pins σ Q r s') pl.isList (by omega) (by rw[Qb]<;>omega) (by omega) (by rw[hj];simpa using ew) ⟨rfl,fin⟩) hs
theorem VD:tF X (MD X.K):=by
 intro value slice pins s σ H x y v u Q I rx ry h hs;obtain⟨p,xs,i,z,rfl,rfl,hq,he,q⟩:=h;cases rx;obtain⟨t,rfl⟩:=ry;obtain⟨its,r,pl,hz⟩:=I.tuple hq;obtain⟨j,h1,h2,h3,h4,h5⟩:=HE he;obtain⟨w,ew,rw'⟩:=r.get h2;have hl:=r.length;have hn:=Dg;have fin:EP X pins σ Q w s:=⟨z,H,I,rw',q⟩;exact subscriptTail_builtinR (x:=w) pl.typeIs slot_tuple_getitem.lookup
  (getItem_tuple (j:=j) (Q:=fun r s'=>r=w/\EP X pins σ Q r s') pl (by omega) (by omega) (by rw[Qb,←hl];exact h1) (by simpa using ew) ⟨rfl,fin⟩) hs
theorem VE:tF X ME:=by
 intro value slice pins s σ H x y v u Q I rx ry h hs;obtain⟨z,i,c,rfl,rfl,hz,he,q⟩:=h;obtain⟨t,rfl⟩:=rx;obtain⟨t',rfl⟩:=ry;obtain⟨j,h1,h2,h3,h4,h5⟩:=HE he;have hl:z.cps.toList.length=z.length:=by simp[Str.length]
 rw[hl]at h1 h4 h5;have hn:=Dg;exact tail_any (typeIs_str s z t) slot_str_getitem.lookup (getItem_str (c:=c) (by
  have e1:decide (i< -(2^63:Int))=false:=Zj (by omega)
  have e2:decide (i ≥ 2^63)=false:=Zj (by omega)
  rw[e1,e2,Bool.or_false]) (by rw[h1];simpa using h2) ⟨.str ⟨#[c]⟩,H,I.tok _,⟨_,rfl⟩,q⟩) hs
def xS(K:Qz):R2:=fun x y H Q=>MC K x y H Q\/MD K x y H Q\/ME x y H Q
theorem VF:tF X (xS X.K):=MF.or (VD.or VE)
theorem VG(its:List Value)(n j:Nat)(u:Value):Obj.mapSeq (·.setIfInBounds j u) {cls:=.type "list",data:=.seq its.toArray n}={cls:=.type "list",data:=.seq (its.set j u).toArray n}:=by
 simp[Obj.mapSeq]
theorem Inv.lst(I:Inv X pins σ H s)(h:H p=some (.lst xs)):
  ∃(its:List Value) (n:Nat),D4 xs its/\s.heap.get? p=some {cls:=.type "list",data:=.seq its.toArray n}/\xs.length≤sizeLine:=by
 obtain⟨z,its,n,r,e⟩:=I.hok p _ h;exact⟨its,n,r,e,z⟩
theorem Inv.lstUpd{ys:List V}{n':Nat}{f:Obj->Obj}(I:Inv X pins σ H s)(h:H p=some (.lst xs))
  (ho:s.heap.get? p=some {cls:=.type "list",data:=.seq its.toArray n})(hf:f {cls:=.type "list",data:=.seq its.toArray n}={cls:=.type "list",data:=.seq its'.toArray n'})(r:D4 ys its')(hz:ys.length≤sizeLine)(t:Nat):
  Inv X pins σ (upd H p (.lst ys)) {s with heap:=s.heap.update p f,toks:=t}:=by
 have e:(s.heap.update p f).get? p=some {cls:=.type "list",data:=.seq its'.toArray n'}:=by
  rw[Heap.get?_update_self f ho (by rw[hf]<;>rfl),hf]
 refine I.write (x:=p) (e:=p) (by rw[h];trivial) (.inl rfl) (fun b u hb q=>(Heap.get?_update_other _ _ (Zm hb)).trans q) ⟨_,e⟩ ?_
 exact⟨hz,its',n',r,e⟩
def VH:V->V->V->Hp->(Hp->Prop)->Prop:=fun o i v H Q=>∃p xs k j,o=.ref p/\i=.int k/\H p=some (.lst xs)/\tN xs.length k=some j/\Q (upd H p (.lst (xs.set j v)))
theorem VI:Gq X VH:=by
 intro pins s σ H o i v ov iv u Q I ro ri rv h;obtain⟨p,xs,k,j,rfl,rfl,hp,hj,q⟩:=h;cases ro;obtain⟨t,rfl⟩:=ri;obtain⟨its,n,r,ho,hz⟩:=I.lst hp;obtain⟨h1,h2,h3,h4⟩:=MA hj;have hl:=r.length;have hn:=Dg;have I':Inv X pins σ (upd H p (.lst (xs.set j v))) {s with heap:=s.heap.update p (Obj.mapSeq (·.setIfInBounds j u))}:=
  I.lstUpd hp ho (VG its n j u) (r.set rv j) (by rw[Zi];exact hz) s.toks
 by_cases h0:0≤k
 ·have hk:k.toNat=j:=by
   rw[seqIndex_of h0 h4]at h1;exact Yg h1
  exact PySem.W.ki_setAt ho h0 (by omega) (by rw[Qb,←hl];exact h4) (by rw[hk];exact⟨_,I',q⟩)
 ·have hk:(k+(its.toArray.size:Int)).toNat=j:=by
   rw[seqIndex_neg (by omega) h3]at h1
   rw[Qb,←hl];exact Yg h1
  exact PySem.W.ki_setBack ho (by omega) (by rw[Qb,←hl];exact h3) (by omega) (by rw[hk];exact⟨_,I',q⟩)
def X7:V->Bool
 |.non=>true
 |.bl _=>true
 |.int _=>true
 |.str _=>true
 |_=>false
def tO:V->V->Bool
 |.non,.non=>true
 |.bl a,.bl b=>a==b
 |.bl a,.int b=>(if a then 1 else 0)==b
 |.int a,.bl b=>a==(if b then 1 else 0)
 |.int a,.int b=>a==b
 |.str a,.str b=>a==b
 |_,_=>false
theorem VJ{A:Around}(ry:E3 y u)(rx:E3 x v)(fy:X7 y=true)(fx:X7 x=true):SeqAt.EqAt A s u v (tO y x):=by
 cases y with
 |non=>
  cases ry;cases x with
  |non=>cases rx;exact SeqAt.EqAt.same _
  |bl b=>cases rx;exact SeqAt.EqAt.none_bool b
  |int b=>obtain⟨t,rfl⟩:=rx;exact SeqAt.EqAt.none_int b t
  |str b=>obtain⟨t,rfl⟩:=rx;exact SeqAt.EqAt.none_str b t
  |_=>exact absurd (show false=true from fx) Yq
 |bl a=>
  cases ry;cases x with
  |non=>cases rx;exact SeqAt.EqAt.bool_none a
  |bl b=>cases rx;exact SeqAt.EqAt.bool_bool a b
  |int b=>obtain⟨t,rfl⟩:=rx;exact SeqAt.EqAt.bool_int a b t
  |str b=>obtain⟨t,rfl⟩:=rx;exact SeqAt.EqAt.bool_str a b t
  |_=>exact absurd (show false=true from fx) Yq
 |int a=>
  obtain⟨t',rfl⟩:=ry;cases x with
  |non=>cases rx;exact SeqAt.EqAt.int_none a t'
  |bl b=>cases rx;exact SeqAt.EqAt.int_bool a t' b
  |int b=>obtain⟨t,rfl⟩:=rx;exact SeqAt.EqAt.int_int a t' b t
  |str b=>obtain⟨t,rfl⟩:=rx;exact SeqAt.EqAt.int_str a t' b t
  |_=>exact absurd (show false=true from fx) Yq
 |str a=>
  obtain⟨t',rfl⟩:=ry;cases x with
  |non=>cases rx;exact SeqAt.EqAt.str_none a t'
  |bl b=>cases rx;exact SeqAt.EqAt.str_bool a t' b
  |int b=>obtain⟨t,rfl⟩:=rx;exact SeqAt.EqAt.str_int a t' b t
  |str b=>obtain⟨t,rfl⟩:=rx;exact SeqAt.EqAt.str_str a t' b t
  |_=>exact absurd (show false=true from fx) Yq
 |_=>exact absurd (show false=true from fy) Yq
def qW(x:V)(u:Value):Bool:=match u with
 |.none=>tO .non x
 |.bool b=>tO (.bl b) x
 |.int i _=>tO (.int i) x
 |.str z _=>tO (.str z) x
 |_=>false
theorem MG(r:E3 y u)(f:X7 y=true):qW x u=tO y x:=by
 cases y with
 |non=>cases r;rfl
 |bl b=>cases r;rfl
 |int i=>obtain⟨t,rfl⟩:=r;rfl
 |str z=>obtain⟨t,rfl⟩:=r;rfl
 |_=>exact absurd (show false=true from f) Yq
theorem Dj{x:V}:∀{xs:List V}{us:List Value},D4 xs us->xs.all X7=true->us.any (qW x)=xs.any fun y=>tO y x
 |_,_,.nil,_=>rfl
 |y::xs,u::us,.cons r t,f=>by
  rw[Vz,Qw]at f;rw[Xc,Xc,MG r f.1,Dj t f.2]
theorem Cf{A:Around}{s:Shared}{x:V}{v:Value}(rx:E3 x v)(fx:X7 x=true):∀{xs:List V}{us:List Value},D4 xs us->xs.all X7=true->∀u∈us,SeqAt.EqAt A s u v (qW x u)
 |_,_,.nil,_=>fun u hu=>by cases hu
 |y::xs,u::us,.cons r t,f=>fun u' hu=>by
  rw[Vz,Qw]at f
  rcases Ql.mp hu with rfl|hu
  ·rw[MG r f.1];exact VJ r rx f.1 fx
  ·exact Cf rx fx t f.2 u' hu
def vP(x:V)(xs:List V):Bool:=xs.any fun y=>tO y x
def wV(K:Qz)(neg:Bool):R2:=fun x y H Q=>∃p xs,y=.ref p/\(oD K H p xs\/nZ K H p xs)/\X7 x=true/\xs.all X7=true/\Q (.bl (if neg then !vP x xs else vP x xs)) H
theorem VL:k8 X (compareOp .In) (wV X.K false):=by
 intro pins s σ H x y v u Q I rx ry h;obtain⟨p,xs,rfl,hq,fx,fs,q⟩:=h;cases ry
 rcases hq with hq|hq
 ·obtain⟨its,r,pl,hz⟩:=I.list hq
  refine SeqAt.in_listAt (qW x) pl.isList (fun w hw=>Cf rx fx r fs w (by simpa using hw)) ⟨.bl _,H,I,rfl,?_⟩
  rw[show its.toArray.any (qW x)=its.any (qW x) by simp,Dj r fs]
  exact q
 ·obtain⟨its,r,pl,hz⟩:=I.tuple hq
  refine SeqAt.in_tupleAt (qW x) pl (fun w hw=>Cf rx fx r fs w (by simpa using hw)) ⟨.bl _,H,I,rfl,?_⟩
  rw[show its.toArray.any (qW x)=its.any (qW x) by simp,Dj r fs]
  exact q
theorem VM:k8 X (compareOp .NotIn) (wV X.K true):=by
 intro pins s σ H x y v u Q I rx ry h;obtain⟨p,xs,rfl,hq,fx,fs,q⟩:=h;cases ry
 rcases hq with hq|hq
 ·obtain⟨its,r,pl,hz⟩:=I.list hq
  refine SeqAt.notIn_listAt (qW x) pl.isList (fun w hw=>Cf rx fx r fs w (by simpa using hw)) ⟨.bl _,H,I,rfl,?_⟩
  rw[show its.toArray.any (qW x)=its.any (qW x) by simp,Dj r fs]
  exact q
 ·obtain⟨its,r,pl,hz⟩:=I.tuple hq
  refine SeqAt.notIn_tupleAt (qW x) pl (fun w hw=>Cf rx fx r fs w (by simpa using hw)) ⟨.bl _,H,I,rfl,?_⟩
  rw[show its.toArray.any (qW x)=its.any (qW x) by simp,Dj r fs]
  exact q
theorem N2:P4 X (.builtin "len") (fun xs H Q=>∃p ys,xs=[.ref p]/\(oD X.K H p ys\/nZ X.K H p ys)/\Q (.int ys.length) H):=by
 intro pins s σ H xs us Q I r h;obtain⟨p,ys,rfl,hq,q⟩:=h;obtain⟨u,rfl,rx⟩:=Ai r;cases rx;have hn:=Dg
 rcases hq with hq|hq
 ·obtain⟨its,r',pl,hz⟩:=I.list hq
  have hlen:=r'.length
  exact Calls.call_len_list pl.isList (by simp only[Qb]<;>omega) ⟨.int ys.length,H,I.tok _,⟨s.toks+1,by rw[Qb,hlen]⟩,q⟩
 ·obtain⟨its,r',pl,hz⟩:=I.tuple hq
  have hlen:=r'.length
  exact len_tuple pl (by simp only[Qb]<;>omega) ⟨.int ys.length,H,I.tok _,⟨s.toks+1,by rw[Qb,hlen]⟩,q⟩
theorem FC:P4 X (.type "list") (fun xs H Q=>∃p ys,xs=[.ref p]/\(oD X.K H p ys\/nZ X.K H p ys)/\∀l,H l=none->Q (.ref l) (upd H l (.lst ys))):=by
 intro pins s σ H xs us Q I r h;obtain⟨p,ys,rfl,hq,q⟩:=h;obtain⟨u,rfl,rx⟩:=Ai r;cases rx;have fin:∀(its:List Value),D4 ys its->ys.length≤sizeLine->∀(h':Heap) (c':Nat),(∀b o',s.heap.get? b=some o'->h'.get? b=some o')->
   h'.get? s.heap.objs.size=some {cls:=.type "list",dict:=none,data:=.seq its.toArray c',slots:=#[]}->EP X pins σ Q (.ref s.heap.objs.size) {s with heap:=h'}:=fun its r' hz h' c' kp e=>
  ⟨.ref s.heap.objs.size,_,I.laid (t':=s.toks) kp (Qm _) (show K2 X.prog X.w _ h' _ (.lst ys)from⟨hz,its,c',r',e⟩),rfl,q _ (I.hok.fresh (Qm _))⟩
 rcases hq with hq|hq
 ·obtain⟨its,r',pl,hz⟩:=I.list hq
  have hlen:=r'.length
  obtain⟨o,ho,hc,n,hd⟩:=pl.isList;exact call_list_seq p (.inl rfl) ho hc hd (fun h' c' kp e=>fin its r' hz h' c' kp e) (by simp only[Qb]<;>omega)
 ·obtain⟨its,r',pl,hz⟩:=I.tuple hq
  have hlen:=r'.length
  obtain⟨o,ho,hc,n,hd⟩:=pl;exact call_list_seq p (.inr rfl) ho hc hd (fun h' c' kp e=>fin its r' hz h' c' kp e) (by simp only[Qb]<;>omega)
theorem Z5:P4 X (.type "tuple") (fun xs H Q=>∃p ys,xs=[.ref p]/\((oD X.K H p ys/\∀l,H l=none->Q (.ref l) (upd H l (.tup ys)))\/(nZ X.K H p ys/\Q (.ref p) H))):=by
 intro pins s σ H xs us Q I r h;obtain⟨p,ys,rfl,h⟩:=h;obtain⟨u,rfl,rx⟩:=Ai r;cases rx
 rcases h with⟨hq,q⟩|⟨hq,q⟩
 ·obtain⟨its,r',pl,hz⟩:=I.list hq
  have hlen:=r'.length
  refine call_tuple_list pl.isList (fun h' kp=>?_) (by simp only[Qb]<;>omega)
  have I1:Inv X pins σ H {s with heap:=h'}:=I.kept (t':=s.toks) kp
  have I2:Inv X pins σ (upd H h'.objs.size (.tup ys)) {s with heap:=h'.push {cls:=.type "tuple",data:=.seq its.toArray}}:=
   I1.laid (t':=s.toks) (fun b o e=>Qv _ e) (Qm _) (show K2 X.prog X.w _ _ _ (.tup ys)from⟨hz,its,r',W6.new _ _⟩)
  exact⟨.ref h'.objs.size,_,I2,rfl,q _ (I1.hok.fresh (Qm _))⟩
 ·obtain⟨its,r',pl,hz⟩:=I.tuple hq
  exact call_tuple_same pl ⟨.ref p,H,I,rfl,q⟩
def xT(K:Qz)(T:String)(x:V)(H:Hp):Prop:=match x with
 |.str _=>T="str"
 |.int _=>T="int"
 |.ref p=>(T="list"/\ ∃xs,oD K H p xs)\/(T="tuple"/\ ∃o,K.lookup p=some o/\o.cls=.type "tuple"/\o.dict=none)\/
   (T="dict"/\((∃kvs,H p=some (.dK kvs))\/ ∃C kvs,H p=some (.dT C kvs)))\/(T="set"/\ ∃S n,H p=some (.set S n))
 |_=>False
theorem VN{T:String}(I:Inv X pins σ H s)(r:E3 x v)(ty:xT X.K T x H):
  s.TypeIs v T/\∀a,v=.ref a->∃ob,s.heap.get? a=some ob/\ob.dict=none:=by
 cases x with
 |str z=>
  obtain⟨t,rfl⟩:=r;cases (show T="str" from ty)
  exact⟨typeIs_str s z t,fun _ e=>nomatch e⟩
 |int i=>
  obtain⟨t,rfl⟩:=r;cases (show T="int" from ty)
  exact⟨typeIs_int s i t,fun _ e=>nomatch e⟩
 |ref p=>
  cases r
  rcases ty with⟨rfl,xs,hq⟩|⟨rfl,o,hk,hc,hd⟩|⟨rfl,hk⟩|⟨rfl,S,n,hk⟩
  ·obtain⟨its,_,pl,_⟩:=I.list hq
   refine⟨pl.isList.typeIs,fun a e=>?_⟩
   cases e;obtain⟨o,n,e,c,hd,_⟩:=pl;exact⟨o,e,hd⟩
  ·refine⟨⟨o,I.kIn p o hk,hc⟩,fun a e=>?_⟩
   cases e;exact⟨o,I.kIn _ o hk,hd⟩
  ·have z:∃o,s.heap.get? p=some o/\o.ExactDict:=by
    rcases hk with⟨kvs,hk⟩|⟨C,kvs,hk⟩
    ·obtain⟨_,_,_,_,o,_,_,e,ex,_⟩:=I.hok p _ hk
     exact⟨o,e,ex⟩
    ·obtain⟨_,_,_,_,o,_,_,e,ex,_⟩:=I.hok p _ hk
     exact⟨o,e,ex⟩
   obtain⟨o,e,ex⟩:=z;refine⟨⟨o,e,ex.1⟩,fun a e2=>?_⟩
   cases e2;exact⟨o,e,ex.2.1⟩
  ·obtain⟨o,_,_,_,e,ex,_⟩:=I.hok p _ hk
   refine⟨⟨o,e,ex.1⟩,fun a e2=>?_⟩
   cases e2;exact⟨o,e,ex.2.1⟩
 |_=>exact False.elim ty
def zB(K:Qz)(T:String)(r:V->List V->Hp->VK->Prop)(to:TE)(t:TA):TE:=fun σ H Q=>to σ H fun x H1=>xT K T x H1/\t σ H1 fun xs H2=>r x xs H2 Q
variable{o e:Expr}{es:List Expr}{to:TE}{t:TA}{name:Str}{apos cpos:Pos}{T id:String}{r:V->List V->Hp->VK->Prop}
theorem MH(pa:PlainAttrs T)(slot:Slot T name id)(hty:typeOf (.builtin id)=pure (.type "method_descriptor"))(hm:zA X id r)(ho:PE X o to)(ha:PA X (e::es) t)
  (hbase:attributeBase o name X.env (eval o X.env)=eval o X.env:=by rfl)
  (hfew:((backTo cpos (starEach (e::es) X.env)).all (fun x=>!x.1)&&(backToKw cpos (keywordEach [] X.env)).all (fun x=>x.1.isSome)
   &&decide ((e::es).length+([]:List Keyword).length+(if([]:List Keyword).isEmpty then 0 else 1)<30))=true:=by rfl)
  (hline:(apos.endLine==cpos.line)=true:=by rfl)(hs:starEach (e::es) X.env=(false,eval e X.env)::starEach es X.env:=by rfl)(hplain:(backTo cpos (starEach es X.env)).any (·.1)=false:=by rfl):
  PE X (.Call (.Attribute o name apos) (e::es) [] cpos) (zB X.K T r to t):=by
 intro pins s σ H Q I h;refine wpAny_Call_method_late hbase hfew hline rfl (g6 (ho pins s σ H _ I h) fun v s1 ⟨x,H1,I1,r1,ty,q1⟩=>?_)
 obtain⟨h1,h2⟩:=VN I1 r1 ty;refine⟨T,id,pa,slot,hty,h1,h2,?_⟩;have hA:=ha cpos pins s1 σ H1 _ I1 q1;rw[hs]at hA ⊢;refine Calls.callWith_builtin (by show(false||(backTo cpos (starEach es X.env)).any (·.1))=false;rw[hplain]<;>rfl) (Calls.evalArgs_plain ?_)
 exact g6 hA fun us s2 ⟨vs,H2,I2,r2,q2⟩=>hm pins s2 σ H2 x vs v us Q I2 r1 r2 q2
end
def xU(X:Cx)(id:String)(r:V->List V->Hp->VK->Prop):Prop:=
 ∀(pins:OX) (s:Shared) (σ:St) (H:Hp) (x:V) (xs:List V) (v:Value) (us:List Value) (Q:VK),Inv X pins σ H s->E3 x v->D4 xs us->r x xs H Q->
  wpAny (model X.prog X.w) X.A (call (.builtin id) (v::us)) (EP X pins σ Q) X.xe s
theorem D4.one:∀{x:V}{us:List Value},D4 [x] us->∃u,us=[u]/\E3 x u
 |_,_,.cons r .nil=>⟨_,rfl,r⟩
theorem D4.reverse(h:D4 xs us):D4 xs.reverse us.reverse:=by
 induction h with
 |nil=>exact .nil
 |cons r t ih=>rw[Xr,Xr];exact D4.append ih (.cons r .nil)
theorem D4.rep{xs:List V}{us:List Value}(h:D4 xs us):∀k:Nat,D4 (List.replicate k xs).flatten (List.replicate k us).flatten
 |0=>.nil
 |k+1=>by
  rw[Yj,Yj,Ui,Ui];exact D4.append h (D4.rep h k)
theorem MI(its:List Value):∀(k:Nat) (acc:List Value),
  List.foldl (fun x1 x2=>x1++x2) acc.toArray (List.replicate k its.toArray)=(acc++(List.replicate k its).flatten).toArray
 |0,acc=>by simp
 |k+1,acc=>by
  have e:acc.toArray++its.toArray=(acc++its).toArray:=by simp
  have e2:(acc++its)++(List.replicate k its).flatten=acc++(List.replicate (k+1) its).flatten:=by
   rw[Yj,Ui,Vp]
  rw[←e2,←MI its k (acc++its),←e,Yj,List.foldl_cons]
section
variable{l b:Addr}{ys zs:List V}
theorem Inv.lset{f:Array Value->Array Value}(I:Inv X pins σ H s)(hH:H l=some (.lst xs))
  (e:s.heap.get? l=some {cls:=.type "list",data:=.seq its.toArray n})(hf:f its.toArray=its'.toArray)(hv:D4 ys its')(hz:ys.length≤sizeLine):
  Inv X pins σ (upd H l (.lst ys)) {s with heap:=s.heap.update l (Obj.mapSeq f),toks:=t'}:=by
 have q:=PySem.IsL.update e f
 rw[hf]at q;refine I.write (x:=l) (e:=l) (by rw[hH];exact trivial) (.inl rfl) (fun b' u hb hu=>(Heap.get?_update_other s.heap (Obj.mapSeq f) (Zm hb)).trans hu) ⟨_,q⟩ ?_
 exact⟨hz,its',_,hv,q⟩
theorem Inv.lnew(I:Inv X pins σ H s)(hv:D4 ys its)(hz:ys.length≤sizeLine):
  Inv X pins σ (upd H s.heap.objs.size (.lst ys)) {s with heap:=s.heap.push {cls:=.type "list",data:=.seq its.toArray},toks:=t'}:=
 I.laid (fun _ _ q=>Qv _ q) (Qm _) ⟨hz,its,0,hv,Qn _ rfl⟩
theorem Inv.fresh(I:Inv X pins σ H s):H s.heap.objs.size=none:=I.hok.fresh (Qm _)
theorem Inv.lstM(I:Inv X pins σ H s)(hH:H l=some (.lst xs)):xs.length≤sizeLine/\∃(its:List Value) (n:Nat),D4 xs its/\xs.length=its.length/\s.heap.get? l=some {cls:=.type "list",data:=.seq its.toArray n}:=by
 obtain⟨z,its,n,r,e⟩:=I.hok l _ hH;exact⟨z,its,n,r,r.length,e⟩
end
def VO:V->List V->Hp->VK->Prop:=fun x vs H Q=>∃l xs y,x=.ref l/\vs=[y]/\H l=some (.lst xs)/\xs.length<sizeLine/\Q .non (upd H l (.lst (xs++[y])))
theorem MJ:xU X "list.append" VO:=by
 intro pins s σ H x vs v us Q I rx rv h;obtain⟨l,xs,y,rfl,rfl,hH,hz,q⟩:=h;cases rx;obtain⟨u,rfl,ru⟩:=rv.one;obtain⟨z,its,n,r,hl,e⟩:=I.lstM hH;refine Xo F.slot_list_append ⟨_,e,rfl⟩ F.entry_list_append (F.args_list_append_2 _ _) (PySem.list_append l its.toArray n u (by rw[Qb];omega)) ⟨e,?_⟩
 refine⟨.non,_,I.lset (its':=its++[u]) hH e (by simp) (r.append (.cons ru .nil)) ?_,rfl,q⟩
 rw[Qt,List.length_singleton]
 omega
theorem MK(xs:List α)(k:Nat):(List.replicate k xs).flatten.length=k * xs.length:=by
 induction k with
 |zero=>simp
 |succ k ih=>rw[Yj,Ui,Qt,ih,Nat.succ_mul,Nat.add_comm]
section
variable{prog:Program}{w:World}{A:Around}{E:OE}
set_option maxRecDepth 100000 in
end
end L2
namespace Att
open PySem PySem.W PySem.Calls PyProof.Rows
variable{P:Params}{h:Heap}{l:OpenLaw}{n:Nat}
theorem pB:∀(ns:List Int) (vs:List Value),WellAll P h vs (ns.map WData.int)->IntsAre vs ns:=by
 intro ns
 induction ns with
 |nil=>
  intro vs w;rw[Vo]at w;cases w;exact .nil
 |cons n ns ih=>
  intro vs w;rw[Qg]at w;cases w with
  |cons a b=>
   cases a;exact .cons _ _ (ih _ b)
theorem rQ(hn:l.most=some n){args:List WData}{vals:List Value}
  (hpre:l.row.toRowW.claim.pre args=true)(hwl:WellAll P h vals args):
  ∃a vs ns,vals=[Value.ref a]/\args=[WData.list (ns.map WData.int)]/\h.get? a=some {cls:=.type "list",data:=.seq vs.toArray}/\IntsAre vs ns/\ns.length≤n:=by
 have hsh:WShape.hasAll [] args [.list .int]=true:=(pre_splitW hpre).1
 have hc:l.pre.holds [] {args:=args}=true:=(pre_splitW hpre).2
 obtain⟨d,r,rfl,h1,h2⟩:=hasAllW_cons hsh;obtain rfl:=hasAllW_nil h2;obtain⟨xs,rfl,h3⟩:=hasW_list h1;obtain⟨ns,rfl⟩:=items_int h3;have hlen:ns.length≤n:=by
  unfold OpenLaw.pre at hc;have h4:(WTm.not (.lt (.lit (.int (n:Int))) (.len (.arg 0)))).holds [] {args:=[.list (ns.map .int)]}=true:=by
   have h4:=(holds_andW hc).1
   rw[hn]at h4;exact h4
  have h5:=condW_of h4 (w_not (w_lt w_lit (w_len_list (w_arg rfl))))
  rw[Qk]at h5;refine Nat.le_of_not_lt fun q=>?_
  have q':(n:Int)<((ns.length:Nat):Int):=by omega
  first
   |(rw[Yc q']at h5;exact absurd h5 (by decide))
   |(simp at h5;omega)
 cases hwl with
 |cons w1 w2=>
  cases w2;cases w1 with
  |list ho hall=>exact⟨_,_,ns,rfl,rfl,ho,pB ns _ hall,hlen⟩
theorem rR(l:OpenLaw)(args:List WData):l.row.toRowW.claim.post args (.bool true) args=true:=
 postW_of (r:=l.row.toRowW) (X:=(true==true))
  (show WShape.has [] (.bool true) .bool=true by first|rfl|decide|simp[WShape.has,WShape.arms,WShape.armsAll])
  (show(WTm.eq .res (.lit (.bool true))).value [] {args:=args,res:=some (.bool true),after:=args}=some (.bool (true==true))from w_eq_bool (w_res rfl) w_lit) rfl
theorem qP{q:Program}{loose:List Str}{XP:(OU)->Heap->Prop}{YP:World->Heap->Prop}{d:DefRec}
  (hn:l.most=some n)(hdf:d.params.defaults=[])
  (call:∀(w:World) (s₀ s₁:Shared) (mg mb:OU) (fa:Addr) (o:Obj) (pm cd doc:Value) (a:Addr) (vs:List Value) (ns:List Int),
   Ground q loose [] XP w s₀ mg mb s₁.heap->YP w s₁.heap->
   s₁.heap.get? fa=some o->o.data=.func (docDef d.name d.params d.body d.scope pm cd doc)->s₁.heap.CodeRec cd d.name->mg d.name=some (.ref fa)->
   s₁.heap.get? a=some {cls:=.type "list",data:=.seq vs.toArray}->IntsAre vs ns->ns.length≤n->s₁.gens= #[]->
   codeAny (model l.prog w) callerA (.call (.ref fa) ⟨[.ref a],[]⟩) (fun r s'=>r=.ok (.ret (.bool true))/\OldK s₁.heap s'.heap/\s'.os=s₁.os/\AllBare s'.gens) s₁):
  WalkO q loose XP YP l.row.toRowW d [] (fun f vs=>PySem.call f vs):=by
 intro w s₀ s₁ mg mb G Y fa o pm cd doc dV kV ho hd hcd hD hmg hg args vals as hpre hlay hrd hwl hlo;obtain rfl:dV=.none:=Dflts.none hD hdf;obtain rfl:kV=.none:=Dflts.noKw hD;obtain⟨a,vs,ns,rfl,rfl,hobj,hints,hlen⟩:=rQ hn hpre hwl;refine enter_call (Va (call w s₀ s₁ mg mb fa o pm cd doc a vs ns G Y ho (fd_plain hd) hcd hmg hobj hints hlen hg) fun r s' hq=>?_)
 obtain⟨rfl,h2,h3,h4⟩:=hq;exact⟨.inl ⟨.bool true,.bool true,[],rfl,fun _=>rfl,.bool true,rR l _,fun _=>⟨List.Pairwise.nil,fun _ hm=>(nomatch hm)⟩⟩,h2,h3,h4⟩
section
variable{prog:Program}{w:World}{A:Around}{E:OE}{s:Shared}{K:Frag}
end
end Att
namespace L2
open PySem PySem.Spec PyProof.Rows
variable{C:Addr->List Key->Prop}{H:Hp}{P:Program}{X:Cx}{fd:FuncData}{kvs:List (List Key×V)}{ps:List Str}{qual x:Str}{u:Value}{w:World}{xs:List (List Key×Addr×Value)}{y:V}
theorem ML:∀{vs:List Value}{ns:List Int},IntsAre vs ns->D4 (ns.map V.int) vs
 |_,_,.nil=>.nil
 |_,_,.cons n t h=>.cons ⟨t,rfl⟩ (ML h)
def Bp(s:Stmt):Arguments:=match s with
 |.FunctionDef _ a _ _ _ _ _ _ _ _=>a
 |_=>{posonlyargs:=[],args:=[],vararg:=none,kwonlyargs:=[],kw_defaults:=[],kwarg:=none,defaults:=[]}
def X8(s:Stmt):List Stmt:=match s with
 |.FunctionDef _ _ b _ _ _ _ _ _ _=>b
 |_=>[]
def E5(s:Stmt):Scope:=match s with
 |.FunctionDef _ _ _ _ _ _ sc _ _ _=>sc
 |_=>{kind:=.function,names:=[],isGenerator:=false,isCoroutine:=false}
abbrev j7:tM:=fun _ _ _ _ _ _=>False
abbrev E0:XK:=fun _ _ _=>False
theorem HF:Ez j7 X E0:=fun _ _ _ _ _ _ _ h=>h.elim
structure k9(K:Qz)(x qual:Str)(st:Stmt)(f:Addr)(fd:FuncData):Prop where
 ex:∃(oc:Value) (od:Option Addr) (kV doc pm:Value) (an:Option Addr) (cdv ct:Value) (osl:Array (Option Value)),
  fd=PySem.W.fnOf x qual (Bp st) (X8 st) (E5 st) .none kV doc pm an cdv ct/\K.lookup f=some ⟨oc,od,.func fd,osl⟩/\PySem.W.codeIn K cdv qual=true
 kp:PySem.W.keepIn K (.ref f)=true
section
variable{K:Qz}{mg:OU}{base:Heap}
theorem k9.ok{st:Stmt}{f:Addr}{N:List Str}{k:Nat}{sp:Sp}(F:k9 K x qual st f fd)(S:c8 N ps (E5 st))(len:∀vs H Q E,sp vs H Q E->vs.length=ps.length)
  (hbody:∀(cdv:Value) (A:Around) (outer:List Env) (s:Shared) (H:Hp) (vs:List V) (Q:VK) (E:XK),f9 k (A.deeper (envOfC qual (E5 st) s.heap.objs.size f cdv))->sp vs H Q E->
   ∃t,pQ (O0 j7 P w K mg base N qual (E5 st) f cdv A outer s H E).nox (X8 st) t/\t {nx:=fun _ H'=>Q .non H',rt:=Q} (start N vs) H):d9 P w K mg base j7 (k+1) f fd ps sp:=by
 obtain⟨oc,od,kV,doc,pm,an,cdv,ct,osl,rfl,lk,hcd⟩:=F.ex;refine HD lk hcd S len fun A outer s H vs Q E hr hsp=>?_
 obtain⟨t,h,q⟩:=hbody cdv A outer s H vs Q E hr hsp;exact⟨t,h.nox,q⟩
theorem k9.binds{st:Stmt}{f:Addr}(F:k9 K x qual st f fd)
  (h:∀(kV doc pm:Value) (an:Option Addr) (cdv ct:Value) (us:List Value),us.length=ps.length->bindArgs (PySem.W.fnOf x qual (Bp st) (X8 st) (E5 st) .none kV doc pm an cdv ct) ⟨us,[]⟩=pure (ps.zip us)):Q6 K fd ps []:=by
 obtain⟨oc,od,kV,doc,pm,an,cdv,ct,osl,rfl,lk,hcd⟩:=F.ex;exact .all (h kV doc pm an cdv ct)
theorem VP{st:Stmt}{f:Addr}{oc:Value}{od an:Option Addr}{osl:Array (Option Value)}{kV doc pm cdv ct:Value}(l:K.lookup f=some ⟨oc,od,.func (PySem.W.fnOf x qual (Bp st) (X8 st) (E5 st) .none kV doc pm an cdv ct),osl⟩)
  (c:PySem.W.codeIn K cdv qual=true)(k:PySem.W.keepIn K (.ref f)=true):k9 K x qual st f (PySem.W.fnOf x qual (Bp st) (X8 st) (E5 st) .none kV doc pm an cdv ct):=⟨⟨oc,od,kV,doc,pm,an,cdv,ct,osl,rfl,l,c⟩,k⟩
end
theorem Dk{n:Nat}(h:n≤1000):n<sizeLine:=Nat.lt_of_le_of_lt h (by decide)
theorem pv(i:Nat){pos:Pos}(hN:X.N[i]? =some x:=by rfl)(hv:sZ X.env.scope x:=by first|exact Or.inl rfl|exact Or.inr (Or.inl rfl)|exact Or.inr (Or.inr rfl))(hd:(x==("__debug__":Str))=false:=by decide)
  (hcd:(x==("__classdict__":Str))=false:=by decide):PE X (.Name x pos) (V0 i):=Go hN hv hd hcd
section
variable{κ:Type}[DecidableEq κ]
def X9(kvs:List (κ×V))(k:κ):Option V:=(kvs.find? fun kv=>decide (kv.1=k)).map (·.2)
def AQ(kvs:List (κ×V))(k:κ)(v:V):List (κ×V):=
 if(kvs.any fun kv=>decide (kv.1=k))=true then kvs.map (fun kv=>if kv.1=k then(kv.1,v)else kv)else kvs++[(k,v)]
theorem FD{p:κ×V}{r:List (κ×V)}{k:κ}(e:p.1=k):X9 (p::r) k=some p.2:=by simp[X9,Xq,e]
theorem FE{p:κ×V}{r:List (κ×V)}{k:κ}(e:¬ p.1=k):X9 (p::r) k=X9 r k:=by simp[X9,Xq,e]
theorem HH(k:κ):∀kvs:List (κ×V),(kvs.any fun kv=>decide (kv.1=k))=(X9 kvs k).isSome
 |[]=>rfl
 |p::r=>by
  rw[Xc]
  by_cases e:p.1=k
  ·simp only[FD e,Yc e,Bool.true_or,Option.isSome_some]
  ·rw[FE e,Zj e,Vc];exact HH k r
theorem VQ(kvs:List (κ×V))(k:κ)(v:V):(AQ kvs k v).length≤kvs.length+1:=by
 unfold AQ;split
 ·rw[Qk];omega
 ·rw[Qt,Qo,Jj];omega
end
theorem AN.isSome_eq{o:Option V}{u:Option Value}(r:AN o u):o.isSome=u.isSome:=by
 cases o with
 |none=>cases u with
  |none=>rfl
  |some _=>exact(show False from r).elim
 |some _=>cases u with
  |none=>exact(show False from r).elim
  |some _=>rfl
theorem VR{k:Key}(r:E3 (kV k) u):(Q4 P w).is k u=true:=by
 cases k with
 |inl i=>obtain⟨t,e⟩:=(show∃t,u=Value.int i t from r);subst e;exact SV P w i t
 |inr x=>obtain⟨t,e⟩:=(show∃t,u=Value.str x t from r);subst e;exact SW P w x t
theorem HI{P:Program}{w:World}:∀{ks:List Key}{us:List Value},D4 (ks.map kV) us->ItemsAre (Q4 P w) ks us
 |[],_,r=>by rw[Vo]at r;cases r;exact .nil
 |k::ks,_,r=>by
  rw[Qg]at r;cases r with
  |cons h t=>exact .cons (VR h) (HI t)
abbrev KT(C:Addr->List Key->Prop)(H:Hp):List (List Key×V)->List (List Key×Addr×Value)->Prop:=Paired fun p q=>p.1=q.1/\(H q.2.1=some (.tup (p.1.map kV))\/C q.2.1 p.1)/\E3 p.2 q.2.2
theorem KT.val(r:KT C H kvs xs)(k:List Key):AN (X9 kvs k) ((atKey xs k).map (·.2)):=by
 induction r with
 |nil=>exact True.intro
 |@cons p q ps qs h t ih=>
  obtain⟨h1,_,h2⟩:=h
  by_cases e:p.1=k
  ·have e':q.1=k:=h1.symm.trans e
   have b:atKey (q::qs) k=some q.2:=by simp[atKey,Xq,e']
   rw[FD e,b];exact h2
  ·have e':¬ q.1=k:=fun z=>e (h1.trans z)
   have b:atKey (q::qs) k=atKey qs k:=by simp[atKey,Xq,e']
   rw[FE e,b];exact ih
theorem KT.repl(r:KT C H kvs xs)(k:List Key)(ry:E3 y u):
  KT C H (kvs.map fun kv=>if kv.1=k then(kv.1,y)else kv) (xs.map (putAt k u)):=by
 induction r with
 |nil=>exact .nil
 |@cons p q ps qs h t ih=>
  rw[Qg,Qg];refine .cons ?_ ih;obtain⟨h1,h2,h3⟩:=h;unfold putAt
  by_cases e:p.1=k
  ·rw[Qh e,Qh (h1.symm.trans e)];exact⟨h1,h2,ry⟩
  ·rw[Qs e,Qs (fun z=>e (h1.trans z))];exact⟨h1,h2,h3⟩
theorem KT.put(r:KT C H kvs xs)(k:List Key){b:Addr}(hb:H b=some (.tup (k.map kV))\/C b k)(ry:E3 y u):
  KT C H (AQ kvs k y) (storedH xs k b u):=by
 have e:(kvs.any fun kv=>decide (kv.1=k))=(atKey xs k).isSome:=by
  rw[HH,(r.val k).isSome_eq,Xs]
 unfold AQ storedH;rw[e]
 by_cases q:(atKey xs k).isSome=true
 ·rw[Qh q,Qh q];exact r.repl k ry
 ·rw[Qs q,Qs q];exact Paired.snoc r ⟨rfl,hb,ry⟩
theorem KT.keeps{H':Hp}(r:KT C H kvs xs)(ht:∀b ys,H b=some (.tup ys)->H' b=some (.tup ys)):KT C H' kvs xs:=
 Paired.mapP r fun _ _ z=>⟨z.1,z.2.1.imp (ht _ _) id,z.2.2⟩
section
variable{h:Heap}{a:Addr}
theorem VS{ks:List Key}(ok:oN P w H h)(e:H a=some (.tup (ks.map kV))):(tupleKind (Q4 P w)).is h ks a:=by
 obtain⟨_,its,r,o,h1,h2,_,n,h3⟩:=(show K2 P w H h a (.tup (ks.map kV))from ok a _ e)
 exact⟨o,its.toArray,n,h1,h2,h3,by simpa using HI r⟩
end
section
variable{pins:OX}{σ:St}{s:Shared}{a:Addr}{v:V}{r:Value}{o:Option V}{A:Around}{E:OE}
theorem VT{h':Heap}{t':Nat}{ob:HO}(I:Inv X pins σ H s)(mu:vA (H a))(hs:Heap.SameBut a s.heap h')(he:∃q,h'.get? a=some q)(new:K2 X.prog X.w (upd H a ob) h' a ob):
  Inv X pins σ (upd H a ob) {s with heap:=h',toks:=t'}:=
 I.write (x:=a) (e:=a) mu (.inl rfl) (fun b q hb z=>(hs.2 b hb).trans z) he new
end
def VU(i:Expr):Prop:=∀ov iv,subscripted i false ov iv=operate [ov,iv] (getItem ov iv)
theorem MM{prog:Program}{A:Around}{E:OE}{s:Shared}{env:Env}{value slice:Expr}{pos:Pos}{T id:String}{Q:OE}
  (hl:typeLookup (.type T) "__getitem__"=pure (some (.builtin id)))(hs:VU slice)
  (h:wpAny (model prog w) A (eval value env) (fun o s₁=>wpAny (model prog w) A (eval slice env) (fun i s₂=>s₂.TypeIs o T/\wpAny (model prog w) A (getItem o i) Q E s₂) E s₁) E s):
  wpAny (model prog w) A (eval (.Subscript value slice pos) env) Q E s:=by
 refine Subscript_ (Qe h (fun o s₁ h₁=>Qe h₁ (fun i s₂ h₂=>?_) fun _ _ x=>x) fun _ _ x=>x)
 obtain⟨hT,h₂⟩:=h₂;unfold subscriptTail;refine Qq ?_
 rw[getitemInPython_of_ne hT.not_modules];refine Qq (wpAny_specialOf hT hl ?_);have fin:wpAny (model prog w) A (subscripted slice false o i) (fun r s₃=>wpAny (model prog w) A (letTemporaryGo value o r>>=fun _=>pure r) Q E s₃) E s₂:=by
  rw[hs o i];exact wpAny_operating (Qe h₂ (fun r s₃ h₃=>Qq (wpAny_letTemporaryGo (Qy h₃))) fun _ _ x=>x)
 first
  |exact Qy (Qq fin)
  |exact Qq (Qy (Qq fin))
  |exact Qq fin
theorem Inv.big(I:Inv X pins σ H s):sysModules<s.heap.objs.size:=by
 have h:mainGlobals<s.heap.objs.size:=(I.mod.glob.keeps I.bk).lt
 exact Uv (by decide) h
end L2
namespace L2.Mir
open PySem PySem.Spec PyProof.Rows
variable{B:OA}{E:OE}{G G' G1 G2 H H' H1 H2:Hp}{N N':List Str}{Q:VK}{T:String}{X:Cx}{a p:Addr}{b c e iter tg:Expr}{es:List Expr}{i j k more n:Nat}{keep:List Bool}{ks:OI}{neg:Bool}{o:HO}{op op':CmpOp}{pins:OX}{r r':R2}{s:Shared}{scope:Scope}{t':TT}{v:V}{vs xs:List V}{x y:Str}{α β:Type}{σ σ' σ1:St}
inductive Ob where
 |exc (n:Str)|fn (n:Str)|dk (kvs:List (Key×Key))|dt (kvs:List (Str×List Int))
 deriving Inhabited
inductive D where
 |non|bl (b:Bool)|int (i:Int)|str (x:Str)|tup (ds:List D)|lst (ds:List D)|emp|obj (o:Ob)|dct (ks:OI) (vs:List D)
 deriving Inhabited
variable{d:D}{ds:List D}{g':Int->Int->D}
def MN(K:Qz)(t:Value):Prop:=∀T∈(["tuple","list","int","bool","str"]:List String),PySem.W.kitOne K t (.type T)=some false
def sT(K:Qz)(G:Hp)(a:Addr)(xs:List V):Prop:=G a=some (.tup xs)\/ ∃(o:Obj) (its:Array Value) (n:Nat),K.lookup a=some o/\o.cls=.type "tuple"/\o.dict=none/\o.data=.seq its n/\its.size≤sizeLine/\D4 xs its.toList
theorem sT.t{K:Qz}(h:sT K G a xs):nZ K G a xs:=h.imp (fun e=>.inl e) id
def Cg(K:Qz)(G:Hp):List (Key×V)->List (Str×List Int)->Prop
 |[],[]=>True
 |p::ps,q::qs=>p.1=.inr q.1/\(∃a,p.2=.ref a/\sT K G a (q.2.map V.int))/\Cg K G ps qs
 |_,_=>False
def FF(K:Qz)(G:Hp)(v:V):Ob->Prop
 |.exc n=>∃a C HP,v=.ref a/\PySem.W.nsIn K mainGlobals n=some (some (.ref C))/\G a=some (.ext HP)/\PySem.W.KitX K (.ref a) (.ref C) HP/\MN K (.ref C)
 |.fn n=>∃f,v=.ref f/\PySem.W.nsIn K mainGlobals n=some (some (.ref f))/\PySem.W.KitX K (.ref f) (.type "function") (fun _=>True)
 |.dk kvs=>∃a,v=.ref a/\G a=some (.dK (kvs.map fun p=>(p.1,kV p.2)))
 |.dt kvs=>∃a ps,v=.ref a/\G a=some (.dK ps)/\Cg K G ps kvs
abbrev M4(k:List Int):List Key:=k.map Sum.inl
def L9(K:Qz):Addr->List Key->Prop:=fun b k=>sT K (fun _=>none) b (k.map kV)
mutual
def c4(K:Qz)(G:Hp):V->D->Prop
 |v,.non=>v=.non
 |v,.bl b=>v=.bl b
 |v,.int i=>v=.int i
 |v,.str x=>v=.str x/\x.length≤sizeLine
 |v,.tup ds=>∃a xs,v=.ref a/\sT K G a xs/\C4 K G xs ds
 |v,.lst ds=>∃a xs,v=.ref a/\oD K G a xs/\C4 K G xs ds
 |v,.emp=>∃a kvs,v=.ref a/\G a=some (.dK kvs)
 |v,.obj o=>FF K G v o
 |v,.dct ks vs=>∃a kvs,v=.ref a/\G a=some (.dT (L9 K) kvs)/\kvs.map (·.1)=ks.map M4/\C4 K G (kvs.map (·.2)) vs
def C4(K:Qz)(G:Hp):List V->List D->Prop
 |xs,[]=>xs=[]
 |xs,d::ds=>∃x r,xs=x::r/\c4 K G x d/\C4 K G r ds
end
def Le(G G':Hp):Prop:=∀b o,G b=some o->G' b=some o
theorem Le.refl:Le G G:=fun _ _ e=>e
theorem Le.trans(a:Le G G1)(b:Le G1 G2):Le G G2:=fun x o e=>b x o (a x o e)
theorem Le.upd(h:G a=none):Le G (upd G a o):=fun b u e=>by rw[D7 (Q5 e h)];exact e
theorem Le.sqU{K:Qz}(l:Le G G')(h:sT K G a xs):sT K G' a xs:=h.imp (fun e=>l _ _ e) id
theorem Le.sqT{K:Qz}(l:Le G G')(h:sT K G a xs):nZ K G' a xs:=(l.sqU h).t
theorem Le.sqT'{K:Qz}(l:Le G G')(h:nZ K G a xs):nZ K G' a xs:=by
 rcases h with h|h
 ·rcases h with h|⟨o,h⟩
  ·exact .inl (.inl (l _ _ h))
  ·exact .inl (.inr ⟨o,l _ _ h⟩)
 ·exact .inr h
theorem Le.sqL{K:Qz}(l:Le G G')(h:oD K G a xs):oD K G' a xs:=by
 rcases h with h|h
 ·rcases h with h|⟨o,h⟩
  ·exact .inl (.inl (l _ _ h))
  ·exact .inl (.inr ⟨o,l _ _ h⟩)
 ·exact .inr h
theorem Cg.mono{K:Qz}{G G':Hp}(l:Le G G'):∀{ps:List (Key×V)}{qs:List (Str×List Int)},Cg K G ps qs->Cg K G' ps qs
 |[],[],_=>trivial
 |_::_,_::_,⟨h1,⟨a,h2,h3⟩,h4⟩=>⟨h1,⟨a,h2,l.sqU h3⟩,Cg.mono l h4⟩
theorem FF.mono{K:Qz}(l:Le G G'):∀{o:Ob},FF K G v o->FF K G' v o
 |.exc n,⟨a,C,HP,h1,h2,h3,h4⟩=>⟨a,C,HP,h1,h2,l _ _ h3,h4⟩
 |.fn n,h=>h
 |.dk kvs,⟨a,h1,h2⟩=>⟨a,h1,l _ _ h2⟩
 |.dt kvs,⟨a,ps,h1,h2,h3⟩=>⟨a,ps,h1,l _ _ h2,h3.mono l⟩
mutual
theorem c4.mono{K:Qz}{G G':Hp}(l:Le G G'):∀(d:D) {v:V},c4 K G v d->c4 K G' v d
 |.non,_,h=>by simpa only[c4]using h
 |.bl b,_,h=>by simpa only[c4]using h
 |.int i,_,h=>by simpa only[c4]using h
 |.str x,_,h=>by simpa only[c4]using h
 |.tup ds,_,h=>by
  simp only[c4]at h ⊢;obtain⟨a,xs,e,q,r⟩:=h;exact⟨a,xs,e,l.sqU q,C4.mono l ds r⟩
 |.lst ds,_,h=>by
  simp only[c4]at h ⊢;obtain⟨a,xs,e,q,r⟩:=h;exact⟨a,xs,e,l.sqL q,C4.mono l ds r⟩
 |.emp,_,h=>by
  simp only[c4]at h ⊢;obtain⟨a,kvs,e,q⟩:=h;exact⟨a,kvs,e,l _ _ q⟩
 |.obj o,_,h=>by
  simp only[c4]at h ⊢;exact h.mono l
 |.dct ks vs,_,h=>by
  simp only[c4]at h ⊢;obtain⟨a,kvs,e,q,k,r⟩:=h;exact⟨a,kvs,e,l _ _ q,k,C4.mono l vs r⟩
theorem C4.mono{K:Qz}{G G':Hp}(l:Le G G'):∀(ds:List D) {xs:List V},C4 K G xs ds->C4 K G' xs ds
 |[],_,h=>by simpa only[C4]using h
 |d::ds,_,h=>by
  simp only[C4]at h ⊢;obtain⟨x,r,e,q,t⟩:=h;exact⟨x,r,e,c4.mono l d q,C4.mono l ds t⟩
end
theorem f7{K:Qz}:C4 K G [] []:=by simp only[C4]
theorem d8{K:Qz}{x:V}(h:c4 K G x d)(t:C4 K G xs ds):C4 K G (x::xs) (d::ds):=by
 simp only[C4];exact⟨x,xs,rfl,h,t⟩
theorem C4.length{K:Qz}{G:Hp}:∀{ds:List D}{xs:List V},C4 K G xs ds->xs.length=ds.length
 |[],_,h=>by simp only[C4]at h;subst h;rfl
 |d::ds,_,h=>by
  simp only[C4]at h;obtain⟨x,r,e,q,t⟩:=h;subst e
  simp[C4.length t]
theorem C4.append{K:Qz}{G:Hp}:∀{ds es:List D}{xs ys:List V},C4 K G xs ds->C4 K G ys es->C4 K G (xs++ys) (ds++es)
 |[],_,_,_,h,t=>by simp only[C4]at h;subst h;exact t
 |d::ds,_,_,_,h,t=>by
  simp only[C4]at h;obtain⟨x,r,e,q,u⟩:=h;subst e;exact d8 q (C4.append u t)
theorem C4.get{K:Qz}{G:Hp}:∀{ds:List D}{xs:List V}{i:Nat}{d:D},C4 K G xs ds->ds[i]? =some d->∃x,xs[i]? =some x/\c4 K G x d
 |[],_,i,d,h,e=>by simp at e
 |d::ds,_,i,d',h,e=>by
  simp only[C4]at h;obtain⟨x,r,e1,q,t⟩:=h;subst e1;cases i with
  |zero=>simp at e;subst e;exact⟨x,rfl,q⟩
  |succ i=>simpa using C4.get (i:=i) t (by simpa using e)
theorem C4.get'{K:Qz}{x:V}(h:C4 K G xs ds)(e:xs[i]? =some x):∃d,ds[i]? =some d/\c4 K G x d:=by
 have hl:=h.length
 have hi:i<xs.length:=(Qp.mp e).1
 obtain⟨x',e',r⟩:=h.get (i:=i) (d:=ds[i]'(by omega)) (by simp)
 rw[e]at e';cases e';exact⟨_,by simp,r⟩
theorem C4.take{K:Qz}:∀{ds:List D}{xs:List V}(n:Nat),C4 K G xs ds->C4 K G (xs.take n) (ds.take n)
 |_,_,0,_=>by simp[f7]
 |[],_,n+1,h=>by simp only[C4]at h;subst h;simp[f7]
 |d::ds,_,n+1,h=>by
  simp only[C4]at h;obtain⟨x,r,e,q,t⟩:=h;subst e;exact d8 q (t.take n)
theorem C4.drop{K:Qz}:∀{ds:List D}{xs:List V}(n:Nat),C4 K G xs ds->C4 K G (xs.drop n) (ds.drop n)
 |_,_,0,h=>h
 |[],_,n+1,h=>by simp only[C4]at h;subst h;simp[f7]
 |d::ds,_,n+1,h=>by
  simp only[C4]at h;obtain⟨x,r,e,q,t⟩:=h;subst e;exact t.drop n
theorem C4.reverse{K:Qz}:∀{ds:List D}{xs:List V},C4 K G xs ds->C4 K G xs.reverse ds.reverse
 |[],_,h=>by simp only[C4]at h;subst h;simp[f7]
 |d::ds,_,h=>by
  simp only[C4]at h;obtain⟨x,r,e,q,t⟩:=h;subst e;simp only[Xr];exact t.reverse.append (d8 q f7)
theorem C4.set{K:Qz}:∀{ds:List D}{xs:List V}{x:V}{d:D}(n:Nat),C4 K G xs ds->c4 K G x d->C4 K G (xs.set n x) (ds.set n d)
 |[],_,_,_,n,h,_=>by simp only[C4]at h;subst h;simp[f7]
 |d::ds,_,_,_,0,h,q'=>by
  simp only[C4]at h;obtain⟨x,r,e,q,t⟩:=h;subst e;exact d8 q' t
 |d::ds,_,_,_,n+1,h,q'=>by
  simp only[C4]at h;obtain⟨x,r,e,q,t⟩:=h;subst e;exact d8 q (t.set n q')
inductive Mu where
 |l (ds:List D)|d (ks:OI) (vs:List D)
 deriving Inhabited
variable{m:Mu}
inductive W where
 |nil|dat (d:D)|own (ds:List D)|par (ds:List D)|ownD (ks:OI) (vs:List D)|parD (ks:OI) (vs:List D)
 deriving Inhabited
variable{w w2:W}{ws':List W}
abbrev b0:=List W
abbrev OZ:=D->b0->Option b0
variable{env env' a9:b0}
def W.mut:W->Option Mu
 |.own ds=>some (.l ds)
 |.par ds=>some (.l ds)
 |.ownD ks vs=>some (.d ks vs)
 |.parD ks vs=>some (.d ks vs)
 |_=>none
def W.mutL:W->Option (List D)
 |.own ds=>some ds
 |.par ds=>some ds
 |_=>none
def W.mutD:W->Option (OI×List D)
 |.ownD ks vs=>some (ks,vs)
 |.parD ks vs=>some (ks,vs)
 |_=>none
def W.put:W->List D->W
 |.own _,ds=>.own ds
 |.par _,ds=>.par ds
 |w,_=>w
def W.isOwn:W->Bool
 |.own _=>true
 |.ownD _ _=>true
 |_=>false
def W.isPar:W->Bool
 |.par _=>true
 |.parD _ _=>true
 |_=>false
def W.putM(w:W):Mu->W
 |.l ds=>if w.isOwn then .own ds else if w.isPar then .par ds else w
 |.d ks vs=>if w.isOwn then .ownD ks vs else if w.isPar then .parD ks vs else w
theorem W.mutL_of(h:w.mutL=some ds):w.mut=some (.l ds):=by cases w<;>first|(cases h;rfl)|cases h
theorem W.mutD_of{vs:List D}(h:w.mutD=some (ks,vs)):w.mut=some (.d ks vs):=by cases w<;>first|(cases h;rfl)|cases h
theorem W.put_eq(h:w.mutL=some ds)(ds':List D):w.put ds'=w.putM (.l ds'):=by cases w<;>first|rfl|cases h
theorem W.putM_mut(h:w.mut=some m)(m':Mu):(w.putM m').mut=some m':=by
 cases w<;>cases m'<;>first|rfl|cases h
theorem W.putM_own(h:w.mut=some m)(m':Mu):(w.putM m').isOwn=w.isOwn:=by
 cases w<;>cases m'<;>first|rfl|cases h
theorem W.putM_par(h:w.mut=some m)(m':Mu):(w.putM m').isPar=w.isPar:=by
 cases w<;>cases m'<;>first|rfl|cases h
def d6(σ:St)(env:b0)(a:Addr):Prop:=∃(i:Nat) (w:W) (m:Mu),env[i]? =some w/\w.mut=some m/\σ[i]? =some (some (V.ref a))
theorem pG(h:w.isOwn=true):∃m,w.mut=some m:=by cases w<;>first|exact⟨_,rfl⟩|cases h
theorem oP(h:w.isPar=true):∃m,w.mut=some m:=by cases w<;>first|exact⟨_,rfl⟩|cases h
def NT(o:HO):Prop:=∀ps,o≠.tbl ps
theorem nJ:NT (.lst xs):=fun _ z=>by cases z
theorem uB:NT (.tup xs):=fun _ z=>by cases z
def oZ(q:Str):Str:=(q++".<locals>.")++"<lambda>"
def sJ(K:Qz)(P:Addr)(q:Str):Bool:=K.all fun p=>match p.2 with
 |⟨.type "code",_,.fields vs,_⟩=>(match (vs[11]? :Option Value)with|some (.ref P')=>P' !=P|_=>true)||(match vs.toList with|_::.str n _::_=>n==q|_=>false)
 |_=>true
def qQ(K:Qz)(P a:Addr):HO:=.ext fun h=>∀q,sJ K P q=true->h.CodeRec (.ref a) (oZ q)
def nK(K:Qz)(H:Hp):Prop:=∀P ps,H P=some (.tbl ps)->TriplesOk ps.toList/\∀pos v,codeAmong pos ps.toList=some v->∃a,v=.ref a/\H a=some (qQ K P a)
theorem nK.mono{K:Qz}(t:nK K H)(h1:∀P ps,H' P=some (.tbl ps)->H P=some (.tbl ps))(h2:∀a φ,H a=some (.ext φ)->H' a=some (.ext φ)):nK K H':=fun P ps e=>by
 obtain⟨q1,q2⟩:=t P ps (h1 P ps e);refine⟨q1,fun pos v e=>?_⟩
 obtain⟨a,e1,e2⟩:=q2 pos v e;exact⟨a,e1,h2 _ _ e2⟩
theorem nK.upd{K:Qz}(t:nK K H)(no:NT o)(h:∀φ,H a≠some (.ext φ)):nK K (upd H a o):=
 t.mono (fun P ps e=>by
  by_cases hb:P=a
  ·subst hb;rw[J0]at e;cases e;exact absurd rfl (no ps)
  ·rw[D7 hb]at e;exact e) fun b φ e=>by
  by_cases hb:b=a
  ·subst hb;exact absurd e (h φ)
  ·rw[D7 hb];exact e
def pC(K:Qz)(G:Hp)(o:HO):Mu->Prop
 |.l ds=>∃xs,o=.lst xs/\C4 K G xs ds
 |.d ks vs=>∃kvs,o=.dT (L9 K) kvs/\kvs.map (·.1)=ks.map M4/\C4 K G (kvs.map (·.2)) vs
theorem pC.mono{K:Qz}(l:Le G G'):∀{m:Mu},pC K G o m->pC K G' o m
 |.l ds,⟨xs,e,r⟩=>⟨xs,e,C4.mono l ds r⟩
 |.d ks vs,⟨kvs,e,k,r⟩=>⟨kvs,e,k,C4.mono l vs r⟩
theorem pC.nt{K:Qz}:∀{m:Mu},pC K G o m->NT o
 |.l ds,⟨xs,e,r⟩=>by subst e;exact nJ
 |.d ks vs,⟨kvs,e,k,r⟩=>by subst e;exact fun _ z=>by cases z
theorem pC.ne{K:Qz}(r:pC K G o m):∀φ,o≠.ext φ:=by
 cases m with
 |l ds=>obtain⟨xs,e,_⟩:=r;subst e;exact fun _ z=>by cases z
 |d ks vs=>obtain⟨xs,e,_⟩:=r;subst e;exact fun _ z=>by cases z
structure Rel(K:Qz)(B:OA)(G:Hp)(σ:St)(env:b0)(H:Hp):Prop where
 sub:Le G H
 len:env.length=σ.length
 dat:∀(i:Nat) (d:D),env[i]? =some (.dat d)->∃v,σ[i]? =some (some v)/\c4 K G v d
 own:∀(i:Nat) (w:W) (m:Mu),env[i]? =some w->w.mut=some m->∃a o,σ[i]? =some (some (V.ref a))/\H a=some o/\pC K G o m/\G a=none
 inj:∀(i j:Nat) (w w':W) (ds es:Mu) (a:Addr),env[i]? =some w->w.mut=some ds->env[j]? =some w'->w'.mut=some es->σ[i]? =some (some (V.ref a))->σ[j]? =some (some (V.ref a))->i=j
 fresh:∀(i:Nat) (w:W) (a:Addr),env[i]? =some w->w.isOwn=true->σ[i]? =some (some (V.ref a))-> ¬ B a
 old:∀b,B b->H b≠none
 tabs:nK K H
 gnt:∀b o,G b=some o->NT o
structure Ev(K:Qz)(B:OA)(G:Hp)(σ:St)(env:b0)(H:Hp)(G':Hp)(σ':St)(env':b0)(H':Hp):Prop where
 rel:Rel K B G' σ' env' H'
 same:Le G G'
 keep:∀b o,¬ d6 σ env b->NT o->H b=some o->H' b=some o
 live:∀b,H b≠none->H' b≠none
 stay:∀b,H b≠none-> ¬ d6 σ env b->G b=none->G' b=none
 sub:∀a,d6 σ' env' a->d6 σ env a\/H a=none
 par:∀(i:Nat) (w:W),env'[i]? =some w->w.isPar=true->σ'[i]? =σ[i]? /\ ∃w0,env[i]? =some w0/\w0.isPar=true
 slen:σ'.length=σ.length
theorem Ev.refl{K:Qz}(r:Rel K B G σ env H):Ev K B G σ env H G σ env H:=
 ⟨r,Le.refl,fun _ _ _ _ e=>e,fun _ e=>e,fun _ _ _ e=>e,fun _ e=>.inl e,fun _ w e h=>⟨rfl,w,e,h⟩,rfl⟩
theorem Ev.trans{K:Qz}{σ2:St}{g0:b0}(a:Ev K B G σ env H G1 σ1 a9 H1)(b:Ev K B G1 σ1 a9 H1 G2 σ2 g0 H2):Ev K B G σ env H G2 σ2 g0 H2 where
 rel:=b.rel
 same:=a.same.trans b.same
 keep:=fun x o n t e=>b.keep x o (fun z=>(a.sub x z).elim n fun q=>by rw[e]at q;cases q) t (a.keep x o n t e)
 live:=fun x e=>b.live x (a.live x e)
 stay:=fun x e n g=>b.stay x (a.live x e) (fun z=>(a.sub x z).elim n fun q=>e q) (a.stay x e n g)
 sub:=fun x z=>(b.sub x z).elim (fun q=>a.sub x q) fun q=>.inr (by
  cases h:H x with
  |none=>rfl
  |some o=>exact absurd q (a.live x (by rw[h];simp)))
 par:=fun i w e h=>by
  obtain⟨h1,d1,e1,p1⟩:=b.par i w e h;obtain⟨h2,d2,e2,p2⟩:=a.par i d1 e1 p1;exact⟨h1.trans h2,d2,e2,p2⟩
 slen:=b.slen.trans a.slen
theorem Rel.ownL{K:Qz}(r:Rel K B G σ env H)(i:Nat)(w:W)(ds:List D)(e1:env[i]? =some w)(e2:w.mutL=some ds):∃a xs,σ[i]? =some (some (V.ref a))/\H a=some (.lst xs)/\C4 K G xs ds/\G a=none:=by
 obtain⟨a,o,h1,h2,⟨xs,rfl,h3⟩,h4⟩:=r.own i w (.l ds) e1 (W.mutL_of e2);exact⟨a,xs,h1,h2,h3,h4⟩
theorem Rel.ownD{K:Qz}(r:Rel K B G σ env H)(i:Nat)(w:W)(ks:OI)(vs:List D)(e1:env[i]? =some w)(e2:w.mutD=some (ks,vs)):∃a kvs,σ[i]? =some (some (V.ref a))/\H a=some (.dT (L9 K) kvs)/\kvs.map (·.1)=ks.map M4/\C4 K G (kvs.map (·.2)) vs/\G a=none:=by
 obtain⟨a,o,h1,h2,⟨kvs,rfl,h3,h4⟩,h5⟩:=r.own i w (.d ks vs) e1 (W.mutD_of e2);exact⟨a,kvs,h1,h2,h3,h4,h5⟩
abbrev Mo(α:Type):=b0->Option (α×b0)
variable{ma mb mc:Mo D}{ms:Mo (List D)}
section
variable(K:Qz)(B:OA)
def TD(m:Mo D):TE:=fun σ H Q=>∃G env d env',Rel K B G σ env H/\m env=some (d,env')/\∀v G' H',Ev K B G σ env H G' σ env' H'->c4 K G' v d->Q v H'
def TL(m:Mo (List D)):TE:=fun σ H Q=>∃G env ds env',Rel K B G σ env H/\m env=some (ds,env')/\∀a xs G' H',Ev K B G σ env H G' σ env' H'->H a=none-> ¬ d6 σ env' a->H' a=some (.lst xs)->G' a=none->C4 K G' xs ds->Q (.ref a) H'
def pX(m:Mo Bool):TT:=fun σ H Q=>∃G env b env',Rel K B G σ env H/\m env=some (b,env')/\∀G' H',Ev K B G σ env H G' σ env' H'->Q b H'
inductive Ar where
 |d (d:D)|sl (i:Nat)
 deriving Inhabited
def j8(G:Hp)(σ:St):List V->List Ar->Prop
 |xs,[]=>xs=[]
 |xs,.d d::as=>∃x r,xs=x::r/\c4 K G x d/\j8 G σ r as
 |xs,.sl i::as=>∃x r,xs=x::r/\σ[i]? =some (some x)/\j8 G σ r as
def xV(m:Mo (List Ar)):TA:=fun σ H Q=>∃G env as env',Rel K B G σ env H/\m env=some (as,env')/\∀vs G' H',Ev K B G σ env H G' σ env' H'->j8 K G' σ vs as->Q vs H'
def vQ(m:Mo (List D)):TA:=fun σ H Q=>∃G env ds env',Rel K B G σ env H/\m env=some (ds,env')/\∀vs G' H',Ev K B G σ env H G' σ env' H'->C4 K G' vs ds->Q vs H'
inductive Fl where
 |nx|bk|ct|ret (d:D)|retL (ds:List D)
def Post(G:Hp)(σ:St)(env:b0)(H:Hp)(env':b0)(D:Ends):Fl->Prop
 |.nx=>∀σ' G' H',Ev K B G σ env H G' σ' env' H'->D.nx σ' H'
 |.bk=>∀σ' G' H',Ev K B G σ env H G' σ' env' H'->D.bk σ' H'
 |.ct=>∀σ' G' H',Ev K B G σ env H G' σ' env' H'->D.ct σ' H'
 |.ret d=>∀v σ' G' H',Ev K B G σ env H G' σ' env' H'->c4 K G' v d->D.rt v H'
 |.retL ds=>∀a xs σ' G' H',Ev K B G σ env H G' σ' env' H'-> ¬ B a-> ¬ d6 σ' env' a->H' a=some (.lst xs)->G' a=none->C4 K G' xs ds->D.rt (.ref a) H'
def xW(m:Mo Fl):TS:=fun D σ H=>∃G env fl env',Rel K B G σ env H/\m env=some (fl,env')/\Post K B G σ env H env' D fl
theorem Post.after{D:Ends}{fl:Fl}(k:Post K B G σ env H env' D fl)(ev:Ev K B G σ env H G1 σ1 a9 H1):Post K B G1 σ1 a9 H1 env' D fl:=by
 cases fl with
 |nx=>exact fun σ2 G2 H2 f6=>k σ2 G2 H2 (ev.trans f6)
 |bk=>exact fun σ2 G2 H2 f6=>k σ2 G2 H2 (ev.trans f6)
 |ct=>exact fun σ2 G2 H2 f6=>k σ2 G2 H2 (ev.trans f6)
 |ret d=>exact fun v σ2 G2 H2 f6=>k v σ2 G2 H2 (ev.trans f6)
 |retL d=>exact fun a xs σ2 G2 H2 f6=>k a xs σ2 G2 H2 (ev.trans f6)
end
variable{as:Mo (List Ar)}
abbrev ED(X:Cx)(B:OA)(e:Expr)(m:Mo D):Prop:=PE X e (TD X.K B m)
abbrev EL(X:Cx)(B:OA)(e:Expr)(m:Mo (List D)):Prop:=PE X e (TL X.K B m)
abbrev ET(X:Cx)(B:OA)(e:Expr)(m:Mo Bool):Prop:=PT X e (pX X.K B m)
abbrev sU(X:Cx)(B:OA)(es:List Expr)(m:Mo (List Ar)):Prop:=PA X es (xV X.K B m)
abbrev rB(X:Cx)(B:OA)(es:List Expr)(m:Mo (List D)):Prop:=PA X es (vQ X.K B m)
abbrev ES(X:Cx)(B:OA)(s:Stmt)(m:Mo Fl):Prop:=PS X s (xW X.K B m)
abbrev sK(X:Cx)(B:OA)(s:List Stmt)(m:Mo Fl):Prop:=pQ X s (xW X.K B m)
theorem d7{t t':TE}(h:PE X e t)(i:∀σ H Q,t' σ H Q->t σ H Q):PE X e t':=fun pins s σ H Q I q=>h pins s σ H Q I (i σ H Q q)
theorem pL{t:TT}(h:PT X e t)(i:∀σ H Q,t' σ H Q->t σ H Q):PT X e t':=fun pins s σ H Q I q=>h pins s σ H Q I (i σ H Q q)
theorem pw_imp{t:TT}(h:PW X e t)(i:∀σ H Q,t' σ H Q->t σ H Q):PW X e t':=fun wh pins s σ H Q I q=>h wh pins s σ H Q I (i σ H Q q)
theorem oK{e:List Expr}{t t':TA}(h:PA X e t)(i:∀σ H Q,t' σ H Q->t σ H Q):PA X e t':=fun pos pins s σ H Q I q=>h pos pins s σ H Q I (i σ H Q q)
theorem j2{e:Stmt}{t t':TS}(h:PS X e t)(i:∀D σ H,t' D σ H->t D σ H):PS X e t':=fun pins s σ H D I q=>h pins s σ H D I (i D σ H q)
theorem p9{e:List Stmt}{t t':TS}(h:pQ X e t)(i:∀D σ H,t' D σ H->t D σ H):pQ X e t':=fun pins s σ H D I q=>h pins s σ H D I (i D σ H q)
section
variable{K:Qz}
theorem Rel.gnone(r:Rel K B G σ env H)(h:H p=none):G p=none:=by
 cases e:G p with
 |none=>rfl
 |some o=>rw[r.sub p o e]at h;cases h
theorem Rel.unowned(r:Rel K B G σ env H)(h:H p=none):¬ d6 σ env p:=by
 rintro⟨i,w,ds,e1,e2,e3⟩;obtain⟨a,xs,e4,e5,_⟩:=r.own i w ds e1 e2;rw[e3]at e4;cases e4;rw[h]at e5;cases e5
theorem HJ(h:∀b o,G b=some o->NT o)(no:NT o):∀b u,upd G p o b=some u->NT u:=fun b u e=>by
 by_cases hb:b=p
 ·subst hb;rw[J0]at e;cases e;exact no
 ·rw[D7 hb]at e;exact h b u e
theorem Rel.alloc(r:Rel K B G σ env H)(h:H p=none)(no:NT o:=by intro _ z;cases z):Ev K B G σ env H (upd G p o) σ env (upd H p o):=by
 have gp:=r.gnone h
 refine⟨⟨fun b u e=>?_,r.len,fun i d e=>?_,fun i w ds e1 e2=>?_,r.inj,r.fresh,fun b e=>?_,r.tabs.upd no (fun φ z=>by rw[h]at z;cases z),HJ r.gnt no⟩,Le.upd gp,fun b u _ _ e=>?_,fun b e=>?_,fun b e _ g=>?_,fun a z=>.inl z,fun i w e hp=>⟨rfl,w,e,hp⟩,rfl⟩
 ·by_cases hb:b=p
  ·subst hb;rw[J0]at e ⊢;exact e
  ·rw[D7 hb]at e ⊢;exact r.sub b u e
 ·obtain⟨v,e1,e2⟩:=r.dat i d e
  exact⟨v,e1,c4.mono (Le.upd gp) d e2⟩
 ·obtain⟨a,xs,e3,e4,e5,e6⟩:=r.own i w ds e1 e2
  have ha:a≠p:=Q5 e4 h
  exact⟨a,xs,e3,by rw[D7 ha];exact e4,e5.mono (Le.upd gp),by rw[D7 ha];exact e6⟩
 ·by_cases hb:b=p
  ·subst hb;rw[J0];simp
  ·rw[D7 hb];exact r.old b e
 ·rw[D7 (Q5 e h)];exact e
 ·by_cases hb:b=p
  ·subst hb;rw[J0];simp
  ·rw[D7 hb];exact e
 ·have hb:b≠p:=fun z=>e (z ▸ h)
  rw[D7 hb];exact g
theorem Rel.allocM(r:Rel K B G σ env H)(h:H p=none)(no:NT o:=by intro _ z;cases z):Ev K B G σ env H G σ env (upd H p o):=by
 refine⟨⟨fun b u e=>?_,r.len,r.dat,fun i w ds e1 e2=>?_,r.inj,r.fresh,fun b e=>?_,r.tabs.upd no (fun φ z=>by rw[h]at z;cases z),r.gnt⟩,Le.refl,fun b u _ _ e=>?_,fun b e=>?_,fun b e _ g=>g,fun a z=>.inl z,fun i w e hp=>⟨rfl,w,e,hp⟩,rfl⟩
 ·rw[D7 (Q5 (r.sub b u e) h)];exact r.sub b u e
 ·obtain⟨a,xs,e3,e4,e5,e6⟩:=r.own i w ds e1 e2
  exact⟨a,xs,e3,by rw[D7 (Q5 e4 h)];exact e4,e5,e6⟩
 ·by_cases hb:b=p
  ·subst hb;rw[J0];simp
  ·rw[D7 hb];exact r.old b e
 ·rw[D7 (Q5 e h)];exact e
 ·by_cases hb:b=p
  ·subst hb;rw[J0];simp
  ·rw[D7 hb];exact e
theorem Ev.frz(v:Ev K B G σ env H G' σ' env' H')(ha:H a=none)(no:¬ d6 σ' env' a)(h':H' a=some (.lst xs))(g':G' a=none):
  Ev K B G σ env H (upd G' a (.lst xs)) σ' env' H':=by
 refine⟨⟨fun b u e=>?_,v.rel.len,fun i d e=>?_,fun i w ds e1 e2=>?_,v.rel.inj,v.rel.fresh,v.rel.old,v.rel.tabs,HJ v.rel.gnt nJ⟩,v.same.trans (Le.upd g'),v.keep,v.live,fun b e n g=>?_,v.sub,v.par,v.slen⟩
 ·by_cases hb:b=a
  ·subst hb;rw[J0]at e;cases e;exact h'
  ·rw[D7 hb]at e;exact v.rel.sub b u e
 ·obtain⟨x,e1,e2⟩:=v.rel.dat i d e
  exact⟨x,e1,c4.mono (Le.upd g') d e2⟩
 ·obtain⟨p,ys,e3,e4,e5,e6⟩:=v.rel.own i w ds e1 e2
  have hp:p≠a:=fun z=>no ⟨i,w,ds,e1,e2,by rw[←z];exact e3⟩
  exact⟨p,ys,e3,e4,e5.mono (Le.upd g'),by rw[D7 hp];exact e6⟩
 ·have hb:b≠a:=fun z=>e (z ▸ ha)
  rw[D7 hb];exact v.stay b e n g
theorem MO(h:G a=some (.lst xs))(r:C4 K G xs ds):c4 K G (.ref a) (.lst ds):=by
 simp only[c4];exact⟨a,xs,rfl,.inl (.inl h),r⟩
theorem Bq(h:G a=some (.tup xs))(r:C4 K G xs ds):c4 K G (.ref a) (.tup ds):=by
 simp only[c4];exact⟨a,xs,rfl,.inl h,r⟩
theorem Rel.frzSlotM{w0:W}(r:Rel K B G σ env H)(e:env[i]? =some w0)(em:w0.mut=some m)(hrep:∀G1 a o,G1 a=some o->pC K G1 o m->c4 K G1 (.ref a) d):
  ∃a o,σ[i]? =some (some (.ref a))/\c4 K (upd G a o) (.ref a) d/\Ev K B G σ env H (upd G a o) σ (env.set i (.dat d)) H:=by
 obtain⟨a,o,e1,e2,e3,e4⟩:=r.own i _ m e em;have rp:c4 K (upd G a o) (.ref a) d:=hrep _ a o J0 (e3.mono (Le.upd e4));have ow:d6 σ env a:=⟨i,_,m,e,em,e1⟩;have hi:i<env.length:=(Qp.mp e).1;have ne:∀j w es,(env.set i (.dat d))[j]? =some w->w.mut=some es->j≠i/\env[j]? =some w:=fun j w es q1 q2=>by
  by_cases hj:j=i
  ·subst hj;rw[Zo hi]at q1;cases q1;cases q2
  ·rw[Qc (Zm hj)]at q1;exact⟨hj,q1⟩
 refine⟨a,o,e1,rp,⟨⟨fun b u q=>?_,by rw[Zi];exact r.len,fun j d q=>?_,fun j w es q1 q2=>?_,fun j k w w' es fs b q1 q2 q3 q4 q5 q6=>?_,fun j w b q1 qo q2=>?_,r.old,r.tabs,HJ r.gnt e3.nt⟩,Le.upd e4,fun b o _ _ q=>q,fun b q=>q,fun b q n g=>?_,fun b z=>?_,fun j w q qp=>?_,rfl⟩⟩
 ·by_cases hb:b=a
  ·subst hb;rw[J0]at q;cases q;exact e2
  ·rw[D7 hb]at q;exact r.sub b u q
 ·by_cases hj:j=i
  ·subst hj;rw[Zo hi]at q;cases q;exact⟨_,e1,rp⟩
  ·rw[Qc (Zm hj)]at q
   obtain⟨x,q1,q2⟩:=r.dat j d q;exact⟨x,q1,c4.mono (Le.upd e4) d q2⟩
 ·obtain⟨hj,q⟩:=ne j w es q1 q2
  obtain⟨p,ys,e3',e4',e5',e6'⟩:=r.own j w es q q2;have hp:p≠a:=fun z=>hj (r.inj j i w _ es m a q q2 e em (by rw[e3',z]) e1)
  exact⟨p,ys,e3',e4',e5'.mono (Le.upd e4),by rw[D7 hp];exact e6'⟩
 ·exact r.inj j k w w' es fs b (ne j w es q1 q2).2 q2 (ne k w' fs q3 q4).2 q4 q5 q6
 ·obtain⟨es,hm⟩:=pG qo
  exact r.fresh j w b (ne j _ es q1 hm).2 qo q2
 ·have hb:b≠a:=fun z=>n (z ▸ ow)
  rw[D7 hb];exact g
 ·obtain⟨j,w,es,q1,q2,q3⟩:=z
  exact .inl ⟨j,w,es,(ne j w es q1 q2).2,q2,q3⟩
 ·obtain⟨es,hm⟩:=oP qp
  exact⟨rfl,w,(ne j _ es q hm).2,qp⟩
theorem Rel.frzSlot(r:Rel K B G σ env H)(e:env[i]? =some (.own ds)):
  ∃a o,σ[i]? =some (some (.ref a))/\c4 K (upd G a o) (.ref a) (.lst ds)/\Ev K B G σ env H (upd G a o) σ (env.set i (.dat (.lst ds))) H:=
 r.frzSlotM (m:=.l ds) e rfl fun G1 a o h ⟨xs,z,q⟩=>by subst z;exact MO h q
theorem Rel.frzSlotD{vs:List D}(r:Rel K B G σ env H)(e:env[i]? =some (.ownD ks vs)):
  ∃a o,σ[i]? =some (some (.ref a))/\c4 K (upd G a o) (.ref a) (.dct ks vs)/\Ev K B G σ env H (upd G a o) σ (env.set i (.dat (.dct ks vs))) H:=
 r.frzSlotM (m:=.d ks vs) e rfl fun G1 a o h ⟨kvs,z,q1,q2⟩=>by subst z;simp only[c4];exact⟨a,kvs,rfl,h,q1,q2⟩
end
def A0(i:Nat):Mo D:=fun env=>match env[i]? with
 |some (.dat d)=>some (d,env)
 |some (.own ds)=>some (.lst ds,env.set i (.dat (.lst ds)))
 |some (.ownD ks vs)=>some (.dct ks vs,env.set i (.dat (.dct ks vs)))
 |_=>none
def mC(d:D):Mo D:=fun env=>some (d,env)
section
variable{pos:Pos}
theorem B3(h:PE X (.Name x pos) (V0 i)):ED X B (.Name x pos) (A0 i):=by
 refine d7 h fun σ H Q q=>?_
 obtain⟨G,env,d,env',r,e,k⟩:=q;unfold A0 at e;split at e
 ·rename_i d' e1
  cases e;obtain⟨v,e2,e3⟩:=r.dat i _ e1;exact⟨v,e2,k v G H (.refl r) e3⟩
 ·rename_i ds e1
  cases e;obtain⟨a,xs,e2,e3,e4⟩:=r.frzSlot e1;exact⟨_,e2,k _ _ H e4 e3⟩
 ·rename_i ks vs e1
  cases e;obtain⟨a,xs,e2,e3,e4⟩:=r.frzSlotD e1;exact⟨_,e2,k _ _ H e4 e3⟩
 ·cases e
theorem Dl(h:PE X e (tC v))(hd:∀K G,c4 K G v d):ED X B e (mC d):=by
 refine d7 h fun σ H Q q=>?_
 obtain⟨G,env,d',env',r,e,k⟩:=q;cases e;exact k v G H (.refl r) (hd _ _)
theorem C1{i:Int}:ED X B (.Constant (.int i) j pos) (mC (.int i)):=Dl LS fun _ _=>by simp only[c4]
theorem M0{b:Bool}:ED X B (.Constant (.bool b) j pos) (mC (.bl b)):=Dl LU fun _ _=>by simp only[c4]
theorem Z7:ED X B (.Constant .none j pos) (mC .non):=Dl LV fun _ _=>by simp only[c4]
theorem K5(hx:x.length≤1000):ED X B (.Constant (.str x) j pos) (mC (.str x)):=Dl Se fun _ _=>by simp only[c4];exact⟨trivial,Jl (Dk hx)⟩
theorem VV{i:Int}{t:Tok}(hg:Gl X x)(hm:X.mg x=some (.int i t))(hd:(x==("__debug__":Str))=false:=by decide):ED X B (.Name x pos) (mC (.int i)):=
 Dl (LX (v:=.int i) hg hm ⟨t,rfl⟩ hd) fun _ _=>by simp only[c4]
def B5(f:D->D->Option D)(ma mb:Mo D):Mo D:=fun env=>(ma env).bind fun p=>(mb p.2).bind fun q=>(f p.1 q.1).map fun d=>(d,q.2)
def nL(X:Cx)(B:OA)(r:R2)(f:D->D->Option D):Prop:=
 ∀(G:Hp) (σ:St) (env:b0) (H:Hp) (x y:V) (a b c:D) (Q:VK),Rel X.K B G σ env H->c4 X.K G x a->c4 X.K G y b->f a b=some c->
  (∀v G' H',Ev X.K B G σ env H G' σ env H'->c4 X.K G' v c->Q v H')->r x y H Q
theorem FG{f:D->D->Option D}(o:nL X B r f):∀σ H Q,TD X.K B (B5 f ma mb) σ H Q->vC r (TD X.K B ma) (TD X.K B mb) σ H Q:=by
 rintro σ H Q ⟨G,env,d,env',rl,e,k⟩;unfold B5 at e;cases ea:ma env with
 |none=>rw[ea]at e;cases e
 |some p=>
  obtain⟨d1,a9⟩:=p;rw[ea]at e;simp only[Qj]at e;cases eb:mb a9 with
  |none=>rw[eb]at e;cases e
  |some p=>
   obtain⟨d2,g0⟩:=p;rw[eb]at e;simp only[Qj]at e;cases ef:f d1 d2 with
   |none=>rw[ef]at e;cases e
   |some c=>
    rw[ef]at e;cases e;refine⟨G,env,d1,a9,rl,ea,fun v1 G1 H1 v r1=>⟨G1,a9,d2,_,v.rel,eb,fun v2 G2 H2 v' r2=>?_⟩⟩
    exact o G2 σ _ H2 v1 v2 d1 d2 _ Q v'.rel (c4.mono v'.same _ r1) r2 ef fun v3 G3 H3 v3' r3=>k v3 G3 H3 ((v.trans v').trans v3') r3
theorem D9{op:Operator}{f:D->D->Option D}{a:Expr}(ho:k8 X (binaryOp op) r)(o:nL X B r f)(ha:ED X B a ma)(hb:ED X B b mb):ED X B (.BinOp a op b pos) (B5 f ma mb):=
 d7 (Lh ho ha hb) (FG o)
theorem Ak{f:D->D->Option D}{a:Expr}(ho:k8 X (compareOp op) r)(o:nL X B r f)(ha:ED X B a ma)(hb:ED X B b mb)(hm:behindInMarks op b=false):ED X B (.Compare a [op] [b] pos) (B5 f ma mb):=
 d7 (UL ho ha hb hm) (FG o)
def fI(C:Int->Int->Bool)(g:Int->Int->D):D->D->Option D
 |.int i,.int j=>if C i j then some (g i j)else none
 |_,_=>none
theorem Ch{C:Int->Int->Prop}{c:Int->Int->Bool}{g:Int->Int->V}(hc:∀i j,c i j=true->C i j)(hg:∀K G i j,c4 K G (g i j) (g' i j)):nL X B (rI C g) (fI c g'):=by
 intro G σ env H x y a b d Q rl ra rb e k;cases a<;>cases b<;>first|(exact absurd (show(none:Option D)=some d from e) (by simp))|skip
 rename_i i j;simp only[c4]at ra rb;subst ra rb;simp only[fI]at e;split at e
 ·rename_i h
  cases e;exact⟨i,j,rfl,rfl,hc i j h,k _ G H (.refl rl) (hg _ _ i j)⟩
 ·cases e
theorem Dm{g:Int->Int->V}(hg:∀K G i j,c4 K G (g i j) (g' i j)):nL X B (p7 g) (fI (fun _ _=>true) g'):=by
 intro G σ env H x y a b d Q rl ra rb e k;cases a<;>cases b<;>first|(exact absurd (show(none:Option D)=some d from e) (by simp))|skip
 rename_i i j;simp only[c4]at ra rb;subst ra rb;simp only[fI,Zn]at e;cases e;exact⟨i,j,rfl,rfl,k _ G H (.refl rl) (hg _ _ i j)⟩
theorem k8.or{f:Value->Value->Sem Value}(h:k8 X f r)(h':k8 X f r'):k8 X f (fun x y H Q=>r x y H Q\/r' x y H Q):=by
 intro pins s σ H x y v u Q I rx ry q
 rcases q with q|q
 ·exact h pins s σ H x y v u Q I rx ry q
 ·exact h' pins s σ H x y v u Q I rx ry q
def sV(f g:D->D->Option D):D->D->Option D:=fun a b=>match f a b with
 |some c=>some c
 |none=>g a b
theorem nL.or{f g:D->D->Option D}(h:nL X B r f)(h':nL X B r' g):nL X B (fun x y H Q=>r x y H Q\/r' x y H Q) (sV f g):=by
 intro G σ env H x y a b d Q rl ra rb e k;unfold sV at e;split at e
 ·rename_i c ec
  cases e;exact .inl (h G σ env H x y a b _ Q rl ra rb ec k)
 ·exact .inr (h' G σ env H x y a b d Q rl ra rb e k)
def Br(i j:Int):Bool:=(decide (-(2^64)<i)&&decide (i<2^64))||(decide (-(2^64)<j)&&decide (j<2^64))
def FH(_ j:Int):Bool:=decide (0<j)&&decide (j<1073741824)
def FI(i j:Int):Bool:=decide (0≤j)&&decide (j≤1000000)&&decide (i.natAbs<2^64)
def T4:=fI (fun _ _=>true) fun i j=>.int (i-j)
def HK:=fI Br fun i j=>.int (i * j)
def Dn:=fI FH fun i j=>.int (i/j)
def O1:=fI (fun _ j=>decide (0<j)) fun i j=>.int (i%j)
def R6:=fI FI fun i j=>.int (i^j.toNat)
def AR:=fI (fun _ _=>true) fun i j=>.int (i+j)
def tG:=fI (fun _ _=>true) fun i j=>.bl (decide (i<j))
def oQ:=fI (fun _ _=>true) fun i j=>.bl (decide (i≤j))
def zC:=fI (fun _ _=>true) fun i j=>.bl (decide (j<i))
def uU:=fI (fun _ _=>true) fun i j=>.bl (decide (j≤i))
theorem VW:nL X B (p7 fun i j=>.int (i-j)) T4:=Dm fun _ _ _ _=>by simp only[c4]
theorem MP:nL X B (p7 fun i j=>.int (i+j)) AR:=Dm fun _ _ _ _=>by simp only[c4]
theorem VX:nL X B (rI Bm fun i j=>.int (i * j)) HK:=Ch (fun i j h=>by simpa [Bm,Br]using h) fun _ _ _ _=>by simp only[c4]
theorem VY:nL X B (rI Gx fun i j=>.int (i/j)) Dn:=Ch (fun i j h=>by simpa [Gx,FH]using h) fun _ _ _ _=>by simp only[c4]
theorem VZ:nL X B (rI (fun _ j=>0<j) fun i j=>.int (i%j)) O1:=Ch (fun i j h=>by simpa using h) fun _ _ _ _=>by simp only[c4]
theorem WA:nL X B (rI Gy fun i j=>.int (i^j.toNat)) R6:=Ch (fun i j h=>by simpa [Gy,FI,and_assoc]using h) fun _ _ _ _=>by simp only[c4]
theorem MQ:nL X B (p7 fun i j=>.bl (decide (i<j))) tG:=Dm fun _ _ _ _=>by simp only[c4]
theorem WB:nL X B (p7 fun i j=>.bl (decide (i≤j))) oQ:=Dm fun _ _ _ _=>by simp only[c4]
theorem WC:nL X B (p7 fun i j=>.bl (decide (j≤i))) uU:=Dm fun _ _ _ _=>by simp only[c4]
end
section
variable{pos:Pos}{a:Expr}{ta tb:Mo Bool}
theorem TD.bind{K:Qz}{m:Mo D}(r:Rel K B G σ env H)(e:m env=some (d,env'))
  (k:∀v G' H',Ev K B G σ env H G' σ env' H'->c4 K G' v d->Q v H'):TD K B m σ H Q:=⟨G,env,d,env',r,e,k⟩
def vR:D×b0->Option (Bool×b0)
 |(.bl b,e)=>some (b,e)
 |_=>none
def mT(m:Mo D):Mo Bool:=fun env=>(m env).bind vR
theorem HL{t:TE}{m:Mo D}(i:∀σ H Q,TD X.K B m σ H Q->t σ H Q)(mono:True):∀σ H Q,pX X.K B (mT m) σ H Q->(fun σ H (Q:Bool->Hp->Prop)=>t σ H fun x H'=>∃k,x=.bl k/\Q k H') σ H Q:=by
 rintro σ H Q ⟨G,env,b,env',rl,e,k⟩;unfold mT at e;cases em:m env with
 |none=>rw[em]at e;cases e
 |some p=>
  obtain⟨d,a9⟩:=p;rw[em]at e;simp only[Qj]at e;cases d<;>first|(exact absurd (show(none:Option (Bool×b0))=some (b,env')from e) (by simp))|skip
  cases e;refine i σ H _ (.bind rl em fun v G' H' ev r=>?_)
  simp only[c4]at r;exact⟨_,r,k G' H' ev⟩
theorem P5(h:ED X B e ma)(he:∀whole,isTrue e X.env whole=(do let v←whole;standAt e.pos;holding [v] (truthy v)):=by intro _;rfl):ET X B e (mT ma):=
 pL (Sg h he) (HL (fun _ _ _ q=>q) trivial)
theorem K0{f:D->D->Option D}(ho:k8 X (compareOp op) r)(o:nL X B r f)(ha:ED X B a ma)(hb:ED X B b mb)(hm:behindInMarks op b=false):ET X B (.Compare a [op] [b] pos) (mT (B5 f ma mb)):=
 pL (UM ho ha hb hm) (HL (FG o) trivial)
def G9(t:Mo Bool):Mo Bool:=fun env=>(t env).map fun p=>(!p.1,p.2)
theorem P7(h:ET X B a ta):ET X B (.UnaryOp .Not a pos) (G9 ta):=by
 refine pL (Sm h) ?_
 rintro σ H Q ⟨G,env,b,env',rl,e,k⟩;unfold G9 at e;cases em:ta env with
 |none=>rw[em]at e;cases e
 |some p=>rw[em]at e;cases e;exact⟨G,env,_,_,rl,em,k⟩
def Ci(t u:Mo Bool):Mo Bool:=fun env=>(t env).bind fun p=>if p.1 then u p.2 else some (false,p.2)
def J9(t u:Mo Bool):Mo Bool:=fun env=>(t env).bind fun p=>if p.1 then some (true,p.2)else u p.2
theorem WD:∀σ H Q,pX X.K B (Ci ta tb) σ H Q->LY (pX X.K B ta) (pX X.K B tb) σ H Q:=by
 rintro σ H Q ⟨G,env,b,env',rl,e,k⟩;unfold Ci at e;cases em:ta env with
 |none=>rw[em]at e;cases e
 |some p=>
  obtain⟨b1,a9⟩:=p;rw[em]at e;simp only[Qj]at e;refine⟨G,env,b1,a9,rl,em,fun G1 H1 ev=>?_⟩
  cases b1 with
  |true=>
   simp only[Zn]at e ⊢;exact⟨G1,a9,b,env',ev.rel,e,fun G2 H2 f6=>k G2 H2 (ev.trans f6)⟩
  |false=>
   simp only[Zx,Yu]at e ⊢;cases e;exact k G1 H1 ev
theorem WE:∀σ H Q,pX X.K B (J9 ta tb) σ H Q->xQ (pX X.K B ta) (pX X.K B tb) σ H Q:=by
 rintro σ H Q ⟨G,env,b,env',rl,e,k⟩;unfold J9 at e;cases em:ta env with
 |none=>rw[em]at e;cases e
 |some p=>
  obtain⟨b1,a9⟩:=p;rw[em]at e;simp only[Qj]at e;refine⟨G,env,b1,a9,rl,em,fun G1 H1 ev=>?_⟩
  cases b1 with
  |false=>
   simp only[Zx,Yu]at e ⊢;exact⟨G1,a9,b,env',ev.rel,e,fun G2 H2 f6=>k G2 H2 (ev.trans f6)⟩
  |true=>
   simp only[Zn]at e ⊢;cases e;exact k G1 H1 ev
abbrev EW(X:Cx)(B:OA)(e:Expr)(m:Mo Bool):Prop:=PW X e (pX X.K B m)
variable{rest:List Expr}
theorem FJ(h:ET X B a ta):EW X B (.BoolOp .And [a] pos) ta:=Si h
theorem Z8(h:ET X B a ta):EW X B (.BoolOp .Or [a] pos) ta:=Sj h
theorem FK(h:ET X B a ta)(h2:EW X B (.BoolOp .And (b::rest) pos) tb):EW X B (.BoolOp .And (a::b::rest) pos) (Ci ta tb):=pw_imp (Sk h h2) WD
theorem Y0(h:ET X B a ta)(h2:EW X B (.BoolOp .Or (b::rest) pos) tb):EW X B (.BoolOp .Or (a::b::rest) pos) (J9 ta tb):=pw_imp (Sl h h2) WE
theorem V1(h:EW X B e ta):ET X B e ta:=h.pt
def T8(m n:Mo D):Mo D:=fun env=>(m env).bind fun p=>match p.1 with
 |.bl true=>n p.2
 |.bl false=>some (.bl false,p.2)
 |_=>none
theorem BN{op}(h:ED X B a ma):ED X B (.BoolOp op [a] pos) ma:=Sq h
theorem BO(ha:ED X B a ma)(hb:ED X B (.BoolOp .And (b::rest) pos) mb):ED X B (.BoolOp .And (a::b::rest) pos) (T8 ma mb):=by
 refine d7 (Sr ha hb) ?_
 rintro σ H Q ⟨G,env,d,env',rl,e,k⟩;unfold T8 at e;cases em:ma env with
 |none=>rw[em]at e;cases e
 |some p=>
  obtain⟨d1,a9⟩:=p;rw[em]at e;simp only[Qj]at e;refine .bind rl em fun v G1 H1 ev r1=>?_
  split at e
  ·simp only[c4]at r1
   exact⟨true,r1,by simp only[Zn];exact .bind ev.rel e fun v2 G2 H2 f6 r2=>k v2 G2 H2 (ev.trans f6) r2⟩
  ·simp only[c4]at r1
   cases e;exact⟨false,r1,by simp only[Zx,Yu];exact k _ G1 H1 ev (by simp only[c4])⟩
  ·cases e
def AS(m:Mo D):Mo D:=fun env=>(m env).bind fun p=>match p.1 with
 |.bl b=>some (.bl (!b),p.2)
 |_=>none
theorem FL(ha:ED X B a ma):ED X B (.UnaryOp .Not a pos) (AS ma):=by
 refine d7 (Ss ha) ?_
 rintro σ H Q ⟨G,env,d,env',rl,e,k⟩;unfold AS at e;cases em:ma env with
 |none=>rw[em]at e;cases e
 |some p=>
  obtain⟨d1,a9⟩:=p;rw[em]at e;simp only[Qj]at e;refine .bind rl em fun v G1 H1 ev r1=>?_
  split at e
  ·rename_i b1
   simp only[c4]at r1;cases e;exact⟨b1,r1,k _ G1 H1 ev (by simp only[c4])⟩
  ·cases e
def M5(m:Mo D):Mo D:=fun env=>(m env).bind fun p=>match p.1 with
 |.int b=>some (.int (-b),p.2)
 |_=>none
theorem Z9(ha:ED X B a ma):ED X B (.UnaryOp .USub a pos) (M5 ma):=by
 refine d7 (Li Lj ha) ?_
 rintro σ H Q ⟨G,env,d,env',rl,e,k⟩;unfold M5 at e;cases em:ma env with
 |none=>rw[em]at e;cases e
 |some p=>
  obtain⟨d1,a9⟩:=p;rw[em]at e;simp only[Qj]at e;refine .bind rl em fun v G1 H1 ev r1=>?_
  split at e
  ·rename_i b1
   simp only[c4]at r1;cases e;exact⟨b1,r1,k _ G1 H1 ev (by simp only[c4])⟩
  ·cases e
def R7(f g:D->D->Option D)(ma mb mc:Mo D):Mo D:=fun env=>(ma env).bind fun p=>(mb p.2).bind fun q=>match f p.1 q.1 with
 |some (.bl true)=>(mc q.2).bind fun r=>(g q.1 r.1).map fun d=>(d,r.2)
 |some (.bl false)=>some (.bl false,q.2)
 |_=>none
theorem MR{f g:D->D->Option D}(o:nL X B r f)(o':nL X B r' g):∀σ H Q,TD X.K B (R7 f g ma mb mc) σ H Q->Gz r r' (TD X.K B ma) (TD X.K B mb) (TD X.K B mc) σ H Q:=by
 rintro σ H Q ⟨G,env,d,env',rl,e,k⟩;unfold R7 at e;cases ea:ma env with
 |none=>rw[ea]at e;cases e
 |some p=>
  obtain⟨d1,a9⟩:=p;rw[ea]at e;simp only[Qj]at e;cases eb:mb a9 with
  |none=>rw[eb]at e;cases e
  |some p=>
   obtain⟨d2,g0⟩:=p;rw[eb]at e;simp only[Qj]at e;refine .bind rl ea fun v1 G1 H1 j9 r1=>.bind j9.rel eb fun v2 G2 H2 f6 r2=>?_
   split at e
   ·rename_i ef
    refine o G2 σ _ H2 v1 v2 d1 d2 _ _ f6.rel (c4.mono f6.same _ r1) r2 ef fun v3 G3 H3 pM r3=>?_
    simp only[c4]at r3;refine⟨true,r3,?_⟩;simp only[Zn];cases ec:mc g0 with
    |none=>rw[ec]at e;cases e
    |some p=>
     obtain⟨d3,qA⟩:=p;rw[ec]at e;simp only[Qj]at e;cases eg:g d2 d3 with
     |none=>rw[eg]at e;cases e
     |some d4=>
      rw[eg]at e;cases e;refine .bind pM.rel ec fun v4 G4 H4 rZ r4=>?_
      exact o' G4 σ _ H4 v2 v4 d2 d3 _ Q rZ.rel (c4.mono rZ.same _ (c4.mono pM.same _ r2)) r4 eg fun v5 G5 H5 sL r5=>k v5 G5 H5 ((((j9.trans f6).trans pM).trans rZ).trans sL) r5
   ·rename_i ef
    cases e;refine o G2 σ _ H2 v1 v2 d1 d2 _ _ f6.rel (c4.mono f6.same _ r1) r2 ef fun v3 G3 H3 pM r3=>?_
    simp only[c4]at r3;refine⟨false,r3,?_⟩;simp only[Zx,Yu];exact k _ G3 H3 ((j9.trans f6).trans pM) (by simp only[c4])
   ·cases e
theorem HM{f g:D->D->Option D}(ho:k8 X (compareOp op) r)(ho':k8 X (compareOp op') r')(o:nL X B r f)(o':nL X B r' g)(ha:ED X B a ma)(hb:ED X B b mb)(hc:ED X B c mc)
  (hm:lastMarks [op,op'] [b,c]=false:=by with_unfolding_all rfl):ED X B (.Compare a [op,op'] [b,c] pos) (R7 f g ma mb mc):=d7 (UN ho ho' ha hb hc hm) (MR o o')
theorem HN{f g:D->D->Option D}(ho:k8 X (compareOp op) r)(ho':k8 X (compareOp op') r')(o:nL X B r f)(o':nL X B r' g)(ha:ED X B a ma)(hb:ED X B b mb)(hc:ED X B c mc)
  (hm:lastMarks [op,op'] [b,c]=false:=by with_unfolding_all rfl):ET X B (.Compare a [op,op'] [b,c] pos) (mT (R7 f g ma mb mc)):=pL (UO ho ho' ha hb hc hm) (HL (MR o o') trivial)
def B4:Mo (List D):=fun env=>some ([],env)
def B0(m:Mo D)(ms:Mo (List D)):Mo (List D):=fun env=>(m env).bind fun p=>(ms p.2).map fun q=>(p.1::q.1,q.2)
theorem B9:rB X B [] B4:=by
 refine oK Aj ?_
 rintro σ H Q ⟨G,env,d,env',rl,e,k⟩;cases e;exact k [] G H (.refl rl) f7
theorem B6(ha:ED X B e ma)(hr:rB X B es ms)(hs:starEach (e::es) X.env=(false,eval e X.env)::starEach es X.env:=by rfl):rB X B (e::es) (B0 ma ms):=by
 refine oK (R5 ha hr hs) ?_
 rintro σ H Q ⟨G,env,d,env',rl,e,k⟩;unfold B0 at e;cases ea:ma env with
 |none=>rw[ea]at e;cases e
 |some p=>
  obtain⟨d1,a9⟩:=p;rw[ea]at e;simp only[Qj]at e;cases eb:ms a9 with
  |none=>rw[eb]at e;cases e
  |some p=>
   obtain⟨d2,g0⟩:=p;rw[eb]at e;cases e;exact .bind rl ea fun v1 G1 H1 j9 r1=>⟨G1,a9,d2,_,j9.rel,eb,fun vs G2 H2 f6 r2=>k _ G2 H2 (j9.trans f6) (d8 (c4.mono f6.same _ r1) r2)⟩
def B8:Mo (List Ar):=fun env=>some ([],env)
def B7(m:Mo D)(ms:Mo (List Ar)):Mo (List Ar):=fun env=>(m env).bind fun p=>(ms p.2).map fun q=>(.d p.1::q.1,q.2)
def F7(i:Nat)(ms:Mo (List Ar)):Mo (List Ar):=fun env=>((env[i]?).bind W.mut).bind fun _=>(ms env).map fun q=>(.sl i::q.1,q.2)
theorem D2:sU X B [] B8:=by
 refine oK Aj ?_
 rintro σ H Q ⟨G,env,d,env',rl,e,k⟩;cases e;exact k [] G H (.refl rl) (by simp only[j8])
theorem C5(ha:ED X B e ma)(hr:sU X B es as)(hs:starEach (e::es) X.env=(false,eval e X.env)::starEach es X.env:=by rfl):sU X B (e::es) (B7 ma as):=by
 refine oK (R5 ha hr hs) ?_
 rintro σ H Q ⟨G,env,d,env',rl,e,k⟩;unfold B7 at e;cases ea:ma env with
 |none=>rw[ea]at e;cases e
 |some p=>
  obtain⟨d1,a9⟩:=p;rw[ea]at e;simp only[Qj]at e;cases eb:as a9 with
  |none=>rw[eb]at e;cases e
  |some p=>
   obtain⟨d2,g0⟩:=p;rw[eb]at e;cases e;exact .bind rl ea fun v1 G1 H1 j9 r1=>⟨G1,a9,d2,_,j9.rel,eb,fun vs G2 H2 f6 r2=>k _ G2 H2 (j9.trans f6) (by simp only[j8];exact⟨_,_,rfl,c4.mono f6.same _ r1,r2⟩)⟩
theorem N5{p:Pos}(ha:PE X (.Name x p) (V0 i))(hr:sU X B es as)(hs:starEach (.Name x p::es) X.env=(false,eval (.Name x p) X.env)::starEach es X.env:=by rfl):sU X B (.Name x p::es) (F7 i as):=by
 refine oK (R5 ha hr hs) ?_
 rintro σ H Q ⟨G,env,d,env',rl,e,k⟩;unfold F7 at e;cases ew:env[i]? with
 |none=>rw[ew]at e;cases e
 |some w=>
  rw[ew]at e;simp only[Qj]at e;cases em:w.mut with
  |none=>rw[em]at e;cases e
  |some ds=>
   rw[em]at e;simp only[Qj]at e;cases eb:as env with
   |none=>rw[eb]at e;cases e
   |some p=>
    obtain⟨d2,g0⟩:=p;rw[eb]at e;cases e;obtain⟨a',xs,hv,_⟩:=rl.own i w ds ew em;exact⟨_,hv,G,env,d2,_,rl,eb,fun vs G2 H2 f6 r2=>k _ G2 H2 f6 (by simp only[j8];exact⟨_,_,rfl,hv,r2⟩)⟩
end
section
variable{pos:Pos}{a:Expr}
theorem C6{o:Option α}{f:α->Option β}{y:β}(h:o.bind f=some y):∃x,o=some x/\f x=some y:=by
 cases o with
 |none=>cases h
 |some x=>exact⟨x,rfl,h⟩
theorem F5{o:Option α}{f:α->β}{y:β}(h:o.map f=some y):∃x,o=some x/\f x=y:=by
 cases o with
 |none=>cases h
 |some x=>exact⟨x,rfl,Yg h⟩
def D6(ms:Mo (List D)):Mo D:=fun env=>(ms env).bind fun p=>if p.1.length≤1000 then some (.tup p.1,p.2)else none
theorem F8{x1:Nat}(h:rB X B es ms):ED X B (.Tuple es x1 pos) (D6 ms):=by
 refine d7 (Lq h) ?_
 rintro σ H Q ⟨G,env,d,env',rl,e,k⟩;obtain⟨⟨ds,a9⟩,e1,e2⟩:=C6 e;dsimp only at e2;split at e2
 ·rename_i hl
  cases e2;refine⟨G,env,ds,_,rl,e1,fun vs G1 H1 ev r1=>⟨by rw[r1.length];exact Jl (Dk hl),fun p hp=>?_⟩⟩
  exact k _ _ _ (ev.trans (ev.rel.alloc hp)) (Bq J0 (C4.mono (Le.upd (ev.rel.gnone hp)) _ r1))
 ·cases e2
def F6(ms:Mo (List D)):Mo (List D):=fun env=>(ms env).bind fun p=>if p.1.length≤1000 then some p else none
theorem FM{K:Qz}(ev:Ev K B G σ env H G1 σ a9 H1)(hp:H1 p=none)(r:C4 K G1 xs ds)
  (k:∀a xs G' H',Ev K B G σ env H G' σ a9 H'->H a=none-> ¬ d6 σ a9 a->H' a=some (.lst xs)->G' a=none->C4 K G' xs ds->Q (.ref a) H'):Q (.ref p) (upd H1 p (.lst xs)):=by
 refine k p xs G1 _ (ev.trans (ev.rel.allocM hp)) ?_ (ev.rel.unowned hp) J0 (ev.rel.gnone hp) r;cases h:H p with
 |none=>rfl
 |some o=>exact absurd hp (ev.live p (by rw[h];simp))
theorem J7(h:rB X B es ms):EL X B (.List es pos) (F6 ms):=by
 refine d7 (US h) ?_
 rintro σ H Q ⟨G,env,d,env',rl,e,k⟩;obtain⟨⟨ds,a9⟩,e1,e2⟩:=C6 e;dsimp only at e2;split at e2
 ·rename_i hl
  cases e2;exact⟨G,env,_,_,rl,e1,fun vs G1 H1 ev r1=>⟨by rw[r1.length];exact Jl (Dk hl),fun p hp=>FM ev hp r1 k⟩⟩
 ·cases e2
def mF(m:Mo (List D)):Mo D:=fun env=>(m env).map fun p=>(.lst p.1,p.2)
theorem E4(h:EL X B e ms):ED X B e (mF ms):=by
 refine d7 h ?_
 rintro σ H Q ⟨G,env,d,env',rl,e,k⟩;obtain⟨⟨ds,a9⟩,e1,e2⟩:=F5 e;cases e2;exact⟨G,env,ds,_,rl,e1,fun a xs G' H' ev ha no h' g' r=>k (.ref a) _ H' (ev.frz ha no h' g') (MO J0 (C4.mono (Le.upd g') ds r))⟩
theorem HQ{K:Qz}{k:Int}(r:C4 K G xs ds)(h:p8 ds k=some d):∃x,p8 xs k=some x/\c4 K G x d:=by
 unfold p8 at h ⊢;rw[r.length];obtain⟨j,e1,e2⟩:=C6 h;rw[e1];exact r.get e2
def i8:D->D->Option D
 |.lst ds,.int k=>p8 ds k
 |.tup ds,.int k=>p8 ds k
 |_,_=>none
theorem WG:nL X B (xS X.K) i8:=by
 intro G σ env H x y a b d Q rl ra rb e k;cases a<;>cases b<;>first|(exact absurd (show(none:Option D)=some d from e) (by simp))|skip
 ·simp only[c4]at ra rb
  obtain⟨p,xs,e1,q,r⟩:=ra;subst e1 rb;obtain⟨v,e3,e4⟩:=HQ r e;exact .inr (.inl ⟨p,xs,_,v,rfl,rfl,rl.sub.sqT q,e3,k v G H (.refl rl) e4⟩)
 ·simp only[c4]at ra rb
  obtain⟨p,xs,e1,q,r⟩:=ra;subst e1 rb;obtain⟨v,e3,e4⟩:=HQ r e;exact .inl ⟨p,xs,_,v,rfl,rfl,rl.sub.sqL q,e3,k v G H (.refl rl) e4⟩
theorem M8(ha:ED X B a ma)(hb:ED X B b mb)(hs:Di b):ED X B (.Subscript a b pos) (B5 i8 ma mb):=d7 (MB VF ha hb hs) (FG WG)
def O4(i:Nat)(mb:Mo D):Mo D:=fun env=>(mb env).bind fun p=>((p.2[i]?).bind W.mutL).bind fun ds=>(i8 (.lst ds) p.1).map fun d=>(d,p.2)
theorem Al{p:Pos}(ha:PE X (.Name x p) (V0 i))(hb:ED X B b mb)(hs:Di b)(hr:∀env d env' w ds,mb env=some (d,env')->env'[i]? =some w->w.mut=some ds->∃w0 ds0,env[i]? =some w0/\w0.mut=some ds0):
  ED X B (.Subscript (.Name x p) b pos) (O4 i mb):=by
 refine d7 (MB MF ha hb hs) ?_
 rintro σ H Q ⟨G,env,d,env',rl,e,k⟩;obtain⟨⟨d1,a9⟩,e1,e2⟩:=C6 e;obtain⟨ds,e3,e4⟩:=C6 e2;obtain⟨w,e5,e6⟩:=C6 e3;obtain⟨d2,e7,e8⟩:=F5 e4;cases e8;obtain⟨w0,ds0,e9,e10⟩:=hr env d1 _ w (.l ds) e1 e5 (W.mutL_of e6);obtain⟨q,xs,h1,_⟩:=rl.own i w0 ds0 e9 e10;refine⟨_,h1,.bind rl e1 fun v G1 H1 ev r1=>?_⟩
 obtain⟨q',ys,h2,h3,h4,h5⟩:=ev.rel.ownL i w ds e5 e6;rw[h1]at h2;cases h2;dsimp only at e7;cases d1<;>first|(exact absurd (show(none:Option D)=some _ from e7) (by simp))|skip
 simp only[c4]at r1;obtain⟨z,h6,h7⟩:=HQ h4 e7;exact⟨q,ys,_,z,rfl,r1,.inl (.inl h3),h6,k z G1 H1 ev h7⟩
def AA(X:Cx)(B:OA)(r:List V->Hp->VK->Prop)(f:List D->Option D):Prop:=
 ∀(G:Hp) (σ:St) (env:b0) (H:Hp) (xs:List V) (ds:List D) (c:D) (Q:VK),Rel X.K B G σ env H->C4 X.K G xs ds->f ds=some c->
  (∀v G' H',Ev X.K B G σ env H G' σ env H'->c4 X.K G' v c->Q v H')->r xs H Q
def HR(X:Cx)(B:OA)(r:List V->Hp->VK->Prop)(f:List D->Option (List D)):Prop:=
 ∀(G:Hp) (σ:St) (env:b0) (H:Hp) (xs:List V) (ds:List D) (c:List D) (Q:VK),Rel X.K B G σ env H->C4 X.K G xs ds->f ds=some c->
  (∀p ys G' H',Ev X.K B G σ env H G' σ env H'->H' p=none->C4 X.K G' ys c->Q (.ref p) (upd H' p (.lst ys)))->r xs H Q
def d5(f:List D->Option D)(ms:Mo (List D)):Mo D:=fun env=>(ms env).bind fun p=>(f p.1).map fun d=>(d,p.2)
def uV(f:List D->Option (List D))(ms:Mo (List D)):Mo (List D):=fun env=>(ms env).bind fun p=>(f p.1).map fun d=>(d,p.2)
theorem MS{r:List V->Hp->VK->Prop}{f:List D->Option D}(o:AA X B r f):∀σ H Q,TD X.K B (d5 f ms) σ H Q->vO r (vQ X.K B ms) σ H Q:=by
 rintro σ H Q ⟨G,env,d,env',rl,e,k⟩;obtain⟨⟨ds,a9⟩,e1,e2⟩:=C6 e;obtain⟨d1,e3,e4⟩:=F5 e2;cases e4;exact⟨G,env,ds,_,rl,e1,fun vs G1 H1 ev r1=>o G1 σ _ H1 vs ds _ Q ev.rel r1 e3 fun v G2 H2 f6 r2=>k v G2 H2 (ev.trans f6) r2⟩
theorem WH{r:List V->Hp->VK->Prop}{f:List D->Option (List D)}(o:HR X B r f):∀σ H Q,TL X.K B (uV f ms) σ H Q->vO r (vQ X.K B ms) σ H Q:=by
 rintro σ H Q ⟨G,env,d,env',rl,e,k⟩;obtain⟨⟨ds,a9⟩,e1,e2⟩:=C6 e;obtain⟨d1,e3,e4⟩:=F5 e2;cases e4;exact⟨G,env,ds,_,rl,e1,fun vs G1 H1 ev r1=>o G1 σ _ H1 vs ds _ Q ev.rel r1 e3 fun p ys G2 H2 f6 hp r2=>FM (ev.trans f6) hp r2 k⟩
variable{r:List V->Hp->VK->Prop}{f:List D->Option D}{g:List D->Option (List D)}{id:String}{p:Pos}
theorem J1(hc:P4 X (.builtin id) r)(o:AA X B r f)(hg:Gl X x)(hm:X.mg x=none)(hv:bootBuiltins x=some (.builtin id))(ha:rB X B (e::es) ms)(hn:x≠"__name__":=by decide)(hdb:(x==("__debug__":Str))=false:=by decide)
  (he:starEach (e::es) X.env=(false,eval e X.env)::starEach es X.env:=by rfl)(hpl:(backTo pos (starEach es X.env)).any (·.1)=false:=by rfl):ED X B (.Call (.Name x p) (e::es) [] pos) (d5 f ms):=
 d7 (Dh hc hg hm hv ha hn hdb he hpl) (MS o)
theorem V2(hc:P4 X (.type T) r)(o:AA X B r f)(hg:Gl X x)(hm:X.mg x=none)(hv:bootBuiltins x=some (.type T))(ha:rB X B (e::es) ms)(hn:x≠"__name__":=by decide)(hdb:(x==("__debug__":Str))=false:=by decide)
  (he:starEach (e::es) X.env=(false,eval e X.env)::starEach es X.env:=by rfl)(hpl:(backTo pos (starEach es X.env)).any (·.1)=false:=by rfl):ED X B (.Call (.Name x p) (e::es) [] pos) (d5 f ms):=
 d7 (Ly hc hg hm hv ha hn hdb he hpl) (MS o)
theorem HS(hc:P4 X (.type T) r)(o:HR X B r g)(hg:Gl X x)(hm:X.mg x=none)(hv:bootBuiltins x=some (.type T))(ha:rB X B (e::es) ms)(hn:x≠"__name__":=by decide)(hdb:(x==("__debug__":Str))=false:=by decide)
  (he:starEach (e::es) X.env=(false,eval e X.env)::starEach es X.env:=by rfl)(hpl:(backTo pos (starEach es X.env)).any (·.1)=false:=by rfl):EL X B (.Call (.Name x p) (e::es) [] pos) (uV g ms):=
 d7 (Ly hc hg hm hv ha hn hdb he hpl) (WH o)
theorem V3{K:Qz}(h:C4 K G xs [d]):∃x,xs=[x]/\c4 K G x d:=by
 simp only[C4]at h;obtain⟨x,r,e,q,t⟩:=h;subst t;exact⟨x,e,q⟩
theorem Dp{K:Qz}{d':D}(h:C4 K G xs [d,d']):∃x y,xs=[x,y]/\c4 K G x d/\c4 K G y d':=by
 simp only[C4]at h;obtain⟨x,r,e,q,y,r2,e2,q2,t⟩:=h;subst t e2;exact⟨x,y,e,q,q2⟩
def D.items:D->Option (List D)
 |.lst ds=>some ds
 |.tup ds=>some ds
 |_=>none
theorem HU{K:Qz}(l:Le G H)(r:c4 K G v d)(h:d.items=some ds):∃a xs,v=.ref a/\(oD K H a xs\/nZ K H a xs)/\C4 K G xs ds:=by
 cases d<;>first|(exact absurd (show(none:Option (List D))=some ds from h) (by simp))|skip
 ·cases h;simp only[c4]at r;obtain⟨a,xs,e,q,t⟩:=r;exact⟨a,xs,e,.inr (l.sqT q),t⟩
 ·cases h;simp only[c4]at r;obtain⟨a,xs,e,q,t⟩:=r;exact⟨a,xs,e,.inl (l.sqL q),t⟩
def E6:List D->Option D
 |[d]=>d.items.map fun ds=>.int ds.length
 |_=>none
theorem WI:AA X B (fun xs H Q=>∃p ys,xs=[.ref p]/\(oD X.K H p ys\/nZ X.K H p ys)/\Q (.int ys.length) H) E6:=by
 intro G σ env H xs ds c Q rl r e k
 match ds,e with
 |[d],e=>
  obtain⟨x,rfl,q⟩:=V3 r;obtain⟨ds,e1,e2⟩:=F5 e;obtain⟨a,ys,rfl,h1,h2⟩:=HU rl.sub q e1;exact⟨a,ys,rfl,h1,k _ G H (.refl rl) (by rw[←e2,h2.length];simp only[c4])⟩
def P8:List D->Option D
 |[d]=>d.items.map fun ds=>.tup ds
 |_=>none
theorem WJ:AA X B (fun xs H Q=>∃p ys,xs=[.ref p]/\((oD X.K H p ys/\∀l,H l=none->Q (.ref l) (upd H l (.tup ys)))\/(nZ X.K H p ys/\Q (.ref p) H))) P8:=by
 intro G σ env H xs ds c Q rl r e k
 match ds,e with
 |[d],e=>
  obtain⟨x,rfl,q⟩:=V3 r;obtain⟨ds,e1,e2⟩:=F5 e;subst e2;cases d<;>first|(exact absurd (show(none:Option (List D))=some ds from e1) (by simp))|skip
  ·cases e1
   have q0:=q
   simp only[c4]at q;obtain⟨a,ys,rfl,h1,h2⟩:=q;exact⟨a,ys,rfl,.inr ⟨rl.sub.sqT h1,k _ G H (.refl rl) q0⟩⟩
  ·cases e1
   simp only[c4]at q;obtain⟨a,ys,rfl,h1,h2⟩:=q;exact⟨a,ys,rfl,.inl ⟨rl.sub.sqL h1,fun l hl=>k _ _ _ (rl.alloc hl) (Bq J0 (C4.mono (Le.upd (rl.gnone hl)) _ h2))⟩⟩
def Dq:List D->Option (List D)
 |[d]=>d.items
 |_=>none
theorem WK:HR X B (fun xs H Q=>∃p ys,xs=[.ref p]/\(oD X.K H p ys\/nZ X.K H p ys)/\∀l,H l=none->Q (.ref l) (upd H l (.lst ys))) Dq:=by
 intro G σ env H xs ds c Q rl r e k
 match ds,e with
 |[d],e=>
  obtain⟨x,rfl,q⟩:=V3 r;obtain⟨a,ys,rfl,h1,h2⟩:=HU rl.sub q e;exact⟨a,ys,rfl,h1,fun l hl=>k l ys G H (.refl rl) hl h2⟩
end
section
variable{K:Qz}
theorem M6{l:List α}{a b:α}(h:(l.set i a)[j]? =some b):(j=i/\b=a)\/(j≠i/\l[j]? =some b):=by
 by_cases hj:j=i
 ·subst hj
  have hl:j<l.length:=by
   have:=(Qp.mp h).1;rwa [Zi]at this
  rw[Zo hl]at h;cases h;exact .inl ⟨rfl,rfl⟩
 ·rw[Qc (Zm hj)]at h
  exact .inr ⟨hj,h⟩
theorem Cj{l:List α}{m:List β}{a b:α}{c:β}(h:(l.set i a)[i]? =some b)(hl:l.length=m.length):(m.set i c)[i]? =some c:=by
 have:=(Qp.mp h).1;rw[Zi]at this;exact Zo (by omega)
theorem Ev.setDat(ev:Ev K B G σ env H G1 σ1 a9 H1)(r:c4 K G1 v d):Ev K B G σ env H G1 (σ1.set i (some v)) (a9.set i (.dat d)) H1:=by
 have rl:=ev.rel
 have ne:∀(j:Nat) (w:W) (es:Mu),(a9.set i (.dat d))[j]? =some w->w.mut=some es->j≠i/\a9[j]? =some w:=fun j w es q1 q2=>by
  rcases M6 q1 with⟨_,z⟩|z
  ·rw[z]at q2;cases q2
  ·exact z
 refine⟨⟨rl.sub,by rw[Zi,Zi];exact rl.len,fun j d' q=>?_,fun j w es q1 q2=>?_,fun j k w w' es fs b q1 q2 q3 q4 q5 q6=>?_,fun j w b q1 qo q2=>?_,rl.old,rl.tabs,rl.gnt⟩,ev.same,ev.keep,ev.live,ev.stay,fun b z=>?_,fun j w q qp=>?_,by rw[Zi];exact ev.slen⟩
 ·rcases M6 q with⟨z1,z2⟩|⟨z1,z2⟩
  ·subst z1;cases z2
   exact⟨v,Cj q rl.len,r⟩
  ·obtain⟨x,q1,q2⟩:=rl.dat j d' z2
   exact⟨x,by rw[Qc (Zm z1)];exact q1,q2⟩
 ·obtain⟨hj,q⟩:=ne j w es q1 q2
  obtain⟨p,ys,e3,e4⟩:=rl.own j w es q q2;exact⟨p,ys,by rw[Qc (Zm hj)];exact e3,e4⟩
 ·obtain⟨h1,h2⟩:=ne j w es q1 q2
  obtain⟨h3,h4⟩:=ne k w' fs q3 q4;rw[Qc (Zm h1)]at q5;rw[Qc (Zm h3)]at q6;exact rl.inj j k w w' es fs b h2 q2 h4 q4 q5 q6
 ·obtain⟨es,hm⟩:=pG qo
  obtain⟨h1,h2⟩:=ne j _ es q1 hm;rw[Qc (Zm h1)]at q2;exact rl.fresh j w b h2 qo q2
 ·obtain⟨j,w,es,q1,q2,q3⟩:=z
  obtain⟨h1,h2⟩:=ne j w es q1 q2;rw[Qc (Zm h1)]at q3;exact ev.sub b ⟨j,w,es,h2,q2,q3⟩
 ·obtain⟨es,hm⟩:=oP qp
  obtain⟨h1,h2⟩:=ne j _ es q hm;obtain⟨h3,h4⟩:=ev.par j w h2 qp;exact⟨by rw[Qc (Zm h1)];exact h3,h4⟩
theorem Ev.setOwnM{wn:W}(ev:Ev K B G σ env H G1 σ1 a9 H1)(nb:¬ B a)(ha:H a=none)(no:¬ d6 σ1 a9 a)(h1:H1 a=some o)(g1:G1 a=none)(r:pC K G1 o m)(wm:wn.mut=some m)(wo:wn.isPar=false):
  Ev K B G σ env H G1 (σ1.set i (some (.ref a))) (a9.set i wn) H1:=by
 have rl:=ev.rel
 refine⟨⟨rl.sub,by rw[Zi,Zi];exact rl.len,fun j d' q=>?_,fun j w es q1 q2=>?_,fun j k w w' es fs b q1 q2 q3 q4 q5 q6=>?_,fun j w b q1 qo q2=>?_,rl.old,rl.tabs,rl.gnt⟩,ev.same,ev.keep,ev.live,ev.stay,fun b z=>?_,fun j w q qp=>?_,by rw[Zi];exact ev.slen⟩
 ·rcases M6 q with⟨z1,z2⟩|⟨z1,z2⟩
  ·rw[←z2]at wm;cases wm
  ·obtain⟨x,q1,q2⟩:=rl.dat j d' z2
   exact⟨x,by rw[Qc (Zm z1)];exact q1,q2⟩
 ·rcases M6 q1 with⟨z1,z2⟩|⟨z1,z2⟩
  ·subst z1 z2;rw[wm]at q2;cases q2
   exact⟨a,o,Cj q1 rl.len,h1,r,g1⟩
  ·obtain⟨p,ys,e3,e4⟩:=rl.own j w es z2 q2
   exact⟨p,ys,by rw[Qc (Zm z1)];exact e3,e4⟩
 ·rcases M6 q1 with⟨z1,z2⟩|⟨z1,z2⟩
  ·rcases M6 q3 with⟨y1,y2⟩|⟨y1,y2⟩
   ·rw[z1,y1]
   ·subst z1
    rw[Cj q1 rl.len]at q5;cases q5;rw[Qc (Zm y1)]at q6;exact absurd ⟨k,w',fs,y2,q4,q6⟩ no
  ·rw[Qc (Zm z1)]at q5
   rcases M6 q3 with⟨y1,y2⟩|⟨y1,y2⟩
   ·subst y1
    rw[Cj q3 rl.len]at q6;cases q6;exact absurd ⟨j,w,es,z2,q2,q5⟩ no
   ·rw[Qc (Zm y1)]at q6
    exact rl.inj j k w w' es fs b z2 q2 y2 q4 q5 q6
 ·rcases M6 q1 with⟨z1,z2⟩|⟨z1,z2⟩
  ·subst z1
   rw[Cj q1 rl.len]at q2;cases q2;exact nb
  ·rw[Qc (Zm z1)]at q2
   exact rl.fresh j w b z2 qo q2
 ·obtain⟨j,w,es,q1,q2,q3⟩:=z
  rcases M6 q1 with⟨z1,z2⟩|⟨z1,z2⟩
  ·subst z1
   rw[Cj q1 rl.len]at q3;cases q3;exact .inr ha
  ·rw[Qc (Zm z1)]at q3
   exact ev.sub b ⟨j,w,es,z2,q2,q3⟩
 ·rcases M6 q with⟨z1,z2⟩|⟨z1,z2⟩
  ·rw[z2,wo]at qp;cases qp
  ·obtain⟨h3,h4⟩:=ev.par j w z2 qp
   exact⟨by rw[Qc (Zm z1)];exact h3,h4⟩
theorem Ev.setOwn(ev:Ev K B G σ env H G1 σ1 a9 H1)(nb:¬ B a)(ha:H a=none)(no:¬ d6 σ1 a9 a)(h1:H1 a=some (.lst xs))(g1:G1 a=none)(r:C4 K G1 xs ds):
  Ev K B G σ env H G1 (σ1.set i (some (.ref a))) (a9.set i (.own ds)) H1:=ev.setOwnM (m:=.l ds) nb ha no h1 g1 ⟨xs,rfl,r⟩ rfl rfl
theorem Ev.setNil(ev:Ev K B G σ env H G1 σ1 a9 H1):Ev K B G σ env H G1 σ1 (a9.set i .nil) H1:=by
 have rl:=ev.rel
 have ne:∀(j:Nat) (w:W),(a9.set i .nil)[j]? =some w->w≠.nil->j≠i/\a9[j]? =some w:=fun j w q1 q2=>by
  rcases M6 q1 with⟨_,z⟩|z
  ·exact absurd z q2
  ·exact z
 have nm:∀(w:W) (es:Mu),w.mut=some es->w≠.nil:=fun w es h z=>by rw[z]at h;cases h
 refine⟨⟨rl.sub,by rw[Zi];exact rl.len,fun j d' q=>rl.dat j d' (ne j _ q (by simp)).2,fun j w es q1 q2=>rl.own j w es (ne j w q1 (nm w es q2)).2 q2,fun j k w w' es fs b q1 q2 q3 q4 q5 q6=>rl.inj j k w w' es fs b (ne j w q1 (nm _ _ q2)).2 q2 (ne k w' q3 (nm _ _ q4)).2 q4 q5 q6,
  fun j w b q1 qo q2=>rl.fresh j w b (ne j _ q1 (by rintro rfl;cases qo)).2 qo q2,rl.old,rl.tabs,rl.gnt⟩,ev.same,ev.keep,ev.live,ev.stay,fun b z=>?_,fun j w q qp=>ev.par j w (ne j _ q (by rintro rfl;cases qp)).2 qp,ev.slen⟩
 obtain⟨j,w,es,q1,q2,q3⟩:=z;exact ev.sub b ⟨j,w,es,(ne j w q1 (nm _ _ q2)).2,q2,q3⟩
theorem Ev.writeM{o':HO}{m':Mu}(ev:Ev K B G σ env H G1 σ1 a9 H1)(e1:a9[i]? =some w)(e2:w.mut=some m)(e3:σ1[i]? =some (some (.ref a)))(r:pC K G1 o' m'):
  Ev K B G σ env H G1 σ1 (a9.set i (w.putM m')) (upd H1 a o'):=by
 have rl:=ev.rel
 obtain⟨a',o0,h1,h2,h3,h4⟩:=rl.own i w m e1 e2;rw[e3]at h1;cases h1;have ow:d6 σ1 a9 a:=⟨i,w,m,e1,e2,e3⟩;have wp:(w.putM m').mut=some m':=W.putM_mut e2 m';have nd:∀d,w.putM m'≠.dat d:=fun d z=>by rw[z]at wp;cases wp
 have oo:d6 σ env a\/H a=none:=ev.sub a ow
 refine⟨⟨fun b u e=>?_,by rw[Zi];exact rl.len,fun j d' q=>?_,fun j v es q1 q2=>?_,fun j k v v' es fs b q1 q2 q3 q4 q5 q6=>?_,fun j v b q1 qo q2=>?_,fun b hb=>?_,rl.tabs.upd r.nt (fun φ z=>by rw[h2]at z;cases z;exact h3.ne φ rfl),rl.gnt⟩,ev.same,fun b o n t e=>?_,fun b e=>?_,ev.stay,fun b z=>?_,fun j v q qp=>?_,ev.slen⟩
 ·have hb:b≠a:=fun z=>by rw[z,h4]at e;cases e
  rw[D7 hb];exact rl.sub b u e
 ·rcases M6 q with⟨z1,z2⟩|⟨z1,z2⟩
  ·exact absurd z2.symm (nd d')
  ·exact rl.dat j d' z2
 ·rcases M6 q1 with⟨z1,z2⟩|⟨z1,z2⟩
  ·subst z1 z2
   rw[wp]at q2;cases q2;exact⟨a,o',e3,J0,r,h4⟩
  ·obtain⟨p,ys,f1,f2,f3,f4⟩:=rl.own j v es z2 q2
   have hp:p≠a:=fun z=>z1 (rl.inj j i v w es m a z2 q2 e1 e2 (by rw[f1,z]) e3)
   exact⟨p,ys,f1,by rw[D7 hp];exact f2,f3,f4⟩
 ·have g:∀(n:Nat) (v:W) (es:Mu),(a9.set i (w.putM m'))[n]? =some v->v.mut=some es->∃v0 es0,a9[n]? =some v0/\v0.mut=some es0:=fun n v es y1 y2=>by
   rcases M6 y1 with⟨z1,z2⟩|⟨z1,z2⟩
   ·rw[z1];exact⟨w,m,e1,e2⟩
   ·exact⟨v,es,z2,y2⟩
  obtain⟨v0,es0,y1,y2⟩:=g j v es q1 q2;obtain⟨v1,es1,y3,y4⟩:=g k v' fs q3 q4;exact rl.inj j k v0 v1 es0 es1 b y1 y2 y3 y4 q5 q6
 ·rcases M6 q1 with⟨z1,z2⟩|⟨z1,z2⟩
  ·subst z1
   exact rl.fresh j w b e1 (by rw[z2,W.putM_own e2]at qo;exact qo) q2
  ·exact rl.fresh j v b z2 qo q2
 ·by_cases h:b=a
  ·subst h;rw[J0];simp
  ·rw[D7 h];exact rl.old b hb
 ·have hb:b≠a:=fun z=>by
   rcases oo with q|q
   ·exact n (z ▸ q)
   ·rw[z,q]at e;cases e
  rw[D7 hb];exact ev.keep b o n t e
 ·by_cases h:b=a
  ·subst h;rw[J0];simp
  ·rw[D7 h];exact ev.live b e
 ·obtain⟨j,v,es,q1,q2,q3⟩:=z
  rcases M6 q1 with⟨z1,z2⟩|⟨z1,z2⟩
  ·rw[z1,e3]at q3;cases q3
   exact oo
  ·exact ev.sub b ⟨j,v,es,z2,q2,q3⟩
 ·rcases M6 q with⟨z1,z2⟩|⟨z1,z2⟩
  ·subst z1
   exact ev.par j w e1 (by rw[z2,W.putM_par e2]at qp;exact qp)
  ·exact ev.par j v z2 qp
theorem Ev.write{xs':List V}{ds':List D}(ev:Ev K B G σ env H G1 σ1 a9 H1)(e1:a9[i]? =some w)(e2:w.mutL=some ds)(e3:σ1[i]? =some (some (.ref a)))(r:C4 K G1 xs' ds'):
  Ev K B G σ env H G1 σ1 (a9.set i (w.put ds')) (upd H1 a (.lst xs')):=by
 rw[W.put_eq e2];exact ev.writeM e1 (W.mutL_of e2) e3 ⟨xs',rfl,r⟩
end
section
variable{pos:Pos}{a:Expr}{st:Stmt}{rest:List Stmt}{s1 s2:Mo Fl}
def nD:Mo Fl:=fun env=>some (.nx,env)
def C3(m n:Mo Fl):Mo Fl:=fun env=>(m env).bind fun p=>match p.1 with
 |.nx=>n p.2
 |fl=>some (fl,p.2)
theorem L5:sK X B [] nD:=by
 refine p9 Sy ?_
 rintro D σ H ⟨G,env,fl,env',rl,e,k⟩;cases e;exact k σ G H (.refl rl)
theorem C8(h1:ES X B st s1)(h2:sK X B rest s2):sK X B (st::rest) (C3 s1 s2):=by
 refine p9 (Ca h1 h2) ?_
 rintro D σ H ⟨G,env,fl,env',rl,e,k⟩;obtain⟨⟨xX,a9⟩,e1,e2⟩:=C6 e;dsimp only at e2;cases xX with
 |nx=>
  dsimp only at e2;exact⟨G,env,.nx,a9,rl,e1,fun σ1 G1 H1 ev=>⟨G1,a9,fl,env',ev.rel,e2,Post.after _ _ k ev⟩⟩
 |bk=>cases e2;exact⟨G,env,.bk,_,rl,e1,k⟩
 |ct=>cases e2;exact⟨G,env,.ct,_,rl,e1,k⟩
 |ret d=>cases e2;exact⟨G,env,.ret d,_,rl,e1,k⟩
 |retL d=>cases e2;exact⟨G,env,.retL d,_,rl,e1,k⟩
theorem D1(h1:ES X B st s1):sK X B [st] s1:=LZ h1
def G0(t:Mo Bool)(m n:Mo Fl):Mo Fl:=fun env=>(t env).bind fun p=>if p.1 then m p.2 else n p.2
theorem L6{s t:List Stmt}{tc:Mo Bool}(hc:ET X B c tc)(h1:sK X B s s1)(h2:sK X B t s2):ES X B (.If c s t pos) (G0 tc s1 s2):=by
 refine j2 (Lb hc h1 h2) ?_
 rintro D σ H ⟨G,env,fl,env',rl,e,k⟩;obtain⟨⟨b1,a9⟩,e1,e2⟩:=C6 e;dsimp only at e2;refine⟨G,env,b1,a9,rl,e1,fun G1 H1 ev=>?_⟩
 cases b1 with
 |true=>simp only[Zn]at e2 ⊢;exact⟨G1,a9,fl,env',ev.rel,e2,Post.after _ _ k ev⟩
 |false=>simp only[Zx,Yu]at e2 ⊢;exact⟨G1,a9,fl,env',ev.rel,e2,Post.after _ _ k ev⟩
def HV:Mo Fl:=fun _=>none
theorem HW:ES X B st HV:=by
 refine j2 TH ?_
 rintro D σ H ⟨G,env,fl,env',rl,e,k⟩;cases e
def E1(m:Mo D):Mo Fl:=fun env=>(m env).map fun p=>(.ret p.1,p.2)
theorem F9(h:ED X B e ma):ES X B (.Return (some e) pos) (E1 ma):=by
 refine j2 (La h) ?_
 rintro D σ H ⟨G,env,fl,env',rl,e,k⟩;obtain⟨⟨d,a9⟩,e1,e2⟩:=F5 e;cases e2;exact⟨G,env,d,_,rl,e1,fun v G' H' ev r=>k v σ G' H' ev r⟩
def Am(m:Mo (List D)):Mo Fl:=fun env=>(m env).map fun p=>(.retL p.1,p.2)
theorem Ck(h:EL X B e ms):ES X B (.Return (some e) pos) (Am ms):=by
 refine j2 (La h) ?_
 rintro D σ H ⟨G,env,fl,env',rl,e,k⟩;obtain⟨⟨d,a9⟩,e1,e2⟩:=F5 e;cases e2;exact⟨G,env,d,_,rl,e1,fun a xs G' H' ev ha no h' g' r=>k a xs σ G' H' ev (fun z=>rl.old a z ha) no h' g' r⟩
def mS(i:Nat):Mo Fl:=fun env=>match env[i]? with
 |some (.own ds)=>some (.retL ds,env.set i .nil)
 |_=>none
def C9(i:Nat)(m:Mo D):Mo Fl:=fun env=>(m env).map fun p=>(.nx,p.2.set i (.dat p.1))
def O2(i:Nat)(m:Mo (List D)):Mo Fl:=fun env=>(m env).map fun p=>(.nx,p.2.set i (.own p.1))
section
variable{pos':Pos}
theorem G7(hN:X.N.Nodup)(hi:X.N[i]? =some x)(hx:Loc X.env.scope x)(he:ED X B e ma)(hs:swapsWith e (some (.Name x pos')) pos.line X.env=pure false:=by rfl)(hf:X.fn x=true\/X.env.scope.names.lookup x=some .local:=by first|exact .inl rfl|exact .inr rfl|assumption):
  ES X B (.Assign [.Name x pos'] e pos) (C9 i ma):=by
 refine j2 (De hN hi hx he hs hf) ?_
 rintro D σ H ⟨G,env,fl,env',rl,e,k⟩;obtain⟨⟨d,a9⟩,e1,e2⟩:=F5 e;cases e2;exact⟨G,env,d,_,rl,e1,fun v G' H' ev r=>k _ G' H' (ev.setDat r)⟩
theorem Ao(hN:X.N.Nodup)(hi:X.N[i]? =some x)(hx:Loc X.env.scope x)(he:EL X B e ms)(hs:swapsWith e (some (.Name x pos')) pos.line X.env=pure false:=by rfl)(hf:X.fn x=true\/X.env.scope.names.lookup x=some .local:=by first|exact .inl rfl|exact .inr rfl|assumption):
  ES X B (.Assign [.Name x pos'] e pos) (O2 i ms):=by
 refine j2 (De hN hi hx he hs hf) ?_
 rintro D σ H ⟨G,env,fl,env',rl,e,k⟩;obtain⟨⟨d,a9⟩,e1,e2⟩:=F5 e;cases e2;exact⟨G,env,d,_,rl,e1,fun a xs G' H' ev ha no h' g' r=>k _ G' H' (ev.setOwn (fun z=>rl.old a z ha) ha no h' g' r)⟩
def O5(i:Nat)(f:D->D->Option D)(m:Mo D):Mo Fl:=fun env=>match env[i]? with
 |some (.dat d0)=>(m env).bind fun p=>(f d0 p.1).map fun d=>(.nx,p.2.set i (.dat d))
 |_=>none
theorem Ap{op:Operator}{f:D->D->Option D}(hN:X.N.Nodup)(hi:X.N[i]? =some x)(hx:Loc X.env.scope x)(he:ED X B e ma)(ho:k8 X (inplaceOp op) r)(o:nL X B r f)
  (hf:X.fn x=true\/X.env.scope.names.lookup x=some .local:=by first|exact .inl rfl|exact .inr rfl|assumption):ES X B (.AugAssign (.Name x pos') op e pos) (O5 i f ma):=by
 refine j2 (Tc hN hi hx he (ti:=r) (fun pins s σ H x y v u Q I rx ry q=>ho pins s σ H x y v u Q I rx ry q) hf) ?_
 rintro D σ H ⟨G,env,fl,env',rl,e,k⟩;unfold O5 at e;split at e
 ·rename_i d0 e0
  obtain⟨⟨d,a9⟩,e1,e2⟩:=C6 e;obtain⟨d2,e3,e4⟩:=F5 e2;cases e4;obtain⟨v0,h0,r0⟩:=rl.dat i d0 e0;exact⟨v0,h0,.bind rl e1 fun v G' H' ev r1=>o G' σ _ H' v0 v d0 d _ _ ev.rel (c4.mono ev.same _ r0) r1 e3 fun v2 G2 H2 f6 r2=>k _ G2 H2 ((ev.trans f6).setDat r2)⟩
 ·cases e
end
def AU(i:Nat)(m:Mo D):Mo Fl:=fun env=>((env[i]?).bind W.mutL).bind fun _=>(m env).bind fun p=>(p.2[i]?).bind fun w=>w.mutL.bind fun ds=>if ds.length<100000 then some (.nx,p.2.set i (w.put (ds++[p.1])))else none
theorem Bs{p apos cpos:Pos}(ho:PE X (.Name x p) (V0 i))(ha:rB X B [e] (B0 ma B4))
  (hbase:attributeBase (.Name x p) "append" X.env (eval (.Name x p) X.env)=eval (.Name x p) X.env:=by rfl)
  (hfew:((backTo cpos (starEach [e] X.env)).all (fun x=>!x.1)&&(backToKw cpos (keywordEach [] X.env)).all (fun x=>x.1.isSome)
   &&decide ([e].length+([]:List Keyword).length+(if([]:List Keyword).isEmpty then 0 else 1)<30))=true:=by rfl)
  (hline:(apos.endLine==cpos.line)=true:=by rfl)(hs:starEach [e] X.env=(false,eval e X.env)::starEach [] X.env:=by rfl)(hplain:(backTo cpos (starEach [] X.env)).any (·.1)=false:=by rfl)
  (hsw:swapsWith (.Call (.Attribute (.Name x p) "append" apos) [e] [] cpos) none pos.line X.env=pure false:=by rfl):
  ES X B (.Expr (.Call (.Attribute (.Name x p) "append" apos) [e] [] cpos) pos) (AU i ma):=by
 refine j2 (Gp (MH PySem.F.plainAttrs_list PySem.F.slot_list_append PySem.F.type_list_append MJ ho ha hbase hfew hline hs hplain) hsw) ?_
 rintro D σ H ⟨G,env,fl,env',rl,e,k⟩;obtain⟨ds0,e0,e⟩:=C6 e;obtain⟨w0,e00,em0⟩:=C6 e0;obtain⟨⟨d,a9⟩,e1,e2⟩:=C6 e;obtain⟨w,e3,e4⟩:=C6 e2;obtain⟨ds,e5,e6⟩:=C6 e4;dsimp only at e3 e6;split at e6
 ·rename_i hl
  cases e6;obtain⟨q,xs0,h1,h2,h3,h4⟩:=rl.ownL i w0 ds0 e00 em0;refine⟨_,h1,.inl ⟨rfl,xs0,.inl (.inl h2)⟩,G,env,[d],a9,rl,by show(ma env).bind _=_;rw[e1];rfl,fun vs G1 H1 ev r1=>?_⟩
  obtain⟨v,rfl,rv⟩:=V3 r1;obtain⟨q',xs,g1,g2,g3,g4⟩:=ev.rel.ownL i w ds e3 e5;rw[h1]at g1;cases g1;have hz:xs.length<sizeLine:=by rw[g3.length];exact Uv hl (by decide)
  exact⟨q,xs,v,rfl,rfl,g2,hz,k _ G1 _ (ev.write e3 e5 h1 (g3.append (d8 rv f7)))⟩
 ·cases e6
end
section
variable(K:Qz)(B:OA)
def vS(n:Nat)(g:OZ):TG:=fun v σ H Q=>∃G env d env',Rel K B G σ env H/\c4 K G v d/\g d env=some env'/\∀σ' G' H',Ev K B G σ env H G' σ' env' H'->(∀j,j<n->σ'[j]? =σ[j]?)->Q σ' H'
def WL(n:Nat)(g:List D->b0->Option b0):tE:=fun vs σ H Q=>∃G env ds env',Rel K B G σ env H/\C4 K G vs ds/\g ds env=some env'/\∀σ' G' H',Ev K B G σ env H G' σ' env' H'->(∀j,j<n->σ'[j]? =σ[j]?)->Q σ' H'
end
abbrev EG(X:Cx)(B:OA)(n:Nat)(e:Expr)(g:OZ):Prop:=PG X e (vS X.K B n g)
abbrev vT(X:Cx)(B:OA)(n:Nat)(es:List Expr)(g:List D->b0->Option b0):Prop:=tL X es (WL X.K B n g)
theorem FN{t t':TG}(h:PG X e t)(i:∀v σ H Q,t' v σ H Q->t v σ H Q):PG X e t':=fun pins s σ H v u Q I r q=>h pins s σ H v u Q I r (i v σ H Q q)
theorem MT{e:List Expr}{t t':tE}(h:tL X e t)(i:∀v σ H Q,t' v σ H Q->t v σ H Q):tL X e t':=fun pins s σ H v u Q I r q=>h pins s σ H v u Q I r (i v σ H Q q)
def gN(i:Nat):OZ:=fun d env=>some (env.set i (.dat d))
def oY:List D->b0->Option b0:=fun ds env=>match ds with
 |[]=>some env
 |_=>none
def l0(g:OZ)(gs:List D->b0->Option b0):List D->b0->Option b0:=fun ds env=>match ds with
 |d::ds=>(g d env).bind (gs ds)
 |[]=>none
def gT(n:Nat)(gs:List D->b0->Option b0):OZ:=fun d env=>match d with
 |.tup ds=>if ds.length=n then gs ds env else none
 |_=>none
section
variable{pos:Pos}{a:Expr}{g:OZ}{gs:List D->b0->Option b0}
theorem E7(hn:n≤i)(hN:X.N.Nodup)(hi:X.N[i]? =some x)(hx:Loc X.env.scope x)(hf:X.fn x=true\/X.env.scope.names.lookup x=some .local:=by first|exact .inl rfl|exact .inr rfl|assumption):EG X B n (.Name x pos) (gN i):=by
 refine FN (TJ hN hi hx hf) ?_
 rintro v σ H Q ⟨G,env,d,env',rl,r,e,k⟩;cases e;exact k _ G H ((Ev.refl rl).setDat r) fun j hj=>Qc (by omega)
theorem W7:vT X B n [] oY:=by
 refine MT TN ?_
 rintro vs σ H Q ⟨G,env,ds,env',rl,r,e,k⟩;unfold oY at e;split at e
 ·cases e
  simp only[C4]at r;exact⟨r,k _ G H (.refl rl) fun _ _=>rfl⟩
 ·cases e
theorem M9(h1:EG X B n e g)(h2:vT X B n es gs)(hs:(assignEach (e::es) X.env).map (·.2)=assign e X.env::(assignEach es X.env).map (·.2):=by rfl):vT X B n (e::es) (l0 g gs):=by
 refine MT (TQ h1 h2 hs) ?_
 rintro vs σ H Q ⟨G,env,ds,env',rl,r,e,k⟩;unfold l0 at e;split at e
 ·rename_i d ds
  obtain⟨a9,e1,e2⟩:=C6 e;simp only[C4]at r;obtain⟨x,xs,e3,r1,r2⟩:=r;exact⟨x,xs,e3,G,env,d,a9,rl,r1,e1,fun σ1 G1 H1 ev y1=>⟨G1,a9,ds,env',ev.rel,C4.mono ev.same _ r2,e2,fun σ2 G2 H2 f6 y2=>k σ2 G2 H2 (ev.trans f6) fun j hj=>(y2 j hj).trans (y1 j hj)⟩⟩
 ·cases e
theorem W8{nb k':Nat}(hc:X.calm=true)(h:vT X B nb es gs)(hn:(assignEach es X.env).length=n:=by rfl)(hst:(assignEach es X.env).findIdx? (·.1)=none:=by rfl):EG X B nb (.Tuple es k' pos) (gT n gs):=by
 refine FN (TU hc h hn hst) ?_
 rintro v σ H Q ⟨G,env,d,env',rl,r,e,k⟩;unfold gT at e;split at e
 ·rename_i ds
  split at e
  ·rename_i hl
   simp only[c4]at r;obtain⟨p,xs,e1,q,t⟩:=r;exact⟨p,xs,e1,rl.sub.sqT q,t.length.trans hl,G,env,ds,env',rl,t,e,k⟩
  ·cases e
 ·cases e
def gS(s:Nat)(mi:Mo D):OZ:=fun d env=>((env[s]?).bind W.mutL).bind fun _=>(mi env).bind fun p=>match p.1 with
 |.int k=>(p.2[s]?).bind fun w=>w.mutL.bind fun ds=>(tN ds.length k).map fun j=>p.2.set s (w.put (ds.set j d))
 |_=>none
theorem HX{s:Nat}{p:Pos}(ho:PE X (.Name x p) (V0 s))(hi:ED X B b mb)
  (ha:∀v,assign (.Subscript (.Name x p) b pos) X.env v=(do
   let ov←holding [v] (eval (.Name x p) X.env)
   let iv←holding [v,ov] (eval b X.env)
   standAt pos
   holding [v,ov,iv] (setItem ov iv v)
   release [v,ov,iv] []):=by intro _;rfl):EG X B n (.Subscript (.Name x p) b pos) (gS s mb):=by
 refine FN (Lf ho hi VI ha) ?_
 rintro v σ H Q ⟨G,env,d,env',rl,r,e,k⟩;obtain⟨ds0,e0,e⟩:=C6 e;obtain⟨w0,e00,em0⟩:=C6 e0;obtain⟨⟨d1,a9⟩,e1,e2⟩:=C6 e;dsimp only at e2;split at e2
 ·rename_i kk
  obtain⟨w,e3,e4⟩:=C6 e2;obtain⟨ds,e5,e6⟩:=C6 e4;obtain⟨j,e7,e8⟩:=F5 e6;cases e8;obtain⟨q,xs0,h1,h2,h3,h4⟩:=rl.ownL s w0 ds0 e00 em0;refine⟨_,h1,.bind rl e1 fun iv G1 H1 ev r1=>?_⟩
  simp only[c4]at r1;obtain⟨q',xs,g1,g2,g3,g4⟩:=ev.rel.ownL s w ds e3 e5;rw[h1]at g1;cases g1;exact⟨q,xs,kk,j,rfl,r1,g2,by rw[g3.length];exact e7,k _ G1 _ (ev.write e3 e5 h1 (g3.set j (c4.mono ev.same _ r))) fun _ _=>rfl⟩
 ·cases e2
def N7(m:Mo D)(g:OZ):Mo Fl:=fun env=>(m env).bind fun p=>(g p.1 p.2).map fun e=>(.nx,e)
theorem Bu(he:ED X B e ma)(hg:EG X B 0 tg g)(hs:swapsWithSole [tg] e pos.line X.env=pure false:=by rfl)(hw:swappedStores [tg] e X.env=pure none:=by rfl)
  (h1:(assignEach [tg] X.env).map (·.2)=[assign tg X.env]:=by rfl):ES X B (.Assign [tg] e pos) (N7 ma g):=by
 refine j2 (TY he hg hs hw h1) ?_
 rintro D σ H ⟨G,env,fl,env',rl,e,k⟩;obtain⟨⟨d1,a9⟩,e1,e2⟩:=C6 e;obtain⟨g0,e3,e4⟩:=F5 e2;cases e4;exact .bind rl e1 fun v G1 H1 ev r=>⟨G1,a9,d1,_,ev.rel,r,e3,fun σ2 G2 H2 f6 _=>k σ2 G2 H2 (ev.trans f6)⟩
def Cm(i j:Nat)(ms:Mo (List D)):Mo Fl:=fun env=>(ms env).bind fun p=>match p.1 with
 |[d,d']=>some (.nx,(p.2.set i (.dat d)).set j (.dat d'))
 |_=>none
theorem MU{px py pt pt2:Pos}{kt k2}(hc:X.calm=true)(hN:X.N.Nodup)(hi:X.N[i]? =some x)(hj:X.N[j]? =some y)(hij:i≠j)
  (hx:X.env.scope.names.lookup x=some .local)(hy:X.env.scope.names.lookup y=some .local)(ha:rB X B [a,b] ms)
  (hw:swappedStores [.Tuple [.Name x px,.Name y py] kt pt] (.Tuple [a,b] k2 pt2) X.env=pure (some [x,y]))
  (hs:swapsWithSole [.Tuple [.Name x px,.Name y py] kt pt] (.Tuple [a,b] k2 pt2) pos.line X.env=pure false:=by rfl):
  ES X B (.Assign [.Tuple [.Name x px,.Name y py] kt pt] (.Tuple [a,b] k2 pt2) pos) (Cm i j ms):=by
 refine j2 (Ta hc hN hi hj hij hx hy ha hw hs) ?_
 rintro D σ H ⟨G,env,fl,env',rl,e,k⟩;obtain⟨⟨ds,a9⟩,e1,e2⟩:=C6 e;dsimp only at e2;split at e2
 ·cases e2
  refine⟨G,env,_,a9,rl,e1,fun vs G1 H1 ev r=>?_⟩
  obtain⟨v,w,rfl,r1,r2⟩:=Dp r;exact⟨v,w,rfl,k _ G1 H1 ((ev.setDat r1).setDat r2)⟩
 ·cases e2
structure uW(K:Qz)(J:It)(G:Hp)(ds:List D):Prop where
 go:∀i H,Le G H->i<ds.length->J.go i H
 stop:∀i H,Le G H->ds.length≤i->J.stop i H
 yld:∀i H x H' d,Le G H->J.yld i H x H'->ds[i]? =some d->(H'=H/\c4 K G x d)\/ ∃p o,NT o/\H p=none/\H'=upd H p o/\c4 K (upd G p o) x d
end
section
variable(K:Qz)(B:OA)
def wW(m:Mo (List D)):TI:=fun σ H R=>∃G env ds env',Rel K B G σ env H/\m env=some (ds,env')/\∀J G' H',Ev K B G σ env H G' σ env' H'->uW K J G' ds->R J H'
end
abbrev EI(X:Cx)(B:OA)(tg e:Expr)(m:Mo (List D)):Prop:=PI X tg e (wW X.K B m)
theorem FO{t t':TI}(h:PI X tg e t)(i:∀σ H R,t' σ H R->t σ H R):PI X tg e t':=fun pins s σ H R I q=>h pins s σ H R I (i σ H R q)
section
variable{pos:Pos}{a:Expr}{g:OZ}{gs:List D->b0->Option b0}
def WM(K:Qz)(tl:TE):TI:=fun σ H R=>tl σ H fun x H1=>∃a,x=.ref a/\(((∃xs,oD K H1 a xs)/\R (wM K a) H1)\/((∃xs,nZ K H1 a xs)/\R (wN K a) H1))
theorem WN{l:Expr}{tl:TE}(hl:PE X l tl):PI X tg l (WM X.K tl):=by
 intro pins s σ H R I h;refine g6 (hl pins s σ H _ I h) fun v s1 ⟨x,H1,I1,r1,q1⟩=>?_
 obtain⟨a,e,q⟩:=q1;subst e;cases r1
 rcases q with⟨⟨xs,hq⟩,q⟩|⟨⟨xs,hq⟩,q⟩
 ·obtain⟨its,rv,p,hz⟩:=I1.list hq
  refine Ut p.isList ?_
  refine⟨s1.heap.objs.size,[s1.heap.objs.size],_,_,H1,rfl,I1.kept (t':=s1.toks) fun b o e=>Qv _ e,Tf a _,⟨_,Qn _ rfl,rfl,rfl⟩,fun b hb=>?_,q⟩
  have e:b=s1.heap.objs.size:=by simpa using hb
  subst e;exact I1.fpOk (Qm _) (I1.hok.fresh (Qm _))
 ·obtain⟨its,rv,p,hz⟩:=I1.tuple hq
  refine Ub (show s1.heap.IsTuple a its.toArray from p) ?_
  refine⟨s1.heap.objs.size,[s1.heap.objs.size],_,_,H1,rfl,I1.kept (t':=s1.toks) fun b o e=>Qv _ e,Tg a _,⟨_,Qn _ rfl,rfl,rfl⟩,fun b hb=>?_,q⟩
  have e:b=s1.heap.objs.size:=by simpa using hb
  subst e;exact I1.fpOk (Qm _) (I1.hok.fresh (Qm _))
def D5(m:Mo D):Mo (List D):=fun env=>(m env).bind fun p=>p.1.items.map fun ds=>(ds,p.2)
theorem WO{K:Qz}(q:oD K G p xs)(r:C4 K G xs ds):uW K (wM K p) G ds where
 go:=fun i H l hi=>⟨xs,xs[i]'(by rw[r.length];exact hi),l.sqL q,by simp⟩
 stop:=fun i H l hi=>⟨xs,l.sqL q,by rw[r.length];exact hi⟩
 yld:=fun i H x H' d l y e=>by
  obtain⟨rfl,y⟩:=y;obtain⟨x',e1,e2⟩:=r.get e;have:=y xs (l.sqL q);rw[e1]at this;cases this;exact .inl ⟨rfl,e2⟩
theorem WQ{K:Qz}(q:sT K G p xs)(r:C4 K G xs ds):uW K (wN K p) G ds where
 go:=fun i H l hi=>⟨xs,xs[i]'(by rw[r.length];exact hi),l.sqT q,by simp⟩
 stop:=fun i H l hi=>⟨xs,l.sqT q,by rw[r.length];exact hi⟩
 yld:=fun i H x H' d l y e=>by
  obtain⟨rfl,y⟩:=y;obtain⟨x',e1,e2⟩:=r.get e;have:=y xs (l.sqT q);rw[e1]at this;cases this;exact .inl ⟨rfl,e2⟩
theorem J6(h:ED X B e ma):EI X B tg e (D5 ma):=by
 refine FO (WN h) ?_
 rintro σ H R ⟨G,env,ds,env',rl,e,k⟩;obtain⟨⟨d,a9⟩,e1,e2⟩:=C6 e;obtain⟨ds',e3,e4⟩:=F5 e2;cases e4;refine .bind rl e1 fun v G1 H1 ev r=>?_
 cases d<;>first|(exact absurd (show(none:Option (List D))=some _ from e3) (by simp))|skip
 ·cases e3
  simp only[c4]at r;obtain⟨p,xs,e5,q,t⟩:=r;exact⟨p,e5,.inr ⟨⟨xs,ev.rel.sub.sqT q⟩,k _ G1 H1 ev (WQ q t)⟩⟩
 ·cases e3
  simp only[c4]at r;obtain⟨p,xs,e5,q,t⟩:=r;exact⟨p,e5,.inl ⟨⟨xs,ev.rel.sub.sqL q⟩,k _ G1 H1 ev (WO q t)⟩⟩
def Q7(lo:Int)(n:Nat):List D:=(List.range n).map fun(i:Nat)=>D.int (lo+i)
theorem MV{K:Qz}{lo:Int}:uW K (vB lo n) G (Q7 lo n)where
 go:=fun i H l hi=>by
  have h:i<n:=by simpa [Q7]using hi
  exact h
 stop:=fun i H l hi=>by
  have h:n≤i:=by simpa [Q7]using hi
  exact h
 yld:=fun i H x H' d l y e=>by
  obtain⟨rfl,rfl⟩:=y;refine .inl ⟨rfl,?_⟩;unfold Q7 at e;rw[Zv]at e;cases hr:(List.range n)[i]? with
  |none=>rw[hr]at e;cases e
  |some j=>
   rw[hr]at e;cases e;obtain⟨h1,h2⟩:=Qp.mp hr
   simp at h2
   subst h2;simp only[c4]
def N0(ms:Mo (List D)):Mo (List D):=fun env=>(ms env).bind fun p=>match p.1 with
 |[.int j]=>if-1000000<j/\j<1000000 then some (Q7 0 j.toNat,p.2)else none
 |_=>none
def FP(ms:Mo (List D)):Mo (List D):=fun env=>(ms env).bind fun p=>match p.1 with
 |[.int i,.int j]=>if-1000000<i/\i<1000000/\ -1000000<j/\j<1000000 then some (Q7 i (j-i).toNat,p.2)else none
 |_=>none
theorem AV{p:Pos}(hg:Gl X "range")(hm:X.mg "range"=none)(ha:rB X B [a] ms)(hs:starEach [a] X.env=[(false,eval a X.env)]:=by rfl):EI X B tg (.Call (.Name "range" p) [a] [] pos) (N0 ms):=by
 have h0:=Tn (tg:=tg) (p:=p) (pos:=pos) hg hm ha hs
 refine FO h0 ?_
 rintro σ H R ⟨G,env,ds,env',rl,e,k⟩;obtain⟨⟨ds',a9⟩,e1,e2⟩:=C6 e;dsimp only at e2;split at e2
 ·rename_i j
  split at e2
  ·rename_i hj
   cases e2;refine⟨G,env,_,_,rl,e1,fun vs G1 H1 ev r=>?_⟩
   obtain⟨v,rfl,r1⟩:=V3 r;simp only[c4]at r1;subst r1;exact⟨j,rfl,by omega,by omega,k _ G1 H1 ev MV⟩
  ·cases e2
 ·cases e2
theorem MW{p:Pos}(hg:Gl X "range")(hm:X.mg "range"=none)(ha:rB X B [a,b] ms)(hs:starEach [a,b] X.env=[(false,eval a X.env),(false,eval b X.env)]:=by rfl)(hs2:starEach [b] X.env=[(false,eval b X.env)]:=by rfl):EI X B tg (.Call (.Name "range" p) [a,b] [] pos) (FP ms):=by
 have h0:=To (tg:=tg) (p:=p) (pos:=pos) hg hm ha hs hs2
 refine FO h0 ?_
 rintro σ H R ⟨G,env,ds,env',rl,e,k⟩;obtain⟨⟨ds',a9⟩,e1,e2⟩:=C6 e;dsimp only at e2;split at e2
 ·rename_i i j
  split at e2
  ·rename_i hj
   cases e2;refine⟨G,env,_,_,rl,e1,fun vs G1 H1 ev r=>?_⟩
   obtain⟨v,w,rfl,r1,r2⟩:=Dp r;simp only[c4]at r1 r2;subst r1 r2;exact⟨i,j,rfl,⟨by omega,by omega,by omega,by omega⟩,k _ G1 H1 ev MV⟩
  ·cases e2
 ·cases e2
def loop(g:OZ)(body:Mo Fl):List D->Mo Fl
 |[],env=>some (.nx,env)
 |d::ds,env=>(g d env).bind fun e1=>(body e1).bind fun p=>match p.1 with
  |.nx=>loop g body ds p.2
  |.ct=>loop g body ds p.2
  |.bk=>some (.nx,p.2)
  |.ret d=>some (.ret d,p.2)
  |.retL d=>some (.retL d,p.2)
def K6(mi:Mo (List D))(g:OZ)(body:Mo Fl):Mo Fl:=fun env=>(mi env).bind fun p=>loop g body p.1 p.2
theorem O6{body:List Stmt}{mi:Mo (List D)}{mbd:Mo Fl}(hp:PassesOwn (model X.prog X.w) X.A X.env X.xe)(hc:X.calm=true)(hi:EI X B tg iter mi)(hg:EG X B 0 tg g)(hb:sK X B body mbd)
  (hs:∀x,foldedSetIterable iter X.env x=pure x:=by intro _;rfl):ES X B (.For tg iter body [] pos) (K6 mi g mbd):=by
 refine j2 (Ts hp hc hi hg hb hs) ?_
 rintro D σ H ⟨G,env,fl,env',rl,e,k⟩;obtain⟨⟨ds,a9⟩,e1,e2⟩:=C6 e;dsimp only at e2;refine⟨G,env,ds,a9,rl,e1,fun J G1 H1 j9 it=>?_⟩
 refine⟨fun i m σ2 H2=>m=ds.length-i/\i≤ds.length/\∃G2 g0,Ev X.K B G σ env H G2 σ2 g0 H2/\Le G1 G2/\loop g mbd (ds.drop i) g0=some (fl,env'),⟨_,rfl,Ux _,G1,a9,j9,Le.refl,by simpa using e2⟩,?_⟩
 rintro i m σ2 H2 ⟨rfl,hi2,G2,g0,f6,l2,e3⟩;have lH:Le G1 H2:=l2.trans f6.rel.sub
 by_cases hlt:i<ds.length
 ·refine .inr ⟨it.go i H2 lH hlt,fun σ' H'=>∃G3 qA,Ev X.K B G σ env H G3 σ' qA H'/\Le G1 G3/\loop g mbd (ds.drop (i+1)) qA=some (fl,env'),?_,fun x H3 y=>?_⟩
  ·rintro σ' H' ⟨G3,qA,pM,l3,e4⟩
   exact⟨ds.length-(i+1),by omega,rfl,hlt,G3,qA,pM,l3,e4⟩
  ·have ed:ds.drop i=ds[i]::ds.drop (i+1):=List.drop_eq_getElem_cons hlt
   rw[ed]at e3;obtain⟨qR,e4,e5⟩:=C6 e3;obtain⟨⟨uX,pD⟩,e6,e7⟩:=C6 e5;have hget:ds[i]? =some ds[i]:=by simp[hlt]
   have st:∃G3,Ev X.K B G σ env H G3 σ2 g0 H3/\Le G1 G3/\c4 X.K G3 x ds[i]:=by
    rcases it.yld i H2 x H3 ds[i] lH y hget with⟨rfl,r⟩|⟨p,o,hno,hp2,rfl,r⟩
    ·exact⟨G2,f6,l2,c4.mono l2 _ r⟩
    ·have gp:=f6.rel.gnone hp2
     refine⟨upd G2 p o,f6.trans (f6.rel.alloc hp2 hno),l2.trans (Le.upd gp),c4.mono (fun b u q=>?_) _ r⟩
     by_cases hb2:b=p
     ·subst hb2;rw[J0]at q ⊢;exact q
     ·rw[D7 hb2]at q ⊢;exact l2 b u q
   obtain⟨G3,pM,l3,r3⟩:=st;refine⟨G3,g0,ds[i],qR,pM.rel,r3,e4,fun σ4 G4 H4 rZ _=>?_⟩
   have sL:=pM.trans rZ
   refine⟨G4,qR,uX,pD,rZ.rel,e6,?_⟩;cases uX with
   |nx=>exact fun σ6 G6 H6 o3=>⟨G6,pD,sL.trans o3,(l3.trans rZ.same).trans o3.same,e7⟩
   |ct=>exact fun σ6 G6 H6 o3=>⟨G6,pD,sL.trans o3,(l3.trans rZ.same).trans o3.same,e7⟩
   |bk=>cases e7;exact fun σ6 G6 H6 o3=>k σ6 G6 H6 (sL.trans o3)
   |ret d=>cases e7;exact fun v σ6 G6 H6 o3=>k v σ6 G6 H6 (sL.trans o3)
   |retL d=>cases e7;exact fun a xs σ6 G6 H6 o3=>k a xs σ6 G6 H6 (sL.trans o3)
 ·have ei:i=ds.length:=by omega
  subst ei;rw[List.drop_length]at e3;cases e3;exact .inl ⟨it.stop _ H2 lH (Qm _),k σ2 G2 H2 f6⟩
end
inductive Rr where
 |d (d:D)|l (ds:List D)
abbrev Fn:=List W->Option (Rr×List W)
def O7:OA:=fun _=>False
def Cn(ws:List W):Prop:=∀w∈ws,(∃d,w=.dat d)\/w.isPar=true
def WR(K:Qz)(G:Hp)(vs:List V)(ws:List W)(H:Hp)(ws':List W)(Q:VK):Rr->Prop
 |.d d=>∀v G' H',Ev K O7 G (vs.map some) ws H G' (vs.map some) ws' H'->c4 K G' v d->Q v H'
 |.l ds=>∀a xs G' H',Ev K O7 G (vs.map some) ws H G' (vs.map some) ws' H'->H a=none-> ¬ d6 (vs.map some) ws' a->H' a=some (.lst xs)->G' a=none->C4 K G' xs ds->Q (.ref a) H'
def mY(K:Qz)(n:Nat)(f:Fn):Sp:=fun vs H Q _=>∃G ws r ws',ws.length=n/\Cn ws/\Rel K O7 G (vs.map some) ws H/\f ws=some (r,ws')/\WR K G vs ws H ws' Q r
def Dr:W->W->W
 |.par _,.par ds=>.par ds
 |.par _,.parD ks vs=>.parD ks vs
 |.parD _ _,.par ds=>.par ds
 |.parD _ _,.parD ks vs=>.parD ks vs
 |.par _,_=>.nil
 |.parD _ _,_=>.nil
 |w,_=>w
def W9(ws env:List W):List W:=List.zipWith Dr ws env
def k6(N:Nat)(mb:Mo Fl):Fn:=fun ws=>match mb (ws++List.replicate (N-ws.length) .nil)with
 |some (.ret d,env)=>some (.d d,W9 ws env)
 |some (.retL ds,env)=>some (.l ds,W9 ws env)
 |some (.nx,env)=>some (.d .non,W9 ws env)
 |_=>none
theorem AW(hi:i<vs.length):(start N vs)[i]? =(vs.map some)[i]?:=by
 unfold start;rw[Yw (by simpa using hi)]
theorem BP{l:List α}{a b:α}(h:(l++List.replicate n a)[i]? =some b):(i<l.length/\l[i]? =some b)\/(l.length≤i/\b=a):=by
 by_cases hi:i<l.length
 ·rw[Yw hi]at h;exact .inl ⟨hi,h⟩
 ·rw[Jv (by omega),Yo]at h
  split at h
  ·cases h;exact .inr ⟨by omega,rfl⟩
  ·cases h
section
variable{K:Qz}{ws:List W}
theorem MX(hl:ws.length=vs.length):d6 (start N vs) (ws++List.replicate n .nil) a↔d6 (vs.map some) ws a:=by
 constructor
 ·rintro⟨i,w,ds,e1,e2,e3⟩
  rcases BP e1 with⟨h1,h2⟩|⟨h1,h2⟩
  ·rw[AW (by omega)]at e3;exact⟨i,w,ds,h2,e2,e3⟩
  ·rw[h2]at e2;cases e2
 ·rintro⟨i,w,ds,e1,e2,e3⟩
  have hi:i<ws.length:=(Qp.mp e1).1
  exact⟨i,w,ds,by rw[Yw hi];exact e1,e2,by rw[AW (by omega)];exact e3⟩
theorem HY(r:Rel K O7 G (vs.map some) ws H)(ok:Cn ws)(hN:vs.length≤N.length):Rel K (fun b=>H b≠none) G (start N vs) (ws++List.replicate (N.length-ws.length) .nil) H:=by
 have hl:ws.length=vs.length:=by have:=r.len;rwa [Qk]at this
 have noOwn:∀(i:Nat) (w:W),ws[i]? =some w->w.isOwn=true->False:=fun i w e h=>by
  rcases ok _ (Uz e)with⟨d,z⟩|z
  ·subst z;cases h
  ·cases w<;>first|(cases h;done)|(cases z;done)
 refine⟨r.sub,?_,fun i d e=>?_,fun i w ds e1 e2=>?_,fun i j w w' ds es a q1 q2 q3 q4 q5 q6=>?_,fun i w a q1 qo q2=>?_,fun b h=>h,r.tabs,r.gnt⟩
 ·unfold start
  simp only[Qt,Yx,Qk]
  omega
 ·rcases BP e with⟨h1,h2⟩|⟨h1,h2⟩
  ·obtain⟨v,e1,e2⟩:=r.dat i d h2
   exact⟨v,by rw[AW (by omega)];exact e1,e2⟩
  ·cases h2
 ·rcases BP e1 with⟨h1,h2⟩|⟨h1,h2⟩
  ·obtain⟨a,xs,e3,e4⟩:=r.own i w ds h2 e2
   exact⟨a,xs,by rw[AW (by omega)];exact e3,e4⟩
  ·rw[h2]at e2;cases e2
 ·rcases BP q1 with⟨h1,h2⟩|⟨h1,h2⟩
  ·rcases BP q3 with⟨h3,h4⟩|⟨h3,h4⟩
   ·rw[AW (by omega)]at q5 q6
    exact r.inj i j w w' ds es a h2 q2 h4 q4 q5 q6
   ·rw[h4]at q4;cases q4
  ·rw[h2]at q2;cases q2
 ·rcases BP q1 with⟨h1,h2⟩|⟨h1,h2⟩
  ·exact(noOwn i w h2 qo).elim
  ·subst h2;cases qo
theorem FQ{ws env:List W}(h:(W9 ws env)[i]? =some w):∃w1 w2,ws[i]? =some w1/\env[i]? =some w2/\w=Dr w1 w2:=by
 unfold W9 at h;rw[Jp]at h;cases e1:ws[i]? with
 |none=>rw[e1]at h;cases h
 |some w1=>
  cases e2:env[i]? with
  |none=>rw[e1,e2]at h;cases h
  |some w2=>rw[e1,e2]at h;cases h;exact⟨w1,w2,rfl,rfl,rfl⟩
theorem HZ{w1:W}(ok:(∃d,w1=.dat d)\/w1.isPar=true)(h:(Dr w1 w2).mut=some m):w2.mut=some m/\w2.isPar=true/\Dr w1 w2=w2/\w1.isPar=true:=by
 rcases ok with⟨d,z⟩|z
 ·subst z;cases h
 ·cases w1<;>cases w2<;>first|exact⟨h,rfl,rfl,rfl⟩|(cases z;done)|(cases h;done)
theorem Bv(r:Rel K O7 G (vs.map some) ws H)(ok:Cn ws)(hN:vs.length≤N.length)
  (ev:Ev K (fun b=>H b≠none) G (start N vs) (ws++List.replicate (N.length-ws.length) .nil) H G' σ' env' H'):Ev K O7 G (vs.map some) ws H G' (vs.map some) (W9 ws env') H':=by
 have hl:ws.length=vs.length:=by have:=r.len;rwa [Qk]at this
 have okg:∀{i:Nat}{w:W},ws[i]? =some w->(∃d,w=.dat d)\/w.isPar=true:=fun e=>ok _ (Uz e)
 have hle:ws.length≤env'.length:=by
  have h1:=ev.rel.len
  have h2:=ev.slen
  have h3:(start N vs).length=N.length:=by unfold start;simp only[Qt,Yx,Qk];omega
  omega
 have par:∀(i:Nat) (w:W) (m:Mu),(W9 ws env')[i]? =some w->w.mut=some m->∃w0,ws[i]? =some w0/\w0.isPar=true/\env'[i]? =some w/\w.isPar=true/\σ'[i]? =(vs.map some)[i]?:=fun i w m e1 e2=>by
  obtain⟨w1,w2,h1,h2,h3⟩:=FQ e1;subst h3;obtain⟨h4,h5,h6,h7⟩:=HZ (okg h1) e2;have hi:i<vs.length:=by have:=(Qp.mp h1).1;omega
  rw[h6];exact⟨w1,h1,h7,h2,h5,(ev.par i w2 h2 h5).1.trans (AW hi)⟩
 refine⟨⟨ev.rel.sub,?_,fun i d e=>?_,fun i w ds e1 e2=>?_,fun i j w w' ds es a q1 q2 q3 q4 q5 q6=>?_,fun i w a q1 qo q2 h=>h,fun b h=>h.elim,ev.rel.tabs,ev.rel.gnt⟩,ev.same,fun b o n t e=>ev.keep b o (fun z=>n ((MX hl).mp z)) t e,ev.live,fun b e n g=>ev.stay b e (fun z=>n ((MX hl).mp z)) g,fun a z=>?_,fun i w e hp=>?_,rfl⟩
 ·unfold W9
  rw[Yd,Qk];omega
 ·obtain⟨w1,w2,h1,h2,h3⟩:=FQ e
  rcases okg h1 with⟨d1,z⟩|z
  ·subst z
   cases h3;obtain⟨v,e1,e2⟩:=r.dat i d h1;exact⟨v,e1,c4.mono ev.same d e2⟩
  ·cases w1<;>cases w2<;>first|(cases h3;done)|(cases z;done)
 ·obtain⟨d0,h1,hp,h2,h3,h4⟩:=par i w ds e1 e2
  obtain⟨a,xs,e3,e4⟩:=ev.rel.own i _ ds h2 e2;exact⟨a,xs,by rw[←h4];exact e3,e4⟩
 ·obtain⟨d0,h1,hp,h2,h3,h4⟩:=par i w ds q1 q2
  obtain⟨d1,h5,hp',h6,h7,h8⟩:=par j w' es q3 q4;exact ev.rel.inj i j _ _ ds es a h2 q2 h6 q4 (by rw[h4];exact q5) (by rw[h8];exact q6)
 ·obtain⟨i,w,ds,e1,e2,e3⟩:=z
  obtain⟨d0,h1,hp,h2,h3,h4⟩:=par i w ds e1 e2;obtain⟨m0,hm0⟩:=oP hp;exact .inl ⟨i,_,m0,h1,hm0,e3⟩
 ·obtain⟨m,hm⟩:=oP hp
  obtain⟨d0,h1,hp',h2,h3,h4⟩:=par i _ m e hm;exact⟨rfl,d0,h1,hp'⟩
end
theorem J5{P:Program}{w:World}{K:Qz}{mg:OU}{base:Heap}{qual:Str}{st:Stmt}{f:Addr}{fd:FuncData}{ps:List Str}{mb:Mo Fl}(F:k9 K x qual st f fd)(S:c8 N ps (E5 st))
  (hb:∀(cdv:Value) (A:Around) (outer:List Env) (s:Shared) (H:Hp) (E:XK),f9 k (A.deeper (envOfC qual (E5 st) s.heap.objs.size f cdv))->
   sK (O0 j7 P w K mg base N qual (E5 st) f cdv A outer s H E).nox (fun b=>H b≠none) (X8 st) mb):d9 P w K mg base j7 (k+1) f fd ps (mY K ps.length (k6 N.length mb)):=by
 have hpl:ps.length≤N.length:=by have:=Ze List.length S.pre;rw[Jy]at this;omega
 refine F.ok S (fun vs H Q E h=>?_) (fun cdv A outer s H vs Q E hr h=>?_)
 ·obtain⟨G,ws,r,ws',hl,ok,rl,_⟩:=h
  have:=rl.len;rw[Qk]at this;omega
 ·obtain⟨G,ws,r,ws',hl,ok,rl,e,k⟩:=h
  have hv:ws.length=vs.length:=by have:=rl.len;rwa [Qk]at this
  refine⟨_,hb cdv A outer s H E hr,?_⟩;have rl':=HY (N:=N) rl ok (by omega)
  unfold k6 at e;split at e
  ·rename_i d env em
   cases e;refine⟨G,_,_,env,rl',em,?_⟩;exact fun v σ' G' H' ev rp=>k v G' H' (Bv rl ok (by omega) ev) rp
  ·rename_i ds env em
   cases e;refine⟨G,_,_,env,rl',em,?_⟩;intro a xs σ' G' H' ev nb no h' g' rp;refine k a xs G' H' (Bv rl ok (by omega) ev) (Uj nb) ?_ h' g' rp
   rintro⟨i,w',es,e1,e2,e3⟩;obtain⟨w1,w2,q1,q2,q3⟩:=FQ e1;subst q3;obtain⟨q4,q5,q6,q7⟩:=HZ (ok _ (Uz q1)) e2;have hi:i<vs.length:=by have:=(Qp.mp q1).1;omega
   exact no ⟨i,_,es,q2,q4,by rw[(ev.par i w2 q2 q5).1,AW hi];exact e3⟩
  ·rename_i env em
   cases e;refine⟨G,_,_,env,rl',em,?_⟩;exact fun σ' G' H' ev=>k .non G' H' (Bv rl ok (by omega) ev) (by simp only[c4])
  ·cases e
def slots:List Ar->List Nat
 |[]=>[]
 |.d _::r=>slots r
 |.sl i::r=>i::slots r
def Bw:Mu->W
 |.l ds=>.par ds
 |.d ks vs=>.parD ks vs
theorem MY(c:Mu):(Bw c).mut=some c:=by cases c<;>rfl
theorem MZ(c:Mu):(Bw c).isPar=true:=by cases c<;>rfl
def O8(c:Mu):Ar->W
 |.d d=>.dat d
 |.sl _=>Bw c
def Aq:List W->Option Mu
 |[]=>none
 |.par ds::_=>some (.l ds)
 |.parD ks vs::_=>some (.d ks vs)
 |_::r=>Aq r
def AB(n:Nat)(f:Fn)(as:Mo (List Ar)):Mo Rr:=fun env=>(as env).bind fun p=>if p.1.length=n then
 match slots p.1 with
 |[]=>(f (p.1.map (O8 (.l [])))).map fun q=>(q.1,p.2)
 |[i]=>(p.2[i]?).bind fun w=>w.mut.bind fun c=>(f (p.1.map (O8 c))).bind fun q=>(Aq q.2).map fun c'=>(q.1,p.2.set i (w.putM c'))
 |_=>none
 else none
theorem BQ:∀{as:List Ar},slots as=[]->∀(k j:Nat),as[k]? ≠some (.sl j)
 |[],_,k,j,e=>by simp at e
 |.d _::r,h,k,j,e=>by
  cases k with
  |zero=>simp at e
  |succ k=>exact BQ (as:=r) h k j (by simpa using e)
 |.sl i::r,h,k,j,e=>by simp[slots]at h
theorem Ha:∀{as:List Ar}{i:Nat},slots as=[i]->∃k:Nat,as[k]? =some (.sl i)/\∀(k' j:Nat),as[k']? =some (.sl j)->k'=k/\j=i
 |[],_,h=>by simp[slots]at h
 |.d _::r,i,h=>by
  obtain⟨k,h1,h2⟩:=Ha (as:=r) h;refine⟨k+1,by simpa using h1,fun k' j e=>?_⟩
  cases k' with
  |zero=>simp at e
  |succ k'=>
   obtain⟨a,b⟩:=h2 k' j (by simpa using e)
   exact⟨by omega,b⟩
 |.sl i'::r,i,h=>by
  simp only[slots,Xz]at h;obtain⟨rfl,h⟩:=h;refine⟨0,by simp,fun k' j e=>?_⟩
  cases k' with
  |zero=>simp at e;exact⟨rfl,e.symm⟩
  |succ k'=>exact absurd (by simpa using e) (BQ h k' j)
theorem Ds:∀{ws:List W}{c:Mu},Aq ws=some c->∃k:Nat,ws[k]? =some (Bw c)
 |[],_,h=>by simp[Aq]at h
 |.par ds::r,c,h=>by simp only[Aq,Za]at h;subst h;exact⟨0,by simp[Bw]⟩
 |.parD ks vs::r,c,h=>by simp only[Aq,Za]at h;subst h;exact⟨0,by simp[Bw]⟩
 |.nil::r,c,h=>by obtain⟨k,e⟩:=Ds (ws:=r) h;exact⟨k+1,by simpa using e⟩
 |.dat _::r,c,h=>by obtain⟨k,e⟩:=Ds (ws:=r) h;exact⟨k+1,by simpa using e⟩
 |.own _::r,c,h=>by obtain⟨k,e⟩:=Ds (ws:=r) h;exact⟨k+1,by simpa using e⟩
 |.ownD _ _::r,c,h=>by obtain⟨k,e⟩:=Ds (ws:=r) h;exact⟨k+1,by simpa using e⟩
section
variable{K:Qz}
theorem j8.length:∀{as:List Ar}{vs:List V},j8 K G σ vs as->vs.length=as.length
 |[],_,h=>by simp only[j8]at h;subst h;rfl
 |.d d::as,_,h=>by
  simp only[j8]at h;obtain⟨x,r,rfl,_,t⟩:=h
  simp[j8.length t]
 |.sl i::as,_,h=>by
  simp only[j8]at h;obtain⟨x,r,rfl,_,t⟩:=h
  simp[j8.length t]
theorem j8.getD:∀{as:List Ar}{vs:List V}{k:Nat}{d:D},j8 K G σ vs as->as[k]? =some (.d d)->∃v,vs[k]? =some v/\c4 K G v d
 |[],_,k,d,h,e=>by simp at e
 |.d d'::as,_,k,d,h,e=>by
  simp only[j8]at h;obtain⟨x,r,rfl,q,t⟩:=h;cases k with
  |zero=>simp at e;subst e;exact⟨x,by simp,q⟩
  |succ k=>simpa using j8.getD (k:=k) t (by simpa using e)
 |.sl i::as,_,k,d,h,e=>by
  simp only[j8]at h;obtain⟨x,r,rfl,q,t⟩:=h;cases k with
  |zero=>simp at e
  |succ k=>simpa using j8.getD (k:=k) t (by simpa using e)
theorem j8.getS:∀{as:List Ar}{vs:List V}{k i:Nat},j8 K G σ vs as->as[k]? =some (.sl i)->∃v,vs[k]? =some v/\σ[i]? =some (some v)
 |[],_,k,i,h,e=>by simp at e
 |.d d'::as,_,k,i,h,e=>by
  simp only[j8]at h;obtain⟨x,r,rfl,q,t⟩:=h;cases k with
  |zero=>simp at e
  |succ k=>simpa using j8.getS (k:=k) t (by simpa using e)
 |.sl i'::as,_,k,i,h,e=>by
  simp only[j8]at h;obtain⟨x,r,rfl,q,t⟩:=h;cases k with
  |zero=>simp at e;subst e;exact⟨x,by simp,q⟩
  |succ k=>simpa using j8.getS (k:=k) t (by simpa using e)
end
section
variable{K:Qz}{as:List Ar}{c:Mu}
theorem Hb:Cn (as.map (O8 c)):=fun w hw=>by
 obtain⟨a,_,rfl⟩:=Qa.mp hw;cases a with
 |d d=>exact .inl ⟨d,rfl⟩
 |sl i=>exact .inr (MZ c)
theorem Co(e:(as.map (O8 c))[k]? =some w):(∃d,as[k]? =some (.d d)/\w=.dat d)\/ ∃j,as[k]? =some (.sl j)/\w=Bw c:=by
 rw[Zv]at e;cases h:as[k]? with
 |none=>rw[h]at e;cases e
 |some a=>
  rw[h]at e;cases a with
  |d d=>cases e;exact .inl ⟨d,rfl,rfl⟩
  |sl j=>cases e;exact .inr ⟨j,rfl,rfl⟩
theorem Ma(h:vs[k]? =some v):(vs.map some)[k]? =some (some v):=by rw[Zv,h];rfl
theorem Mb(h:(vs.map some)[k]? =some (some v)):vs[k]? =some v:=by
 rw[Zv]at h;cases e:vs[k]? with
 |none=>rw[e]at h;cases h
 |some u=>rw[e]at h;cases h;rfl
theorem Hc(rl:Rel K B G σ env H)(ra:j8 K G σ vs as)(u:∀(k j:Nat),as[k]? =some (.sl j)->j=i/\env[i]? =some w/\w.mut=some c)(un:∀(k k' j j':Nat),as[k]? =some (.sl j)->as[k']? =some (.sl j')->k=k'):
  Rel K O7 G (vs.map some) (as.map (O8 c)) H:=by
 refine⟨rl.sub,by rw[Qk,Qk,ra.length],fun k d e=>?_,fun k v ds e1 e2=>?_,fun k k' v v' ds es a q1 q2 q3 q4 q5 q6=>?_,fun k w a e _ _ h=>h,fun b h=>h.elim,rl.tabs,rl.gnt⟩
 ·rcases Co e with⟨d',h1,h2⟩|⟨j,h1,h2⟩
  ·cases h2
   obtain⟨v,q1,q2⟩:=ra.getD h1;exact⟨v,Ma q1,q2⟩
  ·cases c<;>cases h2
 ·rcases Co e1 with⟨d',h1,h2⟩|⟨j,h1,h2⟩
  ·subst h2;cases e2
  ·subst h2;rw[MY]at e2;cases e2
   obtain⟨v,q1,q2⟩:=ra.getS h1;obtain⟨rfl,q3,q4⟩:=u k j h1;obtain⟨a,xs,q5,q6,q7,q8⟩:=rl.own j w c q3 q4;rw[q2]at q5;cases q5;exact⟨a,xs,Ma q1,q6,q7,q8⟩
 ·rcases Co q1 with⟨d',h1,h2⟩|⟨j,h1,h2⟩
  ·subst h2;cases q2
  ·rcases Co q3 with⟨d',h3,h4⟩|⟨j',h3,h4⟩
   ·subst h4;cases q4
   ·exact un k k' j j' h1 h3
theorem Mc(ra:j8 K G σ vs as)(u:∀(k j:Nat),as[k]? =some (.sl j)->j=i)(h:d6 (vs.map some) (as.map (O8 c)) a):σ[i]? =some (some (V.ref a))/\∃k:Nat,as[k]? =some (Ar.sl i):=by
 obtain⟨k,v,ds,e1,e2,e3⟩:=h
 rcases Co e1 with⟨d',h1,h2⟩|⟨j,h1,h2⟩
 ·subst h2;cases e2
 ·obtain⟨v',q1,q2⟩:=ra.getS h1
  have:=u k j h1;subst this;have e4:=Mb e3;rw[q1]at e4;cases e4;exact⟨q2,k,h1⟩
theorem Hd(rl:Rel K B G σ env H)(ra:j8 K G σ vs as)(hs:slots as=[])(ev:Ev K O7 G (vs.map some) (as.map (O8 c)) H G2 (vs.map some) ws' H2):Ev K B G σ env H G2 σ env H2:=by
 have no:∀a,¬ d6 (vs.map some) (as.map (O8 c)) a:=fun a z=>by
  obtain⟨_,k,e⟩:=Mc (i:=0) ra (fun k j e=>absurd e (BQ hs k j)) z
  exact BQ hs k 0 e
 refine⟨⟨ev.rel.sub,rl.len,fun i d e=>?_,fun i w ds e1 e2=>?_,rl.inj,rl.fresh,fun b h=>ev.live b (rl.old b h),ev.rel.tabs,ev.rel.gnt⟩,ev.same,fun b o _ t e=>ev.keep b o (no b) t e,ev.live,fun b e _ g=>ev.stay b e (no b) g,fun a z=>.inl z,fun i w e hp=>⟨rfl,w,e,hp⟩,rfl⟩
 ·obtain⟨v,q1,q2⟩:=rl.dat i d e
  exact⟨v,q1,c4.mono ev.same d q2⟩
 ·obtain⟨a,xs,q1,q2,q3,q4⟩:=rl.own i w ds e1 e2
  exact⟨a,xs,q1,ev.keep a _ (no a) q3.nt q2,q3.mono ev.same,ev.stay a (by rw[q2];simp) (no a) q4⟩
theorem Me{c':Mu}(rl:Rel K B G σ env H)(ra:j8 K G σ vs as)(hs:slots as=[i])(e1:env[i]? =some w)(e2:w.mut=some c)(hp:Aq ws'=some c')
  (ev:Ev K O7 G (vs.map some) (as.map (O8 c)) H G2 (vs.map some) ws' H2):Ev K B G σ env H G2 σ (env.set i (w.putM c')) H2:=by
 obtain⟨k,hk,uk⟩:=Ha hs;obtain⟨a,xs,h1,h2,h3,h4⟩:=rl.own i w c e1 e2;have ow:d6 σ env a:=⟨i,w,c,e1,e2,h1⟩;have isA:∀b,d6 (vs.map some) (as.map (O8 c)) b->b=a:=fun b z=>by
  obtain⟨q,_⟩:=Mc ra (fun k j e=>(uk k j e).2) z
  rw[h1]at q;cases q;rfl
 obtain⟨k',hk'⟩:=Ds hp;have ek:k'=k:=by
  obtain⟨_,d0,q,qp⟩:=ev.par k' _ hk' (MZ c')
  rcases Co q with⟨d',z1,z2⟩|⟨j,z1,z2⟩
  ·subst z2;cases qp
  ·exact(uk k' j z1).1
 subst ek;obtain⟨a2,ys,g1,g2,g3,g4⟩:=ev.rel.own k' _ c' hk' (MY c');obtain⟨v,q1,q2⟩:=ra.getS hk;have g5:=Mb g1;rw[q1]at g5;cases g5;rw[h1]at q2;cases q2;have wp:(w.putM c').mut=some c':=W.putM_mut e2 c';have nd:∀d,w.putM c'≠.dat d:=fun d z=>by rw[z]at wp;cases wp
 refine⟨⟨ev.rel.sub,by rw[Zi];exact rl.len,fun j d' q=>?_,fun j v es y1 y2=>?_,fun j m v v' es fs b y1 y2 y3 y4 y5 y6=>?_,fun j v b y1 yo y2=>?_,fun b h=>ev.live b (rl.old b h),ev.rel.tabs,ev.rel.gnt⟩,ev.same,fun b o n t e=>ev.keep b o (fun z=>n (isA b z ▸ ow)) t e,ev.live,fun b e n g=>ev.stay b e (fun z=>n (isA b z ▸ ow)) g,fun b z=>.inl ?_,fun j v q qp=>⟨rfl,?_⟩,rfl⟩
 ·rcases M6 q with⟨z1,z2⟩|⟨z1,z2⟩
  ·exact absurd z2.symm (nd d')
  ·obtain⟨v,q1,q2⟩:=rl.dat j d' z2
   exact⟨v,q1,c4.mono ev.same d' q2⟩
 ·rcases M6 y1 with⟨z1,z2⟩|⟨z1,z2⟩
  ·subst z1 z2
   rw[wp]at y2;cases y2;exact⟨a,ys,h1,g2,g3,g4⟩
  ·obtain⟨p,zs,f1,f2,f3,f4⟩:=rl.own j v es z2 y2
   have hp:p≠a:=fun z=>z1 (rl.inj j i v w es c a z2 y2 e1 e2 (by rw[f1,z]) h1)
   have np:¬ d6 (vs.map some) (as.map (O8 c)) p:=fun z=>hp (isA p z)
   exact⟨p,zs,f1,ev.keep p _ np f3.nt f2,f3.mono ev.same,ev.stay p (by rw[f2];simp) np f4⟩
 ·have g:∀(m:Nat) (v:W) (es:Mu),(env.set i (w.putM c'))[m]? =some v->v.mut=some es->∃v0 es0,env[m]? =some v0/\v0.mut=some es0:=fun m v es y1 y2=>by
   rcases M6 y1 with⟨z1,z2⟩|⟨z1,z2⟩
   ·rw[z1];exact⟨w,c,e1,e2⟩
   ·exact⟨v,es,z2,y2⟩
  obtain⟨v0,es0,x1,x2⟩:=g j v es y1 y2;obtain⟨v1,es1,x3,x4⟩:=g m v' fs y3 y4;exact rl.inj j m v0 v1 es0 es1 b x1 x2 x3 x4 y5 y6
 ·rcases M6 y1 with⟨z1,z2⟩|⟨z1,z2⟩
  ·subst z1
   exact rl.fresh j w b e1 (by rw[z2,W.putM_own e2]at yo;exact yo) y2
  ·exact rl.fresh j v b z2 yo y2
 ·obtain⟨j,v,es,y1,y2,y3⟩:=z
  rcases M6 y1 with⟨z1,z2⟩|⟨z1,z2⟩
  ·rw[z1,h1]at y3;cases y3;exact ow
  ·exact⟨j,v,es,z2,y2,y3⟩
 ·rcases M6 q with⟨z1,z2⟩|⟨z1,z2⟩
  ·subst z1
   exact⟨w,e1,by rw[z2,W.putM_par e2]at qp;exact qp⟩
  ·exact⟨v,z2,qp⟩
end
def sW:Rr×b0->Option (D×b0)
 |(.d d,e)=>some (d,e)
 |_=>none
def zD:Rr×b0->Option (List D×b0)
 |(.l d,e)=>some (d,e)
 |_=>none
def c9(n:Nat)(f:Fn)(as:Mo (List Ar)):Mo D:=fun env=>(AB n f as env).bind sW
def M1(n:Nat)(f:Fn)(as:Mo (List Ar)):Mo (List D):=fun env=>(AB n f as env).bind zD
def Mf(K:Qz)(B:OA)(G:Hp)(σ:St)(env:b0)(H:Hp)(env':b0)(Q:VK):Rr->Prop
 |.d d=>∀v G' H',Ev K B G σ env H G' σ env' H'->c4 K G' v d->Q v H'
 |.l ds=>∀a xs G' H',Ev K B G σ env H G' σ env' H'->H a=none-> ¬ d6 σ env' a->H' a=some (.lst xs)->G' a=none->C4 K G' xs ds->Q (.ref a) H'
theorem Mg{K:Qz}{f:Fn}{r:Rr}{E:XK}(rl:Rel K B G σ env H)(e:AB n f as env=some (r,env'))
  (k:Mf K B G σ env H env' Q r):
  HC (mY K n f) [] E (xV K B as) σ H Q:=by
 obtain⟨⟨av,a9⟩,e1,e2⟩:=C6 e;dsimp only at e2;split at e2
 ·rename_i hn
  refine⟨G,env,av,a9,rl,e1,fun vs G1 H1 ev ra=>?_⟩
  show mY K n f (vs++[]) H1 Q E;rw[Ys];have hnone:∀a,H1 a=none->H a=none:=fun a h=>by
   cases q:H a with
   |none=>rfl
   |some o=>exact absurd h (ev.live a (by rw[q];simp))
  split at e2
  ·rename_i hs
   obtain⟨⟨r',ws'⟩,e3,e4⟩:=F5 e2;cases e4;refine⟨G1,av.map (O8 (.l [])),r',ws',by rw[Qk];exact hn,Hb,Hc (i:=0) (w:=.nil) ev.rel ra (fun k j e=>absurd e (BQ hs k j)) (fun k k' j j' e=>absurd e (BQ hs k j)),e3,?_⟩
   cases r' with
   |d d=>exact fun v G2 H2 f6 rp=>k v G2 H2 (ev.trans (Hd ev.rel ra hs f6)) rp
   |l ds=>
    intro a xs G2 H2 f6 ha no h' g' rp;exact k a xs G2 H2 (ev.trans (Hd ev.rel ra hs f6)) (hnone a ha) (ev.rel.unowned ha) h' g' rp
  ·rename_i i hs
   obtain⟨w,e3,e4⟩:=C6 e2;obtain⟨c,e5,e6⟩:=C6 e4;obtain⟨⟨r',ws'⟩,e7,e8⟩:=C6 e6;obtain⟨c',e9,e10⟩:=F5 e8;cases e10;obtain⟨kk,hk,uk⟩:=Ha hs;refine⟨G1,av.map (O8 c),r',ws',by rw[Qk];exact hn,Hb,Hc (i:=i) (w:=w) ev.rel ra (fun k j e=>⟨(uk k j e).2,e3,e5⟩) (fun k k' j j' h1 h2=>(uk k j h1).1.trans (uk k' j' h2).1.symm),e7,?_⟩
   cases r' with
   |d d=>exact fun v G2 H2 f6 rp=>k v G2 H2 (ev.trans (Me ev.rel ra hs e3 e5 e9 f6)) rp
   |l ds=>
    intro a xs G2 H2 f6 ha no h' g' rp;have evc:=Me ev.rel ra hs e3 e5 e9 f6;refine k a xs G2 H2 (ev.trans evc) (hnone a ha) (fun z=>?_) h' g' rp
    rcases evc.sub a z with q|q
    ·exact ev.rel.unowned ha q
    ·obtain⟨j,v,es,y1,y2,y3⟩:=z
     rcases M6 y1 with⟨z1,z2⟩|⟨z1,z2⟩
     ·subst z1
      exact ev.rel.unowned ha ⟨j,w,c,e3,e5,y3⟩
     ·exact ev.rel.unowned ha ⟨j,v,es,z2,y2,y3⟩
  ·cases e2
 ·cases e2
section
variable{pos p:Pos}{fn:Fn}{f:Addr}{fd:FuncData}{ps:List Str}
theorem WS(F:d9 X.prog X.w X.K X.mg X.base j7 k f fd ps (mY X.K ps.length fn))(hr:f9 k X.A)(hg:Gl X x)(hm:X.mg x=some (.ref f))(hk:PySem.W.keepIn X.K (.ref f)=true)(hb:Q6 X.K fd ps [])
  (ha:sU X B (e::es) as)(hdb:(x==("__debug__":Str))=false:=by decide)(he:starEach (e::es) X.env=(false,eval e X.env)::starEach es X.env:=by rfl)(hpl:(backTo pos (starEach es X.env)).any (·.1)=false:=by rfl):
  ED X B (.Call (.Name x p) (e::es) [] pos) (c9 ps.length fn as):=by
 refine d7 (FA F hr hg hm hk hb .nil HF ha hdb he hpl) ?_
 rintro σ H Q ⟨G,env,d,env',rl,e,k⟩;obtain⟨⟨r,a9⟩,e1,e2⟩:=C6 e;cases r with
 |d d'=>cases e2;exact Mg rl e1 k
 |l ds=>cases e2
theorem WT(F:d9 X.prog X.w X.K X.mg X.base j7 k f fd ps (mY X.K ps.length fn))(hr:f9 k X.A)(hg:Gl X x)(hm:X.mg x=some (.ref f))(hk:PySem.W.keepIn X.K (.ref f)=true)(hb:Q6 X.K fd ps [])
  (ha:sU X B (e::es) as)(hdb:(x==("__debug__":Str))=false:=by decide)(he:starEach (e::es) X.env=(false,eval e X.env)::starEach es X.env:=by rfl)(hpl:(backTo pos (starEach es X.env)).any (·.1)=false:=by rfl):
  EL X B (.Call (.Name x p) (e::es) [] pos) (M1 ps.length fn as):=by
 refine d7 (FA F hr hg hm hk hb .nil HF ha hdb he hpl) ?_
 rintro σ H Q ⟨G,env,d,env',rl,e,k⟩;obtain⟨⟨r,a9⟩,e1,e2⟩:=C6 e;cases r with
 |d d'=>cases e2
 |l ds=>cases e2;exact Mg rl e1 k
end
def O9(cells:List (Str×Addr)):List (Str×NameKind)->List (Str×Addr)->List (Str×Addr)
 |[],acc=>acc
 |(n,k)::r,acc=>if k==.free then(match cells.lookup n with
  |some c=>O9 cells r ((n,c)::acc)
  |none=>O9 cells r acc)else O9 cells r acc
theorem T9{n:Str}{a:α}{r:List (Str×α)}:((n,a)::r).lookup x=if x=n then some a else r.lookup x:=by
 rw[Tj]
 by_cases h:x=n
 ·subst h;simp
 ·have:(x==n)=false:=by simpa using h
  rw[this,Qs h]
theorem BR{cells:List (Str×Addr)}:∀{names:List (Str×NameKind)}{acc:List (Str×Addr)}{x:Str}{c:Addr},(O9 cells names acc).lookup x=some c->acc.lookup x=some c\/cells.lookup x=some c
 |[],acc,x,c,h=>.inl h
 |(n,k)::r,acc,x,c,h=>by
  unfold O9 at h;split at h
  ·split at h
   ·rename_i c' hc
    rcases BR h with q|q
    ·rw[T9]at q
     split at q
     ·rename_i e;subst e;cases q;exact .inr hc
     ·exact .inl q
    ·exact .inr q
   ·exact BR h
  ·exact BR h
theorem FR{cells:List (Str×Addr)}:∀{names:List (Str×NameKind)}{acc:List (Str×Addr)}{x:Str},(acc.lookup x).isSome=true->((O9 cells names acc).lookup x).isSome=true
 |[],acc,x,h=>h
 |(n,k)::r,acc,x,h=>by
  unfold O9;split
  ·split
   ·refine FR ?_
    rw[T9];split<;>simp[h]
   ·exact FR h
  ·exact FR h
theorem Bx{cells:List (Str×Addr)}:∀{names:List (Str×NameKind)}{acc:List (Str×Addr)}{x:Str},(x,NameKind.free)∈names->(cells.lookup x).isSome=true->((O9 cells names acc).lookup x).isSome=true
 |[],acc,x,h,_=>by cases h
 |(n,k)::r,acc,x,h,hc=>by
  unfold O9
  rcases Ql.mp h with e|h
  ·cases e
   rw[Qh (by decide)]
   split
   ·refine FR ?_
    rw[T9];simp
   ·rename_i hn;rw[hn]at hc;cases hc
  ·split
   ·split
    ·exact Bx h hc
    ·exact Bx h hc
   ·exact Bx h hc
theorem He:∀{names:List (Str×NameKind)}{h:Heap}{acc:List (Str×Addr)}{x:Str}{c:Addr},(cellsFrom h.objs.size names acc).lookup x=some c->
  acc.lookup x=some c\/((pushCells h names).IsCell c none/\h.objs.size≤c/\(x,NameKind.cell)∈names)
 |[],h,acc,x,c,q=>.inl q
 |(n,k)::r,h,acc,x,c,q=>by
  unfold cellsFrom at q;unfold pushCells;split at q
  ·rename_i hk
   rw[Qh hk];have hk':k=.cell:=by simpa using hk
   have ih:=He (names:=r) (h:=h.push {cls:=.type "cell",data:=.cell none}) (acc:=(n,h.objs.size)::acc) (x:=x) (c:=c) (by rw[Yp];exact q)
   rcases ih with z|⟨z1,z2,z3⟩
   ·rw[T9]at z
    split at z
    ·rename_i e;subst e;cases z
     exact .inr ⟨⟨_,Xj _ _ _ _ (Qn _ rfl),rfl⟩,Qm _,by rw[hk'];exact Zq⟩
    ·exact .inl z
   ·rw[Yp]at z2
    exact .inr ⟨z1,by omega,Qr _ z3⟩
  ·rename_i hk
   rw[Qs hk]
   rcases He q with z|⟨z1,z2,z3⟩
   ·exact .inl z
   ·exact .inr ⟨z1,z2,Qr _ z3⟩
theorem Hf:∀{names:List (Str×NameKind)}{n:Nat}{acc:List (Str×Addr)},(∀x y c,acc.lookup x=some c->acc.lookup y=some c->x=y)->(∀x c,acc.lookup x=some c->c<n)->
  ∀x y c,(cellsFrom n names acc).lookup x=some c->(cellsFrom n names acc).lookup y=some c->x=y
 |[],n,acc,h1,h2=>h1
 |(m,k)::r,n,acc,h1,h2=>by
  unfold cellsFrom;split
  ·refine Hf (names:=r) (fun x y c q1 q2=>?_) (fun x c q=>?_)
   ·rw[T9]at q1 q2
    split at q1<;>split at q2
    ·rename_i e1 e2;rw[e1,e2]
    ·cases q1;exact absurd (h2 _ _ q2) (Jk _)
    ·cases q2;exact absurd (h2 _ _ q1) (Jk _)
    ·exact h1 x y c q1 q2
   ·rw[T9]at q
    split at q
    ·cases q;exact Tx _
    ·exact Ua (h2 _ _ q)
  ·exact Hf (names:=r) h1 h2
theorem FT{env:Env}{x:Str}:∀{names:List (Str×NameKind)},((names.map fun(n,k)=>if(k==NameKind.free&&env.scope.kind==.function&&env.kindOf n==some .cell)then(n,NameKind.cell)else(n,k)).lookup x)=
  (names.lookup x).map fun k=>if(k==NameKind.free&&env.scope.kind==.function&&env.kindOf x==some .cell)then NameKind.cell else k
 |[]=>rfl
 |(n,k)::r=>by
  have ih:=FT (env:=env) (x:=x) (names:=r)
  show List.lookup x ((if(k==NameKind.free&&env.scope.kind==.function&&env.kindOf n==some .cell)=true then(n,NameKind.cell)else(n,k))::_)=_
  by_cases hx:x=n
  ·subst hx
   rw[T9 (a:=k),Qh rfl]
   by_cases hc:(k==NameKind.free&&env.scope.kind==.function&&env.kindOf x==some .cell)=true
   ·rw[Qh hc,T9,Qh rfl]
    show _=some (if(k==NameKind.free&&env.scope.kind==.function&&env.kindOf x==some .cell)=true then NameKind.cell else k)
    rw[Qh hc]
   ·rw[Qs hc,T9,Qh rfl]
    show _=some (if(k==NameKind.free&&env.scope.kind==.function&&env.kindOf x==some .cell)=true then NameKind.cell else k)
    rw[Qs hc]
  ·rw[T9 (a:=k),Qs hx]
   by_cases hc:(k==NameKind.free&&env.scope.kind==.function&&env.kindOf n==some .cell)=true
   ·rw[Qh hc,T9,Qs hx];exact ih
   ·rw[Qs hc,T9,Qs hx];exact ih
theorem FU:∀{names:List (Str×NameKind)}{n:Nat}{acc:List (Str×Addr)}{x:Str}{c0:Addr},acc.lookup x=some c0->∃c,(cellsFrom n names acc).lookup x=some c/\(c=c0\/n≤c)
 |[],n,acc,x,c0,h=>⟨c0,h,.inl rfl⟩
 |(m,k)::r,n,acc,x,c0,h=>by
  unfold cellsFrom;split
  ·by_cases hx:x=m
   ·obtain⟨c,h1,h2⟩:=FU (names:=r) (n:=n+1) (acc:=(m,n)::acc) (x:=x) (c0:=n) (by rw[T9,Qh hx])
    exact⟨c,h1,.inr (h2.elim (fun z=>Nat.le_of_eq z.symm) fun z=>Jo z)⟩
   ·obtain⟨c,h1,h2⟩:=FU (names:=r) (n:=n+1) (acc:=(m,n)::acc) (x:=x) (c0:=c0) (by rw[T9,Qs hx];exact h)
    exact⟨c,h1,h2.elim .inl fun z=>.inr (Jo z)⟩
  ·exact FU h
theorem Hg:∀{names:List (Str×NameKind)}{n:Nat}{acc:List (Str×Addr)}{x:Str},(x,NameKind.cell)∈names->∃c,(cellsFrom n names acc).lookup x=some c/\n≤c
 |[],n,acc,x,h=>by cases h
 |(m,k)::r,n,acc,x,h=>by
  unfold cellsFrom
  rcases Ql.mp h with e|h
  ·cases e
   rw[Qh (by decide)]
   obtain⟨c,h1,h2⟩:=FU (names:=r) (n:=n+1) (acc:=(m,n)::acc) (x:=m) (c0:=n) (by rw[T9,Qh rfl])
   exact⟨c,h1,h2.elim (fun z=>Nat.le_of_eq z.symm) fun z=>Jo z⟩
  ·split
   ·obtain⟨c,h1,h2⟩:=Hg (names:=r) (n:=n+1) (acc:=(m,n)::acc) h
    exact⟨c,h1,Jo h2⟩
   ·exact Hg h
def Cp(scope:Scope)(env:Env)(C:Addr):Env:=
 {scope:=relabel scope env,locals:=C,globals:=env.globals,cells:=cellsFrom (C+1) scope.names (O9 env.cells scope.names []),qual:=env.qual,func:=none,code:=env.code,frame:=env.frame,builtins:=env.builtins}
def J2(X:Cx)(N':List Str)(scope:Scope)(s:Shared)(H:Hp)(fp:List Addr):Cx where
 prog:=X.prog
 w:=X.w
 K:=X.K
 mg:=X.mg
 base:=X.base
 A:=X.A
 N:=N'
 s₀:=s
 H₀:=H
 env:=Cp scope X.env s.heap.objs.size
 outer:=X.stack
 stack:=X.stack
 ex:=fp
 fn:=fun x=>scope.names.lookup x==some .cell
 calm:=X.calm
 pn:=[]
 xe:=fun _ _=>False
structure nE(X:Cx)(N':List Str)(scope:Scope)(keep:List Bool)(more:Nat):Prop where
 kind:scope.kind=.function
 uniq:∀y∈scope.names,scope.names.lookup y.1=some y.2
 clos:closureFor scope X.env=pure (O9 X.env.cells scope.names [])
 free:∀y∈scope.names,y.2=.free->(X.env.cells.lookup y.1).isSome=true
 klen:keep.length=X.N.length
 len:N'.length=X.N.length+more
 kept:∀(i:Nat) (x:Str),keep[i]? =some true->N'[i]? =some x->X.N[i]? =some x/\scope.names.lookup x≠some .local/\scope.names.lookup x≠some .cell
 outVis:∀(i:Nat) (x:Str),keep[i]? =some true->X.N[i]? =some x->scope.names.lookup x=some .free->X.env.scope.names.lookup x=some .cell\/X.env.scope.names.lookup x=some .free
def P0(keep:List Bool)(more:Nat)(σ:St):St:=List.zipWith (fun k v=>if k then v else none) keep σ++List.replicate more none
theorem By(h:(P0 keep more σ)[i]? =some (some v)):keep[i]? =some true/\σ[i]? =some (some v):=by
 unfold P0 at h
 rcases BP h with⟨_,h⟩|⟨_,h⟩
 ·rw[Jp]at h
  cases e1:keep[i]? with
  |none=>rw[e1]at h;cases h
  |some k=>
   cases e2:σ[i]? with
   |none=>rw[e1,e2]at h;cases h
   |some u=>
    rw[e1,e2]at h;cases k with
    |true=>simp at h;exact⟨rfl,by rw[h]⟩
    |false=>simp at h
 ·cases h
theorem WU{fp:List Addr}(ok:nE X N' scope keep more)(I:Inv X pins σ H s)
  (hf:∀b∈fp,T3 X pins H b/\b<s.heap.objs.size):
  Inv (J2 X N' scope s H fp) [] (P0 keep more σ) H {s with heap:=pushCells (s.heap.push {cls:=.type "dict",data:=.dict #[]}) scope.names}:=by
 have hsz:(s.heap.push {cls:=.type "dict",data:=.dict #[]}).objs.size=s.heap.objs.size+1:=Yp ..
 have keepAll:∀b u,s.heap.get? b=some u->(pushCells (s.heap.push {cls:=.type "dict",data:=.dict #[]}) scope.names).get? b=some u:=fun b u e=>Xj _ _ _ _ (Qv _ e)
 have cases':∀x c,(Cp scope X.env s.heap.objs.size).cells.lookup x=some c->X.env.cells.lookup x=some c\/((pushCells (s.heap.push {cls:=.type "dict",data:=.dict #[]}) scope.names).IsCell c none/\s.heap.objs.size+1≤c/\(x,NameKind.cell)∈scope.names):=fun x c e=>by
  have e':(cellsFrom ((s.heap.push {cls:=.type "dict",data:=.dict #[]}).objs.size) scope.names (O9 X.env.cells scope.names [])).lookup x=some c:=by rw[hsz];exact e
  rcases He e' with z|⟨z1,z2,z3⟩
  ·rcases BR z with y|y
   ·cases y
   ·exact .inl y
  ·rw[hsz]at z2;exact .inr ⟨z1,z2,z3⟩
 have cellLt:∀x c,X.env.cells.lookup x=some c->c<s.heap.objs.size:=fun x c e=>by
  obtain⟨v,q⟩:=I.cell x c e;exact q.lt
 have fsSub:∀b∈nR X.stack,b<s.heap.objs.size:=fun b hb=>by
  obtain⟨_,o,ho,_⟩:=I.stack.mem hb;exact Qu ho
 refine⟨⟨I.ok.mod,?_,I.ok.glob,I.ok.blt,Qm _,fun x y c e1 e2=>?_,fun x hx=>?_,fun x c e1 e2=>?_,I.ok.hd,I.ok.frames,.inl rfl,fun b hb=>?_,I.bs,Zr I.ok.bsz I.sz,fun b o e hb=>?_,fun b hb hb2=>?_,I.stack,I.stkFree⟩,
  rfl,I.bare,Un.kept keepAll,⟨fun _=>none,(Heap.Ns.new s.heap (.type "dict")).keeps (Xj _ _),fun i x v e1 e2 e3=>?_⟩,fun x c e=>?_,I.hok.fresh (Qm _),fun x c e=>?_,fun p hp=>absurd (show p∈([]:OX)from hp) (by simp),I.hok.kept keepAll,?_⟩
 ·show(relabel scope X.env).kind=.function
  exact ok.kind
 ·refine Hf (names:=scope.names) (n:=s.heap.objs.size+1) (acc:=O9 X.env.cells scope.names []) (fun x y c q1 q2=>?_) (fun x c q=>?_) x y c e1 e2
  ·rcases BR q1 with z1|z1
   ·cases z1
   ·rcases BR q2 with z2|z2
    ·cases z2
    ·exact I.ok.inj x y c z1 z2
  ·rcases BR q with z1|z1
   ·cases z1
   ·exact Ua (cellLt x c z1)
 ·have hx':(relabel scope X.env).names.lookup x=some .cell\/(relabel scope X.env).names.lookup x=some .free:=hx
  have h1:scope.names.lookup x=some .cell\/scope.names.lookup x=some .free:=by
   unfold relabel at hx';rw[FT]at hx';cases q:scope.names.lookup x with
   |none=>rw[q]at hx';simp at hx'
   |some k=>
    rw[q]at hx';cases k<;>simp at hx'<;>first|exact .inl rfl|exact .inr rfl
  refine Yy.mp (Ul scope.names _ _ ?_)
  rcases h1 with h1|h1
  ·exact .inl h1
  ·exact .inr (Bx (Zy h1) (ok.free _ (Zy h1) rfl))
 ·have e1':scope.names.lookup x=some .cell:=by simpa [J2]using e1
  obtain⟨c',q1,q2⟩:=Hg (names:=scope.names) (n:=s.heap.objs.size+1) (acc:=O9 X.env.cells scope.names []) (Zy e1');have e2':(cellsFrom (s.heap.objs.size+1) scope.names (O9 X.env.cells scope.names [])).lookup x=some c:=e2;rw[q1]at e2';cases e2';exact Jo q2
 ·refine⟨Qi (hf b hb).2,fun x c e z=>?_⟩
  rcases cases' x c e with y|⟨_,y,_⟩
  ·exact(hf b hb).1.2.2.2.2.1 x c y z
  ·exact absurd (Qd (hf b hb).2 (Jo y)) (by rw[z];exact Jk _)
 ·have:=(I.bs b o e).1
  rcases(hf b hb).1.2.2.2.1 with z|z
  ·exact I.ok.noex b o e z
  ·exact absurd (Qd (Qu e) (Zr I.ok.bsz z)) (Jk _)
 ·rcases Ql.mp (I.stkSub b hb2)with z|z
  ·exact(hf b hb).1.2.1 z
  ·exact(hf b hb).1.2.2.1 z
 ·obtain⟨k1,k2⟩:=By e2
  obtain⟨h1,h2,h3⟩:=ok.kept i x k1 e1;have e3':(relabel scope X.env).names.lookup x=some .local\/(relabel scope X.env).names.lookup x=some .cell\/(relabel scope X.env).names.lookup x=some .free:=e3;have hfree:scope.names.lookup x=some .free:=by
   unfold relabel at e3';rw[FT]at e3';cases q:scope.names.lookup x with
   |none=>rw[q]at e3';simp at e3'
   |some k=>
    rw[q]at e3' h2 h3;cases k<;>simp at e3' h2 h3<;>rfl
  obtain⟨m,hn,hl⟩:=I.loc;have ov:=ok.outVis i x k1 h1 hfree;obtain⟨u,r,l⟩:=hl i x v h1 k2 (.inr ov);refine⟨u,r,.inr ?_⟩;obtain⟨c0,hc0⟩:=Yy.mp (ok.free _ (Zy hfree) rfl);have hcell:s.heap.IsCell c0 (some u):=by
   rcases l with⟨kl,_⟩|⟨_,c,hc,hz⟩
   ·have kl':X.env.scope.names.lookup x=some .local:=kl
    rcases ov with z|z<;>(rw[z]at kl';cases kl')
   ·have hc':X.env.cells.lookup x=some c:=hc
    have hc0':X.env.cells.lookup x=some c0:=hc0
    rw[hc']at hc0';cases hc0';exact hz
  have hk:(Cp scope X.env s.heap.objs.size).kindOf x=some .cell\/(Cp scope X.env s.heap.objs.size).kindOf x=some .free:=by
   show(relabel scope X.env).names.lookup x=some .cell\/(relabel scope X.env).names.lookup x=some .free
   rcases e3' with z|z
   ·exfalso
    unfold relabel at z;rw[FT,hfree]at z;simp only[Jx,Za]at z;split at z<;>cases z
   ·exact z
  refine⟨hk,c0,?_,hcell.keeps keepAll⟩;obtain⟨c1,hc1⟩:=Yy.mp (Ul (x:=x) scope.names (s.heap.objs.size+1) (O9 X.env.cells scope.names []) (.inr (Bx (Zy hfree) (ok.free _ (Zy hfree) rfl))));have hc1':(Cp scope X.env s.heap.objs.size).cells.lookup x=some c1:=hc1
  rcases cases' x c1 hc1' with z|⟨_,_,z⟩
  ·have hc0':X.env.cells.lookup x=some c0:=hc0
   rw[hc0']at z;cases z;exact hc1'
  ·have:=ok.uniq _ z
   rw[hfree]at this;cases this
 ·rcases cases' x c e with y|⟨y,_,_⟩
  ·obtain⟨v,q⟩:=I.cell x c y
   exact⟨v,q.keeps keepAll⟩
  ·exact⟨none,y⟩
 ·rcases cases' x c e with y|⟨_,y,_⟩
  ·exact I.freeC x c y
  ·exact I.hok.fresh (by omega)
 ·show(P0 keep more σ).length=N'.length
  unfold P0;rw[Qt,Yd,Yx,ok.len,ok.klen,I.len]
  omega
section
variable{prog:Program}{w:World}{A:Around}{R:Result->Shared->Prop}
theorem WV{M:Model}{env:Env}{Q:Env->Shared->Prop}(cl:List (Str×Addr))
  (h:Q {scope:=scope,locals:=s.heap.objs.size,globals:=env.globals,cells:=cellsFrom (s.heap.objs.size+1) scope.names cl,qual:=env.qual,func:=none,code:=env.code,frame:=env.frame,builtins:=env.builtins}
   {s with heap:=pushCells (s.heap.push {cls:=.type "dict",data:=.dict #[]}) scope.names}):
  wpAny M A (newFunctionEnv scope env.globals cl [] env.qual none .none (some env)) Q E s:=by
 simp only[newFunctionEnv,Option.isSome_some,Zn];refine Qq (wpAny_alloc ?_);refine Qq (wpAny_layCells _ (fun name kind cells=>by cases hkc:kind==NameKind.cell<;>simp[hkc]) _ _ _ _ ?_)
 rw[show({s with heap:=s.heap.push {cls:=.type "dict",data:=.dict #[]}}:Shared).heap.objs.size=s.heap.objs.size+1 from Yp ..]
 exact Qq (by rw[Xg];exact Qy (Qy h))
end
def V4(X:Cx)(ifs:List Expr)(t:TT):Prop:=
 ∀(pins:OX) (s:Shared) (σ:St) (H:Hp) (Q:Bool->Hp->Prop),Inv X pins σ H s->t σ H Q->
  wpAny (model X.prog X.w) X.A (forIn ifs true fun c r=>if r=true then do let ok←isTrue c X.env (eval c X.env);pure (ForInStep.yield ok)else pure (ForInStep.yield r)) (TP X pins σ Q) X.xe s
theorem WX:V4 X [] (fun _ H Q=>Q true H):=fun _ _ _ H _ I h=>wpAny_tests_nil ⟨H,I,h⟩
theorem WY{t:TT}(h:PT X c t):V4 X [c] t:=fun pins s σ H Q I q=>wpAny_tests_one (h pins s σ H Q I q)
section
variable{elt:Expr}{ifs:List Expr}{g:TG}{tt:TT}{te:TE}{pos:Pos}
end
def P1(keep:List Bool)(more:Nat)(env:b0):b0:=List.zipWith (fun k w=>if k then w else .nil) keep env++List.replicate more .nil
def Y1:Bool->W->W->Option W
 |false,w,_=>some w
 |true,.nil,_=>some .nil
 |true,.dat d,_=>some (.dat d)
 |true,.own _,.own ds=>some (.own ds)
 |true,.own _,.dat d=>some (.dat d)
 |true,.par _,.par ds=>some (.par ds)
 |true,.ownD _ _,.ownD ks vs=>some (.ownD ks vs)
 |true,.ownD _ _,.dat d=>some (.dat d)
 |true,.parD _ _,.parD ks vs=>some (.parD ks vs)
 |_,_,_=>none
theorem WZ{w':W}(h:Y1 true w w2=some w')(e:w'.mut=some m):w2=w'/\∃d0,w.mut=some d0/\w.isOwn=w'.isOwn/\w.isPar=w'.isPar:=by
 cases w<;>cases w2<;>first
  |(simp only[Y1,Za]at h;subst h;exact⟨rfl,_,rfl,rfl,rfl⟩)
  |(simp only[Y1,Za]at h;subst h;cases e;done)
  |(simp[Y1]at h;done)
theorem Wa(h:Y1 true w w2=some (.dat d)):w=.dat d\/(w2=.dat d/\∃d0,w.mut=some d0):=by
 cases w<;>cases w2<;>first
  |(simp only[Y1,Za]at h;exact .inl h)
  |(simp only[Y1,Za]at h;exact .inr ⟨h,_,rfl⟩)
  |(simp[Y1]at h;done)
def N8:List Bool->b0->b0->Option b0
 |[],[],_=>some []
 |k::ks,w::ws,w2::vD=>(Y1 k w w2).bind fun x=>(N8 ks ws vD).map fun r=>x::r
 |_,_,_=>none
theorem Hh:∀{keep:List Bool}{env g0 env':b0}{i:Nat}{w':W},N8 keep env g0=some env'->env'[i]? =some w'->∃k w w2,keep[i]? =some k/\env[i]? =some w/\g0[i]? =some w2/\Y1 k w w2=some w'
 |[],[],_,env',i,w',h,e=>by simp only[N8,Za]at h;subst h;simp at e
 |[],_::_,_,env',i,w',h,e=>by simp[N8]at h
 |k::ks,[],_,env',i,w',h,e=>by simp[N8]at h
 |k::ks,w::ws,[],env',i,w',h,e=>by simp[N8]at h
 |k::ks,w::ws,w2::vD,env',i,w',h,e=>by
  unfold N8 at h;obtain⟨x,h1,h2⟩:=C6 h;obtain⟨r,h3,h4⟩:=F5 h2;subst h4;cases i with
  |zero=>simp at e;subst e;exact⟨k,w,w2,rfl,rfl,rfl,h1⟩
  |succ i=>simpa using Hh (i:=i) h3 (by simpa using e)
theorem Mh:∀{keep:List Bool}{env g0 env':b0},N8 keep env g0=some env'->env'.length=env.length
 |[],[],_,env',h=>by simp only[N8,Za]at h;subst h;rfl
 |[],_::_,_,env',h=>by simp[N8]at h
 |k::ks,[],_,env',h=>by simp[N8]at h
 |k::ks,w::ws,[],env',h=>by simp[N8]at h
 |k::ks,w::ws,w2::vD,env',h=>by
  unfold N8 at h;obtain⟨x,h1,h2⟩:=C6 h;obtain⟨r,h3,h4⟩:=F5 h2;subst h4
  simp[Mh h3]
theorem Bz(h:(P1 keep more env)[i]? =some w)(hw:w≠.nil):keep[i]? =some true/\env[i]? =some w:=by
 unfold P1 at h
 rcases BP h with⟨_,h⟩|⟨_,h⟩
 ·rw[Jp]at h
  cases e1:keep[i]? with
  |none=>rw[e1]at h;cases h
  |some k=>
   cases e2:env[i]? with
   |none=>rw[e1,e2]at h;cases h
   |some u=>
    rw[e1,e2]at h;cases k with
    |true=>simp at h;exact⟨rfl,by rw[h]⟩
    |false=>simp at h;exact absurd h.symm hw
 ·exact absurd h hw
theorem Dt{v:Option V}(hk:keep[i]? =some true)(h:σ[i]? =some v):(P0 keep more σ)[i]? =some v:=by
 unfold P0;have h1:i<keep.length:=(Qp.mp hk).1;have h2:i<σ.length:=(Qp.mp h).1;rw[Yw (by rw[Yd];omega),Jp,hk,h]
 rfl
theorem Du{ds:Mu}(h:w.mut=some ds):w≠.nil:=fun z=>by rw[z]at h;cases h
section
variable{K:Qz}{g0:b0}
theorem Hi(h:d6 (P0 keep more σ) (P1 keep more env) a):d6 σ env a:=by
 obtain⟨i,w,ds,e1,e2,e3⟩:=h;exact⟨i,w,ds,(Bz e1 (Du e2)).2,e2,(By e3).2⟩
theorem Rel.ext(r:Rel K B G σ env H)(hk:keep.length=σ.length):Rel K B G (P0 keep more σ) (P1 keep more env) H:=by
 refine⟨r.sub,?_,fun i d e=>?_,fun i w ds e1 e2=>?_,fun i j w w' ds es a q1 q2 q3 q4 q5 q6=>?_,fun i w a q1 qo q2=>?_,r.old,r.tabs,r.gnt⟩
 ·unfold P1 P0
  rw[Qt,Qt,Yd,Yd,Yx,Yx,r.len]
 ·obtain⟨k1,k2⟩:=Bz e (by simp)
  obtain⟨v,e1,e2⟩:=r.dat i d k2;exact⟨v,Dt k1 e1,e2⟩
 ·obtain⟨k1,k2⟩:=Bz e1 (Du e2)
  obtain⟨a,xs,e3,e4⟩:=r.own i w ds k2 e2;exact⟨a,xs,Dt k1 e3,e4⟩
 ·exact r.inj i j w w' ds es a (Bz q1 (Du q2)).2 q2 (Bz q3 (Du q4)).2 q4 (By q5).2 (By q6).2
 ·exact r.fresh i w a (Bz q1 (by rintro rfl;cases qo)).2 qo (By q2).2
theorem Ev.out(r:Rel K B G σ env H)(hk:keep.length=σ.length)(ev:Ev K B G (P0 keep more σ) (P1 keep more env) H G' σ' g0 H')(hσ:∀j,j<σ.length->σ'[j]? =(P0 keep more σ)[j]?)(ho:N8 keep env g0=some env'):
  Ev K B G σ env H G' σ env' H':=by
 have mutO:∀(i:Nat) (w':W) (ds:Mu),env'[i]? =some w'->w'.mut=some ds->∃w0 d0,env[i]? =some w0/\w0.mut=some d0/\w0.isOwn=w'.isOwn/\w0.isPar=w'.isPar/\
   ∃a o,σ[i]? =some (some (V.ref a))/\H' a=some o/\pC K G' o ds/\G' a=none:=fun i w' ds e1 e2=>by
  obtain⟨k,w,w2,h1,h2,h3,h4⟩:=Hh ho e1;have hi:i<σ.length:=by have:=(Qp.mp h2).1;rw[←r.len];exact this
  cases k with
  |false=>
   simp only[Y1,Za]at h4;subst h4;obtain⟨a,xs,q1,q2,q3,q4⟩:=r.own i w ds h2 e2;have no:¬ d6 (P0 keep more σ) (P1 keep more env) a:=by
    rintro⟨j,v,es,y1,y2,y3⟩;obtain⟨z1,z2⟩:=Bz y1 (Du y2);have:=r.inj j i v w es ds a z2 y2 h2 e2 (By y3).2 q1;subst this;rw[h1]at z1;cases z1
   exact⟨w,ds,h2,e2,rfl,rfl,a,xs,q1,ev.keep a _ no q3.nt q2,q3.mono ev.same,ev.stay a (by rw[q2];simp) no q4⟩
  |true=>
   obtain⟨z,d0,z1,z2,z3⟩:=WZ h4 e2;subst z;refine⟨w,d0,h2,z1,z2,z3,?_⟩;obtain⟨a,xs,q1,q2,q3,q4⟩:=ev.rel.own i w2 ds h3 e2;obtain⟨a0,xs0,p1,_⟩:=r.own i w d0 h2 z1;rw[hσ i hi,Dt h1 p1]at q1;cases q1;exact⟨a,xs,p1,q2,q3,q4⟩
 refine⟨⟨ev.rel.sub,by rw[Mh ho];exact r.len,fun i d e=>?_,fun i w ds e1 e2=>?_,fun i j w w' ds es a q1 q2 q3 q4 q5 q6=>?_,fun i w a q1 qo q2=>?_,ev.rel.old,ev.rel.tabs,ev.rel.gnt⟩,ev.same,fun b o n t e=>ev.keep b o (fun z=>n (Hi z)) t e,ev.live,fun b e n g=>ev.stay b e (fun z=>n (Hi z)) g,fun a z=>.inl ?_,fun i w e hp=>⟨rfl,?_⟩,rfl⟩
 ·obtain⟨k,w,w2,h1,h2,h3,h4⟩:=Hh ho e
  have hi:i<σ.length:=by have:=(Qp.mp h2).1;rw[←r.len];exact this
  have old:w=.dat d->∃v,σ[i]? =some (some v)/\c4 K G' v d:=fun z=>by
   subst z;obtain⟨v,e1,e2⟩:=r.dat i d h2;exact⟨v,e1,c4.mono ev.same d e2⟩
  cases k with
  |false=>simp only[Y1,Za]at h4;exact old h4
  |true=>
   rcases Wa h4 with z|⟨z,d0,z0⟩
   ·exact old z
   ·subst z
    obtain⟨v,q1,q2⟩:=ev.rel.dat i d h3;obtain⟨a0,xs0,p1,_⟩:=r.own i _ d0 h2 z0;rw[hσ i hi,Dt h1 p1]at q1;cases q1;exact⟨_,p1,q2⟩
 ·obtain⟨w0,d0,_,_,_,_,q⟩:=mutO i w ds e1 e2
  exact q
 ·obtain⟨w0,d0,y1,y2,_⟩:=mutO i w ds q1 q2
  obtain⟨w1,d1,y3,y4,_⟩:=mutO j w' es q3 q4;exact r.inj i j w0 w1 d0 d1 a y1 y2 y3 y4 q5 q6
 ·obtain⟨m,hm⟩:=pG qo
  obtain⟨w0,d0,y1,_,y3,_⟩:=mutO i _ m q1 hm;exact r.fresh i w0 a y1 (y3.trans qo) q2
 ·obtain⟨i,w,ds,e1,e2,e3⟩:=z
  obtain⟨w0,d0,y1,y2,_⟩:=mutO i w ds e1 e2;exact⟨i,w0,d0,y1,y2,e3⟩
 ·obtain⟨m,hm⟩:=oP hp
  obtain⟨w0,d0,y1,_,_,y4,_⟩:=mutO i _ m e hm;exact⟨w0,y1,y4.trans hp⟩
theorem Ev.swapAt(ev:Ev K B G σ env H G' σ' env' H')(no:¬ d6 σ env p)(hp:H p≠none)(gp:G p=none)(nt:NT o)(nx:∀φ,H' p≠some (.ext φ)):Ev K B G σ env (upd H p o) G' σ' env' (upd H' p o):=by
 have np:∀(i:Nat) (w:W) (ds:Mu) (a:Addr),env'[i]? =some w->w.mut=some ds->σ'[i]? =some (some (V.ref a))->a≠p:=fun i w ds a e1 e2 e3 z=>by
  rcases ev.sub a ⟨i,w,ds,e1,e2,e3⟩with q|q
  ·exact no (z ▸ q)
  ·exact hp (z ▸ q)
 have gp':G' p=none:=ev.stay p hp no gp
 have live':∀b,H' b≠none->(upd H' p o) b≠none:=fun b h=>by
  by_cases hb:b=p
  ·subst hb;rw[J0];simp
  ·rw[D7 hb];exact h
 refine⟨⟨fun b u e=>?_,ev.rel.len,ev.rel.dat,fun i w ds e1 e2=>?_,ev.rel.inj,ev.rel.fresh,fun b h=>live' b (ev.rel.old b h),ev.rel.tabs.upd nt nx,ev.rel.gnt⟩,ev.same,fun b u n t e=>?_,fun b e=>?_,fun b e n g=>?_,fun a z=>?_,ev.par,ev.slen⟩
 ·have hb:b≠p:=fun z=>by rw[z,gp']at e;cases e
  rw[D7 hb];exact ev.rel.sub b u e
 ·obtain⟨a,xs,e3,e4,e5,e6⟩:=ev.rel.own i w ds e1 e2
  exact⟨a,xs,e3,by rw[D7 (np i w ds a e1 e2 e3)];exact e4,e5,e6⟩
 ·by_cases hb:b=p
  ·subst hb;rw[J0]at e ⊢;exact e
  ·rw[D7 hb]at e ⊢;exact ev.keep b u n t e
 ·by_cases hb:b=p
  ·subst hb;rw[J0];simp
  ·rw[D7 hb]at e ⊢;exact ev.live b e
 ·by_cases hb:b=p
  ·subst hb;exact gp'
  ·rw[D7 hb]at e;exact ev.stay b e n g
 ·obtain⟨i,w,ds,e1,e2,e3⟩:=id z
  rw[D7 (np i w ds a e1 e2 e3)];exact ev.sub a z
end
def N1(g:OZ)(t:Mo Bool)(m:Mo D):List D->Mo (List D)
 |[],env=>some ([],env)
 |d::ds,env=>(g d env).bind fun e1=>(t e1).bind fun p=>if p.1 then(m p.2).bind fun q=>(N1 g t m ds q.2).map fun r=>(q.1::r.1,r.2)else N1 g t m ds p.2
def D8(mi:Mo (List D))(keep:List Bool)(more:Nat)(g:OZ)(t:Mo Bool)(m:Mo D):Mo (List D):=fun env=>(mi env).bind fun p=>if p.1.length≤100000 then
 (N1 g t m p.1 (P1 keep more p.2)).bind fun q=>(N8 keep p.2 q.2).map fun e=>(q.1,e)else none
def F1:Mo Bool:=fun env=>some (true,env)
theorem N3:V4 X [] (pX X.K B F1):=fun pins s σ H Q I h=>by
 obtain⟨G,env,b,env',rl,e,k⟩:=h;cases e;exact WX pins s σ H Q I (k G H (.refl rl))
theorem As{t:Mo Bool}(h:ET X B c t):V4 X [c] (pX X.K B t):=WY h
section
variable{elt:Expr}{ifs:List Expr}{g:OZ}{t:Mo Bool}{m:Mo D}{mi:Mo (List D)}{pos:Pos}
end
section
variable{pos:Pos}{a:Expr}
def rH:D->String
 |.non=>"NoneType"|.bl _=>"bool"|.int _=>"int"|.str _=>"str"|.tup _=>"tuple"|.lst _=>"list"|.emp=>"dict"|.obj _=>"object"|.dct _ _=>"dict"
def L7(K:Qz)(T:String):Prop:=T∈(["tuple","list","int","bool","str"]:List String)
def U0(t T:String):Bool:=t==T||(t=="bool"&&T=="int")
theorem Hj{K:Qz}(h:L7 K T):∀d,(∀o,d≠.obj o)->PySem.W.kitOne K (.type (rH d)) (.type T)=some (U0 (rH d) T):=by
 intro d hd;unfold L7 at h;simp only[Ql,Zd,Jm]at h
 rcases h with rfl|rfl|rfl|rfl|rfl<;>cases d<;>first|rfl|exact absurd rfl (hd _)
theorem Wb{A:Around}{Q:OE}{x:V}{u:Value}(I:Inv X pins σ H s)(l:Le G H)(rx:E3 x u)(rp:c4 X.K G x d)
  (kt:L7 X.K T)(h:∀tk,Q (.bool (U0 (rH d) T)) {s with toks:=tk}):wpAny (model X.prog X.w) A (call (.builtin "isinstance") [u,.type T]) Q E s:=by
 have e:=Hj kt d
 cases d with
 |non=>simp only[c4]at rp;subst rp;exact Ce I rx (.non) (e nofun) h
 |bl b=>simp only[c4]at rp;subst rp;exact Ce I rx (.bl b) (e nofun) h
 |int i=>simp only[c4]at rp;subst rp;exact Ce I rx (.int i) (e nofun) h
 |str z=>simp only[c4]at rp;obtain⟨rp,_⟩:=rp;subst rp;exact Ce I rx (.str z) (e nofun) h
 |tup ds=>
  simp only[c4]at rp;obtain⟨a,xs,rfl,q,_⟩:=rp;cases rx;obtain⟨its,_,⟨o,h1,h2,_⟩,_⟩:=I.tuple (l.sqT q);exact Zg Xm I.kIn ⟨o,h1,h2⟩ (e nofun) (fun z=>nomatch z) h
 |lst ds=>
  simp only[c4]at rp;obtain⟨a,xs,rfl,q,_⟩:=rp;cases rx;obtain⟨its,_,⟨o,n,h1,h2,_⟩,_⟩:=I.list (l.sqL q);exact Zg Vu I.kIn ⟨o,h1,h2⟩ (e nofun) (fun z=>nomatch z) h
 |emp=>
  simp only[c4]at rp;obtain⟨a,kvs,rfl,q⟩:=rp;exact Ce I rx (.dK (l _ _ q)) (e nofun) h
 |dct ks vs=>
  simp only[c4]at rp;obtain⟨a,kvs,rfl,q,_⟩:=rp;exact Ce I rx (.dT (l _ _ q)) (e nofun) h
 |obj o=>
  have h0:U0 "object" T=false:=by
   unfold L7 at kt;simp only[Ql,Zd,Jm]at kt
   rcases kt with rfl|rfl|rfl|rfl|rfl<;>rfl
  have h':∀tk,Q (.bool false) {s with toks:=tk}:=fun tk=>by have:=h tk;rwa [show U0 (rH (.obj o)) T=false from h0]at this
  simp only[c4]at rp;cases o with
  |exc n=>
   obtain⟨a,C,HP,rfl,_,h3,h4,h5⟩:=rp;cases rx;exact Zg h4 I.kIn (I.hok a _ (l _ _ h3)).1 (h5 T kt) (fun z=>nomatch z) h'
  |fn n=>
   obtain⟨f,rfl,_,h4⟩:=rp;cases rx;refine Zg h4 I.kIn True.intro ?_ (fun z=>nomatch z) h'
   unfold L7 at kt;simp only[Ql,Zd,Jm]at kt
   rcases kt with rfl|rfl|rfl|rfl|rfl<;>rfl
  |dk kvs=>
   obtain⟨a,rfl,q⟩:=rp;obtain⟨_,_,vs,_,dd⟩:=(show K2 X.prog X.w H s.heap a (.dK _)from I.hok a _ (l _ _ q))
   obtain⟨o,h1,h2⟩:∃o,s.heap.get? a=some o/\o.cls=.type "dict":=by
    obtain⟨o,es,ep,g1,g2,_⟩:=dd;exact⟨o,g1,g2.1⟩
   cases rx;refine Zg Jq I.kIn ⟨o,h1,h2⟩ ?_ (fun z=>nomatch z) h'
   unfold L7 at kt;simp only[Ql,Zd,Jm]at kt
   rcases kt with rfl|rfl|rfl|rfl|rfl<;>rfl
  |dt kvs=>
   obtain⟨a,ps,rfl,q,_⟩:=rp;obtain⟨_,_,vs,_,dd⟩:=(show K2 X.prog X.w H s.heap a (.dK _)from I.hok a _ (l _ _ q))
   obtain⟨o,h1,h2⟩:∃o,s.heap.get? a=some o/\o.cls=.type "dict":=by
    obtain⟨o,es,ep,g1,g2,_⟩:=dd;exact⟨o,g1,g2.1⟩
   cases rx;refine Zg Jq I.kIn ⟨o,h1,h2⟩ ?_ (fun z=>nomatch z) h'
   unfold L7 at kt;simp only[Ql,Zd,Jm]at kt
   rcases kt with rfl|rfl|rfl|rfl|rfl<;>rfl
theorem Wc{K:Qz}:L7 K "tuple":=by simp[L7]
theorem Wd{K:Qz}:L7 K "list":=by simp[L7]
theorem We{K:Qz}:L7 K "int":=by simp[L7]
theorem Wf{K:Qz}:L7 K "bool":=by simp[L7]
def pE(T:String)(m:Mo D):Mo D:=fun env=>(m env).map fun p=>(.bl (U0 (rH p.1) T),p.2)
theorem R8{p p2:Pos}(kt:L7 X.K T)(ha:ED X B a ma)(hg:Gl X "isinstance")(hm:X.mg "isinstance"=none)(hgT:Gl X y)(hmT:X.mg y=none)(hvT:bootBuiltins y=some (.type T))
  (hnT:y≠"__name__":=by decide)(hdT:(y==("__debug__":Str))=false:=by decide)
  (he:starEach [a,.Name y p2] X.env=[(false,eval a X.env),(false,eval (.Name y p2) X.env)]:=by rfl):ED X B (.Call (.Name "isinstance" p) [a,.Name y p2] [] pos) (pE T ma):=by
 have hT:PE X (.Name y p2) (tC (.ty T)):=Ew hgT hmT hvT rfl hnT hdT
 have hc:P4 X (.builtin "isinstance") (fun xs H Q=>∃x G d,xs=[x,.ty T]/\Le G H/\c4 X.K G x d/\Q (.bl (U0 (rH d) T)) H):=by
  intro pins s σ H xs us Q I r h;obtain⟨x,G,d,rfl,l,rp,q⟩:=h;obtain⟨u,w',rfl,r1,r2⟩:=BM r;cases r2;exact Wb I l r1 rp kt fun tk=>⟨.bl _,H,I.tok _,rfl,q⟩
 have h1:starEach [Expr.Name y p2] X.env=[(false,eval (.Name y p2) X.env)]:=rfl
 refine d7 (Dh (pos:=pos) (p:=p) hc hg hm (by rfl') (R5 ha (R5 hT Aj) he) (he:=he)) ?_
 rintro σ H Q ⟨G,env,d,env',rl,e,k⟩;obtain⟨⟨d1,a9⟩,e1,e2⟩:=F5 e;cases e2;exact .bind rl e1 fun v G1 H1 ev r=>⟨v,G1,d1,rfl,ev.rel.sub,r,k _ G1 H1 ev (by simp only[c4])⟩
def U1:List D->Option Bool
 |[]=>some true
 |.bl b::r=>(U1 r).map fun k=>b&&k
 |_::_=>none
def AD:List D->Option D
 |[.lst ds]=>(U1 ds).map fun k=>.bl k
 |_=>none
theorem Mi{K:Qz}{G:Hp}:∀{ds:List D}{xs:List V}{us:List Value}{k:Bool},C4 K G xs ds->D4 xs us->U1 ds=some k->∃bs,LSm.BoolsAre us bs/\bs.all id=k
 |[],_,us,k,r,v,e=>by
  simp only[C4]at r;subst r;cases v;cases e;exact⟨[],.nil,rfl⟩
 |d::ds,_,us,k,r,v,e=>by
  simp only[C4]at r;obtain⟨x,t,rfl,q,r⟩:=r;cases d<;>first|(exact absurd (show(none:Option Bool)=some k from e) (by simp))|skip
  obtain⟨k',e1,e2⟩:=F5 (show(U1 ds).map _=some k from e)
  simp only[c4]at q;subst q;cases v with
  |cons v1 v2=>
   cases v1;obtain⟨bs,h1,h2⟩:=Mi r v2 e1;exact⟨_::bs,.cons _ h1,by rw[←e2,←h2];rfl⟩
theorem CA(hc:X.calm=true):P4 X (.builtin "all") (fun xs H Q=>∃p G ys ds k,xs=[.ref p]/\Le G H/\oD X.K G p ys/\C4 X.K G ys ds/\U1 ds=some k/\Q (.bl k) H):=by
 intro pins s σ H xs us Q I r h;obtain⟨p,G,ys,ds,k,rfl,l,hq,rp,ek,q⟩:=h;obtain⟨u,rfl,rx⟩:=Ai r;cases rx;obtain⟨its,r',pl,hz⟩:=I.list (l.sqL hq);obtain⟨bs,hb,hk⟩:=Mi rp r' ek;have hh:X.A.handled=none:=I.ok.hd hc;have hl:=pl.isList;have hlt:p<s.heap.objs.size:=by obtain⟨_,e,_⟩:=hl;exact Qu e
 refine call_all_walk (Ut hl ?_);refine⟨s.heap.objs.size,[s.heap.objs.size,p],[s.heap.objs.size],its.toArray.size,_,_,fun i=>(bs[i]?).getD true,rfl,Walks.list (A:=X.A.in1) hh _ p (Qi hlt) its.toArray,
  ⟨⟨_,Qn _ rfl,rfl,rfl⟩,hl.push _⟩,fun i v s' Q' E' hP hQ=>?_,fun h' tk hk'=>?_⟩
 ·obtain⟨b,e,rfl⟩:=hb.get i v (by simpa using hP)
  simp only[e,Option.getD_some]at hQ;exact Yl hQ
 ·have e:((List.range its.toArray.size).all fun i=>(bs[i]?).getD true)=bs.all id:=by
   rw[Qb,hb.length];exact LSm.range_all bs
  rw[e,hk];exact⟨.bl k,H,I.kept (t':=tk) (Vl hk'),rfl,q⟩
theorem Wg:AA X B (fun xs H Q=>∃p G ys ds k,xs=[.ref p]/\Le G H/\oD X.K G p ys/\C4 X.K G ys ds/\U1 ds=some k/\Q (.bl k) H) AD:=by
 intro G σ env H xs ds c Q rl r e k;unfold AD at e;split at e
 ·rename_i ds
  obtain⟨x,rfl,q⟩:=V3 r;obtain⟨k',e1,e2⟩:=F5 e;subst e2;simp only[c4]at q;obtain⟨a,ys,rfl,h1,h2⟩:=q;exact⟨a,G,ys,ds,k',rfl,rl.sub,h1,h2,e1,k _ G H (.refl rl) (by simp only[c4])⟩
 ·cases e
def Cq:List D->Option D
 |[.int i,.int j]=>some (.int (if j>i then j else i))
 |_=>none
def Cr:List D->Option D
 |[.int i,.int j]=>some (.int (if j<i then j else i))
 |_=>none
def U2:List D->Option D
 |[.int i]=>some (.int i)
 |[.bl k]=>some (.int (if k then 1 else 0))
 |_=>none
theorem Wh:AA X B (fun xs H Q=>∃i j,xs=[.int i,.int j]/\Q (.int (if j>i then j else i)) H) Cq:=by
 intro G σ env H xs ds c Q rl r e k;unfold Cq at e;split at e
 ·rename_i i j
  cases e;obtain⟨x,y,rfl,q1,q2⟩:=Dp r;simp only[c4]at q1 q2;subst q1 q2;exact⟨i,j,rfl,k _ G H (.refl rl) (by simp only[c4])⟩
 ·cases e
theorem Wi:AA X B (fun xs H Q=>∃i j,xs=[.int i,.int j]/\Q (.int (if j<i then j else i)) H) Cr:=by
 intro G σ env H xs ds c Q rl r e k;unfold Cr at e;split at e
 ·rename_i i j
  cases e;obtain⟨x,y,rfl,q1,q2⟩:=Dp r;simp only[c4]at q1 q2;subst q1 q2;exact⟨i,j,rfl,k _ G H (.refl rl) (by simp only[c4])⟩
 ·cases e
theorem Wj:AA X B (fun xs H Q=>(∃i,xs=[.int i]/\Q (.int i) H)\/ ∃k,xs=[.bl k]/\Q (.int (if k then 1 else 0)) H) U2:=by
 intro G σ env H xs ds c Q rl r e k;unfold U2 at e;split at e
 ·rename_i i
  cases e;obtain⟨x,rfl,q1⟩:=V3 r;simp only[c4]at q1;subst q1;exact .inl ⟨i,rfl,k _ G H (.refl rl) (by simp only[c4])⟩
 ·rename_i b
  cases e;obtain⟨x,rfl,q1⟩:=V3 r;simp only[c4]at q1;subst q1;exact .inr ⟨b,rfl,k _ G H (.refl rl) (by simp only[c4])⟩
 ·cases e
def i4:List D->Option (List Int)
 |[]=>some []
 |.int i::r=>(i4 r).map fun l=>i::l
 |_::_=>none
theorem AX{K:Qz}{G:Hp}:∀{ds:List D}{xs:List V}{ns:List Int},C4 K G xs ds->i4 ds=some ns->xs=ns.map V.int
 |[],_,ns,r,e=>by simp only[C4]at r;subst r;cases e;rfl
 |d::ds,_,ns,r,e=>by
  simp only[C4]at r;obtain⟨x,t,rfl,q,r⟩:=r;cases d<;>first|(exact absurd (show(none:Option (List Int))=some ns from e) (by simp))|skip
  obtain⟨l,e1,e2⟩:=F5 (show(i4 ds).map _=some ns from e)
  subst e2;simp only[c4]at q;subst q;rw[AX r e1];rfl
def r8(neg:Bool):D->D->Option D
 |.int i,d=>d.items.bind fun ds=>(i4 ds).map fun ns=>.bl (if neg then !ns.contains i else ns.contains i)
 |_,_=>none
theorem Wk(ns:List Int):(ns.map V.int).all X7=true:=by
 induction ns with
 |nil=>rfl
 |cons n ns ih=>simp[X7,ih]
theorem Wl(i:Int)(ns:List Int):vP (.int i) (ns.map V.int)=ns.contains i:=by
 unfold vP
 induction ns with
 |nil=>rfl
 |cons n ns ih=>
  rw[Qg,Xc,ih,Yt]
  congr 1
  show(n==i)=(i==n);exact Bool.beq_comm ..
theorem Wm:nL X B (wV X.K neg) (r8 neg):=by
 intro G σ env H x y a b d Q rl ra rb e k;cases a<;>first|(exact absurd (show(none:Option D)=some d from e) (by simp))|skip
 rename_i i;obtain⟨ds,e1,e2⟩:=C6 (show b.items.bind _=some d from e)
 obtain⟨ns,e3,e4⟩:=F5 e2;subst e4;simp only[c4]at ra;subst ra;obtain⟨p,xs,rfl,h1,h2⟩:=HU rl.sub rb e1;have hx:=AX h2 e3;subst hx;exact⟨p,_,rfl,h1,rfl,Wk ns,k _ G H (.refl rl) (by rw[Wl];simp only[c4])⟩
end
mutual
def qJ:D->PyData
 |.non=>.none
 |.bl b=>.bool b
 |.int i=>.int i
 |.str x=>.str x
 |.tup ds=>.tuple (U3 ds)
 |.lst ds=>.list (U3 ds)
 |.emp=>.dict []
 |.obj _=>.dict []
 |.dct _ _=>.dict []
def U3:List D->List PyData
 |[]=>[]
 |d::ds=>qJ d::U3 ds
end
def uY(d:D):Bool:=SeqAt.shaped (qJ d)
mutual
theorem nT(I:Inv X pins σ H s)(l:Le G H):∀(d:D) (x:V) (u:Value),(qJ d).canLay0=true->E3 x u->c4 X.K G x d->∃as,Reads s.heap u (qJ d) as
 |.non,x,u,c,r,p=>by simp only[c4]at p;subst p;cases r;exact⟨_,.none⟩
 |.bl b,x,u,c,r,p=>by simp only[c4]at p;subst p;cases r;exact⟨_,.bool b⟩
 |.int i,x,u,c,r,p=>by simp only[c4]at p;subst p;obtain⟨t,rfl⟩:=r;exact⟨_,.int i t⟩
 |.str z,x,u,c,r,p=>by simp only[c4]at p;obtain⟨p,_⟩:=p;subst p;obtain⟨t,rfl⟩:=r;exact⟨_,.str z t⟩
 |.tup ds,x,u,c,r,p=>by
  simp only[c4]at p;obtain⟨a,xs,rfl,q,rp⟩:=p;cases r;obtain⟨its,rv,⟨o,h1,h2,n,h3⟩,_⟩:=I.tuple (l.sqT q);have hc:PyData.canLayAll0 (U3 ds)=true:=by simpa [qJ,PyData.canLay0]using c
  obtain⟨as,h⟩:=nU I l ds xs its hc rv rp;exact⟨_,.tuple h1 h2 h3 (by simpa using h)⟩
 |.lst ds,x,u,c,r,p=>by
  simp only[c4]at p;obtain⟨a,xs,rfl,q,rp⟩:=p;cases r;obtain⟨its,rv,⟨o,n,h1,h2,_,h3⟩,_⟩:=I.list (l.sqL q);have hc:PyData.canLayAll0 (U3 ds)=true:=by simpa [qJ,PyData.canLay0]using c
  obtain⟨as,h⟩:=nU I l ds xs its hc rv rp;exact⟨_,.list h1 h2 h3 (by simpa using h)⟩
 |.emp,x,u,c,r,p=>by simp[qJ,PyData.canLay0]at c
 |.obj _,x,u,c,r,p=>by simp[qJ,PyData.canLay0]at c
 |.dct _ _,x,u,c,r,p=>by simp[qJ,PyData.canLay0]at c
theorem nU(I:Inv X pins σ H s)(l:Le G H):∀(ds:List D) (xs:List V) (us:List Value),PyData.canLayAll0 (U3 ds)=true->D4 xs us->C4 X.K G xs ds->∃as,ReadsAll s.heap us (U3 ds) as
 |[],xs,us,c,v,p=>by simp only[C4]at p;subst p;cases v;exact⟨_,.nil⟩
 |d::ds,xs,us,c,v,p=>by
  simp only[C4]at p;obtain⟨x,r,rfl,q,t⟩:=p;have hc:(qJ d).canLay0=true/\PyData.canLayAll0 (U3 ds)=true:=by simpa [U3,PyData.canLayAll0]using c
  cases v with
  |cons v1 v2=>
   obtain⟨as,h1⟩:=nT I l d x _ hc.1 v1 q;obtain⟨bs,h2⟩:=nU I l ds r _ hc.2 v2 t;exact⟨_,.cons h1 h2⟩
end
def uC(K:Qz)(neg:Bool):R2:=fun x y H Q=>∃G a b,Le G H/\c4 K G x a/\c4 K G y b/\uY a=true/\uY b=true/\Q (.bl (if neg then !PyData.eqv (qJ a) (qJ b)else PyData.eqv (qJ a) (qJ b))) H
theorem sM(hu:X.A.units+64<cLine):k8 X (compareOp .Eq) (uC X.K false):=by
 intro pins s σ H x y v u Q I rx ry h;obtain⟨G,a,b,l,ra,rb,ha,hb,q⟩:=h;obtain⟨as,h1⟩:=nT I l a x v (Ud ha) rx ra;obtain⟨bs,h2⟩:=nT I l b y u (Ud hb) ry rb;exact eq_dataH h1 h2 ha hb hu ⟨.bl _,H,I,rfl,q⟩
theorem sN(hu:X.A.units+64<cLine):k8 X (compareOp .NotEq) (uC X.K true):=by
 intro pins s σ H x y v u Q I rx ry h;obtain⟨G,a,b,l,ra,rb,ha,hb,q⟩:=h;obtain⟨as,h1⟩:=nT I l a x v (Ud ha) rx ra;obtain⟨bs,h2⟩:=nT I l b y u (Ud hb) ry rb;exact ne_dataH h1 h2 ha hb hu ⟨.bl _,H,I,rfl,q⟩
def i9(neg:Bool):D->D->Option D:=fun a b=>if uY a&&uY b then some (.bl (if neg then !PyData.eqv (qJ a) (qJ b)else PyData.eqv (qJ a) (qJ b)))else none
theorem uD:nL X B (uC X.K neg) (i9 neg):=by
 intro G σ env H x y a b d Q rl ra rb e k;unfold i9 at e;split at e
 ·rename_i h
  rw[Qw]at h;cases e;exact⟨G,a,b,rl.sub,ra,rb,h.1,h.2,k _ G H (.refl rl) (by simp only[c4])⟩
 ·cases e
def qB(K:Qz):R2:=fun x y H Q=>∃a b xs ys,x=.ref a/\y=.ref b/\nZ K H a xs/\nZ K H b ys/\xs.length+ys.length≤sizeLine/\
 (xs=[]->Q (.ref b) H)/\(ys=[]->Q (.ref a) H)/\(∀p,H p=none->Q (.ref p) (upd H p (.tup (xs++ys))))
theorem sO:k8 X (binaryOp .Add) (qB X.K):=by
 intro pins s σ H x y v u Q I rx ry h;obtain⟨a,b,xs,ys,rfl,rfl,ha,hb,hz,q0,q1,q2⟩:=h;cases rx;cases ry;obtain⟨vs,r1,p1,_⟩:=I.tuple ha;obtain⟨ws,r2,p2,_⟩:=I.tuple hb;have hsz:vs.length+ws.length≤sizeLine:=by rw[←r1.length,←r2.length];exact hz
 obtain⟨⟨cls,dd,data,sl⟩,ho,hc,n,hd⟩:=id p1;obtain⟨⟨cls2,dd2,data2,sl2⟩,ho2,hc2,n2,hd2⟩:=id p2;simp only at hc hd hc2 hd2;subst hc hd hc2 hd2;have e:vs.toArray++ws.toArray=(vs++ws).toArray:=by simp
 by_cases hv:vs=[]
 ·exact concat_meets ⟨_,ho,rfl⟩ ⟨_,ho2,rfl⟩ noFill_tuple_add seq_tuple_add Vg Vy (Vx _ _)
   (tuple_addW0 a b vs.toArray ws.toArray n n2 dd dd2 sl sl2 (by simp[hv])) ⟨ho,ho2,⟨.ref b,H,I,rfl,q0 (r1.nil_iff.mp hv)⟩⟩
 ·by_cases hw:ws=[]
  ·exact concat_meets ⟨_,ho,rfl⟩ ⟨_,ho2,rfl⟩ noFill_tuple_add seq_tuple_add Vg Vy (Vx _ _)
    (tuple_addW1 a b vs.toArray ws.toArray n n2 dd dd2 sl sl2 (by simpa using hv) (by simp[hw])) ⟨ho,ho2,⟨.ref a,H,I,rfl,q1 (r2.nil_iff.mp hw)⟩⟩
  ·refine concat_meets ⟨_,ho,rfl⟩ ⟨_,ho2,rfl⟩ noFill_tuple_add seq_tuple_add Vg Vy (Vx _ _)
    (tuple_addW2 a b vs.toArray ws.toArray n n2 dd dd2 sl sl2 (by simpa using hv) (by simpa using hw) (by rw[Qb,Qb];exact hsz)) ⟨ho,ho2,?_⟩
   rw[e];refine⟨.ref s.heap.objs.size,_,I.laid (t':=s.toks) (o:=.tup (xs++ys)) (fun b ob q=>Qv _ q) (Qm _) ?_,rfl,q2 _ (I.hok.fresh (Qm _))⟩
   exact⟨by rw[Qt];exact hz,_,r1.append r2,W6.new _ _⟩
def uE(K:Qz):R2:=fun x y H Q=>∃a b xs ys,x=.ref a/\y=.ref b/\oD K H a xs/\oD K H b ys/\xs.length+ys.length≤sizeLine/\
 (∀p,H p=none->Q (.ref p) (upd H p (.lst (xs++ys))))
theorem sP:k8 X (binaryOp .Add) (uE X.K):=by
 intro pins s σ H x y v u Q I rx ry h;obtain⟨a,b,xs,ys,rfl,rfl,ha,hb,hz,q2⟩:=h;cases rx;cases ry;obtain⟨vs,r1,p1,_⟩:=I.list ha;obtain⟨ws,r2,p2,_⟩:=I.list hb;have hsz:vs.length+ws.length≤sizeLine:=by rw[←r1.length,←r2.length];exact hz
 obtain⟨⟨cls,dd,data,sl⟩,ho,hc,n,hd⟩:=id p1.isList;obtain⟨⟨cls2,dd2,data2,sl2⟩,ho2,hc2,n2,hd2⟩:=id p2.isList;simp only at hc hd hc2 hd2;subst hc hd hc2 hd2;have e:vs.toArray++ws.toArray=(vs++ws).toArray:=by simp
 refine concat_meets ⟨_,ho,rfl⟩ ⟨_,ho2,rfl⟩ noFill_list_add seq_list_add PySem.F.slot_list_add PySem.F.entry_list_add (PySem.F.args_list_add_2 _ _)
    (list_addW a b vs.toArray ws.toArray n n2 dd dd2 sl sl2 (by rw[Qb,Qb];exact hsz)) ⟨ho,ho2,?_⟩
 rw[e];refine⟨.ref s.heap.objs.size,_,I.lnew (t':=s.toks) (r1.append r2) (by rw[Qt];exact hz),rfl,q2 _ I.fresh⟩
end L2.Mir
namespace L2.Mir
open PySem PySem.Spec PyProof.Rows PySem.Builtin
open AutoSeq1 (wpAny_loadPart')
theorem Wn:fillsNumberSlot (.type "tuple") "mul"=pure false:=
 PySem.fillsNumberSlot_seq (id:="tuple.__mul__") (r:=some (.builtin "tuple.__rmul__")) Vr.lookup (by rfl') F.slot_tuple_rmul.lookup (by rfl')
theorem Wo:seqRepeat? (.type "tuple")=pure (some (.builtin "tuple.__mul__")):=by
 unfold seqRepeat?;rw[PySem.seqSlot_of (T:="tuple") (name:="__mul__") (id:="tuple.__mul__") Vr.lookup (by rfl'),PySem.seqSlot_of (T:="tuple") (name:="__rmul__") (id:="tuple.__rmul__") F.slot_tuple_rmul.lookup (by rfl')]
 rfl
theorem Wq(a:Int)(t:Tok)(l:Addr)(items:Array Value)(n:Nat)(dd:Option Addr)(sl:Array (Option Value)):
  Meets (Builtin.«int.__rmul__» ⟨[.int a t,.ref l],[]⟩) (fun _ R s=>s.heap.get? l=some {cls:=.type "tuple",dict:=dd,data:=.seq items n,slots:=sl}/\R (.ok (.ret Value.notImplemented)) s):=
 .of_wp fun prog w A R s h=>by obtain⟨hp,g,d,tk,os⟩:=s;obtain⟨hl,h⟩:=h;wp_walk;exact⟨_,rfl,h⟩
theorem Wr(l:Addr)(items:Array Value)(n:Nat)(dd:Option Addr)(sl:Array (Option Value))(x:Int)(u:Tok)(hx:x=1):
  Meets (Builtin.«tuple.__mul__» ⟨[.ref l,.int x u],[]⟩) (fun _ R s=>s.heap.get? l=some {cls:=.type "tuple",dict:=dd,data:=.seq items n,slots:=sl}/\R (.ok (.ret (.ref l))) s):=
 .of_wp fun prog w A R s h=>by
  obtain⟨hp,g,d,tk,os⟩:=s;obtain⟨hl,h⟩:=h;subst hx;have f1:=AutoSeq1.idx_int
  wp_walk using Yk hl
  exact⟨_,rfl,h⟩
theorem Ws(l:Addr)(its:List Value)(n:Nat)(dd:Option Addr)(sl:Array (Option Value))(x:Int)(u:Tok)(hi:its≠[])(h1:2≤x)(h2:x<2^63)(hz:its.length * x.toNat≤sizeLine):
  Meets (Builtin.«tuple.__mul__» ⟨[.ref l,.int x u],[]⟩) (fun _ R s=>s.heap.get? l=some {cls:=.type "tuple",dict:=dd,data:=.seq its.toArray n,slots:=sl}/\R (.ok (.ret (.ref s.heap.objs.size))) {s with heap:=s.heap.push {cls:=Value.type "tuple",data:=Data.seq (List.replicate x.toNat its).flatten.toArray}}):=
 .of_wp fun prog w A R s h=>by
  obtain⟨hp,g,d,tk,os⟩:=s;obtain⟨hl,h⟩:=h;have f1:=AutoSeq1.idx_int;have hi':its.toArray.isEmpty=false:=by simpa using hi
  have hb:¬ ((decide (x< -(2^63))||decide (x ≥ 2^63))=true):=by simp;omega
  have hc:¬ ((its.toArray.isEmpty||x==1)=true):=by rw[hi'];simp;omega
  have hd:¬ ((decide (x≤0)||its.toArray.isEmpty)=true):=by rw[hi'];simp;omega
  have e1:(its.toArray.size:Int) * x=((its.length * x.toNat:Nat):Int):=by rw[Qb,Int.natCast_mul,Int.toNat_of_nonneg (by omega)]
  have he:¬ ((its.toArray.size:Int) * x>(2^63-1)/8):=by
   have e2:(sizeLine:Nat)≤(2^63-1)/8:=by decide
   rw[e1];omega
  have hf:¬ (Tuple.tupleTooMany ((its.toArray.size:Int) * x)=true):=by
   rw[e1];intro z;have z':=Xi z
   omega
  have hnew:List.foldl (fun x1 x2=>x1++x2) #[] (List.replicate x.toNat its.toArray)=(List.replicate x.toNat its).flatten.toArray:=by
   have:=MI its x.toNat [];rw[Xx]at this;exact this
  have hsz:sizeOk (.seq (List.replicate x.toNat its).flatten.toArray):=by
   show(List.replicate x.toNat its).flatten.toArray.size≤sizeLine;rw[Qb,MK,Nat.mul_comm];exact hz
  wp_walk using Yk hl
  refine Ug (Zj hb) ?_
  wp_walk using Yk hl
  refine Ug (Zj hc) ?_
  wp_walk using Yk hl
  refine Ug (Zj hd) ?_
  wp_walk using Yk hl
  refine Ug (Zj he) ?_
  wp_walk using Yk hl
  refine Ug (Zj hf) ?_
  rw[hnew]
  wp_walk using Yk hl
  refine Ug (Zj (Nat.not_lt.mpr hsz)) ?_
  wp_walk using Yk hl
  exact⟨_,rfl,h⟩
section
variable{X:Cx}{B:OA}
def FV(K:Qz):R2:=fun x y H Q=>∃a k xs,x=.ref a/\y=.int k/\nZ K H a xs/\xs≠[]/\1≤k/\k<2^63/\xs.length * k.toNat≤sizeLine/\
 (k=1->Q (.ref a) H)/\∀p,H p=none->Q (.ref p) (upd H p (.tup (List.replicate k.toNat xs).flatten))
theorem Wt:k8 X (binaryOp .Mult) (FV X.K):=by
 intro pins s σ H x y v u Q I rx ry h;obtain⟨a,k,xs,rfl,rfl,ha,hne,h1,h2,hz,q1,q2⟩:=h;cases rx;obtain⟨t,rfl⟩:=ry;obtain⟨its,r,⟨⟨cls,dd,data,sl⟩,ho,hc,n,hd⟩,hzz⟩:=I.tuple ha;simp only at hc hd;subst hc hd;refine wpAny_binaryOp_repeat_ref (T:="tuple") (U:="int") (by decide) ⟨_,ho,rfl⟩ (fun s'=>typeIs_int s' k t) Wn F.fills_int_mul F.slot_int_rmul Wo F.slot_int_index.lookup
  (Xo F.slot_int_rmul (typeIs_int s k t) F.entry_int_rmul (F.args_int_rmul_2 _ _) (Wq k t a its.toArray n dd sl)
   ⟨ho,rfl,⟨_,ho,rfl⟩,?_⟩)
 by_cases hk:k=1
 ·exact Xo Vr ⟨_,ho,rfl⟩ F.entry_tuple_mul (F.args_tuple_mul_2 _ _) (Wr a its.toArray n dd sl k t hk) ⟨ho,⟨.ref a,H,I,rfl,q1 hk⟩⟩
 ·refine Xo Vr ⟨_,ho,rfl⟩ F.entry_tuple_mul (F.args_tuple_mul_2 _ _) (Ws a its n dd sl k t (fun z=>hne (r.nil_iff.mp z)) (by omega) h2 (by rw[←r.length];exact hz)) ⟨ho,?_⟩
  refine⟨.ref s.heap.objs.size,_,I.laid (t':=s.toks) (o:=.tup (List.replicate k.toNat xs).flatten) (fun b ob q=>Qv _ q) (Qm _) ?_,rfl,q2 _ (I.hok.fresh (Qm _))⟩
  exact⟨by rw[MK,Nat.mul_comm];exact hz,_,r.rep k.toNat,W6.new _ _⟩
end
section
variable{X:Cx}{B:OA}{pos:Pos}{a b:Expr}{ma mb:Mo D}
def Hk:D->D->Option D
 |.tup xs,.tup ys=>if xs.length+ys.length≤10000 then some (.tup (xs++ys))else none
 |_,_=>none
theorem Hl{n:Nat}(h:n≤10000):n≤sizeLine:=Zr h (by decide)
theorem Wu:nL X B (qB X.K) Hk:=by
 intro G σ env H x y a b d Q rl ra rb e k;cases a<;>cases b<;>first|(exact absurd (show(none:Option D)=some d from e) (by simp))|skip
 rename_i ds es;simp only[Hk]at e;split at e
 ·rename_i hl
  cases e;have ra0:=ra;have rb0:=rb;simp only[c4]at ra rb;obtain⟨p,xs,rfl,q1,r1⟩:=ra;obtain⟨p',ys,rfl,q2,r2⟩:=rb;refine⟨p,p',xs,ys,rfl,rfl,rl.sub.sqT q1,rl.sub.sqT q2,by rw[r1.length,r2.length];exact Hl hl,fun z=>?_,fun z=>?_,fun l hp=>?_⟩
  ·subst z
   have:ds=[]:=List.length_eq_zero_iff.mp r1.length.symm;subst this;exact k _ G H (.refl rl) rb0
  ·subst z
   have:es=[]:=List.length_eq_zero_iff.mp r2.length.symm;subst this;exact k _ G H (.refl rl) (by rw[Ys];exact ra0)
  ·exact k _ _ _ (rl.alloc hp) (Bq J0 (C4.mono (Le.upd (rl.gnone hp)) _ (r1.append r2)))
 ·cases e
def Hm:D->D->Option D
 |.tup [d],.int k=>if 1≤k/\k≤1000 then some (.tup (List.replicate k.toNat d))else none
 |_,_=>none
theorem Wv{α:Type}(x:α)(n:Nat):(List.replicate n [x]).flatten=List.replicate n x:=by
 induction n with
 |zero=>rfl
 |succ n ih=>rw[Yj,Ui,ih,Yj];rfl
theorem Mj{K:Qz}{G:Hp}{x:V}{d:D}(h:c4 K G x d):∀n,C4 K G (List.replicate n x) (List.replicate n d)
 |0=>f7
 |n+1=>by rw[Yj,Yj];exact d8 h (Mj h n)
theorem Ww:nL X B (FV X.K) Hm:=by
 intro G σ env H x y a b d Q rl ra rb e k;unfold Hm at e;split at e
 ·rename_i d0 n
  split at e
  ·rename_i hn
   cases e;have ra0:=ra;simp only[c4]at ra rb;obtain⟨p,xs,rfl,q1,r1⟩:=ra;subst rb;obtain⟨v,rfl,rv⟩:=V3 r1;refine⟨p,n,[v],rfl,rfl,rl.sub.sqT q1,by simp,by omega,by omega,?_,fun z=>?_,fun l hp=>?_⟩
   ·exact Hl (by simp;omega)
   ·subst z
    exact k _ G H (.refl rl) ra0
   ·rw[Wv]
    exact k _ _ _ (rl.alloc hp) (Bq J0 (C4.mono (Le.upd (rl.gnone hp)) _ (Mj rv _)))
  ·cases e
 ·cases e
def D3:=sV AR Hk
def K7:=sV HK Hm
theorem Wx:k8 X (binaryOp .Add) (fun x y H Q=>p7 (fun i j=>.int (i+j)) x y H Q\/qB X.K x y H Q):=k8.or Tt sO
theorem Wz:nL X B (fun x y H Q=>p7 (fun i j=>.int (i+j)) x y H Q\/qB X.K x y H Q) D3:=MP.or Wu
theorem XA:k8 X (binaryOp .Mult) (fun x y H Q=>rI Bm (fun i j=>.int (i * j)) x y H Q\/FV X.K x y H Q):=k8.or UA Wt
theorem XB:nL X B (fun x y H Q=>rI Bm (fun i j=>.int (i * j)) x y H Q\/FV X.K x y H Q) K7:=VX.or Ww
def Q8(ma mb:Mo D):Mo (List D):=fun env=>(ma env).bind fun p=>(mb p.2).bind fun q=>match p.1,q.1 with
 |.lst xs,.lst ys=>if xs.length+ys.length≤10000 then some (xs++ys,q.2)else none
 |_,_=>none
theorem AY(ha:ED X B a ma)(hb:ED X B b mb):EL X B (.BinOp a .Add b pos) (Q8 ma mb):=by
 refine d7 (Lh sP ha hb) ?_
 rintro σ H Q ⟨G,env,ds,env',rl,e,k⟩;obtain⟨⟨d1,a9⟩,e1,e2⟩:=C6 e;obtain⟨⟨d2,g0⟩,e3,e4⟩:=C6 e2;dsimp only at e4 e3;refine .bind rl e1 fun v1 G1 H1 j9 r1=>.bind j9.rel e3 fun v2 G2 H2 f6 r2=>?_
 split at e4
 ·rename_i xs ys
  split at e4
  ·rename_i hl
   cases e4;have r1':=c4.mono f6.same _ r1;simp only[c4]at r1' r2;obtain⟨p,us,rfl,q1,t1⟩:=r1';obtain⟨p',ws,rfl,q2,t2⟩:=r2;exact⟨p,p',us,ws,rfl,rfl,f6.rel.sub.sqL q1,f6.rel.sub.sqL q2,by rw[t1.length,t2.length];exact Hl hl,fun l hp=>FM (j9.trans f6) hp (t1.append t2) k⟩
  ·cases e4
 ·cases e4
end
end L2.Mir
namespace HT
open PySem PySem.Spec PyProof.Rows
variable{Q:OE}
section
variable{prog:Program}{w:World}{A:Around}{E:OE}{s:Shared}
theorem oB{t sl:Addr}{items:Array Value}{vl vu:Value}{lo hi:Option Int}(ht:IsTup s.heap t items)(hs:s.heap.IsSliceOf sl vl vu .none)(pl:IsPart vl lo)(pu:IsPart vu hi)
  (hw:k7 items.size 0 lo=0/\k7 items.size items.size hi=items.size)
  (h:Q (.ref t) s):wpAny (model prog w) A (getItem (.ref t) (.ref sl)) Q E s:=by
 obtain⟨os,hos,hcs,hds⟩:=id hs;have hTs:s.TypeIs (.ref sl) "slice":=⟨os,hos,hcs⟩;unfold getItem
 try with_reducible refine Jb ?_
 first|refine Qq (Qy ?_)|skip
 refine Qq (wpAny_sequenceKey ht.typeIs (by decide) ?_)
 refine Qq (Yh (name:=Str.ofString "__getitem__") ht.typeIs Zb
  (Jh Zb ht.typeIs entry_tuple_getitem ?_ (args_tuple_getitem _ _)))
 show wpAny _ _ (Builtin.Tuple.tupleItemsOf (.ref t)>>=_) _ _ s;refine Qq (tupleItemsOf_ ht ?_);refine Qq (wpAny_typeOf hTs ?_);rw[Qh (by decide)]
 refine Qq (nF hs pl pu ?_);have hno:((((k7 items.size 0 lo:Nat):Int)==0&&(1:Int)==1&&(k7 items.size items.size hi-k7 items.size 0 lo)==items.size)=true):=by
  rw[hw.1,hw.2];simp
 show wpAny _ _ (if(((k7 items.size 0 lo:Nat):Int)==0&&(1:Int)==1&&(k7 items.size items.size hi-k7 items.size 0 lo)==items.size)=true then _ else _) _ _ s
 rw[Qh hno];refine Qq (Qq (m:=typeOf (.ref t)) (wpAny_typeOf ht.typeIs (Qy ?_)));rw[Qh (by decide)]
 refine Qq (Uq ?_)
 first
  |exact Qy ⟨_,rfl,Qy h⟩
  |exact Qq (Qy ⟨_,rfl,Qy h⟩)
  |exact Qq (Qq (Qy ⟨_,rfl,Qy h⟩))
theorem o4{sl:Addr}{t:Tok}{n:Nat}{Q:Int×Int×Nat->Shared->Prop}(hs:s.heap.IsSliceOf sl .none .none (.int (-1) t))
  (h:Q ((n:Int)-1,-1,n) s):wpAny (model prog w) A (Builtin.Slice.sliceApplied (.ref sl) (pure (n:Int))) Q E s:=by
 obtain⟨os,hos,hcs,hds⟩:=id hs;unfold Builtin.Slice.sliceApplied Builtin.Slice.sliceFields;refine Qq (Qq (Yz hos hds (x:=.none) rfl (Qq (Yz hos hds (x:=.none) rfl (Qq (Yz hos hds (x:=.int (-1) t) rfl (Qy ?_)))))));refine Qq (slicePart_int ?_);show wpAny _ _ (if((-1:Int)==0)=true then _ else _) _ _ s
 rw[Qs (by decide)]
 refine Qq (slicePart_none (Qq (slicePart_none (Qq (Qy ?_)))));have e:Builtin.Slice.slicePlaces ((n:Int)-1) (-1) (-1)=n:=by
  unfold Builtin.Slice.slicePlaces;have h1:¬ ((-1:Int)>0):=by omega
  simp only[h1,Yu];split
  ·rw[show(- -1:Int)=1 by decide,Int.ediv_one];omega
  ·omega
 show wpAny _ _ (pure ((n:Int)-1,(-1:Int),Builtin.Slice.slicePlaces ((n:Int)-1) (-1) (-1))) _ _ s;rw[e];exact Qy h
theorem nG{α β:Type}{f g:α->Option β}:∀{l:List α},(∀x∈l,f x=g x)->l.filterMap f=l.filterMap g
 |[],_=>rfl
 |a::l,h=>by
  rw[Jg,Jg,h a (by simp),nG (l:=l) fun x hx=>h x (by simp[hx])]
theorem sQ(xs:Array Value):((List.range xs.size).filterMap fun(m:Nat)=>xs[(((xs.size:Int)-1)+(m:Int) * (-1)).toNat]?).toArray=xs.toList.reverse.toArray:=by
 have h:=PySem.W.krv_all xs
 have h2:=Ze List.reverse h
 rw[←List.filterMap_reverse,←PySem.W.krv_range,List.filterMap_map]at h2;rw[←h2]
 congr 1
 apply nG
 intro m hm;have:=Zs.mp hm;show xs[_]? =xs[xs.size-1-m]?
 congr 1
 omega
theorem oR{t sl:Addr}{items:Array Value}{tk:Tok}(ht:IsTup s.heap t items)(hs:s.heap.IsSliceOf sl .none .none (.int (-1) tk))
  (h:Q (.ref s.heap.objs.size) {s with heap:=s.heap.push {cls:=.type "tuple",data:=.seq items.toList.reverse.toArray}})
  (hsz:items.size≤sizeLine):wpAny (model prog w) A (getItem (.ref t) (.ref sl)) Q E s:=by
 have htake:sizeOk (.seq items.toList.reverse.toArray):=by
  show items.toList.reverse.toArray.size≤sizeLine
  simpa using hsz
 obtain⟨os,hos,hcs,hds⟩:=id hs;have hTs:s.TypeIs (.ref sl) "slice":=⟨os,hos,hcs⟩;unfold getItem
 try with_reducible refine Jb ?_
 first|refine Qq (Qy ?_)|skip
 refine Qq (wpAny_sequenceKey ht.typeIs (by decide) ?_)
 refine Qq (Yh (name:=Str.ofString "__getitem__") ht.typeIs Zb
  (Jh Zb ht.typeIs entry_tuple_getitem ?_ (args_tuple_getitem _ _)))
 show wpAny _ _ (Builtin.Tuple.tupleItemsOf (.ref t)>>=_) _ _ s;refine Qq (tupleItemsOf_ ht ?_);refine Qq (wpAny_typeOf hTs ?_);rw[Qh (by decide)]
 refine Qq (o4 hs ?_);have hno:¬ ((((items.size:Int)-1)==0&&(-1:Int)==1&&items.size==items.size)=true):=by
  rw[show((-1:Int)==1)=false by decide];simp
 show wpAny _ _ (if(((items.size:Int)-1)==0&&(-1:Int)==1&&items.size==items.size)=true then _ else _) _ _ s
 rw[Qs hno,sQ]
 first
  |exact Qq (m:=Builtin.Tuple.tupleExact _) (Zt (Qy ⟨_,rfl,Qy h⟩) htake)
  |exact Qq (m:=Builtin.Tuple.tupleExact _) (Zt (Qq (Qy (Qy ⟨_,rfl,Qy h⟩))) htake)
  |exact Qq (Qq (m:=Builtin.Tuple.tupleExact _) (Zt (Qy (Qy ⟨_,rfl,Qy h⟩)) htake))
  |exact Qq (Qq (m:=Builtin.Tuple.tupleExact _) (Zt (Qy ⟨_,rfl,Qy h⟩) htake))
end
end HT
namespace L2.Mir
open PySem PySem.Spec PyProof.Rows
variable{A:Around}{B:OA}{C i1 i2 it l l1 l2 z:Addr}{E Q:OE}{G H:Hp}{K:Qz}{M:Model}{N ps:List Str}{P prog:Program}{T:String}{X:Cx}{a e:Expr}{as:Mo (List Ar)}{av:List Ar}{b y:Value}{base h h':Heap}{c c2:Bool}{ch:List Addr}{d:D}{ds:List D}{elts es:List Expr}{env:b0}{fd:FuncData}{i j k k1 k2 kk more n t':Nat}{keep:List Bool}{m ma:Mo D}{mb:Mo Fl}{mg:OU}{mi ms:Mo (List D)}{p p2:Pos}{pins:OX}{qual x:Str}{r:Rr}{s:Shared}{scope:Scope}{tk:Tok}{w:World}{ws ws':List W}{xs ys:Array Value}{σ:St}
section
variable{lo hi st:Expr}{ml mh:Mo D}{pos:Pos}
def XC(K:Qz):V->Option Int->Option Int->Hp->VK->Prop:=fun x lo hi H Q=>∃a xs,x=.ref a/\nZ K H a xs/\
 ((HT.k7 xs.length 0 lo=0/\HT.k7 xs.length xs.length hi=xs.length)->Q (.ref a) H)/\∀p,H p=none->Q (.ref p) (upd H p (.tup (Bo xs lo hi)))
theorem XD:wU X (XC X.K):=by
 intro pins s σ H x v vl vu lo hi sl Q I rx hs pl pu h;obtain⟨a,xs,rfl,hx,qw,q⟩:=h
 by_cases hw:HT.k7 xs.length 0 lo=0/\HT.k7 xs.length xs.length hi=xs.length
 ·cases rx
  obtain⟨its,r,ht,hz⟩:=I.tuple hx;have hlen:its.toArray.size=xs.length:=by rw[Qb];exact r.length.symm
  refine⟨"tuple",_,Zb.lookup,ht.typeIs,?_⟩;exact HT.oB ht hs pl pu (by rw[hlen];exact hw) ⟨.ref a,H,I,rfl,qw hw⟩
 ·exact Lz pins s σ H (.ref a) v vl vu lo hi sl Q I rx hs pl pu ⟨a,xs,rfl,hx,hw,q⟩
def AE(xs:List D)(lo hi:Option Int):List D:=(xs.drop (HT.k7 xs.length 0 lo)).take (HT.k7 xs.length xs.length hi-HT.k7 xs.length 0 lo)
def K8:Mo (Option Int):=fun env=>some (none,env)
def K9(m:Mo D):Mo (Option Int):=fun env=>(m env).bind fun p=>match p.1 with
 |.int i=>some (some i,p.2)
 |_=>none
def zE(K:Qz)(B:OA)(m:Mo (Option Int)):TO:=fun σ H Q=>∃G env o env',Rel K B G σ env H/\m env=some (o,env')/\∀G' H',Ev K B G σ env H G' σ env' H'->Q o H'
abbrev EO(X:Cx)(B:OA)(e:Option Expr)(m:Mo (Option Int)):Prop:=PO X e (zE X.K B m)
theorem Ml{e:Option Expr}{t t':TO}(h:PO X e t)(i:∀σ H Q,t' σ H Q->t σ H Q):PO X e t':=fun pins s σ H Q I q=>h pins s σ H Q I (i σ H Q q)
theorem U4:EO X B none K8:=by
 refine Ml UX ?_
 rintro σ H Q ⟨G,env,o,env',rl,e,k⟩;cases e;exact k G H (.refl rl)
theorem U5(h:ED X B e ma):EO X B (some e) (K9 ma):=by
 refine Ml (UY h) ?_
 rintro σ H Q ⟨G,env,o,env',rl,e,k⟩;obtain⟨⟨d,a9⟩,e1,e2⟩:=C6 e;dsimp only at e2;split at e2
 ·rename_i i
  cases e2;refine .bind rl e1 fun v G1 H1 ev r=>?_
  simp only[c4]at r;exact⟨i,r,k G1 H1 ev⟩
 ·cases e2
def oC(m:Mo D)(ml mh:Mo (Option Int)):Mo D:=fun env=>(m env).bind fun p=>(ml p.2).bind fun q=>(mh q.2).bind fun r=>match p.1 with
 |.tup ds=>some (.tup (AE ds q.1 r.1),r.2)
 |_=>none
theorem C4.cut{xs:List V}(r:C4 K G xs ds)(lo hi:Option Int):C4 K G (Bo xs lo hi) (AE ds lo hi):=by
 unfold Bo AE;rw[r.length];exact(r.drop _).take _
theorem XE{lo hi:Option Int}(h:HT.k7 ds.length 0 lo=0/\HT.k7 ds.length ds.length hi=ds.length):AE ds lo hi=ds:=by
 unfold AE;rw[h.1,h.2];simp
theorem U6{lo hi:Option Expr}{ml mh:Mo (Option Int)}(he:ED X B e ma)(hl:EO X B lo ml)(hh:EO X B hi mh):ED X B (.Subscript e (.Slice lo hi none p2) pos) (oC ma ml mh):=by
 refine d7 (UZ XD he hl hh) ?_
 rintro σ H Q ⟨G,env,d,env',rl,e,k⟩;obtain⟨⟨d1,a9⟩,e1,e2⟩:=C6 e;obtain⟨⟨l,g0⟩,e3,e4⟩:=C6 e2;obtain⟨⟨u,qA⟩,e5,e6⟩:=C6 e4;dsimp only at e3 e5 e6;split at e6
 ·rename_i ds
  cases e6;refine .bind rl e1 fun v G1 H1 j9 r1=>⟨G1,a9,l,g0,j9.rel,e3,fun G2 H2 f6=>⟨G2,g0,u,_,f6.rel,e5,fun G3 H3 pM=>?_⟩⟩
  have r3:=c4.mono (f6.same.trans pM.same) _ r1
  have r30:=r3
  simp only[c4]at r3;obtain⟨p,xs,rfl,q,t⟩:=r3;refine⟨p,xs,rfl,pM.rel.sub.sqT q,fun hw=>?_,fun l' hp=>?_⟩
  ·rw[t.length]at hw
   exact k _ G3 H3 ((j9.trans f6).trans pM) (by rw[XE hw];exact r30)
  ·exact k _ _ _ (((j9.trans f6).trans pM).trans (pM.rel.alloc hp)) (Bq J0 (C4.mono (Le.upd (pM.rel.gnone hp)) _ (t.cut l u)))
 ·cases e6
theorem XF{te:TE}(he:PE X e te)(hst:PE X st (tC (.int (-1)))):PE X (.Subscript e (.Slice none none (some st) p2) pos) (fun σ H Q=>te σ H fun x H1=>∃a xs,x=.ref a/\nZ X.K H1 a xs/\∀p,H1 p=none->Q (.ref p) (upd H1 p (.tup xs.reverse))):=by
 intro pins s σ H Q I h;refine Subscript_ (g6 (he pins s σ H _ I h) fun v s1 ⟨x,H1,I1,r1,q1⟩=>?_)
 refine wpAny_Slice ?_
 rw[evalPart_none];refine Qy (Qy ?_);rw[evalPart_some];refine g6 (hst pins s1 σ H1 (fun x H2=>x=.int (-1)/\H2=H1) I1 ⟨rfl,rfl⟩) fun vst s3 ⟨y,H3,I3,r3,q3⟩=>?_
 obtain⟨rfl,rfl⟩:=q3;obtain⟨tk,rfl⟩:=r3;obtain⟨a,xs,rfl,hx,q⟩:=q1;cases r1;have I4:Inv X pins σ H3 {s3 with heap:=s3.heap.push {cls:=.type "slice",data:=.fields #[.none,.none,.int (-1) tk]}}:=I3.kept (t':=s3.toks) fun b ob q=>Qv _ q
 obtain⟨its,r,ht,hz⟩:=I4.tuple hx;have hlen:its.toArray.size=xs.length:=by rw[Qb];exact r.length.symm
 show wpAny (model X.prog X.w) X.A (subscriptTail e (.Slice none none (some st) p2) (.ref a) (.ref s3.heap.objs.size)) (EP X pins σ Q) X.xe {s3 with heap:=s3.heap.push {cls:=.type "slice",data:=.fields #[.none,.none,.int (-1) tk]}}
 refine tail_any (ops:=[.ref a,.ref s3.heap.objs.size]) ht.typeIs Zb.lookup ?_ (by with_unfolding_all rfl)
 refine HT.oR (tk:=tk) ht (Heap.IsSliceOf.new ..) ?_ (by rw[hlen];exact hz)
 refine⟨.ref _,_,I4.laid (t':=s3.toks) (o:=.tup xs.reverse) (fun b ob q=>Qv _ q) (Qm _) ?_,rfl,q _ (I4.hok.fresh (Qm _))⟩
 exact⟨by rw[Xp];exact hz,_,r.reverse,W6.new _ _⟩
def Au(m:Mo D):Mo D:=fun env=>(m env).bind fun p=>match p.1 with
 |.tup ds=>some (.tup ds.reverse,p.2)
 |_=>none
theorem FW(he:ED X B e ma)(hst:PE X st (tC (.int (-1)))):ED X B (.Subscript e (.Slice none none (some st) p2) pos) (Au ma):=by
 refine d7 (XF he hst) ?_
 rintro σ H Q ⟨G,env,d,env',rl,e,k⟩;obtain⟨⟨d1,a9⟩,e1,e2⟩:=C6 e;dsimp only at e2;split at e2
 ·rename_i ds
  cases e2;refine .bind rl e1 fun v G1 H1 j9 r1=>?_
  simp only[c4]at r1;obtain⟨p,xs,rfl,q,t⟩:=r1;exact⟨p,xs,rfl,j9.rel.sub.sqT q,fun l' hp=>k _ _ _ (j9.trans (j9.rel.alloc hp)) (Bq J0 (C4.mono (Le.upd (j9.rel.gnone hp)) _ t.reverse))⟩
 ·cases e2
theorem Mm:PE X (.UnaryOp .USub (.Constant (.int 1) j p) pos) (tC (.int (-1))):=d7 (Li Lj LS) fun σ H Q q=>⟨1,rfl,q⟩
end
theorem Mn(I:Inv X pins σ H s)(k:∀b o,b∉ch->s.heap.get? b=some o->h'.get? b=some o)(hf:∀b∈ch,T3 X pins H b):Inv X pins σ H {s with heap:=h',toks:=t'}:=by
 have nit:∀b u,H b=some u->b∉ch:=fun b u e z=>by rw[(hf b z).1]at e;cases e
 refine I.step (g':=s.gens) (d':=s.drawn) (ch:=ch) (fun b hb=>⟨(hf b hb).2.2.2.1,(hf b hb).2.1,(hf b hb).2.2.2.2.1,(hf b hb).2.2.2.2.2⟩) (fun b o _ _ hc e _=>k b o hc e) (fun b o _ _ hc e _=>⟨o.slots,k b o hc e⟩) (fun _ _ _ _ n=>n)
  (fun b o hc e=>⟨o,k b o hc e⟩) (fun _ _ e=>e) (fun _ _ _ e=>e) (fun b ps e=>⟨#[],by rw[e];simp⟩) (fun m hm=>?_) (fun b u e=>?_) I.bare
 ·obtain⟨o,es,ep,ho,r⟩:=hm
  exact⟨o,es,ep,k _ o (fun z=>(hf _ z).2.1 rfl) ho,r⟩
 ·refine(I.hok b u e).stay (fun c v hc q=>k c v ?_ q) (fun _ q=>q) fun _ _ q=>q
  rcases hc with z|z
  ·rw[z];exact nit b u e
  ·exact nit c _ z
theorem XG{p:Addr}{o:HO}(I:Inv X pins σ H s)(k:∀b o,b∉ch->s.heap.get? b=some o->h'.get? b=some o)(hf:∀b∈ch,T3 X pins H b)
  (hp:s.heap.objs.size≤p)(new:K2 X.prog X.w (upd H p o) h' p o):Inv X pins σ (upd H p o) {s with heap:=h',toks:=t'}:=by
 have nit:∀b u,H b=some u->b∉ch:=fun b u e z=>by rw[(hf b z).1]at e;cases e
 have hn:H p=none:=I.hok.fresh hp
 have np:∀b u,s.heap.get? b=some u->b≠p:=fun b u q=>Qi (Qd (Qu q) hp)
 refine I.step (g':=s.gens) (d':=s.drawn) (ch:=ch) (fun b hb=>⟨(hf b hb).2.2.2.1,(hf b hb).2.1,(hf b hb).2.2.2.2.1,(hf b hb).2.2.2.2.2⟩) (fun b o _ _ hc e _=>k b o hc e) (fun b o _ _ hc e _=>⟨o.slots,k b o hc e⟩) (fun b o _ e n=>by rw[D7 (np b o e)];exact n)
  (fun b o hc e=>⟨o,k b o hc e⟩) (fun b xs q=>by rw[D7 (Q5 q hn)];exact q) (fun b u xs q=>by rw[D7 (Q5 q hn)];exact q) (fun b ps e=>⟨#[],by rw[D7 (Q5 e hn),e];simp⟩) (fun m hm=>?_) (fun b u e=>?_) I.bare
 ·obtain⟨o,es,ep,ho,r⟩:=hm
  exact⟨o,es,ep,k _ o (fun z=>(hf _ z).2.1 rfl) ho,r⟩
 ·by_cases hb:b=p
  ·subst hb;rw[J0]at e;cases e;exact new
  ·rw[D7 hb]at e
   refine(I.hok b u e).stay (fun c v hc q=>k c v ?_ q) (fun c q=>by rw[D7 (Q5 q hn)];exact q) fun c xs q=>by rw[D7 (Q5 q hn)];exact q
   rcases hc with z|z
   ·rw[z];exact nit b u e
   ·exact nit c _ z
def pF(k:Bool)(h:Heap)(l:Addr)(xs:Array Value):Prop:=if k then h.IsTuple l xs else h.IsList l xs
def oS(k:Bool)(h:Heap)(i l:Addr)(n:Nat):Prop:=if k then h.IsTupleIter i l n else h.IsListIter i l n
section
variable{k:Bool}{i b:Addr}
theorem pF.at'(x:pF k h l xs)(e:∀o,h.get? l=some o->h'.get? l=some o):pF k h' l xs:=by
 cases k
 ·exact Heap.IsList.at (show h.IsList l xs from x) e
 ·obtain⟨o,ho,r⟩:=(show h.IsTuple l xs from x)
  exact(⟨o,e _ ho,r⟩:h'.IsTuple l xs)
theorem oS.at'(x:oS k h i l n)(e:∀o,h.get? i=some o->h'.get? i=some o):oS k h' i l n:=by
 cases k
 ·exact Heap.IsListIter.at (show h.IsListIter i l n from x) e
 ·exact Heap.IsTupleIter.at (show h.IsTupleIter i l n from x) e
theorem oS.get(x:oS k h i l n):∃o,h.get? i=some o/\∀v,o.data≠.cell v:=by
 cases k
 ·obtain⟨o,ho,_,d⟩:=(show h.IsListIter i l n from x);exact⟨o,ho,fun v z=>by rw[d]at z;cases z⟩
 ·obtain⟨o,ho,_,d⟩:=(show h.IsTupleIter i l n from x);exact⟨o,ho,fun v z=>by rw[d]at z;cases z⟩
theorem oS.but(x:oS k h i l n)(hs:Heap.ExtBut b h h')(hb:i≠b):oS k h' i l n:=x.at' fun o e=>hs i o hb e
theorem pF.but(x:pF k h l xs)(hs:Heap.ExtBut b h h')(hb:l≠b):pF k h' l xs:=x.at' fun o e=>hs l o hb e
end
theorem XH{items:Array Value}{x:Value}(hit:s.heap.IsTupleIter it l i)(hl:s.heap.IsTuple l items)(hx:items[i]? =some x)
  (hQ:∀h',h'.IsTupleIter it l (i+1)->Heap.SameBut it s.heap h'->Q x {s with heap:=h'}):wpAny (model prog w) A (Builtin.SmallTypes.nextOf (.ref it)) Q E s:=by
 obtain⟨o,ho,hc,hd⟩:=id hit;obtain⟨ol,hol,_,nl,hdl⟩:=hl;unfold Builtin.SmallTypes.nextOf;refine Qq (Yh (name:=Str.ofString "__next__") hit.typeIs Ju (Jh Ju hit.typeIs Vf ?_ (Vb _)));show wpAny _ _ (field (.ref it) 0>>=_) _ _ s;refine Qq (Yz ho hd (x:=.ref l) rfl ?_);rw[Qs (show ¬ ((Value.ref l==Value.none)=true)from Yq)]
 refine Qq (Yz ho hd (x:=.int i 0) rfl ?_);refine Qq (Jn hol hdl ?_);simp only[Jz,hx];refine Qq (wpAny_setField ho hd (by simp) (Qy ⟨x,rfl,Qy (hQ _ ⟨_,Heap.get?_update_self _ ho (Obj.isFreed_of_fields (Obj.data_mapFields hd _)),(Obj.cls_mapFields ..).trans hc,?_⟩ (Jf ..))⟩))
 rw[Obj.data_mapFields hd];simp[rawInt]
theorem XI{items:Array Value}(hh:A.handled=none)(hit:s.heap.IsTupleIter it l i)(hl:s.heap.IsTuple l items)(hx:items[i]? =none)
  (hE:∀h' e,Heap.ExtBut it s.heap h'->(∃o,h'.get? e=some o/\o.cls=.type "StopIteration")->E (.ref e) {s with heap:=h'}):wpAny (model prog w) A (Builtin.SmallTypes.nextOf (.ref it)) Q E s:=by
 obtain⟨o,ho,hc,hd⟩:=id hit;obtain⟨ol,hol,_,nl,hdl⟩:=hl;unfold Builtin.SmallTypes.nextOf;refine Qq (Yh (name:=Str.ofString "__next__") hit.typeIs Ju (Jh Ju hit.typeIs Vf ?_ (Vb _)));show wpAny _ _ (field (.ref it) 0>>=_) _ _ s;refine Qq (Yz ho hd (x:=.ref l) rfl ?_);rw[Qs (show ¬ ((Value.ref l==Value.none)=true)from Yq)]
 refine Qq (Yz ho hd (x:=.int i 0) rfl ?_);refine Qq (Jn hol hdl ?_);simp only[Jz,hx];refine Qq (Uq (Qq (wpAny_setField ho hd (by simp) ?_)))
 refine Qq ?_
 simp only[newExc,newTuple];refine Qq (Zt ?_ (by size_fits))
 refine Qq (m:=firstArgMember _ _) (wpAny_of_eq (a:=Value.none) (by first|rfl|(simp only[firstArgMember];rfl)) ?_)
 refine Zt ?_ (by size_fits)
 simp only[raiseNew];refine Qq (wpAny_handled ?_)
 first|rw[show A.in1.handled=none from hh]|rw[hh]
 refine Qq (Qy (wpAny_throw ?_));exact hE _ _ (((Jf ..).extBut.push _).push _) ⟨_,Qn _ rfl,rfl⟩
theorem Hn{k:Bool}{items:Array Value}{x:Value}(hit:oS k s.heap it l i)(hl:pF k s.heap l items)(hx:items[i]? =some x)
  (hQ:∀h',oS k h' it l (i+1)->Heap.SameBut it s.heap h'->Q x {s with heap:=h'}):wpAny (model prog w) A (Builtin.SmallTypes.nextOf (.ref it)) Q E s:=by
 cases k
 ·exact wpAny_nextOf_list_item hit hl hx hQ
 ·exact XH hit hl hx hQ
theorem Mp{k:Bool}{items:Array Value}(hh:A.handled=none)(hit:oS k s.heap it l i)(hl:pF k s.heap l items)(hx:items[i]? =none)
  (hE:∀h' e,Heap.ExtBut it s.heap h'->(∃o,h'.get? e=some o/\o.cls=.type "StopIteration")->E (.ref e) {s with heap:=h'}):wpAny (model prog w) A (Builtin.SmallTypes.nextOf (.ref it)) Q E s:=by
 cases k
 ·exact wpAny_nextOf_list_end hh hit hl hx hE
 ·exact XI hh hit hl hx hE
section
variable{c1:Bool}
theorem XJ{TI TO:Addr}{x a:Value}(D:ZipApart z TI TO i1 i2 l1 l2)
  (hz:IsZip s.heap z TI TO .none)(hTI:IsPair s.heap TI (.ref i1) (.ref i2))(hTO:IsPair s.heap TO a b)
  (h1:oS c1 s.heap i1 l1 k1)(h2:oS c2 s.heap i2 l2 k2)(hl1:pF c1 s.heap l1 xs)(hl2:pF c2 s.heap l2 ys)(hx:xs[k1]? =some x)(hy:ys[k2]? =some y)
  (hQ:∀h',IsZip h' z TI TO (rawInt s.heap.objs.size)->IsPair h' TO x y->oS c1 h' i1 l1 (k1+1)->oS c2 h' i2 l2 (k2+1)->IsPair h' s.heap.objs.size x y->h'.objs.size=s.heap.objs.size+1->
   (∀c o,c≠z->c≠TO->c≠i1->c≠i2->s.heap.get? c=some o->h'.get? c=some o)->Q (.ref s.heap.objs.size) {s with heap:=h'}):
  wpAny (model prog w) A (Builtin.«zip.__next__» ⟨[.ref z],[]⟩) (fun fin s'=>∃v,fin=.done (.ret v)/\Q v s') E s:=by
 show wpAny _ _ (field (.ref z) 2>>=_) _ _ _;refine Qq (Yz hz rfl (x:=.bool false) rfl (Qq (Yz hz rfl (x:=.ref TI) rfl ?_)));refine Qq (Jn hTI rfl (Qq ?_));unfold Builtin.SmallTypes.ownedTupleIsFree;refine Qq (Yz hz rfl (x:=.none) rfl (Qy ?_));simp only[Zn];refine Qq (Uq (Qq (Yz hz rfl (x:=.ref TO) rfl ?_)));refine Qq (Ji hz (by simp) fun g1 (z1:IsZip g1 z TI TO .ellipsis) s1=>Qq ?_)
 simp only[List.zipIdx_cons,List.zipIdx_nil,Tv,Xg];refine Qq (Qq (Vd (Qq (m:=Builtin.SmallTypes.nextOf (.ref i1)) ?_)));refine Hn (h1.but s1.extBut D.i1z) (hl1.but s1.extBut D.l1z) hx fun g2 a2 s2=>Qy ?_
 have p2:IsPair g2 TO a b:=s2.extBut _ _ D.TOi1 (s1.extBut _ _ D.TOz hTO)
 refine Qq (Jn p2 rfl (Qq (Xk p2 fun g3 (p3:IsPair g3 TO x b) s3=>?_)))
 refine Qq (wpAny_letGo (Qy (Qq (Qq (Vd (Qq (m:=Builtin.SmallTypes.nextOf (.ref i2)) ?_))))));refine Hn (((h2.but s1.extBut D.i2z).but s2.extBut D.i12.symm).but s3.extBut D.TOi2.symm) (((hl2.but s1.extBut D.l2z).but s2.extBut D.l2i1).but s3.extBut D.l2TO) hy fun g4 a4 s4=>Qy ?_
 have p4:IsPair g4 TO x b:=s4.extBut _ _ D.TOi2 p3
 refine Qq (Jn p4 rfl (Qq (Xk p4 fun g5 (p5:IsPair g5 TO x y) s5=>?_)))
 refine Qq (wpAny_letGo (Qy (Qy (Qq (Jn p5 rfl (Qq (wpAny_newTuple ?_)))))));have hsz:g5.objs.size=s.heap.objs.size:=by rw[s5.1,s4.1,s3.1,s2.1,s1.1]
 have z5:IsZip g5 z TI TO .ellipsis:=s5.extBut _ _ D.TOz.symm (s4.extBut _ _ D.i2z.symm (s3.extBut _ _ D.TOz.symm (s2.extBut _ _ D.i1z.symm z1)))
 have k5:∀c o,c≠z->c≠TO->c≠i1->c≠i2->s.heap.get? c=some o->g5.get? c=some o:=fun c o n1 n2 n3 n4 e=>
  s5.extBut _ _ n2 (s4.extBut _ _ n4 (s3.extBut _ _ n2 (s2.extBut _ _ n3 (s1.extBut _ _ n1 e))))
 have b1:oS c1 g5 i1 l1 (k1+1):=((a2.but s3.extBut D.TOi1.symm).but s4.extBut D.i12).but s5.extBut D.TOi1.symm
 have b2:oS c2 g5 i2 l2 (k2+1):=a4.but s5.extBut D.TOi2.symm
 refine Qq (m:=Builtin.SmallTypes.ownedTupleHandOut (.ref z) (.ref g5.objs.size)) ?_
 unfold Builtin.SmallTypes.ownedTupleHandOut;have z6:IsZip (g5.push {cls:=.type "tuple",data:=.seq #[x,y]}) z TI TO .ellipsis:=Qv _ z5;refine Qq (Ji z6 (by simp) fun g7 (z7:IsZip g7 z TI TO (rawInt g5.objs.size)) s7=>?_)
 refine Ji z7 (by simp) fun g8 (z8:IsZip g8 z TI TO (rawInt g5.objs.size)) s8=>?_
 have up:∀c o,c≠z->g5.get? c=some o->g8.get? c=some o:=fun c o n1 e=>s8.extBut _ _ n1 (s7.extBut _ _ n1 (Qv _ e))
 have t8:IsPair g8 g5.objs.size x y:=s8.extBut _ _ (Tq (Qu z5)) (s7.extBut _ _ (Tq (Qu z5)) (Qn _ rfl))
 have e8:g8.objs.size=g5.objs.size+1:=by rw[s8.1,s7.1,Yp]
 rw[hsz]at z8 t8 e8;refine Qy ⟨_,rfl,?_⟩;show Q (.ref g5.objs.size) _;rw[hsz];exact hQ g8 z8 (up _ _ D.TOz p5) (b1.at' fun o e=>up _ o D.i1z e) (b2.at' fun o e=>up _ o D.i2z e) t8 e8 fun c o n1 n2 n3 n4 e=>up c o n1 (k5 c o n1 n2 n3 n4 e)
theorem XM{TI TO:Addr}{a:Value}{Q:PySem.Fin->Shared->Prop}(hh:A.handled=none)(D:ZipApart z TI TO i1 i2 l1 l2)
  (hz:IsZip s.heap z TI TO .none)(hTI:IsPair s.heap TI (.ref i1) (.ref i2))(hTO:IsPair s.heap TO a b)
  (h1:oS c1 s.heap i1 l1 k1)(h2:oS c2 s.heap i2 l2 k2)(hl1:pF c1 s.heap l1 xs)(hl2:pF c2 s.heap l2 ys)(hend:xs[k1]? =none\/ys[k2]? =none)
  (hE:∀h' e,(∀c o,c≠z->c≠TO->c≠i1->c≠i2->s.heap.get? c=some o->h'.get? c=some o)->(∃o,h'.get? e=some o/\o.cls=.type "StopIteration")->E (.ref e) {s with heap:=h'}):
  wpAny (model prog w) A (Builtin.«zip.__next__» ⟨[.ref z],[]⟩) Q E s:=by
 show wpAny _ _ (field (.ref z) 2>>=_) _ _ _;refine Qq (Yz hz rfl (x:=.bool false) rfl (Qq (Yz hz rfl (x:=.ref TI) rfl ?_)));refine Qq (Jn hTI rfl (Qq ?_));unfold Builtin.SmallTypes.ownedTupleIsFree;refine Qq (Yz hz rfl (x:=.none) rfl (Qy ?_));simp only[Zn];refine Qq (Uq (Qq (Yz hz rfl (x:=.ref TO) rfl ?_)));refine Qq (Ji hz (by simp) fun g1 (z1:IsZip g1 z TI TO .ellipsis) s1=>Qq ?_)
 simp only[List.zipIdx_cons,List.zipIdx_nil,Tv,Xg];refine Qq (Qq (Vd (Qq (m:=Builtin.SmallTypes.nextOf (.ref i1)) ?_)));cases hx:xs[k1]? with
 |none=>
  refine Mp hh (h1.but s1.extBut D.i1z) (hl1.but s1.extBut D.l1z) hx fun g2 e s2 he=>?_
  obtain⟨oe,q1,q2⟩:=he;have z2:IsZip g2 z TI TO .ellipsis:=s2 _ _ D.i1z.symm z1;have ne:e≠z:=fun x=>by subst x;rw[z2]at q1;cases q1;simp at q2
  exact Ji z2 (by simp) fun g3 _ s3=>hE g3 e (fun c o n1 _ n3 _ x=>s3.extBut _ _ n1 (s2 _ _ n3 (s1.extBut _ _ n1 x))) ⟨oe,s3.extBut _ _ ne q1,q2⟩
 |some x=>
  have hy:ys[k2]? =none:=by
   rcases hend with h|h
   ·rw[hx]at h;cases h
   ·exact h
  refine Hn (h1.but s1.extBut D.i1z) (hl1.but s1.extBut D.l1z) hx fun g2 a2 s2=>Qy ?_
  have p2:IsPair g2 TO a b:=s2.extBut _ _ D.TOi1 (s1.extBut _ _ D.TOz hTO)
  refine Qq (Jn p2 rfl (Qq (Xk p2 fun g3 p3 s3=>?_)))
  refine Qq (wpAny_letGo (Qy (Qq (Qq (Vd (Qq (m:=Builtin.SmallTypes.nextOf (.ref i2)) ?_))))));refine Mp hh (((h2.but s1.extBut D.i2z).but s2.extBut D.i12.symm).but s3.extBut D.TOi2.symm) (((hl2.but s1.extBut D.l2z).but s2.extBut D.l2i1).but s3.extBut D.l2TO) hy fun g4 e s4 he=>?_
  obtain⟨oe,q1,q2⟩:=he;have z4:IsZip g4 z TI TO .ellipsis:=s4 _ _ D.i2z.symm (s3.extBut _ _ D.TOz.symm (s2.extBut _ _ D.i1z.symm z1));have ne:e≠z:=fun x=>by subst x;rw[z4]at q1;cases q1;simp at q2
  exact Ji z4 (by simp) fun g5 _ s5=>hE g5 e (fun c o n1 n2 n3 n4 x=>s5.extBut _ _ n1 (s4 _ _ n4 (s3.extBut _ _ n2 (s2.extBut _ _ n3 (s1.extBut _ _ n1 x))))) ⟨oe,s5.extBut _ _ ne q1,q2⟩
theorem XN{TI TO:Addr}{x a:Value}{Q:Option Value->Shared->Prop}(D:ZipApart z TI TO i1 i2 l1 l2)
  (hz:IsZip s.heap z TI TO .none)(hTI:IsPair s.heap TI (.ref i1) (.ref i2))(hTO:IsPair s.heap TO a b)
  (h1:oS c1 s.heap i1 l1 k1)(h2:oS c2 s.heap i2 l2 k2)(hl1:pF c1 s.heap l1 xs)(hl2:pF c2 s.heap l2 ys)(hx:xs[k1]? =some x)(hy:ys[k2]? =some y)
  (hQ:∀h',IsZip h' z TI TO (rawInt s.heap.objs.size)->IsPair h' TO x y->oS c1 h' i1 l1 (k1+1)->oS c2 h' i2 l2 (k2+1)->IsPair h' s.heap.objs.size x y->h'.objs.size=s.heap.objs.size+1->
   (∀c o,c≠z->c≠TO->c≠i1->c≠i2->s.heap.get? c=some o->h'.get? c=some o)->Q (some (.ref s.heap.objs.size)) {s with heap:=h'}):
  wpAny (model prog w) A (pyNext (.ref z)) Q E s:=by
 have hT:s.TypeIs (.ref z) "zip":=⟨_,hz,rfl⟩
 unfold pyNext;exact Qq (Xl (Yh (name:=Str.ofString "__next__") hT Uo (Jh Uo hT PySem.F.entry_zip_next
  (XJ D hz hTI hTO h1 h2 hl1 hl2 hx hy fun h' a1 a2 a3 a4 a5 a6 a7=>Qy (hQ h' a1 a2 a3 a4 a5 a6 a7)) (PySem.F.args_zip_next_1 _))))
theorem XO{TI TO:Addr}{a:Value}{Q:Option Value->Shared->Prop}(hh:A.handled=none)(D:ZipApart z TI TO i1 i2 l1 l2)
  (hz:IsZip s.heap z TI TO .none)(hTI:IsPair s.heap TI (.ref i1) (.ref i2))(hTO:IsPair s.heap TO a b)
  (h1:oS c1 s.heap i1 l1 k1)(h2:oS c2 s.heap i2 l2 k2)(hl1:pF c1 s.heap l1 xs)(hl2:pF c2 s.heap l2 ys)(hend:xs[k1]? =none\/ys[k2]? =none)
  (hQ:∀h',(∀c o,c≠z->c≠TO->c≠i1->c≠i2->s.heap.get? c=some o->h'.get? c=some o)->Q none {s with heap:=h'}):wpAny (model prog w) A (pyNext (.ref z)) Q E s:=by
 have hT:s.TypeIs (.ref z) "zip":=⟨_,hz,rfl⟩
 unfold pyNext;refine Qq (Xl (Yh (name:=Str.ofString "__next__") hT Uo (Jh Uo hT PySem.F.entry_zip_next
  (XM hh D hz hTI hTO h1 h2 hl1 hl2 hend fun h' e hk he=>?_) (PySem.F.args_zip_next_1 _))))
 obtain⟨o,ho,hc⟩:=he;exact Qq (wpAny_isInstance (T:="StopIteration") (b:=true) ⟨o,ho,hc⟩ isSubtype_stop (Qy (hQ _ hk)))
end
def Mq(c:Bool):String:=if c then "tuple_iterator" else "list_iterator"
abbrev uF(c1:Bool)(h:Heap)(l1:Addr):Heap:=h.push {cls:=.type (Mq c1),data:=.fields #[.ref l1,.int 0 0]}
abbrev vU(c1 c2:Bool)(h:Heap)(l1 l2:Addr):Heap:=(uF c1 h l1).push {cls:=.type (Mq c2),data:=.fields #[.ref l2,.int 0 0]}
abbrev vV(c1 c2:Bool)(h:Heap)(l1 l2:Addr):Heap:=(vU c1 c2 h l1 l2).push {cls:=.type "tuple",data:=.seq #[.ref h.objs.size,.ref (uF c1 h l1).objs.size]}
abbrev vW(c1 c2:Bool)(h:Heap)(l1 l2:Addr):Heap:=(vV c1 c2 h l1 l2).push {cls:=.type "tuple",data:=.seq #[.none,.none]}
abbrev uG(c1 c2:Bool)(h:Heap)(l1 l2:Addr):Heap:=(vW c1 c2 h l1 l2).push {cls:=.type "zip",data:=.fields #[.none,.bool false,.bool false,.ref (vU c1 c2 h l1 l2).objs.size,.ref (vV c1 c2 h l1 l2).objs.size]}
theorem Mr{items:Array Value}(hl:pF c s.heap l items)(hQ:Q (.ref s.heap.objs.size) {s with heap:=uF c s.heap l}):wpAny (model prog w) A (pyIter (.ref l)) Q E s:=by
 cases c
 ·exact Ut hl hQ
 ·exact Ub hl hQ
theorem XQ(c1 c2:Bool)(l1 l2:Addr)(xs ys:Array Value):
  Meets (Builtin.«zip.__new__» ⟨[.type "zip",.ref l1,.ref l2],[]⟩) (fun _ R s=>pF c1 s.heap l1 xs/\pF c2 s.heap l2 ys/\R (.ok (.ret (.ref (vW c1 c2 s.heap l1 l2).objs.size))) {s with heap:=uG c1 c2 s.heap l1 l2}):=
 .of_wp fun prog w A R s h=>by
  obtain⟨hp,g,d,tk,os⟩:=s;obtain⟨hl1,hl2,h⟩:=h;have hsub:=sub_zip;have hL1:pF c1 (Shared.heap ⟨hp,g,d,tk,os⟩) l1 xs:=hl1;have hL2:pF c2 (Shared.heap ⟨uF c1 hp l1,g,d,tk,os⟩) l2 ys:=pF.at' hl2 fun o e=>Qv _ e
  wp_walk using Mr hL1,Mr hL2
  exact⟨_,rfl,h⟩
theorem XR{c1:Bool}(hl1:pF c1 s.heap l1 xs)(hl2:pF c2 s.heap l2 ys)
  (h:∀h',IsZip h' (s.heap.objs.size+4) (s.heap.objs.size+2) (s.heap.objs.size+3) .none->IsPair h' (s.heap.objs.size+2) (.ref s.heap.objs.size) (.ref (s.heap.objs.size+1))->
   IsPair h' (s.heap.objs.size+3) .none .none->oS c1 h' s.heap.objs.size l1 0->oS c2 h' (s.heap.objs.size+1) l2 0->h'.objs.size=s.heap.objs.size+5->
   (∀c o,s.heap.get? c=some o->h'.get? c=some o)->Q (.ref (s.heap.objs.size+4)) {s with heap:=h'}):
  wpAny (model prog w) A (call (.type "zip") [.ref l1,.ref l2]) Q E s:=by
 refine callType_new PySem.F.called_zip (by decide) (PySem.F.typeCall_zip_2 _ _) (PySem.F.newCall_zip_2 _ _) (fun obj=>PySem.F.args_object_init_3 obj _ _) PySem.F.entry_zip_new (XQ c1 c2 l1 l2 xs ys) ⟨hl1,hl2,?_⟩
 have z1:(uF c1 s.heap l1).objs.size=s.heap.objs.size+1:=Yp ..
 have z2:(vU c1 c2 s.heap l1 l2).objs.size=s.heap.objs.size+2:=by rw[Yp,z1]
 have z3:(vV c1 c2 s.heap l1 l2).objs.size=s.heap.objs.size+3:=by rw[Yp,z2]
 have z4:(vW c1 c2 s.heap l1 l2).objs.size=s.heap.objs.size+4:=by rw[Yp,z3]
 have z5:(uG c1 c2 s.heap l1 l2).objs.size=s.heap.objs.size+5:=by rw[Yp,z4]
 have g5:(uG c1 c2 s.heap l1 l2).get? (vW c1 c2 s.heap l1 l2).objs.size=some _:=Qn _ rfl
 have g4:(uG c1 c2 s.heap l1 l2).get? (vV c1 c2 s.heap l1 l2).objs.size=some _:=Qv _ (Qn _ rfl)
 have g3:(uG c1 c2 s.heap l1 l2).get? (vU c1 c2 s.heap l1 l2).objs.size=some _:=Qv _ (Qv _ (Qn _ rfl))
 have g2:(uG c1 c2 s.heap l1 l2).get? (uF c1 s.heap l1).objs.size=some _:=Qv _ (Qv _ (Qv _ (Qn _ rfl)))
 have g1:(uG c1 c2 s.heap l1 l2).get? s.heap.objs.size=some _:=Qv _ (Qv _ (Qv _ (Qv _ (Qn _ rfl))))
 show _/\_;rw[z2,z3,z4]at g5;rw[z1,z2]at g3;rw[z3]at g4;rw[z1]at g2;rw[z4];refine⟨⟨_,g5,rfl⟩,h _ g5 g3 g4 ?_ ?_ z5 fun c o x=>Qv _ (Qv _ (Qv _ (Qv _ (Qv _ x))))⟩
 ·cases c1
  ·exact(⟨_,g1,rfl,rfl⟩:Heap.IsListIter _ _ _ _)
  ·exact(⟨_,g1,rfl,rfl⟩:Heap.IsTupleIter _ _ _ _)
 ·cases c2
  ·exact(⟨_,g2,rfl,rfl⟩:Heap.IsListIter _ _ _ _)
  ·exact(⟨_,g2,rfl,rfl⟩:Heap.IsTupleIter _ _ _ _)
def rS(c:Bool)(K:Qz)(H:Hp)(a:Addr)(xs:List V):Prop:=if c then nZ K H a xs else oD K H a xs
theorem Le.sqA{G':Hp}(l:Le G G'){a:Addr}{xs:List V}(h:rS c K G a xs):rS c K G' a xs:=by
 cases c
 ·exact l.sqL h
 ·exact l.sqT' h
section
variable{a b:Addr}{xs:List V}
theorem Cs(I:Inv X pins σ H s)(h:rS c X.K H a xs):∃its:List Value,D4 xs its/\pF c s.heap a its.toArray/\xs.length≤sizeLine:=by
 cases c
 ·obtain⟨its,r,p,z⟩:=I.list h
  exact⟨its,r,p.isList,z⟩
 ·obtain⟨its,r,p,z⟩:=I.tuple h
  exact⟨its,r,p,z⟩
theorem FX(I:Inv X pins σ H s)(f:T3 X pins H b)(h:rS c X.K H a xs):a≠b:=by
 have k:∀{u:HO},Rd H a u->a≠b:=fun r z=>by
  subst z
  rcases r with r|⟨_,r⟩
  ·rw[f.1]at r;cases r
  ·rw[f.1]at r;cases r
 have m:∀{o:Obj},X.K.lookup a=some o->a≠b:=fun{o} q z=>by
  subst z;have e:X.base.get? a=some o:=I.mod.kin a o q
  rcases f.2.2.2.1 with z|z
  ·exact I.ok.noex a o e z
  ·exact absurd (Qd (Qu e) (Zr I.ok.bsz z)) (Jk _)
 cases c
 ·rcases h with h|⟨o,_,_,q,_⟩
  ·exact k h
  ·exact m q
 ·rcases h with h|⟨o,_,_,q,_⟩
  ·exact k h
  ·exact m q
end
def wX(K:Qz)(c1 c2:Bool)(l1 l2:Addr)(xs ys:List V):It:=
 ⟨fun i H=>i<min xs.length ys.length/\rS c1 K H l1 xs/\rS c2 K H l2 ys,
  fun i H x H'=>∃p a b,H p=none/\x=.ref p/\H'=upd H p (.tup [a,b])/\xs[i]? =some a/\ys[i]? =some b,
  fun i H=>min xs.length ys.length≤i/\rS c1 K H l1 xs/\rS c2 K H l2 ys⟩
def XS(c1 c2:Bool)(n:Nat)(l1 l2:Addr)(i:Nat)(h:Heap):Prop:=
 IsZip h (n+4) (n+2) (n+3) .none/\IsPair h (n+2) (.ref n) (.ref (n+1))/\(∃a b,IsPair h (n+3) a b)/\oS c1 h n l1 i/\oS c2 h (n+1) l2 i
theorem apart{n:Addr}(h1:∀j,j<5->l1≠n+j)(h2:∀j,j<5->l2≠n+j):ZipApart (n+4) (n+2) (n+3) n (n+1) l1 l2:=by
 constructor<;>first
  |(show(_:Nat)≠_;omega)
  |exact h1 4 (by decide)
  |exact h1 3 (by decide)
  |exact h1 1 (by decide)
  |exact h1 0 (by decide)
  |exact h2 4 (by decide)
  |exact h2 3 (by decide)
  |exact h2 1 (by decide)
  |exact h2 0 (by decide)
abbrev sR(n:Nat):List Addr:=[n+4,n+2,n+3,n,n+1]
abbrev xY(n:Nat):List Addr:=[n+4,n+3,n,n+1]
theorem FY(n:Nat):∀{j:Nat},j<5->(n+j:Nat)∈sR n
 |0,_=>by simp[sR]
 |1,_=>by simp[sR]
 |2,_=>by simp[sR]
 |3,_=>by simp[sR]
 |4,_=>by simp[sR]
 |j+5,h=>by omega
theorem Ms{c:Addr}(h:c∈xY n):c∈sR n:=by
 simp only[xY,sR,Ql,Zd,Jm]at h ⊢
 rcases h with h|h|h|h<;>simp[h]
theorem XT{c:Addr}(h:c∈[n+4]):c∈sR n:=by
 simp only[Ql,Zd,Jm]at h;rw[h];simp
theorem zF{c:Addr}(h:c∈sR n):n≤c:=by
 simp only[sR,Ql,Zd,Jm]at h
 rcases h with rfl|rfl|rfl|rfl|rfl
 ·exact Vs _ _
 ·exact Vs _ _
 ·exact Vs _ _
 ·exact Qm _
 ·exact Vs _ _
theorem XU{tp:Pos}(c1 c2:Bool)(n l1 l2:Addr)(xs ys:List V):
  Turn P w K (.Tuple elts kk tp) (wX K c1 c2 l1 l2 xs ys) [n+4,n+2,n+3,n,n+1] (n+4) (XS c1 c2 n l1 l2)where
 mem:=by simp
 obj:=fun i h st b hb=>by
  obtain⟨hz,hI,⟨a,b',hO⟩,h1,h2⟩:=st;simp only[Ql,Zd,Jm]at hb
  rcases hb with rfl|rfl|rfl|rfl|rfl
  ·exact⟨_,hz,fun v z=>by cases z⟩
  ·exact⟨_,hI,fun v z=>by cases z⟩
  ·exact⟨_,hO,fun v z=>by cases z⟩
  ·exact h1.get
  ·exact h2.get
 keep:=fun i h h' st k=>by
  obtain⟨hz,hI,⟨a,b',hO⟩,h1,h2⟩:=st;exact⟨k _ (by simp) _ hz,k _ (by simp) _ hI,⟨a,b',k _ (by simp) _ hO⟩,h1.at' fun o e=>k _ (by simp) o e,h2.at' fun o e=>k _ (by simp) o e⟩
 item:=by
  intro X hP hw hK hc i pins s σ H E I hf st hg;subst hP hw hK;obtain⟨hi,q1,q2⟩:=hg;obtain⟨hz,hI,⟨a,b,hO⟩,h1,h2⟩:=st;obtain⟨its,r1,p1,_⟩:=Cs I q1;obtain⟨jts,r2,p2,_⟩:=Cs I q2;have ex:xs[i]? =some (xs[i]'(by omega)):=by simp
  have ey:ys[i]? =some (ys[i]'(by omega)):=by simp
  obtain⟨u,hu,ru⟩:=r1.get ex;obtain⟨v,hv,rv⟩:=r2.get ey;have D:ZipApart (n+4) (n+2) (n+3) n (n+1) l1 l2:=apart
   (fun j hj=>FX I (hf _ (FY n hj)) q1)
   (fun j hj=>FX I (hf _ (FY n hj)) q2)
  refine XN D hz hI hO h1 h2 p1 p2 (x:=u) (y:=v) (by simpa using hu) (by simpa using hv) fun h' a1 a2 a3 a4 a5 a6 a7=>?_
  have hn:H s.heap.objs.size=none:=I.fresh
  have I1:Inv X pins σ (upd H s.heap.objs.size (.tup [xs[i]'(by omega),ys[i]'(by omega)])) {s with heap:=h'}:=XG (ch:=[n+4,n+3,n,n+1]) (t':=s.toks) I
   (fun c o hc e=>a7 c o (fun z=>hc (by simp[z])) (fun z=>hc (by simp[z])) (fun z=>hc (by simp[z])) (fun z=>hc (by simp[z])) e)
   (fun c hc=>hf c (Ms hc)) (Qm _)
   ⟨by show 2≤sizeLine;decide,[u,v],.cons ru (.cons rv .nil),_,a5,rfl,rfl,0,rfl⟩
  have lt5:∀c∈[n+4,n+2,n+3,n,n+1],c≠s.heap.objs.size:=fun c hc=>by
   have:∃o,s.heap.get? c=some o:=by
    simp only[Ql,Zd,Jm]at hc
    rcases hc with rfl|rfl|rfl|rfl|rfl
    ·exact⟨_,hz⟩
    ·exact⟨_,hI⟩
    ·exact⟨_,hO⟩
    ·obtain⟨o,e,_⟩:=h1.get;exact⟨o,e⟩
    ·obtain⟨o,e,_⟩:=h2.get;exact⟨o,e⟩
   obtain⟨o,e⟩:=this;exact Qi (Qu e)
  have hf2:∀c∈[n+4,n+2,n+3,n,n+1],T3 X pins (upd H s.heap.objs.size (.tup [xs[i]'(by omega),ys[i]'(by omega)])) c:=fun c hc=>⟨by rw[D7 (lt5 c hc)];exact(hf c hc).1,(hf c hc).2⟩
  have hI':IsPair h' (n+2) (.ref n) (.ref (n+1)):=a7 _ _ D.TIz D.TITO D.TIi1 D.TIi2 hI
  refine⟨.ref s.heap.objs.size,rfl,wpAny_letOwnedTupleGo_zip (s:={s with heap:=h'}) a1 fun h2' b1 b2=>?_⟩
  have I2:Inv X pins σ (upd H s.heap.objs.size (.tup [xs[i]'(by omega),ys[i]'(by omega)])) {s with heap:=h2'}:=Mn (s:={s with heap:=h'}) (ch:=[n+4]) (t':=s.toks) I1
   (fun c o hc e=>b2.extBut _ _ (fun z=>hc (by simp[z])) e) (fun c hc=>hf2 c (XT hc))
  exact⟨.ref s.heap.objs.size,_,I2,rfl,⟨_,_,_,hn,rfl,rfl,ex,ey⟩,
   ⟨b1,b2.extBut _ _ D.TIz hI',⟨_,_,b2.extBut _ _ D.TOz a2⟩,a3.but b2.extBut D.i1z,a4.but b2.extBut D.i2z⟩,fun c hc=>(hf2 c hc).1⟩
 done:=by
  intro X hP hw hK hc i pins s σ H E I hf st hg;subst hP hw hK;obtain⟨hi,q1,q2⟩:=hg;obtain⟨hz,hI,⟨a,b,hO⟩,h1,h2⟩:=st;obtain⟨its,r1,p1,_⟩:=Cs I q1;obtain⟨jts,r2,p2,_⟩:=Cs I q2;have D:ZipApart (n+4) (n+2) (n+3) n (n+1) l1 l2:=apart
   (fun j hj=>FX I (hf _ (FY n hj)) q1)
   (fun j hj=>FX I (hf _ (FY n hj)) q2)
  have e1:=r1.length
  have e2:=r2.length
  have hend:its.toArray[i]? =none\/jts.toArray[i]? =none:=by
   by_cases h:its.length≤i
   ·exact .inl (by simp;omega)
   ·exact .inr (by simp;omega)
  exact XO (I.ok.hd hc) D hz hI hO h1 h2 p1 p2 hend fun h' hk=>⟨rfl,Mn (ch:=[n+4,n+3,n,n+1]) (t':=s.toks) I
   (fun c o hc e=>hk c o (fun z=>hc (by simp[z])) (fun z=>hc (by simp[z])) (fun z=>hc (by simp[z])) (fun z=>hc (by simp[z])) e)
   (fun c hc=>hf c (Ms hc))⟩
 self:=fun _ _ _ _ _ st h=>wpAny_pyIter_zip st.1 h
theorem XV:bootBuiltins "zip"=some (.type "zip"):=by rfl'
section
variable{pos:Pos}{b:Expr}{tp:Pos}
def XX(K:Qz)(ta:TA):TI:=fun σ H R=>ta σ H fun vs H1=>∃c1 c2 l1 l2 xs ys,vs=[.ref l1,.ref l2]/\rS c1 K H1 l1 xs/\rS c2 K H1 l2 ys/\R (wX K c1 c2 l1 l2 xs ys) H1
theorem XY{ta:TA}(hg:Gl X "zip")(hm:X.mg "zip"=none)(ha:PA X [a,b] ta)(hs:starEach [a,b] X.env=[(false,eval a X.env),(false,eval b X.env)]:=by rfl)(hs2:starEach [b] X.env=[(false,eval b X.env)]:=by rfl):
  PI X (.Tuple elts kk tp) (.Call (.Name "zip" p) [a,b] [] pos) (XX X.K ta):=by
 intro pins s σ H R I h;refine Call_ (BL I hg hm XV (Jd (g6 (ha pos pins s σ H _ I h) fun us s1 ⟨vs,H1,I1,r1,q1⟩=>?_) (by rw[hs,hs2]) (by rw[hs2];rfl)))
 obtain⟨c1,c2,l1,l2,xs,ys,rfl,h1,h2,q⟩:=q1;obtain⟨u,v,rfl,ru,rv⟩:=BM r1;cases ru;cases rv;obtain⟨its,r1,p1,_⟩:=Cs I1 h1;obtain⟨jts,r2,p2,_⟩:=Cs I1 h2;refine XR p1 p2 fun h' a1 a2 a3 a4 a5 a6 a7=>?_
 refine wpAny_pyIter_zip a1 ?_
 refine⟨s1.heap.objs.size+4,_,_,_,H1,rfl,I1.kept (t':=s1.toks) a7,XU c1 c2 s1.heap.objs.size l1 l2 xs ys,⟨a1,a2,⟨_,_,a3⟩,a4,a5⟩,fun c hc=>?_,q⟩
 have hle:s1.heap.objs.size≤c:=zF hc
 exact I1.fpOk hle (I1.hok.fresh hle)
def Q9(xs ys:List D):List D:=(xs.zip ys).map fun p=>.tup [p.1,p.2]
def Y2(ms:Mo (List D)):Mo (List D):=fun env=>(ms env).bind fun p=>match p.1 with
 |[d,e]=>d.items.bind fun xs=>e.items.map fun ys=>(Q9 xs ys,p.2)
 |_=>none
theorem Mt{v:V}(r:c4 K G v d)(h:d.items=some ds):∃c a xs,v=.ref a/\rS c K G a xs/\C4 K G xs ds:=by
 cases d<;>first|(exact absurd (show(none:Option (List D))=some ds from h) (by simp))|skip
 ·cases h;simp only[c4]at r;obtain⟨a,xs,e,q,t⟩:=r;exact⟨true,a,xs,e,q.t,t⟩
 ·cases h;simp only[c4]at r;obtain⟨a,xs,e,q,t⟩:=r;exact⟨false,a,xs,e,q,t⟩
theorem XZ{c1:Bool}{xs ys:List V}{es:List D}(h1:rS c1 K G l1 xs)(h2:rS c2 K G l2 ys)(r1:C4 K G xs ds)(r2:C4 K G ys es):uW K (wX K c1 c2 l1 l2 xs ys) G (Q9 ds es)where
 go:=fun i H l hi=>⟨by rw[r1.length,r2.length];simpa [Q9]using hi,l.sqA h1,l.sqA h2⟩
 stop:=fun i H l hi=>⟨by rw[r1.length,r2.length];simpa [Q9]using hi,l.sqA h1,l.sqA h2⟩
 yld:=fun i H x H' d l y e=>by
  obtain⟨p,a,b,hp,rfl,rfl,ea,eb⟩:=y;obtain⟨da,e1,ra⟩:=r1.get' ea;obtain⟨db,e2,rb⟩:=r2.get' eb;have ed:d=.tup [da,db]:=by
   unfold Q9 at e;rw[Zv,List.getElem?_zip_eq_some.mpr (⟨e1,e2⟩:ds[i]? =some (da,db).1/\es[i]? =some (da,db).2)]at e;cases e;rfl
  subst ed;have gp:G p=none:=by
   cases q:G p with
   |none=>rfl
   |some o=>rw[l p o q]at hp;cases hp
  exact .inr ⟨p,_,uB,hp,rfl,Bq J0 (d8 (c4.mono (Le.upd gp) _ ra) (d8 (c4.mono (Le.upd gp) _ rb) f7))⟩
theorem Ct(hg:Gl X "zip")(hm:X.mg "zip"=none)(ha:rB X B [a,b] ms)(hs:starEach [a,b] X.env=[(false,eval a X.env),(false,eval b X.env)]:=by rfl)(hs2:starEach [b] X.env=[(false,eval b X.env)]:=by rfl):
  EI X B (.Tuple elts kk tp) (.Call (.Name "zip" p) [a,b] [] pos) (Y2 ms):=by
 refine FO (XY hg hm ha hs hs2) ?_
 rintro σ H R ⟨G,env,ds,env',rl,e,k⟩;obtain⟨⟨ds',a9⟩,e1,e2⟩:=C6 e;dsimp only at e2;split at e2
 ·rename_i d1 d2
  obtain⟨xs,e3,e4⟩:=C6 e2;obtain⟨ys,e5,e6⟩:=F5 e4;cases e6;refine⟨G,env,_,_,rl,e1,fun vs G1 H1 ev r=>?_⟩
  obtain⟨v,w,rfl,r1,r2⟩:=Dp r;obtain⟨c1,l1,us,rfl,q1,t1⟩:=Mt r1 e3;obtain⟨c2,l2,ws,rfl,q2,t2⟩:=Mt r2 e5;exact⟨c1,c2,l1,l2,us,ws,rfl,ev.rel.sub.sqA q1,ev.rel.sub.sqA q2,k _ G1 H1 ev (XZ q1 q2 t1 t2)⟩
 ·cases e2
end
section
variable{fin:Bool}{Q:Bool->Shared->Prop}
end
def keys(ds:List D):Option (OI):=ds.mapM fun d=>match d with
 |.tup es=>(i4 es).bind fun ns=>if ns.isEmpty then none else some ns
 |_=>none
theorem Mv{K:Qz}{G:Hp}{ds:List D}{xs:List V}{us:List Value}(r:C4 K G xs ds)(v:D4 xs us):∀{p:List Nat}{es:List D},(p.mapM fun i=>ds[i]?)=some es->∃ys,D4 ys (p.map fun i=>us.getD i Value.none)/\C4 K G ys es
 |[],es,e=>by cases e;exact⟨[],.nil,f7⟩
 |i::p,es,e=>by
  rw[List.mapM_cons]at e;obtain⟨d,e1,e2⟩:=C6 e;obtain⟨es',e3,e4⟩:=C6 e2;cases e4;obtain⟨ys,h1,h2⟩:=Mv r v e3;obtain⟨x,g1,g2⟩:=r.get e1;obtain⟨u,g3,g4⟩:=v.get g1;refine⟨x::ys,?_,d8 g2 h2⟩;rw[Qg];have:us.getD i Value.none=u:=by simp[g3]
  rw[this];exact .cons g4 h1
section
variable{pos:Pos}
theorem YA(I:Inv X pins σ H s):sysModules<s.heap.objs.size:=by
 have h:mainGlobals<s.heap.objs.size:=(I.mod.glob.keeps I.bk).lt
 exact Uv (by decide) h
end
section
variable{pos:Pos}{fn:Fn}{f:Addr}
structure Def(P:Program)(w:World)(K:Qz)(mg:OU)(base:Heap)(x:Str)(k n:Nat)(fn:Fn):Prop where
 ex:∃(f:Addr) (fd:FuncData) (ps:List Str),d9 P w K mg base j7 k f fd ps (mY K n fn)/\ps.length=n/\mg x=some (.ref f)/\PySem.W.keepIn K (.ref f)=true/\Q6 K fd ps []
theorem E2(D:Def X.prog X.w X.K X.mg X.base x k n fn)(hr:f9 k X.A)(hg:Gl X x)(ha:sU X B (e::es) as)(hdb:(x==("__debug__":Str))=false:=by decide)
  (he:starEach (e::es) X.env=(false,eval e X.env)::starEach es X.env:=by rfl)(hpl:(backTo pos (starEach es X.env)).any (·.1)=false:=by rfl):
  ED X B (.Call (.Name x p) (e::es) [] pos) (c9 n fn as):=by
 obtain⟨f,fd,ps,F,rfl,hm,hk,hb⟩:=D.ex;exact WS F hr hg hm hk hb ha hdb he hpl
theorem AZ(D:Def X.prog X.w X.K X.mg X.base x k n fn)(hr:f9 k X.A)(hg:Gl X x)(ha:sU X B (e::es) as)(hdb:(x==("__debug__":Str))=false:=by decide)
  (he:starEach (e::es) X.env=(false,eval e X.env)::starEach es X.env:=by rfl)(hpl:(backTo pos (starEach es X.env)).any (·.1)=false:=by rfl):
  EL X B (.Call (.Name x p) (e::es) [] pos) (M1 n fn as):=by
 obtain⟨f,fd,ps,F,rfl,hm,hk,hb⟩:=D.ex;exact WT F hr hg hm hk hb ha hdb he hpl
def BS:Option NameKind->Option NameKind->Bool:=fun a b=>decide (a=b)
def Mw(outN N':List Str)(outNames:List (Str×NameKind))(cells:List (Str×Addr))(scope:Scope)(keep:List Bool)(more:Nat):Bool:=
 (decide (scope.kind=.function)&&(scope.names.all (fun y=>BS (scope.names.lookup y.1) (some y.2))&&(scope.names.all (fun y=>!BS (some y.2) (some .free)||(cells.lookup y.1).isSome)&&(decide (keep.length=outN.length)&&(decide (N'.length=outN.length+more)&&
  (List.range keep.length).all fun i=>!(keep.getD i false)||match N'[i]?,outN[i]? with
   |some x,some y=>decide (x=y)&&(!BS (scope.names.lookup x) (some .local)&&(!BS (scope.names.lookup x) (some .cell)&&(!BS (scope.names.lookup x) (some .free)||(BS (outNames.lookup x) (some .cell)||BS (outNames.lookup x) (some .free)))))
   |_,_=>false)))))
theorem YB{N':List Str}(c:closureFor scope X.env=pure (O9 X.env.cells scope.names []))(h:Mw X.N N' X.env.scope.names X.env.cells scope keep more=true):nE X N' scope keep more:=by
 unfold Mw at h;simp only[Qw,Zw,Qx,BS]at h;obtain⟨h1,h2,h3,h4,h5,h6⟩:=h;have gt:∀(i:Nat) (x:Str),keep[i]? =some true->N'[i]? =some x->∃y,X.N[i]? =some y/\x=y/\ ¬ (scope.names.lookup x=some .local)/\ ¬ (scope.names.lookup x=some .cell)/\(scope.names.lookup x=some .free->X.env.scope.names.lookup x=some .cell\/X.env.scope.names.lookup x=some .free):=fun i x e1 e2=>by
  have hi:i<keep.length:=(Qp.mp e1).1
  have q:=h6 i (Zs.mpr hi)
  have e3:keep.getD i false=true:=by simp[e1]
  rw[e3,e2]at q;cases e4:X.N[i]? with
  |none=>rw[e4]at q;simp at q
  |some y=>
   rw[e4]at q;simp only[Bool.not_true,Vc,Qw,Zw,Xa,decide_eq_false_iff_not,Xv]at q;obtain⟨q1,q2,q3,q4⟩:=q;exact⟨y,rfl,q1,q2,q3,fun z=>q4.elim (fun n=>absurd z n) id⟩
 refine⟨h1,h2,c,fun y hy hf=>?_,h4,h5,fun i x e1 e2=>?_,fun i x e1 e2 e3=>?_⟩
 ·have q:=h3 y hy
  rw[hf]at q
  simpa using q
 ·obtain⟨y,g1,g2,g3,g4,_⟩:=gt i x e1 e2
  exact⟨by rw[g1,g2],g3,g4⟩
 ·have hi:i<keep.length:=(Qp.mp e1).1
  have hN:i<N'.length:=by omega
  obtain⟨y,g1,g2,g3,g4,g5⟩:=gt i _ e1 (Zk hN);rw[e2]at g1;cases g1;rw[g2]at g5;exact g5 e3
end
section
variable{pos:Pos}
theorem Dv{i:Int}(hg:Gl X x)(hm:∃t,X.mg x=some (.int i t))(hd:(x==("__debug__":Str))=false:=by decide):ED X B (.Name x pos) (mC (.int i)):=by
 obtain⟨t,hm⟩:=hm;exact VV hg hm hd
def Kp(i:Nat)(m:Mo D):Prop:=∀env d env' w ds,m env=some (d,env')->env'[i]? =some w->w.mut=some ds->∃w0 ds0,env[i]? =some w0/\w0.mut=some ds0
theorem Ho:Kp i (mC d):=fun env d' env' w ds e h1 h2=>by cases e;exact⟨w,ds,h1,h2⟩
theorem YC(h:Kp i m):Kp i (M5 m):=fun env d' env' w ds e h1 h2=>by
 obtain⟨⟨d,a9⟩,e1,e2⟩:=C6 e;dsimp only at e2;split at e2
 ·cases e2;exact h env _ _ w ds e1 h1 h2
 ·cases e2
theorem Hq(hj:j≠i):Kp i (A0 j):=fun env d' env' w ds e h1 h2=>by
 unfold A0 at e;split at e
 ·cases e;exact⟨w,ds,h1,h2⟩
 ·cases e
  rw[Qc hj]at h1;exact⟨w,ds,h1,h2⟩
 ·cases e
  rw[Qc hj]at h1;exact⟨w,ds,h1,h2⟩
 ·cases e
theorem YD:bootBuiltins "int"=some (.type "int"):=by rfl'
theorem YE:bootBuiltins "bool"=some (.type "bool"):=by rfl'
theorem YF:bootBuiltins "tuple"=some (.type "tuple"):=by rfl'
theorem YG:bootBuiltins "list"=some (.type "list"):=by rfl'
theorem YH:bootBuiltins "all"=some (.builtin "all"):=by rfl'
theorem YI:bootBuiltins "max"=some (.builtin "max"):=by rfl'
theorem YJ:bootBuiltins "min"=some (.builtin "min"):=by rfl'
theorem YK:bootBuiltins "sorted"=some (.builtin "sorted"):=by rfl'
end
theorem My{K:Qz}{G:Hp}:∀ns:List Int,C4 K G (ns.map V.int) (ns.map D.int)
 |[]=>f7
 |n::ns=>d8 (by simp only[c4]) (My ns)
def Dw:Expr->Bool
 |.Starred _ _=>true
 |_=>false
theorem FZ{env:Env}(h:Dw e=false):starEach (e::es) env=(false,eval e env)::starEach es env:=by
 cases e<;>first|rfl|cases h
theorem xZ{env:Env}(h:Dw a=false):starEach [a] env=[(false,eval a env)]:=by rw[FZ h];rfl
theorem zG{b:Expr}{env:Env}(h:Dw a=false)(h2:Dw b=false):starEach [a,b] env=[(false,eval a env),(false,eval b env)]:=by rw[FZ h,xZ h2]
theorem NA{pos:Pos}{env:Env}:∀{es:List Expr},es.all (fun e=>!Dw e)=true->(backTo pos (starEach es env)).any (·.1)=false
 |[],_=>rfl
 |e::es,h=>by
  rw[Vz,Qw,Xa]at h;rw[FZ h.1];show(false||(backTo pos (starEach es env)).any (·.1))=false
  rw[NA h.2];rfl
theorem L4{m n:Mo Fl}{e e1:b0}(h:m e=some (.nx,e1)):C3 m n e=n e1:=by unfold C3;rw[h];rfl
theorem X0{m n:Mo Fl}{e e1:b0}(h:m e=some (.ret d,e1)):C3 m n e=some (.ret d,e1):=by unfold C3;rw[h];rfl
theorem Y3{t:Mo Bool}{m n:Mo Fl}{e e1:b0}(h:t e=some (true,e1)):G0 t m n e=m e1:=by unfold G0;rw[h];rfl
theorem Y4{t:Mo Bool}{m n:Mo Fl}{e e1:b0}(h:t e=some (false,e1)):G0 t m n e=n e1:=by unfold G0;rw[h];rfl
theorem Fa(neg:Bool)(i j:Int):i9 neg (.int i) (.int j)=some (.bl (if neg then !(i==j)else(i==j))):=rfl
theorem Hr{g:OZ}{m:Mo D}{P:b0->Prop}{f:D->D}:∀{ds:List D}{env:b0},(∀d∈ds,∀e,P e->∃e1 e2,g d e=some e1/\m e1=some (f d,e2)/\P e2)->P env->
  ∃env',N1 g F1 m ds env=some (ds.map f,env')/\P env'
 |[],env,_,p=>⟨env,rfl,p⟩
 |d::ds,env,h,p=>by
  obtain⟨e1,e2,h1,h2,h3⟩:=h d (by simp) env p
  obtain⟨e3,h4,h5⟩:=Hr (ds:=ds) (fun x hx=>h x (by simp[hx])) h3
  refine⟨e3,?_,h5⟩;unfold N1;rw[h1];simp only[Qj,F1,Zn];rw[h2];simp only[Qj];rw[h4];rfl
theorem CB{α:Type}(f:α->Bool):∀l:List α,U1 (l.map fun x=>D.bl (f x))=some (l.all f)
 |[]=>rfl
 |x::l=>by simp[U1,CB f l]
theorem J4{N:Nat}{env:List W}(h:mb (ws++List.replicate (N-ws.length) .nil)=some (.ret d,env)):k6 N mb ws=some (.d d,W9 ws env):=by unfold k6;rw[h]
theorem Hs{N:Nat}{env:List W}{d:List D}(h:mb (ws++List.replicate (N-ws.length) .nil)=some (.retL d,env)):k6 N mb ws=some (.l d,W9 ws env):=by unfold k6;rw[h]
def stop(b:Bool)(d:D):Fl:=if b then .nx else .ret d
theorem NB{g:OZ}{b:Mo Fl}{P:b0->Prop}{ok:D->Bool}{r:D}:∀{ds:List D}{env:b0},(∀d∈ds,∀e,P e->∃e1 e2,g d e=some e1/\b e1=some (stop (ok d) r,e2)/\P e2)->P env->∃env',loop g b ds env=some (stop (ds.all ok) r,env')/\P env'
 |[],env,_,p=>⟨env,rfl,p⟩
 |d::ds,env,h,p=>by
  obtain⟨e1,e2,h1,h2,h3⟩:=h d (by simp) env p
  by_cases hk:ok d=true
  ·obtain⟨e3,h4,h5⟩:=NB (ds:=ds) (fun x hx=>h x (by simp[hx])) h3
   refine⟨e3,?_,h5⟩;unfold loop;rw[h1];simp only[Qj];rw[h2,hk,Vz,hk,Yn];exact h4
  ·have hk':ok d=false:=by simpa using hk
   refine⟨e2,?_,h3⟩;unfold loop;rw[h1];simp only[Qj];rw[h2,hk',Vz,hk',Ue];rfl
theorem YL{es:List D}{f:D->Bool}:U1 (es.map fun d=>.bl (f d))=some (es.all f):=CB f es
theorem Aa{g:OZ}{t:Mo Bool}{e1 e2 e3:b0}{r:List D}(h:mi env=some (ds,e1))(hl:ds.length≤100000)(hc:N1 g t m ds (P1 keep more e1)=some (r,e2))(ho:N8 keep e1 e2=some e3):
  D8 mi keep more g t m env=some (r,e3):=by
 unfold D8;rw[h];show(if ds.length≤100000 then(N1 g t m ds (P1 keep more e1)).bind _ else none)=_
 rw[Qh hl,hc];show(N8 keep e1 e2).map _=_;rw[ho];rfl
theorem Fb{e1:b0}{j:Int}(h:ms env=some ([.int j],e1))(h1: -1000000<j)(h2:j<1000000):N0 ms env=some (Q7 0 j.toNat,e1):=by
 unfold N0;rw[h];exact Qh ⟨h1,h2⟩
theorem K3{f:List D->Option D}{e1:b0}(h:ms env=some (ds,e1))(hf:f ds=some d):d5 f ms env=some (d,e1):=by unfold d5;rw[h];show(f ds).map _=_;rw[hf];rfl
theorem C7{e1 e2:b0}(h:m env=some (d,e1))(h2:ms e1=some (ds,e2)):B0 m ms env=some (d::ds,e2):=by unfold B0;rw[h];show(ms e1).map _=_;rw[h2];rfl
theorem G8{m:Mo (List D)}{e1:b0}(h:m env=some (ds,e1)):mF m env=some (.lst ds,e1):=by unfold mF;rw[h];rfl
theorem Q2{e1:b0}(h:m env=some (d,e1))(hd:d.items=some ds):D5 m env=some (ds,e1):=by unfold D5;rw[h];show d.items.map _=_;rw[hd];rfl
theorem D0{f:D->D->Option D}{mb:Mo D}{e1 e2:b0}{a b c:D}(h1:ma env=some (a,e1))(h2:mb e1=some (b,e2))(hf:f a b=some c):B5 f ma mb env=some (c,e2):=by
 unfold B5;rw[h1];show(mb e1).bind _=_;rw[h2];show(f a b).map _=_;rw[hf];rfl
theorem N9{e1:b0}(h:m env=some (d,e1)):E1 m env=some (.ret d,e1):=by unfold E1;rw[h];rfl
theorem NC{m:Mo (List D)}{e1:b0}{d:List D}(h:m env=some (d,e1)):Am m env=some (.retL d,e1):=by unfold Am;rw[h];rfl
theorem V5{e1:b0}(h:m env=some (d,e1)):C9 i m env=some (.nx,e1.set i (.dat d)):=by unfold C9;rw[h];rfl
theorem ND{m:Mo (List D)}{e1:b0}{d:List D}(h:m env=some (d,e1)):O2 i m env=some (.nx,e1.set i (.own d)):=by unfold O2;rw[h];rfl
theorem N4{e1:b0}{b:Bool}(h:m env=some (.bl b,e1)):mT m env=some (b,e1):=by unfold mT;rw[h];rfl
theorem Av{m:Mo Bool}{e1:b0}{b:Bool}(h:m env=some (b,e1)):G9 m env=some (!b,e1):=by unfold G9;rw[h];rfl
theorem V6{g:OZ}{b:Mo Fl}{e1:b0}(h:mi env=some (ds,e1)):K6 mi g b env=loop g b ds e1:=by unfold K6;rw[h];rfl
theorem V7{f:Fn}{e1:b0}(h:as env=some (av,e1))(hn:av.length=n)(hs:slots av=[])(hf:f (av.map (O8 (.l [])))=some (r,ws')):AB n f as env=some (r,e1):=by
 unfold AB;rw[h];show(if av.length=n then _ else none)=_
 rw[Qh hn];simp only[hs];rw[hf];rfl
theorem Cu{f:Fn}{e1:b0}{w:W}{c c':List D}(h:as env=some (av,e1))(hn:av.length=n)(hs:slots av=[i])(hw:e1[i]? =some w)(hm:w.mutL=some c)(hf:f (av.map (O8 (.l c)))=some (r,ws'))(hp:Aq ws'=some (.l c')):
  AB n f as env=some (r,e1.set i (w.put c')):=by
 unfold AB;rw[h];show(if av.length=n then _ else none)=_
 rw[Qh hn];simp only[hs];rw[hw];simp only[Qj];rw[W.mutL_of hm];simp only[Qj];rw[hf];simp only[Qj];rw[hp,W.put_eq hm];rfl
theorem Fc{f:Fn}{e1:b0}{w:W}{c c':Mu}(h:as env=some (av,e1))(hn:av.length=n)(hs:slots av=[i])(hw:e1[i]? =some w)(hm:w.mut=some c)(hf:f (av.map (O8 c))=some (r,ws'))(hp:Aq ws'=some c'):
  AB n f as env=some (r,e1.set i (w.putM c')):=by
 unfold AB;rw[h];show(if av.length=n then _ else none)=_
 rw[Qh hn];simp only[hs];rw[hw];simp only[Qj];rw[hm];simp only[Qj];rw[hf];simp only[Qj];rw[hp];rfl
theorem R9{f:Fn}{e1:b0}(h:AB n f as env=some (.d d,e1)):c9 n f as env=some (d,e1):=by unfold c9;rw[h];rfl
theorem BU{f:Fn}{e1:b0}{d:List D}(h:AB n f as env=some (.l d,e1)):M1 n f as env=some (d,e1):=by unfold M1;rw[h];rfl
section
variable{pos:Pos}
def Aw(m:Mo D):Mo Fl:=fun env=>(m env).map fun p=>(.nx,p.2)
theorem CC(h:ED X B e ma)(hsw:swapsWith e none pos.line X.env=pure false:=by rfl):ES X B (.Expr e pos) (Aw ma):=by
 refine j2 (Gp (te:=TD X.K B ma) h hsw) ?_
 rintro D σ H ⟨G,env,fl,env',rl,e,k⟩;obtain⟨⟨d,a9⟩,e1,e2⟩:=F5 e;cases e2;exact .bind rl e1 fun v G' H' ev r=>k σ G' H' ev
theorem Fd{e1:b0}(h:m env=some (d,e1)):Aw m env=some (.nx,e1):=by unfold Aw;rw[h];rfl
end
section
variable{pos:Pos}{b c:Expr}{mb mc:Mo D}
theorem Dx{t:Value}{U:String}{b c:Bool}(h1:PySem.W.kitOne K t (.type T)=some b)(h2:PySem.W.kitOne K t (.type U)=some c):PySem.W.kitAny K t [.type T,.type U]=some (b||c):=by
 unfold PySem.W.kitAny;rw[h1];cases b with
 |true=>rfl
 |false=>
  dsimp only;unfold PySem.W.kitAny;rw[h2];cases c<;>rfl
theorem YM{tp:Addr}{U:String}{x:V}{u:Value}(I:Inv X pins σ H s)(l:Le G H)(rx:E3 x u)(rp:c4 X.K G x d)
  (ht:IsTup s.heap tp [Value.type T,.type U].toArray)(kt:L7 X.K T)(ku:L7 X.K U)(h:∀tk,Q (.bool (U0 (rH d) T||U0 (rH d) U)) {s with toks:=tk}):wpAny (model X.prog X.w) A (call (.builtin "isinstance") [u,.ref tp]) Q E s:=by
 obtain⟨⟨oc,od,odt,os⟩,t1,t2,n,t3⟩:=ht;dsimp only at t2 t3;subst t2 t3;have e:(∀o,d≠.obj o)->_:=fun hd=>Dx (Hj kt d hd) (Hj ku d hd)
 cases d with
 |non=>simp only[c4]at rp;subst rp;cases (show u=Value.none from rx);exact Yv PySem.W.kitx_none I.kIn True.intro t1 (e nofun) (fun z=>nomatch z) h
 |bl b=>simp only[c4]at rp;subst rp;cases (show u=Value.bool b from rx);exact Yv PySem.W.kitx_bool I.kIn True.intro t1 (e nofun) (fun z=>nomatch z) h
 |int i=>simp only[c4]at rp;subst rp;obtain⟨t,q⟩:=(show∃t,u=Value.int i t from rx);cases q;exact Yv PySem.W.kitx_int I.kIn True.intro t1 (e nofun) (fun z=>nomatch z) h
 |str z=>simp only[c4]at rp;obtain⟨rp,_⟩:=rp;subst rp;obtain⟨t,q⟩:=(show∃t,u=Value.str z t from rx);cases q;exact Yv PySem.W.kitx_str I.kIn True.intro t1 (e nofun) (fun z=>nomatch z) h
 |tup ds=>
  simp only[c4]at rp;obtain⟨a,xs,rfl,q,_⟩:=rp;cases rx;obtain⟨its,_,⟨o,h1,h2,_⟩,_⟩:=I.tuple (l.sqT q);exact Yv Xm I.kIn ⟨o,h1,h2⟩ t1 (e nofun) (fun z=>nomatch z) h
 |lst ds=>
  simp only[c4]at rp;obtain⟨a,xs,rfl,q,_⟩:=rp;cases rx;obtain⟨its,_,⟨o,n,h1,h2,_⟩,_⟩:=I.list (l.sqL q);exact Yv Vu I.kIn ⟨o,h1,h2⟩ t1 (e nofun) (fun z=>nomatch z) h
 |emp=>
  simp only[c4]at rp;obtain⟨a,kvs,rfl,q⟩:=rp;cases rx;obtain⟨_,_,vs,_,dd⟩:=(show K2 X.prog X.w H s.heap a (.dK _)from I.hok a _ (l _ _ q))
  obtain⟨o,h1,h2⟩:∃o,s.heap.get? a=some o/\o.cls=.type "dict":=by
   obtain⟨o,es,ep,g1,g2,_⟩:=dd;exact⟨o,g1,g2.1⟩
  exact Yv Jq I.kIn ⟨o,h1,h2⟩ t1 (e nofun) (fun z=>nomatch z) h
 |dct ks vs=>
  simp only[c4]at rp;obtain⟨a,kvs,rfl,q,_⟩:=rp;cases rx;obtain⟨_,_,_,_,o,_,_,h1,h2,_⟩:=(show K2 X.prog X.w H s.heap a (.dT _ _)from I.hok a _ (l _ _ q))
  exact Yv Jq I.kIn ⟨o,h1,h2.1⟩ t1 (e nofun) (fun z=>nomatch z) h
 |obj o=>
  have h0:∀{T:String},L7 X.K T->U0 "object" T=false:=fun{T} kt=>by
   unfold L7 at kt;simp only[Ql,Zd,Jm]at kt
   rcases kt with rfl|rfl|rfl|rfl|rfl<;>rfl
  have hf:∀{T:String},L7 X.K T->PySem.W.kitOne X.K (.type "function") (.type T)=some false:=fun{T} kt=>by
   unfold L7 at kt;simp only[Ql,Zd,Jm]at kt
   rcases kt with rfl|rfl|rfl|rfl|rfl<;>rfl
  have h':∀tk,Q (.bool false) {s with toks:=tk}:=fun tk=>by have:=h tk;rwa [show U0 (rH (.obj o)) T=false from h0 kt,show U0 (rH (.obj o)) U=false from h0 ku]at this
  simp only[c4]at rp;cases o with
  |exc n=>
   obtain⟨a,C,HP,rfl,_,h3,h4,h5⟩:=rp;cases rx;exact Yv h4 I.kIn (I.hok a _ (l _ _ h3)).1 t1 (Dx (h5 T kt) (h5 U ku)) (fun z=>nomatch z) h'
  |fn n=>
   obtain⟨f,rfl,_,h4⟩:=rp;cases rx;exact Yv h4 I.kIn True.intro t1 (Dx (hf kt) (hf ku)) (fun z=>nomatch z) h'
  |dk kvs=>
   obtain⟨a,rfl,q⟩:=rp;cases rx;obtain⟨_,_,vs,_,dd⟩:=(show K2 X.prog X.w H s.heap a (.dK _)from I.hok a _ (l _ _ q))
   obtain⟨o,h1,h2⟩:∃o,s.heap.get? a=some o/\o.cls=.type "dict":=by
    obtain⟨o,es,ep,g1,g2,_⟩:=dd;exact⟨o,g1,g2.1⟩
   have hd:∀{T:String},L7 X.K T->PySem.W.kitOne X.K (.type "dict") (.type T)=some false:=fun{T} kt=>by
    unfold L7 at kt;simp only[Ql,Zd,Jm]at kt
    rcases kt with rfl|rfl|rfl|rfl|rfl<;>rfl
   exact Yv Jq I.kIn ⟨o,h1,h2⟩ t1 (Dx (hd kt) (hd ku)) (fun z=>nomatch z) h'
  |dt kvs=>
   obtain⟨a,ps,rfl,q,_⟩:=rp;cases rx;obtain⟨_,_,vs,_,dd⟩:=(show K2 X.prog X.w H s.heap a (.dK _)from I.hok a _ (l _ _ q))
   obtain⟨o,h1,h2⟩:∃o,s.heap.get? a=some o/\o.cls=.type "dict":=by
    obtain⟨o,es,ep,g1,g2,_⟩:=dd;exact⟨o,g1,g2.1⟩
   have hd:∀{T:String},L7 X.K T->PySem.W.kitOne X.K (.type "dict") (.type T)=some false:=fun{T} kt=>by
    unfold L7 at kt;simp only[Ql,Zd,Jm]at kt
    rcases kt with rfl|rfl|rfl|rfl|rfl<;>rfl
   exact Yv Jq I.kIn ⟨o,h1,h2⟩ t1 (Dx (hd kt) (hd ku)) (fun z=>nomatch z) h'
def NF(T U:String)(m:Mo D):Mo D:=fun env=>(m env).map fun p=>(.bl (U0 (rH p.1) T||U0 (rH p.1) U),p.2)
theorem NG{U:String}{y z:Str}{p3 p4:Pos}{x1:Nat}(kt:L7 X.K T)(ku:L7 X.K U)(ha:ED X B a ma)(hg:Gl X "isinstance")(hm:X.mg "isinstance"=none)(hgT:Gl X y)(hmT:X.mg y=none)(hvT:bootBuiltins y=some (.type T))(hgU:Gl X z)(hmU:X.mg z=none)(hvU:bootBuiltins z=some (.type U))
  (hnT:y≠"__name__":=by decide)(hdT:(y==("__debug__":Str))=false:=by decide)(hnU:z≠"__name__":=by decide)(hdU:(z==("__debug__":Str))=false:=by decide)
  (he:starEach [a,.Tuple [.Name y p2,.Name z p3] x1 p4] X.env=[(false,eval a X.env),(false,eval (.Tuple [.Name y p2,.Name z p3] x1 p4) X.env)]:=by rfl):ED X B (.Call (.Name "isinstance" p) [a,.Tuple [.Name y p2,.Name z p3] x1 p4] [] pos) (NF T U ma):=by
 have hT:PE X (.Name y p2) (tC (.ty T)):=Ew hgT hmT hvT rfl hnT hdT
 have hU:PE X (.Name z p3) (tC (.ty U)):=Ew hgU hmU hvU rfl hnU hdU
 have htup:PE X (.Tuple [.Name y p2,.Name z p3] x1 p4) (Lp (HA (tC (.ty T)) (HA (tC (.ty U)) Lo))):=Lq (R5 hT (R5 hU Aj))
 have hc:P4 X (.builtin "isinstance") (fun xs H Q=>∃x q G d,xs=[x,.ref q]/\H q=some (.tup [.ty T,.ty U])/\Le G H/\c4 X.K G x d/\Q (.bl (U0 (rH d) T||U0 (rH d) U)) H):=by
  intro pins s σ H xs us Q I r h;obtain⟨x,q,G,d,rfl,hq,l,rp,qq⟩:=h;obtain⟨u,w',rfl,r1,r2⟩:=BM r;cases r2;obtain⟨_,its,v,ht⟩:=(show K2 X.prog X.w H s.heap q (.tup [.ty T,.ty U])from I.hok q _ hq)
  obtain⟨v1,v2,rfl,e1,e2⟩:=BM v;cases e1;cases e2;exact YM I l r1 rp ht.tup kt ku fun tk=>⟨.bl _,H,I.tok _,rfl,qq⟩
 refine d7 (Dh (pos:=pos) (p:=p) hc hg hm (by rfl') (R5 ha (R5 htup Aj) he) (he:=he)) ?_
 rintro σ H Q ⟨G,env,d,env',rl,e,k⟩;obtain⟨⟨d1,a9⟩,e1,e2⟩:=F5 e;cases e2;refine .bind rl e1 fun v G1 H1 ev r=>⟨(by decide:2≤sizeLine),fun q hq=>?_⟩
 have al:=ev.rel.allocM (o:=.tup [.ty T,.ty U]) hq
 exact⟨v,q,G1,d1,rfl,J0,al.rel.sub,r,k _ G1 _ (ev.trans al) (by simp only[c4])⟩
end
def NH:List D->Option Bool
 |[]=>some false
 |.bl b::r=>(NH r).map fun k=>b||k
 |_::_=>none
def zH:List D->Option D
 |[.lst ds]=>(NH ds).map fun k=>.bl k
 |_=>none
def M7:List D->Option D
 |[.lst ds]=>(i4 ds).map fun ns=>.int ns.sum
 |[.tup ds]=>(i4 ds).map fun ns=>.int ns.sum
 |_=>none
theorem Cv:∀{us:List Value}{ns:List Int},IntsAre us ns->∀(i:Nat) (v:Value),us[i]? =some v->∃t,v=.int (ns.getD i 0) t
 |_,_,.nil,i,v,h=>by simp at h
 |_,_,.cons n t r,i,v,h=>by
  cases i with
  |zero=>simp at h;exact⟨t,by simp[←h]⟩
  |succ i=>exact Cv r i v (by simpa using h)
def NI(X:Cx):List V->Hp->VK->Prop:=fun xs H Q=>∃(p:Addr) (ns:List Int),xs=[.ref p]/\(oD X.K H p (ns.map V.int)\/nZ X.K H p (ns.map V.int))/\Q (.int ns.sum) H
theorem AF(hc:X.calm=true):P4 X (.builtin "sum") (NI X):=by
 intro pins s σ H xs us Q I r h;obtain⟨p,ns,rfl,hq,q⟩:=h;obtain⟨u,rfl,rx⟩:=Ai r;cases rx;have hh:X.A.handled=none:=I.ok.hd hc
 rcases hq with hq|hq
 ·obtain⟨its,r',pl,hz⟩:=I.list hq
  have hi:IntsAre its ns:=Bn r'
  have hl:=pl.isList
  have hlt:p<s.heap.objs.size:=by obtain⟨_,e,_⟩:=hl;exact Qu e
  refine call_sum_walkG (Ut hl ?_);refine⟨s.heap.objs.size,[s.heap.objs.size,p],[s.heap.objs.size],its.toArray.size,_,_,fun i=>ns.getD i 0,rfl,Walks.list (A:=X.A.in1) hh _ p (Qi hlt) its.toArray,
   ⟨⟨_,Qn _ rfl,rfl,rfl⟩,hl.push _⟩,fun b hb=>?_,fun i v hP=>Cv hi i v (by simpa using hP),fun h' tk t' hk'=>?_⟩
  ·have hs:=Qu (Qn s.heap (o:={cls:=.type "list_iterator",data:=.fields #[.ref p,.int 0 0]}) rfl)
   rcases Ql.mp hb with rfl|hb
   ·exact hs
   ·rcases Ql.mp hb with rfl|hb
    ·exact Uv hlt hs
    ·cases hb
  ·rw[Qb,hi.length,Vk,Vh (Qm _)]
   exact⟨.int ns.sum,H,I.kept (t':=tk) (Vl hk'),⟨t',rfl⟩,q⟩
 ·obtain⟨its,r',pl,hz⟩:=I.tuple hq
  have hi:IntsAre its ns:=Bn r'
  have hl:s.heap.IsTuple p its.toArray:=pl
  have hlt:p<s.heap.objs.size:=by obtain⟨_,e,_⟩:=hl;exact Qu e
  refine call_sum_walkG (Ub hl ?_);refine⟨s.heap.objs.size,[s.heap.objs.size,p],[s.heap.objs.size],its.toArray.size,_,_,fun i=>ns.getD i 0,rfl,Walks.tuple (A:=X.A.in1) hh _ p (Qi hlt) its.toArray,
   ⟨⟨_,Qn _ rfl,rfl,rfl⟩,hl.push _⟩,fun b hb=>?_,fun i v hP=>Cv hi i v (by simpa using hP),fun h' tk t' hk'=>?_⟩
  ·have hs:=Qu (Qn s.heap (o:={cls:=.type "tuple_iterator",data:=.fields #[.ref p,.int 0 0]}) rfl)
   rcases Ql.mp hb with rfl|hb
   ·exact hs
   ·rcases Ql.mp hb with rfl|hb
    ·exact Uv hlt hs
    ·cases hb
  ·rw[Qb,hi.length,Vk,Vh (Qm _)]
   exact⟨.int ns.sum,H,I.kept (t':=tk) (Vl hk'),⟨t',rfl⟩,q⟩
theorem YN:AA X B (NI X) M7:=by
 intro G σ env H xs ds c Q rl r e k;unfold M7 at e;split at e
 ·rename_i ds
  obtain⟨x,rfl,q⟩:=V3 r;obtain⟨ns,e1,e2⟩:=F5 e;subst e2;simp only[c4]at q;obtain⟨a,ys,rfl,h1,h2⟩:=q;have:=AX h2 e1;subst this;exact⟨a,ns,rfl,.inl (rl.sub.sqL h1),k _ G H (.refl rl) (by simp only[c4])⟩
 ·rename_i ds
  obtain⟨x,rfl,q⟩:=V3 r;obtain⟨ns,e1,e2⟩:=F5 e;subst e2;simp only[c4]at q;obtain⟨a,ys,rfl,h1,h2⟩:=q;have:=AX h2 e1;subst this;exact⟨a,ns,rfl,.inr (rl.sub.sqT h1),k _ G H (.refl rl) (by simp only[c4])⟩
 ·cases e
theorem NJ:bootBuiltins "sum"=some (.builtin "sum"):=by rfl'
theorem NK{f:Addr}:d9 P w K mg base j7 k f fd ps (mY K n fun _=>none):=
 ⟨fun _ _ _ _ h=>(by obtain⟨_,_,_,_,_,_,_,e,_⟩:=h;cases e),fun _ _ _ _ _ _ _ _ _ _ _ _ _ h=>(by obtain⟨_,_,_,_,_,_,_,e,_⟩:=h;cases e)⟩
theorem YO{p:Addr}{ns:List Int}(I:Inv X pins σ H s)(hh:X.A.in1.handled=none)(hq:oD X.K H p (ns.map V.int)\/nZ X.K H p (ns.map V.int))
  (h:∀(o:Obj) (P:Nat->Value->Prop) (T:Nat->Heap->Prop),Walks X.prog X.w X.A.in1 s.heap.objs.size [s.heap.objs.size,p] [s.heap.objs.size] ns.length P T->T 0 (s.heap.push o)->(∀b∈[s.heap.objs.size,p],b<(s.heap.push o).objs.size)->
   (∀i v,P i v->i<ns.length/\∃t,v=.int (ns.getD i 0) t)->Q (.ref s.heap.objs.size) {s with heap:=s.heap.push o}):wpAny (model X.prog X.w) A (pyIter (.ref p)) Q E s:=by
 have key:∀(its:List Value),IntsAre its ns->∀i v,its.toArray[i]? =some v->i<ns.length/\∃t,v=.int (ns.getD i 0) t:=fun its hi i v hv=>by
  have hv':its[i]? =some v:=by simpa using hv
  refine⟨?_,Cv hi i v hv'⟩;have:=(Qp.mp hv').1;rw[hi.length]at this;exact this
 have low:∀(o:Obj),p<s.heap.objs.size->∀b∈[s.heap.objs.size,p],b<(s.heap.push o).objs.size:=fun o hlt b hb=>by
  have hs:s.heap.objs.size<(s.heap.push o).objs.size:=by rw[Yp];exact Tx _
  rcases Ql.mp hb with rfl|hb
  ·exact hs
  ·rcases Ql.mp hb with rfl|hb
   ·exact Uv hlt hs
   ·cases hb
 rcases hq with hq|hq
 ·obtain⟨its,r',pl,hz⟩:=I.list hq
  have hi:IntsAre its ns:=Bn r'
  have hl:=pl.isList
  have hlt:p<s.heap.objs.size:=by obtain⟨_,e,_⟩:=hl;exact Qu e
  have W:=Walks.list (prog:=X.prog) (w:=X.w) (A:=X.A.in1) hh s.heap.objs.size p (Qi hlt) its.toArray
  have es:its.toArray.size=ns.length:=by rw[Qb,hi.length]
  rw[es]at W;exact Ut hl (h _ _ _ W ⟨⟨_,Qn _ rfl,rfl,rfl⟩,hl.push _⟩ (low _ hlt) (key its hi))
 ·obtain⟨its,r',pl,hz⟩:=I.tuple hq
  have hi:IntsAre its ns:=Bn r'
  have hl:s.heap.IsTuple p its.toArray:=pl
  have hlt:p<s.heap.objs.size:=by obtain⟨_,e,_⟩:=hl;exact Qu e
  have W:=Walks.tuple (prog:=X.prog) (w:=X.w) (A:=X.A.in1) hh s.heap.objs.size p (Qi hlt) its.toArray
  have es:its.toArray.size=ns.length:=by rw[Qb,hi.length]
  rw[es]at W;exact Ub hl (h _ _ _ W ⟨⟨_,Qn _ rfl,rfl,rfl⟩,hl.push _⟩ (low _ hlt) (key its hi))
def R0(gt:Bool)(ns:List Int):Int:=ns.getD (argBest (fun i j=>if gt then decide (ns.getD i 0>ns.getD j 0)else decide (ns.getD i 0<ns.getD j 0)) (ns.length-1)) 0
def NL(X:Cx)(gt:Bool):List V->Hp->VK->Prop:=fun xs H Q=>∃(p:Addr) (ns:List Int),xs=[.ref p]/\(oD X.K H p (ns.map V.int)\/nZ X.K H p (ns.map V.int))/\0<ns.length/\Q (.int (R0 gt ns)) H
theorem Fe(hc:X.calm=true):P4 X (.builtin "min") (NL X false):=by
 intro pins s σ H xs us Q I r h;obtain⟨p,ns,rfl,hq,h0,q⟩:=h;obtain⟨u,rfl,rx⟩:=Ai r;cases rx;have hh:X.A.handled=none:=I.ok.hd hc;refine call_min_walk (YO I hh hq fun o P T W st low key=>?_)
 refine⟨_,_,_,_,_,_,_,rfl,W,st,low,h0,CmpOf.ints_lt (fun i=>ns.getD i 0) (fun i v hv=>(key i v hv).2),fun v h' tk hP hk=>?_⟩
 obtain⟨_,t,rfl⟩:=key _ v hP;exact⟨.int _,H,I.kept (t':=tk) (Vl hk),⟨t,rfl⟩,q⟩
def R1(gt:Bool):List D->Option D
 |[.lst ds]=>(i4 ds).bind fun ns=>if ns.isEmpty then none else some (.int (R0 gt ns))
 |[.tup ds]=>(i4 ds).bind fun ns=>if ns.isEmpty then none else some (.int (R0 gt ns))
 |_=>none
theorem YQ{gt:Bool}:AA X B (NL X gt) (R1 gt):=by
 intro G σ env H xs ds c Q rl r e k;unfold R1 at e;split at e
 ·rename_i ds
  obtain⟨x,rfl,q⟩:=V3 r;obtain⟨ns,e1,e2⟩:=C6 e;split at e2
  ·cases e2
  ·rename_i h0
   cases e2;simp only[c4]at q;obtain⟨a,ys,rfl,h1,h2⟩:=q;have:=AX h2 e1;subst this;exact⟨a,ns,rfl,.inl (rl.sub.sqL h1),by cases ns with|nil=>simp at h0|cons _ _=>simp,k _ G H (.refl rl) (by simp only[c4])⟩
 ·rename_i ds
  obtain⟨x,rfl,q⟩:=V3 r;obtain⟨ns,e1,e2⟩:=C6 e;split at e2
  ·cases e2
  ·rename_i h0
   cases e2;simp only[c4]at q;obtain⟨a,ys,rfl,h1,h2⟩:=q;have:=AX h2 e1;subst this;exact⟨a,ns,rfl,.inr (rl.sub.sqT h1),by cases ns with|nil=>simp at h0|cons _ _=>simp,k _ G H (.refl rl) (by simp only[c4])⟩
 ·cases e
section
variable{pos:Pos}{b c:Expr}
end
def r9(t:Mo Bool)(b:Mo Fl):Nat->Mo Fl
 |0,_=>none
 |n+1,env=>(t env).bind fun p=>if p.1=true then(b p.2).bind fun q=>match q.1 with
  |.nx=>r9 t b n q.2
  |.ct=>r9 t b n q.2
  |.bk=>some (.nx,q.2)
  |f=>some (f,q.2)else some (.nx,p.2)
def Ht(n:Nat)(t:Mo Bool)(b:Mo Fl):Mo Fl:=r9 t b n
section
variable{pos:Pos}{c:Expr}{t:Mo Bool}
theorem Hu{body:List Stmt}{mbd:Mo Fl}(hp:PassesOwn (model X.prog X.w) X.A X.env X.xe)(hc:ET X B c t)(hb:sK X B body mbd):ES X B (.While c body [] pos) (Ht n t mbd):=by
 refine j2 (Te hp hc hb) ?_
 rintro D σ H ⟨G,env,fl,env',rl,e,k⟩;refine⟨fun m σ2 H2=>∃G2 g0,Ev X.K B G σ env H G2 σ2 g0 H2/\r9 t mbd m g0=some (fl,env'),⟨n,G,env,.refl rl,e⟩,?_⟩
 rintro m σ2 H2 ⟨G2,g0,f6,e2⟩;cases m with
 |zero=>cases e2
 |succ m=>
  obtain⟨⟨b1,qA⟩,e3,e4⟩:=C6 e2;refine⟨G2,g0,b1,qA,f6.rel,e3,fun G3 H3 pM=>?_⟩
  have rT:=f6.trans pM
  cases b1 with
  |false=>
   simp only[Zx,Yu]at e4 ⊢;cases e4;exact k σ2 G3 H3 rT
  |true=>
   simp only[Zn]at e4 ⊢;refine⟨fun σ' H'=>∃G4 qR,Ev X.K B G σ env H G4 σ' qR H'/\r9 t mbd m qR=some (fl,env'),fun σ' H' q=>⟨m,Tx m,q⟩,?_⟩
   obtain⟨⟨uX,pD⟩,e6,e7⟩:=C6 e4;refine⟨G3,qA,uX,pD,pM.rel,e6,?_⟩;cases uX with
   |nx=>exact fun σ6 G6 H6 o3=>⟨G6,pD,rT.trans o3,e7⟩
   |ct=>exact fun σ6 G6 H6 o3=>⟨G6,pD,rT.trans o3,e7⟩
   |bk=>cases e7;exact fun σ6 G6 H6 o3=>k σ6 G6 H6 (rT.trans o3)
   |ret d=>cases e7;exact fun v σ6 G6 H6 o3=>k v σ6 G6 H6 (rT.trans o3)
   |retL d=>cases e7;exact fun a xs σ6 G6 H6 o3=>k a xs σ6 G6 H6 (rT.trans o3)
end
section
variable{pos:Pos}{ml:Mo (List D)}
end
abbrev x9(c:Bool)(h:Heap)(l:Addr):Heap:=(uF c h l).push {cls:=.type "enumerate",data:=.fields #[.none,.bool false,.ref h.objs.size,rawInt 0,.none,.none]}
section
variable{pos:Pos}{tp:Pos}
end
theorem NM(x:oN P w H h)(k:∀b u o,H b=some u->h.get? b=some o->h'.get? b=some o):oN P w H h':=fun a o e=>
 (x a o e).stay (fun b u hb q=>by
  rcases hb with rfl|hb
  ·exact k _ _ _ e q
  ·exact k _ _ _ hb q) (fun _ q=>q) fun _ _ q=>q
def pR(P:Program)(w:World):tM:=fun outer H s E ev s'=>
 ∃(e t C:Addr) (H':Hp) (Bh:Heap),ev=.ref e/\s'.os=s.os/\AllBare s'.gens/\Heap.FlyingW Bh outer e (.ref C) (.ref t) s'.heap/\
  Un (nR outer) [] H H' s.heap s'.heap/\oN P w H' Bh/\(∀b o,s.heap.get? b=some o->H b=none->b∉nR outer->Bh.get? b=some o)/\
  (∀b o,s.heap.get? b=some o->b∉nR outer->∃o',Bh.get? b=some o')/\E (.ref C) none H'
section
variable{H':Hp}{s':Shared}{E:XK}{e t:Addr}{Bh:Heap}
theorem Ff(hst:X.stack=X.env::X.outer)(hfr:X.env.frame=some X.env.locals)(hex:X.ex=[])(I:Inv X pins σ H s)(os:s'.os=s.os)(bare:AllBare s'.gens)(fly:Heap.FlyingW Bh X.outer e (.ref C) (.ref t) s'.heap)
  (kept:∀b o,s.heap.get? b=some o->H b=none->b∉nR X.stack->Bh.get? b=some o)
  (thr:∀b o,s.heap.get? b=some o->b∉nR X.stack->∃o',Bh.get? b=some o')
  (slots:∀b o,s.heap.get? b=some o->H b=none->b∈X.fs->∃sl,s'.heap.get? b=some {o with slots:=sl})
  (free:∀b o,s.heap.get? b=some o->H b=none->H' b=none)(tups:∀b xs,H b=some (.tup xs)->H' b=some (.tup xs))(frzs:∀b o u,H b=some (.frz o u)->H' b=some (.frz o u))
  (tbls:∀b ps,H b=some (.tbl ps)->∃more,H' b=some (.tbl (ps++more)))(hok:oN X.prog X.w H' Bh)(hE:E (.ref C) none H'):
  pR X.prog X.w X.outer X.H₀ X.s₀ E (.ref e) s':=by
 have nb:∀b o,X.s₀.heap.get? b=some o->b∉X.fs->b∉nR X.stack:=fun b o q n z=>by
  rw[hst]at z;unfold nR at z;rw[Jg,hfr]at z
  rcases Ql.mp z with z|z
  ·exact absurd (Qu q) (Nat.not_lt.mpr (by rw[z];exact I.ok.above))
  ·exact n z
 have nx:∀b,b∉X.ex:=fun b z=>by rw[hex]at z;cases z
 refine⟨e,t,C,H',Bh,rfl,os.trans I.os,bare,fly,⟨fun b o q n hb _=>?_,fun b o q n hb _=>?_,fun b o q n _=>?_,fun b o q _=>?_,fun b xs q=>tups b xs (I.base.tups b xs q),fun b o u q=>frzs b o u (I.base.frzs b o u q),fun b ps q=>?_⟩,hok,fun b o q n hb=>?_,fun b o q hb=>?_,hE⟩
 ·exact fly.1 b o (kept b o (I.base.keep b o q n hb (nx b)) (I.base.free b o q n (nx b)) (nb b o q hb))
 ·obtain⟨sl,q1⟩:=I.base.slot b o q n hb (nx b)
  obtain⟨sl',q2⟩:=slots b _ q1 (I.base.free b o q n (nx b)) hb;exact⟨sl',q2⟩
 ·obtain⟨o',q1⟩:=I.base.there b o q (nx b)
  exact free b o' q1 (I.base.free b o q n (nx b))
 ·obtain⟨o',q1⟩:=I.base.there b o q (nx b)
  by_cases hb:b∈X.fs
  ·obtain⟨sl,q2⟩:=slots b _ q1 (I.base.free b o q (I.ok.frf b hb) (nx b)) hb
   exact⟨_,q2⟩
  ·obtain⟨o2,q2⟩:=thr b o' q1 (nb b o q hb)
   exact⟨o2,fly.1 b o2 q2⟩
 ·obtain⟨m1,e1⟩:=I.base.tbls b ps q
  obtain⟨m2,e2⟩:=tbls b _ e1;exact⟨m1++m2,by rw[e2,Array.append_assoc]⟩
 ·exact kept b o (I.base.keep b o q n hb (nx b)) (I.base.free b o q n (nx b)) (nb b o q hb)
 ·obtain⟨o',q1⟩:=I.base.there b o q (nx b)
  exact thr b o' q1 (nb b o q hb)
structure vE(X:Cx)(E:XK):Prop where
 pass:Ez (pR X.prog X.w) X E
 made:∀(pins:OX) (σ:St) (H:Hp) (s:Shared) (h':Heap) (e C:Addr) (vs:List Value),Inv X pins σ H s->Heap.MadeExcOf s.heap h' e (.ref C) vs->E (.ref C) none H->X.xe (.ref e) {s with heap:=h'}
end
theorem YR{f:Addr}{cd:Value}{outer:List Env}{s₀:Shared}{H₀:Hp}{E:XK}:
  vE (O0 (pR P w) P w K mg base N qual scope f cd A outer s₀ H₀ E) E:=by
 refine⟨fun pins σ H s ev s' I h=>?_,fun pins σ H s h' e C vs I hm hE=>?_⟩
 ·obtain⟨e,t,C,H',Bh,rfl,os,bare,fly,un,hok,kept,thr,hE⟩:=h
  refine wpAny_leaves_onW (L:=s₀.heap.objs.size) I.ok.frames rfl fly fun h2 fly2 ups=>?_
  refine Ff (X:=O0 (pR P w) P w K mg base N qual scope f cd A outer s₀ H₀ E) rfl rfl rfl I os bare fly2 kept thr (fun b o q n hb=>?_) (fun b o q n=>un.free b o q n (by simp)) un.tups un.frzs un.tbls hok hE
  obtain⟨sl,q1⟩:=un.any q n (by simp)
  obtain⟨_,o1,g1,g2⟩:=I.funs.mem hb;rw[q]at g1;cases g1;obtain⟨sl2,q2⟩:=ups b _ q1 g2;exact⟨sl2,q2⟩
 ·have hst:=I.stack
  have hmem:∀{b:Addr},b∈nR (O0 (pR P w) P w K mg base N qual scope f cd A outer s₀ H₀ E).stack->H b=none:=fun{b} hb=>I.stkFree b hb
  refine wpAny_leaves_madeW (L:=s₀.heap.objs.size) (base:=PySem.W.hideAll s.heap (nR (O0 (pR P w) P w K mg base N qual scope f cd A outer s₀ H₀ E).stack)) (h:=s.heap) I.ok.frames rfl (fun b o q=>PySem.W.of_hideAll _ q)
   (PySem.W.funFrames_hide hst fun env he b hb=>Xh.mpr ⟨env,he,hb⟩) hm fun h2 t fly _ hn ups=>?_
  refine Ff (X:=O0 (pR P w) P w K mg base N qual scope f cd A outer s₀ H₀ E) (s:=s) (s':={s with heap:=h2}) rfl rfl rfl I rfl I.bare fly (fun b o q _ hb=>Jc _ q hb) (fun b o q hb=>⟨o,Jc _ q hb⟩) (fun b o q n hb=>?_) (fun b o q n=>n) (fun _ _ q=>q) (fun _ _ _ q=>q) (fun b ps q=>⟨#[],by rw[q];simp⟩) ?_ hE
  ·obtain⟨_,o1,g1,g2⟩:=I.funs.mem hb
   rw[q]at g1;cases g1;obtain⟨sl2,q2⟩:=ups b _ (hm.keeps b o q) g2;exact⟨sl2,q2⟩
  ·exact NM (P:=P) (w:=w) I.hok fun b u o q1 q2=>Jc _ q2 fun z=>by rw[hmem z]at q1;cases q1
theorem PS.nox{st:Stmt}{t:TS}(h:PS X.nox st t):PS X st t:=fun pins s σ H D I hw=>
 Qe (h pins s σ H D (I.wish _) hw) (fun _ _ q=>q.unwish) fun _ _ z=>False.elim z
theorem PA.nox{t:TA}(h:PA X.nox es t):PA X es t:=fun pos pins s σ H Q I hw=>
 Qe (h pos pins s σ H Q (I.wish _) hw) (fun _ _ ⟨v,H',I',r,q⟩=>⟨v,H',I'.unwish,r,q⟩) fun _ _ z=>False.elim z
def vF:List Value:=[.type "ValueError",.type "Exception",.type "BaseException",.type "object"]
def BV(K:Qz)(n:Str):Bool:=match PySem.W.nsIn K mainGlobals n with
 |some (some (.ref C))=>PySem.W.excIn K C vF "ValueError.__new__"
 |_=>false
theorem NO{n:Str}(h:BV K n=true):∃C,PySem.W.nsIn K mainGlobals n=some (some (.ref C))/\PySem.W.excIn K C vF "ValueError.__new__"=true:=by
 unfold BV at h;split at h
 ·rename_i C hC;exact⟨C,hC,h⟩
 ·cases h
theorem YS{h₀:Heap}{bmB:List Value}{newId:String}(X:K.In h₀)(G:h₀.Ns mainGlobals mg)(e:PySem.W.nsIn K mainGlobals x=some (some (.ref C)))(q:PySem.W.excIn K C bmB newId=true):OwnCls x C bmB newId mg h₀:=by
 refine⟨Xd X G e,?_⟩;unfold PySem.W.excIn at q;split at q
 ·rename_i dd cd sl ho
  split at q
  ·rename_i C' bm k0 k1 k2 k3 n k5 hm hs
   simp only[Qw,Yi,Xa]at q;obtain⟨⟨⟨⟨⟨rfl,rfl⟩,hdel⟩,ht⟩,hok⟩,hni⟩:=q;obtain⟨nm,bs,mro,ns,qn,hd,sn,sub,ab,col,del⟩:=cd;dsimp only at hm hdel hok hni;subst hm hdel;have pW:sl= #[k0,k1,k2,k3,some (.builtin n),k5]:=by
    obtain⟨l⟩:=sl;simp only at hs;rw[hs]
   subst pW;exact⟨bm,ns,nm,qn,bs,hd,sn,sub,ab,col,dd,k0,k1,k2,k3,k5,_,X _ _ ho,.of_isNs (PySem.W.isNs_of_in X hok),PySem.W.nsMap_none_of_in X hok hni,PySem.W.tail_of_in X ht⟩
  ·cases q
 ·cases q
abbrev Mx:=b0->Option Str
section
variable(K:Qz)(B:OA)(E:XK)
def XW(G:Hp)(σ:St)(env:b0)(H:Hp)(n:Str):Prop:=∃C,PySem.W.nsIn K mainGlobals n=some (some (.ref C))/\∀σ' G' env' H',Ev K B G σ env H G' σ' env' H'->E (.ref C) none H'
def TX(m:Mx)(σ:St)(H:Hp):Prop:=∃G env n,Rel K B G σ env H/\m env=some n/\XW K B E G σ env H n
end
theorem XW.after{E:XK}{G1:Hp}{σ1:St}{a9:b0}{H1:Hp}{n:Str}(w:XW K B E G σ env H n)(ev:Ev K B G σ env H G1 σ1 a9 H1):XW K B E G1 σ1 a9 H1 n:=by
 obtain⟨C,h,k⟩:=w;exact⟨C,h,fun σ' G' env' H' f6=>k σ' G' env' H' (ev.trans f6)⟩
def vG(X:Cx)(B:OA)(E:XK)(e:Expr)(m:Mx):Prop:=PE X e fun σ H _=>TX X.K B E m σ H
def zI(X:Cx)(B:OA)(E:XK)(e:Expr)(m:Mx):Prop:=PT X e fun σ H _=>TX X.K B E m σ H
def zJ(X:Cx)(B:OA)(E:XK)(es:List Expr)(m:Mx):Prop:=PA X es fun σ H _=>TX X.K B E m σ H
def uH(X:Cx)(B:OA)(E:XK)(st:Stmt)(m:Mx):Prop:=PS X st fun _ σ H=>TX X.K B E m σ H
def BW(X:Cx)(B:OA)(E:XK)(st:List Stmt)(m:Mx):Prop:=pQ X st fun _ σ H=>TX X.K B E m σ H
def rV:Mx:=fun _=>none
def xOr(x y:Mx):Mx:=fun env=>match x env with
 |some n=>some n
 |none=>y env
def T0(x:Mx)(s:Mo Fl)(y:Mx):Mx:=fun env=>match x env with
 |some n=>some n
 |none=>match s env with
  |some (.nx,a9)=>y a9
  |_=>none
def uI(t:Mo Bool)(x y:Mx):Mx:=fun env=>(t env).bind fun p=>if p.1 then x p.2 else y p.2
section
variable{E:XK}{pos:Pos}{st:Stmt}{rest:List Stmt}{x1 x2:Mx}{s1:Mo Fl}
theorem Cw:uH X B E st rV:=fun _ _ _ _ _ _ ⟨_,_,_,_,e,_⟩=>nomatch e
theorem Hv:BW X B E [] rV:=fun _ _ _ _ _ _ ⟨_,_,_,_,e,_⟩=>nomatch e
theorem CD(h1:uH X B E st x1)(n1:ES X B st s1)(h2:BW X B E rest x2):BW X B E (st::rest) (T0 x1 s1 x2):=by
 intro pins s σ H D I ⟨G,env,n,rl,e,w⟩;unfold T0 at e;cases q:x1 env with
 |some m=>
  rw[q]at e;cases e;exact Ca h1 Ld pins s σ H D I ⟨G,env,_,rl,q,w⟩
 |none=>
  rw[q]at e;dsimp only at e;split at e
  ·rename_i a9 q1
   exact Ca n1 h2 pins s σ H D I ⟨G,env,.nx,a9,rl,q1,fun σ1 G1 H1 ev=>⟨G1,a9,n,ev.rel,e,w.after ev⟩⟩
  ·cases e
theorem CF(h1:uH X B E st x1):BW X B E [st] x1:=by
 intro pins s σ H D I h;exact Ca h1 Ld pins s σ H D I h
theorem Hw{c:Expr}{s t:List Stmt}{tc:Mo Bool}(hc:ET X B c tc)(h1:BW X B E s x1)(h2:BW X B E t x2):uH X B E (.If c s t pos) (uI tc x1 x2):=by
 intro pins sh σ H D I ⟨G,env,n,rl,e,w⟩;obtain⟨⟨b1,a9⟩,e1,e2⟩:=C6 e;dsimp only at e2;refine Lb hc h1 h2 pins sh σ H D I ⟨G,env,b1,a9,rl,e1,fun G1 H1 ev=>?_⟩
 cases b1 with
 |true=>simp only[Zn]at e2 ⊢;exact⟨G1,a9,n,ev.rel,e2,w.after ev⟩
 |false=>simp only[Zx,Yu]at e2 ⊢;exact⟨G1,a9,n,ev.rel,e2,w.after ev⟩
theorem Fg(h:vG X B E e x1)(hsw:swapsWith e none pos.line X.env=pure false:=by rfl):uH X B E (.Expr e pos) x1:=fun pins s σ H D I q=>Gp h hsw pins s σ H D I q
def Hx(n:Str)(ms:Mo (List D)):Mx:=fun env=>(ms env).bind fun p=>if p.1.length≤1000 then some n else none
theorem Hy{n:Str}{np cpos:Pos}(hx:vE X E)(hc:X.calm=true)(ho:BV X.K n=true)(hg:Gl X n)(ha:rB X B (e::es) ms)
  (he:starEach (e::es) X.env=(false,eval e X.env)::starEach es X.env:=by rfl)(hpl:(backTo cpos (starEach es X.env)).any (·.1)=false:=by rfl)(hd:(n==("__debug__":Str))=false:=by decide):
  uH X B E (.Raise (some (.Call (.Name n np) (e::es) [] cpos)) none pos) (Hx n ms):=by
 intro pins s σ H D I ⟨G,env,c,rl,em,w⟩;obtain⟨⟨ds,a9⟩,e1,e2⟩:=C6 em;dsimp only at e2;split at e2
 ·rename_i hl
  cases e2;obtain⟨C,hC,hw⟩:=w;obtain⟨C',hC',hex⟩:=NO ho;rw[hC]at hC';cases hC';have O:=YS I.mod.kin I.mod.glob hC hex;obtain⟨tl,N,nm,q,bs,hdct,sn,sub,ab,col,dd,k0,k1,k2,k3,k5,mN,hCo,hN,hni,T⟩:=O.obj;refine wpAny_Raise_call_subU (C:=C) (nm:=nm) (q:=q) (N:=N) (bs:=bs) (bm:=tl) (hdct:=hdct) (sn:=sn) (sub:=sub) (ab:=ab) (col:=col) (dd:=dd) (k0:=k0) (k1:=k1) (k2:=k2) (k3:=k3) (k5:=k5)
   PySem.F.excBase_ValueError (by rfl') PySem.F.excBase_ValueError (mN:=mN) (T.hasType PySem.F.excBase_ValueError.hasBase) (I.ok.hd hc) (by rw[he];show(false||(backTo cpos (starEach es X.env)).any (·.1))=false;rw[hpl];rfl) hni (Dc I hg O.bound ⟨rfl,?_⟩ hd)
  have h1:=ha cpos pins s σ H (fun vs H1=>vs.length≤sizeLine/\E (.ref C) none H1) I ⟨G,env,ds,a9,rl,e1,fun vs G1 H1 ev r=>⟨by rw[r.length];exact Jl (Dk hl),hw σ G1 a9 H1 ev⟩⟩
  rw[he]at h1 ⊢;refine Calls.evalArgs_plain (Qe h1 (fun us s2 ⟨vs,H2,I2,r2,q1,q2⟩=>⟨rfl,by rw[←r2.length];exact q1,I2.bk _ _ hCo,hN.keeps I2.bk,T.keeps I2.bk,fun h' e hm=>?_⟩) fun _ _ y=>y)
  exact hx.made pins σ H2 s2 h' e C us I2 hm q2
 ·cases e2
def tP(K:Qz)(n:Nat)(g:List W->Option Str):Sp:=fun vs H _ E=>∃G ws c C,ws.length=n/\Cn ws/\Rel K O7 G (vs.map some) ws H/\g ws=some c/\PySem.W.nsIn K mainGlobals c=some (some (.ref C))/\
 ∀G' ws' H',Ev K O7 G (vs.map some) ws H G' (vs.map some) ws' H'->E (.ref C) none H'
structure qC(P:Program)(w:World)(K:Qz)(mg:OU)(base:Heap)(x:Str)(k n:Nat)(g:List W->Option Str):Prop where
 ex:∃(f:Addr) (fd:FuncData) (ps:List Str),d9 P w K mg base (pR P w) k f fd ps (tP K n g)/\ps.length=n/\mg x=some (.ref f)/\PySem.W.keepIn K (.ref f)=true/\Q6 K fd ps []
def V8(n:Nat)(g:List W->Option Str)(as:Mo (List Ar)):Mx:=fun env=>(as env).bind fun p=>if p.1.length=n then(match slots p.1 with
 |[]=>g (p.1.map (O8 (.l [])))
 |_=>none)else none
theorem Cy{g:List W->Option Str}(hx:vE X E)(Df:qC X.prog X.w X.K X.mg X.base x k n g)(hr:f9 k X.A)(hg:Gl X x)(ha:sU X B (e::es) as)(hdb:(x==("__debug__":Str))=false:=by decide)
  (he:starEach (e::es) X.env=(false,eval e X.env)::starEach es X.env:=by rfl)(hpl:(backTo pos (starEach es X.env)).any (·.1)=false:=by rfl):
  vG X B E (.Call (.Name x p) (e::es) [] pos) (V8 n g as):=by
 obtain⟨f,fd,ps,F,rfl,hm,hk,hb⟩:=Df.ex;intro pins s σ H Q I ⟨G,env,c,rl,em,C,hC,w⟩;refine FA F hr hg hm hk hb .nil hx.pass ha hdb he hpl pins s σ H Q I ?_
 obtain⟨⟨av,a9⟩,e1,e2⟩:=C6 em;dsimp only at e2;split at e2
 ·rename_i hn
  split at e2
  ·rename_i hs
   refine⟨G,env,av,a9,rl,e1,fun vs G1 H1 ev ra=>?_⟩
   show tP X.K ps.length g (vs++[]) H1 Q E;rw[Ys];exact⟨G1,av.map (O8 (.l [])),c,C,by rw[Qk];exact hn,Hb,Hc (i:=0) (w:=.nil) ev.rel ra (fun k j e=>absurd e (BQ hs k j)) (fun k k' j j' e=>absurd e (BQ hs k j)),e2,hC,
    fun G2 ws' H2 f6=>w σ G2 a9 H2 (ev.trans (Hd ev.rel ra hs f6))⟩
  ·cases e2
 ·cases e2
end
def vH(N:Nat)(mx:Mx):List W->Option Str:=fun ws=>mx (ws++List.replicate (N-ws.length) .nil)
theorem Fh{st:Stmt}{f:Addr}{mx:Mx}(F:k9 K x qual st f fd)(S:c8 N ps (E5 st))
  (hb:∀(cdv:Value) (A:Around) (outer:List Env) (s:Shared) (H:Hp) (E:XK),f9 k (A.deeper (envOfC qual (E5 st) s.heap.objs.size f cdv))->
   BW (O0 (pR P w) P w K mg base N qual (E5 st) f cdv A outer s H E) (fun b=>H b≠none) E (X8 st) mx):d9 P w K mg base (pR P w) (k+1) f fd ps (tP K ps.length (vH N.length mx)):=by
 have hpl:ps.length≤N.length:=by have:=Ze List.length S.pre;rw[Jy]at this;omega
 obtain⟨oc,od,kV,doc,pm,an,cdv,ct,osl,rfl,lk,hcd⟩:=F.ex;refine HD lk hcd S (fun vs H Q E h=>?_) fun A outer s H vs Q E hr h=>?_
 ·obtain⟨G,ws,c,C,hl,ok,rl,_⟩:=h
  have:=rl.len;rw[Qk]at this;omega
 ·obtain⟨G,ws,c,C,hl,ok,rl,e,hC,k⟩:=h
  have hv:ws.length=vs.length:=by have:=rl.len;rwa [Qk]at this
  exact⟨_,hb cdv A outer s H E hr,G,_,c,HY (N:=N) rl ok (by omega),e,C,hC,fun σ' G' env' H' ev=>k G' (W9 ws env') H' (Bv rl ok (by omega) ev)⟩
open PySem.W Builtin Builtin.ObjectAttr Builtin.Getset_descriptor PySem.Calls
def U7(e C:Addr)(h:Heap):Prop:=∃o,h.get? e=some o/\o.cls=.ref C
theorem U7.type{e:Addr}(p:U7 e C h):Looks M h (typeOf (.ref e)) (.ref C):=by
 obtain⟨o,h1,h2⟩:=p;exact h2 ▸ (Looks.ld h1).andThen .now
section
variable{K:Frag}{x:Addr}{g:Array GenState}{d:Drawn}{t:Nat}{os:OsState}
theorem YT{R:Result->Shared->Prop}{tp:Value}(X:K.In h)(I:U7 x C h)(hm:mroIn K C (.type "object")=some true)
  (hq:R (.ok (.ret (.ref C))) ⟨h,g,d,t,os⟩):codeAny (model prog w) A (.call (.builtin "getset_descriptor.__get__") ⟨[.builtin "object.__class__",.ref x,tp],[]⟩) R ⟨h,g,d,t,os⟩:=by
 have L0:=I.type (M:=model prog w)
 have L1:=looks_mroIn (M:=model prog w) X hm
 refine codeAny_call_builtin KF.slot_gs.plain KF.entry_gs (KF.slot_gs.check _ _ _ _ _ _ _ _ KF.type_class (KF.args_gs _ _ _) ?_);unfold Builtin.«getset_descriptor.__get__» descrGet;rw[dga_obj];refine Qq (Qy ?_);unfold descrGetter descrCheckInstance descrNameAndClass isInstance;simp only[KF.owner_class]
 repeat (first|with_reducible refine L0.at ?_|with_reducible refine L1.at ?_|wp_step)
 refine⟨Code.quiet_builtin _ (by rfl'),codeAny_builtin KF.entry_class ?_⟩
 unfold Builtin.«object.__class__» shownTypeOf
 repeat (first|with_reducible refine L0.at ?_|with_reducible refine L1.at ?_|wp_step)
 exact hq
theorem YU(X:K.In h)(I:U7 x C h)(ha:findIn K (.ref C) "__class__"=some (some (.builtin "object.__class__")))
  (hn:specialIn K (.builtin "object.__class__") "__get__"=some (some (.builtin "getset_descriptor.__get__")))(htk:takesIn K (.builtin "object.__class__")=some true)(M:Model):
  Looks M h (find (.ref x) (.ref C) "__class__") (.bind (.builtin "getset_descriptor.__get__") (.builtin "object.__class__")):=by
 have L1:=looks_findIn (M:=M) X ha
 have L2:Looks M h (getOf (some (.builtin "object.__class__"))) (some (.builtin "getset_descriptor.__get__")):=looks_specialIn X hn
 have L3:=looks_takesIn (M:=M) X htk
 exact L1.andThen (L2.andThen ((show Looks M h (dataDescriptor? (some (.builtin "object.__class__")) (some (.builtin "getset_descriptor.__get__"))) (some (.builtin "getset_descriptor.__get__",.builtin "object.__class__"))from L3.andThen .now).andThen (Looks.tag .now)))
theorem YV{Q:Fin->Shared->Prop}(X:K.In h)(I:U7 x C h)(hm:mroIn K C (.type "object")=some true)(ha:findIn K (.ref C) "__class__"=some (some (.builtin "object.__class__")))
  (hn:specialIn K (.builtin "object.__class__") "__get__"=some (some (.builtin "getset_descriptor.__get__")))(htk:takesIn K (.builtin "object.__class__")=some true)(hq:Q (.done (.ret (.ref C))) ⟨h,g,d,t,os⟩):
  wpAny (model prog w) A (Builtin.«object.__getattribute__» ⟨[.ref x,.str "__class__" tk],[]⟩) Q E ⟨h,g,d,t,os⟩:=by
 have L0:=I.type (M:=model prog w)
 have L1:=YU X I ha hn htk (model prog w)
 unfold Builtin.«object.__getattribute__»
 repeat (any_goals (first|assumption|with_reducible refine L0.at ?_|with_reducible refine L1.at ?_|wp_step))
 refine YT X I hm ?_
 repeat (any_goals (first|assumption|wp_step))
theorem YW{nameV:Value}{Q:Unit->Shared->Prop}(X:K.In h)(I:U7 x C h)(hm:mroIn K C (.type "BaseException")=some true)(hq:Q () ⟨h,g,d,t,os⟩):
  wpAny M A (checkBuiltinCall "BaseException.__getattribute__" ⟨[.ref x,nameV],[]⟩) Q E ⟨h,g,d,t,os⟩:=by
 have hk:builtinKind "BaseException.__getattribute__"=some .slot:=by rfl'
 have hsplit:splitId "BaseException.__getattribute__"=some ("BaseException","__getattribute__"):=by rfl'
 have L0:=I.type (M:=M)
 have L1:=looks_mroIn (M:=M) X hm
 have ha:=F.args_bexc_ga (.ref x) nameV
 simp only[checkBuiltinCall,hk,hsplit];refine Qq ?_
 unfold isInstance
 repeat (first|with_reducible refine L0.at ?_|with_reducible refine L1.at ?_|wp_step)
 exact hq
theorem YX{fill expr:Bool}(X:K.In h)(I:U7 x C h)(hmB:mroIn K C (.type "BaseException")=some true)(hm:mroIn K C (.type "object")=some true)(ha:findIn K (.ref C) "__class__"=some (some (.builtin "object.__class__")))
  (hn:specialIn K (.builtin "object.__class__") "__get__"=some (some (.builtin "getset_descriptor.__get__")))(htk:takesIn K (.builtin "object.__class__")=some true)
  (hga:findIn K (.ref C) "__getattribute__"=some (some (.builtin "BaseException.__getattribute__")))(hno:findIn K (.ref C) "__getattr__"=some none)(hq:Q (.ref C) ⟨h,g,d,t,os⟩):
  wpAny (model prog w) A (getAttrBy (.ref x) (.str "__class__" tk) fill expr) Q E ⟨h,g,d,t,os⟩:=by
 have L0:=I.type (M:=model prog w)
 have L1:=looks_findIn (M:=model prog w) X hga
 have L2:=looks_findIn (M:=model prog w) X hno
 have f3:=F.attrBase_ValueError.ga.bind (.ref x)
 have hx0:(expr&&onTheHeap (Value.builtin "BaseException.__getattribute__"))=false:=by cases expr<;>rfl
 have hx2:(Value.builtin "BaseException.__getattribute__"==Value.builtin "object.__getattribute__")=false:=by rfl'
 have hx1:(onTheHeap (Value.ref C)&&Value.builtin "BaseException.__getattribute__"==Value.builtin "object.__getattribute__")=false:=by rw[hx2];rfl
 repeat (any_goals (first|assumption|with_reducible refine L0.at ?_|with_reducible refine L1.at ?_|with_reducible refine L2.at ?_|wp_step))
 refine codeAny_call_builtin F.attrBase_ValueError.ga.plain F.entry_bexc_ga (YW X I hmB (YV X I hm ha hn htk ?_))
 repeat (any_goals (first|assumption|wp_step))
theorem YY{Q:Option Value->Shared->Prop}(X:K.In h)(I:U7 x C h)(hmB:mroIn K C (.type "BaseException")=some true)(hm:mroIn K C (.type "object")=some true)(ha:findIn K (.ref C) "__class__"=some (some (.builtin "object.__class__")))
  (hn:specialIn K (.builtin "object.__class__") "__get__"=some (some (.builtin "getset_descriptor.__get__")))(htk:takesIn K (.builtin "object.__class__")=some true)
  (hga:findIn K (.ref C) "__getattribute__"=some (some (.builtin "BaseException.__getattribute__")))(hno:findIn K (.ref C) "__getattr__"=some none)(hq:Q (some (.ref C)) ⟨h,g,d,t+1,os⟩):
  wpAny (model prog w) A (getAttr? (.ref x) "__class__") Q E ⟨h,g,d,t,os⟩:=by
 unfold getAttr? getAttrBy?
 repeat (any_goals (first|assumption|with_reducible apply YX X I hmB hm ha hn htk hga hno|wp_step))
end
def YZ:List String:=["tuple","list","int","bool","str"]
def Y5(K:Frag)(C:Addr):Bool:=
 (mroIn K C (.type "BaseException")==some true)&&((mroIn K C (.type "object")==some true)&&((findIn K (.ref C) "__class__"==some (some (.builtin "object.__class__")))&&((specialIn K (.builtin "object.__class__") "__get__"==some (some (.builtin "getset_descriptor.__get__")))&&
 ((takesIn K (.builtin "object.__class__")==some true)&&((findIn K (.ref C) "__getattribute__"==some (some (.builtin "BaseException.__getattribute__")))&&((findIn K (.ref C) "__getattr__"==some none)&&((clsIn K C).isSome&&((kitOne K (.ref C) (.type "ValueError")==some true)&&YZ.all fun T=>kitOne K (.ref C) (.type T)==some false))))))))
theorem ZA{K:Frag}{e:Addr}(h:Y5 K C=true):KitX K (.ref e) (.ref C) (U7 e C):=by
 unfold Y5 at h;simp only[Qw,Yi]at h;obtain⟨h1,h2,h3,h4,h5,h6,h7,h8,_,_⟩:=h;obtain⟨cdD,hcD⟩:=Yy.mp h8;refine⟨fun _ _ _ p=>p.type,fun _ _ X _=>?_,fun h tp dd its n sl X htp=>?_,fun{prog w A E Q s} X I k=>?_⟩
 ·unfold clsIn at hcD
  split at hcD
  ·rename_i c' d' cd' sl' ho
   intro A' Q' E' s' k q;unfold isType loadHead;exact Qq (wpAny_loadPart (k _ _ (X _ _ ho)) (Qy q))
  ·cases hcD
 ·refine Bool.eq_false_iff.mpr fun q=>?_
  have e:C=tp:=Value.ref.inj (Yi.mp q)
  subst e;unfold clsIn at hcD;split at hcD
  ·rename_i c' d' cd' sl' ho
   have z:=(X _ _ ho).symm.trans htp
   cases z
  ·cases hcD
 ·obtain⟨hh,g,d,t,os⟩:=s
  exact YY X I h1 h2 h3 h4 h5 h6 h7 k
theorem ZB{K:Frag}(h:Y5 K C=true):MN K (.ref C):=by
 unfold Y5 at h;simp only[Qw]at h;obtain⟨_,_,_,_,_,_,_,_,_,h9⟩:=h;intro T hT;have:=Qx.mp h9 T hT
 simpa using this
theorem ZC{K:Frag}(h:Y5 K C=true):kitOne K (.ref C) (.type "ValueError")=some true:=by
 unfold Y5 at h;simp only[Qw]at h;obtain⟨_,_,_,_,_,_,_,_,h9,_⟩:=h
 simpa using h9
def Ab(K:Frag)(S:Str)(names:List Str):Bool:=names.all fun n=>BV K n&&match nsIn K mainGlobals n with
 |some (some (.ref C))=>Y5 K C&&((match nsIn K mainGlobals S with
   |some (some (.ref D))=>mroIn K C (.ref D)==some true&&(BV K S&&Y5 K D)
   |_=>false)&&names.all fun m=>match nsIn K mainGlobals m with
   |some (some (.ref D))=>kitOne K (.ref C) (.ref D)==some (n==m)
   |_=>false)
 |_=>false
structure wY(K:Frag)(S:Str)(names:List Str)(n:Str)(C:Addr):Prop where
 nm:nsIn K mainGlobals n=some (some (.ref C))
 one:BV K n=true
 kit:Y5 K C=true
 sub:∃D,nsIn K mainGlobals S=some (some (.ref D))/\mroIn K C (.ref D)=some true/\BV K S=true/\Y5 K D=true
 pair:∀m∈names,∃D,nsIn K mainGlobals m=some (some (.ref D))/\kitOne K (.ref C) (.ref D)=some (n==m)
theorem Cz{K:Frag}{S:Str}{names:List Str}(h:Ab K S names=true){n:Str}(hn:n∈names):∃C,wY K S names n C:=by
 have q:=Qx.mp h n hn
 simp only[Qw]at q;obtain⟨h1,h2⟩:=q;split at h2
 ·rename_i C hC
  simp only[Qw]at h2;obtain⟨h3,h4,h5⟩:=h2;split at h4
  ·rename_i D hD
   simp only[Qw,Yi]at h4;refine⟨C,hC,h1,h3,⟨D,hD,h4.1,h4.2.1,h4.2.2⟩,fun m hm=>?_⟩
   have:=Qx.mp h5 m hm;split at this
   ·rename_i D' hD'
    exact⟨D',hD',by simpa using this⟩
   ·cases this
  ·cases h4
 ·cases h2
def V9(names:List Str)(m:Str)(ma:Mo D):Mo D:=fun env=>(ma env).bind fun p=>match p.1 with
 |.obj (.exc n)=>if names.contains n then some (.bl (n==m),p.2)else none
 |_=>none
def NP(names:List Str)(ma:Mo D):Mo D:=fun env=>(ma env).bind fun p=>match p.1 with
 |.obj (.exc n)=>if names.contains n then some (.bl true,p.2)else none
 |_=>none
section
variable{pos:Pos}{S m:Str}{names:List Str}
theorem W0(hx:Ab X.K S names=true)(hm:m∈names)(ha:ED X B a ma)(hg:Gl X "isinstance")(hi:X.mg "isinstance"=none)(hgm:Gl X m)(hdm:(m==("__debug__":Str))=false:=by decide)
  (he:starEach [a,.Name m p2] X.env=[(false,eval a X.env),(false,eval (.Name m p2) X.env)]:=by rfl):ED X B (.Call (.Name "isinstance" p) [a,.Name m p2] [] pos) (V9 names m ma):=by
 obtain⟨C0,F0⟩:=Cz hx hm;intro pins0 s0 σ0 H0 Q0 I0;have hT:PE X (.Name m p2) (tC (.ref C0)):=LX hgm (Xd I0.mod.kin I0.mod.glob F0.nm) rfl hdm;have hc:P4 X (.builtin "isinstance") (fun xs H Q=>∃x G n,xs=[x,.ref C0]/\Le G H/\c4 X.K G x (.obj (.exc n))/\n∈names/\Q (.bl (n==m)) H):=by
  intro pins s σ H xs us Q I r h;obtain⟨x,G,n,rfl,l,rp,hn,q⟩:=h;obtain⟨u,w',rfl,r1,r2⟩:=BM r;cases r2;simp only[c4]at rp;obtain⟨e,C,HP,rfl,h2,h3,h4,h5⟩:=rp;cases r1;obtain⟨C',F⟩:=Cz hx hn;have:=F.nm;rw[h2]at this;cases this;obtain⟨D,hD,hk⟩:=F.pair m hm;have:=F0.nm;rw[hD]at this;cases this;exact Zg h4 I.kIn (I.hok e _ (l _ _ h3)).1 hk (fun z=>nomatch z) fun tk=>⟨.bl _,H,I.tok _,rfl,q⟩
 refine d7 (Dh (pos:=pos) (p:=p) hc hg hi (by rfl') (R5 ha (R5 hT Aj) he) (he:=he)) ?_ pins0 s0 σ0 H0 Q0 I0
 rintro σ H Q ⟨G,env,d,env',rl,e,k⟩;obtain⟨⟨d1,a9⟩,e1,e2⟩:=C6 e;dsimp only at e2;split at e2
 ·rename_i n
  split at e2
  ·rename_i hn
   cases e2;exact .bind rl e1 fun v G1 H1 ev r=>⟨v,G1,n,rfl,ev.rel.sub,r,by simpa using hn,k _ G1 H1 ev (by simp only[c4])⟩
  ·cases e2
 ·cases e2
theorem NQ(hx:Ab X.K S names=true)(ha:ED X B a ma)(hg:Gl X "isinstance")(hi:X.mg "isinstance"=none)(hgm:Gl X "ValueError")(hmv:X.mg "ValueError"=none)
  (he:starEach [a,.Name "ValueError" p2] X.env=[(false,eval a X.env),(false,eval (.Name "ValueError" p2) X.env)]:=by rfl):ED X B (.Call (.Name "isinstance" p) [a,.Name "ValueError" p2] [] pos) (NP names ma):=by
 have hT:PE X (.Name "ValueError" p2) (tC (.ty "ValueError")):=Ew hgm hmv PyProof.Rows.Boot.«ValueError» rfl
 have hc:P4 X (.builtin "isinstance") (fun xs H Q=>∃x G n,xs=[x,.ty "ValueError"]/\Le G H/\c4 X.K G x (.obj (.exc n))/\n∈names/\Q (.bl true) H):=by
  intro pins s σ H xs us Q I r h;obtain⟨x,G,n,rfl,l,rp,hn,q⟩:=h;obtain⟨u,w',rfl,r1,r2⟩:=BM r;cases r2;simp only[c4]at rp;obtain⟨e,C,HP,rfl,h2,h3,h4,h5⟩:=rp;cases r1;obtain⟨C',F⟩:=Cz hx hn;have:=F.nm;rw[h2]at this;cases this;exact Zg h4 I.kIn (I.hok e _ (l _ _ h3)).1 (ZC F.kit) (fun z=>nomatch z) fun tk=>⟨.bl _,H,I.tok _,rfl,q⟩
 refine d7 (Dh (pos:=pos) (p:=p) hc hg hi (by rfl') (R5 ha (R5 hT Aj) he) (he:=he)) ?_
 rintro σ H Q ⟨G,env,d,env',rl,e,k⟩;obtain⟨⟨d1,a9⟩,e1,e2⟩:=C6 e;dsimp only at e2;split at e2
 ·rename_i n
  split at e2
  ·rename_i hn
   cases e2;exact .bind rl e1 fun v G1 H1 ev r=>⟨v,G1,n,rfl,ev.rel.sub,r,by simpa using hn,k _ G1 H1 ev (by simp only[c4])⟩
  ·cases e2
 ·cases e2
def NR:D->Bool
 |.non=>true
 |_=>false
def Hz:D->D->Option D
 |a,.non=>some (.bl (NR a))
 |_,_=>none
theorem ZD{K:Frag}{x:V}{a:D}(r:c4 K G x a):decide (x=.non)=NR a:=by
 cases a with
 |non=>simp only[c4]at r;subst r;rfl
 |bl _=>simp only[c4]at r;subst r;rfl
 |int _=>simp only[c4]at r;subst r;rfl
 |str _=>simp only[c4]at r;obtain⟨r,_⟩:=r;subst r;rfl
 |tup _=>simp only[c4]at r;obtain⟨_,_,r,_⟩:=r;subst r;rfl
 |lst _=>simp only[c4]at r;obtain⟨_,_,r,_⟩:=r;subst r;rfl
 |emp=>simp only[c4]at r;obtain⟨_,_,r,_⟩:=r;subst r;rfl
 |dct _ _=>simp only[c4]at r;obtain⟨_,_,r,_⟩:=r;subst r;rfl
 |obj o=>
  simp only[c4]at r;cases o with
  |exc n=>obtain⟨_,_,_,r,_⟩:=r;subst r;rfl
  |fn n=>obtain⟨_,r,_⟩:=r;subst r;rfl
  |dk n=>obtain⟨_,r,_⟩:=r;subst r;rfl
  |dt n=>obtain⟨_,_,r,_⟩:=r;subst r;rfl
theorem ZE:nL X B (fun x y H Q=>y=.non/\Q (.bl (decide (x=.non))) H) Hz:=by
 intro G σ env H x y a b d Q rl ra rb e k;unfold Hz at e;split at e
 ·cases e
  simp only[c4]at rb;subst rb;rw[ZD ra];exact⟨rfl,k _ G H (.refl rl) (by simp only[c4])⟩
 ·cases e
end
end L2.Mir
namespace L2.Mir
open PySem PySem.Spec PyProof.Rows PySem.W
variable{A:Around}{B:OA}{C a:Addr}{E:OE}{G H H':Hp}{K:Frag}{M:Model}{N N' names ps:List Str}{P:Program}{X:Cx}{base:Heap}{body:Expr}{c cd:Value}{cl:List (Str×Addr)}{env a9:b0}{fd:FuncData}{i k kc tk:Nat}{keep:List Bool}{mg:OU}{n qual x:Str}{o:Option Str}{od:Option Addr}{params:Arguments}{pins:OX}{s s₁:Shared}{scope:Scope}{ts:List Addr}{w:World}{σ σ1:St}
section
variable{σ':St}{e:Addr}{φ:Heap->Prop}
theorem ZF(I:Inv X pins σ H s)(hn:H e=none)(h0:X.s₀.heap.get? e=none)(hL:e≠X.env.locals)(hc:∀x c,X.env.cells.lookup x=some c->c≠e)(hp:∀p∈X.pn++pins,p.1≠e)
  (ph:φ s.heap)(po:∃o,s.heap.get? e=some o)(ps:∀h1 h2:Heap,φ h1->(∀o,h1.get? e=some o->h2.get? e=some o)->φ h2):Inv X pins σ (upd H e (.ext φ)) s:=by
 have ne:∀{b u},H b=some u->b≠e:=fun q z=>by rw[z,hn]at q;cases q
 refine⟨I.ok,I.os,I.bare,⟨I.base.keep,I.base.slot,fun b o q n hx=>?_,I.base.there,fun b xs q=>?_,fun b o u q=>?_,fun b ps q=>?_⟩,I.loc,I.cell,?_,fun x c q=>?_,fun p q=>?_,fun b u q=>?_,I.len⟩
 ·have hb:b≠e:=fun z=>by rw[z,h0]at q;cases q
  rw[D7 hb];exact I.base.free b o q n hx
 ·have:=I.base.tups b xs q;rw[D7 (ne this)];exact this
 ·have:=I.base.frzs b o u q;rw[D7 (ne this)];exact this
 ·obtain⟨m,q'⟩:=I.base.tbls b ps q;exact⟨m,by rw[D7 (ne q')];exact q'⟩
 ·rw[D7 (Zm hL)];exact I.free
 ·rw[D7 (hc x c q)];exact I.freeC x c q
 ·obtain⟨h1,h2,h3,h4,h5⟩:=I.pin p q
  exact⟨h1,by rw[D7 (hp p q)];exact h2,h3,h4,h5⟩
 ·by_cases hb:b=e
  ·subst hb;rw[J0]at q;cases q;exact⟨ph,po,ps⟩
  ·rw[D7 hb]at q
   exact(I.hok b u q).stay (fun _ _ _ z=>z) (fun c z=>by rw[D7 (ne z)];exact z) fun c xs z=>by rw[D7 (ne z)];exact z
theorem ZG{h':Heap}{m':OU}(I:Inv X pins σ H s)(hn':h'.Ns X.env.locals m')(hs:Heap.SameBut X.env.locals s.heap h')(hl:σ'.length=σ.length)
  (hσ:∀(i:Nat) (x:Str) (v:V),X.N[i]? =some x->σ'[i]? =some (some v)->sZ X.env.scope x->∃u,E3 v u/\LQ X.env h' m' x u):Inv X pins σ' H {s with heap:=h',toks:=tk}:=by
 have cne:=I.cne
 refine⟨I.ok,I.os,I.bare,⟨fun b o e n hb hx=>?_,fun b o e n hb hx=>?_,I.base.free,fun b o e hx=>?_,I.base.tups,I.base.frzs,I.base.tbls⟩,⟨_,hn',hσ⟩,fun y c e=>?_,I.free,I.freeC,fun p hp=>?_,fun b ob e=>?_,hl.trans I.len⟩
 ·exact(hs.2 b (Qi (Qd (Qu e) I.ok.above))).trans (I.base.keep b o e n hb hx)
 ·obtain⟨sl,e1⟩:=I.base.slot b o e n hb hx
  exact⟨sl,(hs.2 b (Qi (Qd (Qu e) I.ok.above))).trans e1⟩
 ·obtain⟨o',e1⟩:=I.base.there b o e hx
  exact⟨o',(hs.2 b (Qi (Qd (Qu e) I.ok.above))).trans e1⟩
 ·obtain⟨w',z⟩:=I.cell y c e
  exact⟨w',z.sameBut hs (cne y c e)⟩
 ·obtain⟨e,n,ne,nf,d⟩:=I.pin p hp
  exact⟨(hs.2 p.1 ne).trans e,n,ne,nf,d⟩
 ·refine(I.hok b ob e).stay (fun c w' hc q=>(hs.2 c ?_).trans q) (fun _ q=>q) fun _ _ q=>q
  rintro rfl
  rcases hc with rfl|hc
  ·rw[I.free]at e;cases e
  ·rw[I.free]at hc;cases hc
theorem ZH{pos:Pos}{Q:Unit->Shared->Prop}(I:Inv X pins σ H s)(hN:X.N.Nodup)(hi:X.N[i]? =some n)(hk:X.env.scope.names.lookup n=some .local)
  (h:∀s',Inv X pins (σ.set i none) H s'->Q () s'):wpAny M A (do bindName X.env n .none;unbindBehindTheSuite X.env n pos) Q E s:=by
 have hcls:(X.env.scope.kind==.class||(X.env.scope.kind==.module&&X.env.locals !=X.env.globals))=false:=by rw[I.ok.kind];rfl
 have hiσ:i<σ.length:=by rw[I.len];exact(Qp.mp hi).1
 refine Qq (wpAny_bindName (Bl (v:=.non) (u:=.none) I hN hi (.inl hk) rfl (fun s1 I1=>?_) (.inr hk)))
 unfold unbindBehindTheSuite;refine Vd ?_
 obtain⟨m,hn,hl⟩:=I1.loc;obtain⟨u,ru,lk⟩:=hl i n .non hi (Zo hiσ) (.inl hk);have hm:m n=some u:=by
  rcases lk with⟨_,z⟩|⟨z,_⟩
  ·exact z
  ·have:X.env.kindOf n=some .local:=hk
   rcases z with z|z<;>(rw[this]at z;cases z)
 refine wpAny_unbindName_local hk hn hm hcls fun h' u' hn' hs=>?_
 obtain⟨hh,g,d,t,o⟩:=s1;refine h _ (ZG (tk:=t) I1 hn' hs (by simp) fun j y v e1 e2 e3=>?_)
 by_cases hj:j=i
 ·subst hj;rw[Zo hiσ]at e2;cases e2
 ·rw[Qc (Zm hj)]at e2
  obtain⟨w,rw',q⟩:=hl j y v e1 (by rw[Qc (Zm hj)];exact e2) e3
  refine⟨w,rw',?_⟩
  rcases q with⟨k,e⟩|⟨k,c,e,z⟩
  ·refine .inl ⟨k,?_⟩
   have:y≠n:=fun e=>hj (Gn hN e1 (e ▸ hi))
   simp[this,e]
  ·exact .inr ⟨k,c,e,z.sameBut hs (I1.cne y c e)⟩
end
theorem Ev.setNone{G1:Hp}{H1:Hp}(ev:Ev K B G σ env H G1 σ1 a9 H1):Ev K B G σ env H G1 (σ1.set i none) (a9.set i .nil) H1:=by
 have e0:=ev.setNil (i:=i)
 have rl:=e0.rel
 have ne:∀(j:Nat) (w:W),(a9.set i .nil)[j]? =some w->w≠.nil->(σ1.set i none)[j]? =σ1[j]?:=fun j w q1 q2=>by
  rcases M6 q1 with⟨_,z⟩|z
  ·exact absurd z q2
  ·exact Qc (Zm z.1)
 have nm:∀(w:W) (es:Mu),w.mut=some es->w≠.nil:=fun w es h z=>by rw[z]at h;cases h
 refine⟨⟨rl.sub,by rw[rl.len];simp,fun j d q=>?_,fun j w es q1 q2=>?_,fun j k w w' es fs b q1 q2 q3 q4 q5 q6=>?_,fun j w b q1 qo q2=>?_,rl.old,rl.tabs,rl.gnt⟩,e0.same,e0.keep,e0.live,e0.stay,fun b z=>?_,fun j w q qp=>?_,by rw[Zi];exact e0.slen⟩
 ·rw[ne j _ q (by simp)];exact rl.dat j d q
 ·rw[ne j _ q1 (nm w es q2)];exact rl.own j w es q1 q2
 ·rw[ne j _ q1 (nm w es q2)]at q5;rw[ne k _ q3 (nm w' fs q4)]at q6;exact rl.inj j k w w' es fs b q1 q2 q3 q4 q5 q6
 ·rw[ne j _ q1 (by rintro rfl;cases qo)]at q2;exact rl.fresh j w b q1 qo q2
 ·obtain⟨j,w,es,q1,q2,q3⟩:=z
  rw[ne j _ q1 (nm w es q2)]at q3;exact e0.sub b ⟨j,w,es,q1,q2,q3⟩
 ·rw[ne j _ q (by rintro rfl;cases qp)];exact e0.par j w q qp
theorem ZI{l:List Env}{h h1 h2 Bh:Heap}(un:Un (nR l) [] H H' h h1)(kept:∀b o,h.get? b=some o->H b=none->b∉nR l->Bh.get? b=some o)(thr:∀b o,h.get? b=some o->b∉nR l->∃o',Bh.get? b=some o')
  (stay:Bh.StaysIn h2)(ups:h1.UpToSlots h2)(fr:∀b∈nR l,H b=none/\∃o,h.get? b=some o/\∀vs,o.data≠.fields vs):Un (nR l) [] H H' h h2:=by
 have sl:∀b o,h.get? b=some o->b∈nR l->∃sl,h2.get? b=some {o with slots:=sl}:=fun b o q hb=>by
  obtain⟨n,o1,g1,g2⟩:=fr b hb;rw[q]at g1;cases g1;obtain⟨s1,q1⟩:=un.slot b o q n hb (by simp)
  obtain⟨s2,q2⟩:=ups b _ q1 g2;exact⟨s2,q2⟩
 exact⟨fun b o q n hb _=>stay b o (kept b o q n hb),fun b o q n hb _=>sl b o q hb,un.free,fun b o q _=>by
  by_cases hb:b∈nR l
  ·obtain⟨s1,q1⟩:=sl b o q hb;exact⟨_,q1⟩
  ·obtain⟨o',q1⟩:=thr b o q hb;exact⟨o',stay b o' q1⟩,un.tups,un.frzs,un.tbls⟩
section
variable{e Dd:Addr}{h:Heap}{g:Array GenState}{d:Drawn}{t:Nat}{os:OsState}
theorem ZJ{Q:Bool->Shared->Prop}{cd:ClassData}{sl:Array (Option Value)}(X:K.In h)(I:U7 e C h)(hsub:mroIn K C (.ref Dd)=some true)(hD:mroIn K Dd (.type "BaseException")=some true)(hk:K.lookup Dd=some ⟨.type "type",od,.cls cd,sl⟩)
  (hq:Q true ⟨h,g,d,t,os⟩):wpAny M A (excMatches (.ref e) (.ref Dd)) Q E ⟨h,g,d,t,os⟩:=by
 have L0:=I.type (M:=M)
 have L1:=looks_mroIn (M:=M) X hsub
 have L2:=looks_mroIn (M:=M) X hD
 have f:=tc_notTuple
 have hC:=X _ _ hk
 unfold excMatches
 repeat (first|with_reducible refine L0.at ?_|with_reducible refine L1.at ?_|with_reducible refine L2.at ?_|with_reducible refine wpAny_loadPart_at hC ?_|wp_step)
 exact hq
end
theorem ZK{bm:List Value}{nid:String}(h:excIn K C bm nid=true):∃od cd sl,K.lookup C=some ⟨.type "type",od,.cls cd,sl⟩:=by
 unfold excIn at h;split at h
 ·rename_i dd cd sl ho;exact⟨dd,cd,sl,ho⟩
 ·cases h
theorem ZL(h:Y5 K C=true):mroIn K C (.type "BaseException")=some true:=by
 unfold Y5 at h;simp only[Qw,Yi]at h;exact h.1
def DA(a:Addr)(h:Heap):Prop:=∃o fd,h.get? a=some o/\o.data=.func fd
theorem ZM(h:Heap)(p:DA a h):∃k,(k=Keeper.frame\/k=Keeper.machine\/k=Keeper.boundFrame)/\Looks M h (keeperOf (.ref a)) k:=by
 obtain⟨o,fd,h1,h2⟩:=p;refine⟨.frame,.inl rfl,(Looks.ld (part:=none) h1).andThen ?_⟩;rw[h2];exact .now
def IA(X:Cx)(B:OA)(fl:Addr)(o:Option Str)(G:Hp):Prop:=
 ∀(pins:OX) (s:Shared) (σ:St) (env:b0) (Q:VK) (E:XK),Inv X pins σ X.H₀ s->Rel X.K B G σ env X.H₀->
  (o=none->∀v G' H',Ev X.K B G σ env X.H₀ G' σ env H'->Q v H')->
  (∀n C,o=some n->nsIn X.K mainGlobals n=some (some (.ref C))->∀G' H',Ev X.K B G σ env X.H₀ G' σ env H'->E (.ref C) none H')->
  codeAny (model X.prog X.w) X.A (.call (.ref fl) ⟨[],[]⟩) (CR (pR X.prog X.w) X.stack X.prog X.w X.H₀ s Q E) s
section
variable{S y:Str}{i0 j:Nat}{fl:Addr}{G₀:Hp}{cp cpos epos sp yp np apos hpos tpos:Pos}
abbrev uJ(n:Str):D:=.obj (.exc n)
def ZN(X:Cx)(B:OA)(names:List Str)(fl:Addr)(i0 i j:Nat)(o:Option Str)(G:Hp):TS:=fun D σ H=>σ[i0]? =some (some (.ref fl))/\H=X.H₀/\∃env,Rel X.K B G σ env H/\
 (o=none->∀G' H',Ev X.K B G σ env H G' σ env H'->D.nx σ H')/\∀c,o=some c->c∈names/\∀σ' G' H',Ev X.K B G σ env H G' σ' (((env.set i (.dat (uJ c))).set j (.dat (uJ c))).set i .nil) H'->D.nx σ' H'
theorem uK{s':Shared}{D:Ends}{ev:Value}(hst:X.stack=X.env::X.outer)(hfr:X.env.frame=some X.env.locals)(hex:X.ex=[])(hx:Ab X.K S names=true)(hN:X.N.Nodup)
  (hi:X.N[i]? =some n)(hil:X.env.scope.names.lookup n=some .local)(hj:X.N[j]? =some y)(hjl:X.env.scope.names.lookup y=some .local)(hgS:Gl X S)
  (I:Inv X pins σ H s)(rl:Rel X.K B G σ env H)(hX:∀c,o=some c->c∈names/\∀σ' G' H',Ev X.K B G σ env H G' σ' (((env.set i (.dat (uJ c))).set j (.dat (uJ c))).set i .nil) H'->D.nx σ' H')
  (cx:pR X.prog X.w X.stack H s (fun cls _ H'=>∃c C G',o=some c/\nsIn X.K mainGlobals c=some (some (.ref C))/\cls=.ref C/\Ev X.K B G σ env H G' σ env H') ev s')
  (hdS:(S==("__debug__":Str))=false)(hdn:(n==("__debug__":Str))=false)(hcdn:(n==("__classdict__":Str))=false)(hsw:swapsWith (.Name n np) (some (.Name y yp)) apos.line X.env=pure false):
  wpAny (model X.prog X.w) X.A (noteFrame ev X.env) (fun _ s₂=>wpAny (model X.prog X.w) X.A (setFlight ev none) (fun _ s₃=>
   wpAny (model X.prog X.w) X.A (handleBy ev X.env [.ExceptHandler (some (.Name S sp)) (some n) [.Assign [.Name y yp] (.Name n np) apos] hpos]) (SP X pins D) X.xe s₃) X.xe s₂) X.xe s':=by
 obtain⟨e,t,C,H',Bh,rfl,os,bare,fly,un,hok,kept,thr,c,C',G',ho,hC,hcc,evx⟩:=cx;cases hcc;obtain⟨hcn,hD⟩:=hX c ho;obtain⟨C2,F⟩:=Cz hx hcn;have:=F.nm;rw[hC]at this;cases this;obtain⟨Sd,hS,hsub,hoS,hkS⟩:=F.sub;have frF:∀b∈nR X.stack,H b=none/\∃o,s.heap.get? b=some o/\∀vs,o.data≠.fields vs:=fun b hb=>⟨I.stkFree b hb,(I.stack.mem hb).2⟩
 have eB:Bh.get? e=none:=fly.2.1
 obtain⟨oe0,vs0,he0,_,hd0,_⟩:=fly.first
 have eS:s.heap.get? e=none:=by
  cases q:s.heap.get? e with
  |none=>rfl
  |some o0=>
   by_cases hb:e∈nR X.stack
   ·obtain⟨_,o1,g1,g2⟩:=fly.2.2.1.mem hb
    rw[he0]at g1;cases g1;exact absurd hd0 (g2 vs0)
   ·obtain⟨o',q'⟩:=thr e o0 q hb
    rw[eB]at q';cases q'
 have e0:X.s₀.heap.get? e=none\/e∈X.ex:=by
  by_cases hx:e∈X.ex
  ·exact .inr hx
  ·refine .inl ?_
   cases q:X.s₀.heap.get? e with
   |none=>rfl
   |some o0=>obtain⟨o',q'⟩:=I.base.there e o0 q hx;rw[eS]at q';cases q'
 have eH:H' e=none:=by
  cases q:H' e with
  |none=>rfl
  |some u=>
   have ok:=hok e u q
   have:∃o,Bh.get? e=some o:=by
    cases u with
    |lst xs=>obtain⟨_,_,_,_,z⟩:=ok;exact⟨_,z⟩
    |tup xs=>obtain⟨_,_,_,ob,z,_⟩:=ok;exact⟨_,z⟩
    |dK kvs=>obtain⟨_,_,_,_,o,_,_,z,_⟩:=ok;exact⟨_,z⟩
    |dT C kvs=>obtain⟨_,_,_,_,o,_,_,z,_⟩:=ok;exact⟨_,z⟩
    |set S n=>obtain⟨o,_,_,_,z,_⟩:=ok;exact⟨_,z⟩
    |ins C dx fs=>obtain⟨_,_,_,z,_⟩:=ok;exact⟨_,z⟩
    |own y=>obtain⟨_,z⟩:=ok;exact⟨_,z⟩
    |xd fs=>obtain⟨_,⟨_,_,_,z,_⟩,_⟩:=ok;exact⟨_,z⟩
    |rng lo hi=>obtain⟨_,_,_,z⟩:=ok;exact⟨_,z⟩
    |frz ob u=>obtain⟨z,_⟩:=ok;exact⟨_,z⟩
    |tbl ps=>exact⟨_,(show Bh.get? e=some _ from ok)⟩
    |met f y=>exact⟨_,(show Bh.get? e=some _ from ok)⟩
    |ext φ=>obtain⟨_,z,_⟩:=ok;exact z
   rw[eB]at this;obtain⟨_,z⟩:=this;cases z
 have invAt:∀h2:Heap,Bh.StaysIn h2->s'.heap.UpToSlots h2->Inv X pins σ H' {s' with heap:=h2}:=fun h2 st ups=>
  I.call' (s':={s' with heap:=h2}) (ch:=[]) os (ZI un kept thr st ups frF) (hok.kept fun b u q=>st b u q) bare (fun b z=>absurd z (by simp))
 rw[hst]at fly;have frames:X.A.frames=some (X.env::X.outer):=by rw[I.ok.frames,hst]
 refine wpAny_looks_onW (L:=X.env.locals) frames hfr fly fun h4 held4 ups4=>?_
 refine wpAny_landsW held4 fun h5 fly5 ups5=>?_
 have I5:=invAt h5 fly5.1 (ups4.trans ups5)
 refine wpAny_handleBy_cons (codeAny_handlers_test ?_) (by intro q;cases q)
 have markI:∀{σ:St}{H:Hp}{s:Shared},Inv X pins σ H s->Inv ({X with A:=X.A.mark (some (.ref e)),calm:=false,xe:=fun _ _=>False}:Cx) pins σ H s:=fun J=>
  ⟨⟨J.ok.mod,J.ok.kind,J.ok.glob,J.ok.blt,J.ok.above,J.ok.inj,J.ok.has,J.ok.cab,(fun z=>nomatch z),J.ok.frames,J.ok.stk,J.ok.exf,J.ok.bs,J.ok.bsz,J.ok.noex,J.ok.exfs,J.ok.funs,J.ok.frf⟩,J.os,J.bare,J.base,J.loc,J.cell,J.free,J.freeC,J.pin,J.hok,J.len⟩
 have unmark:∀{σ:St}{H:Hp}{s:Shared},Inv ({X with A:=X.A.mark (some (.ref e)),calm:=false,xe:=fun _ _=>False}:Cx) pins σ H s->Inv X pins σ H s:=fun J=>⟨I.ok,J.os,J.bare,J.base,J.loc,J.cell,J.free,J.freeC,J.pin,J.hok,J.len⟩
 refine Dc (X:=({X with A:=X.A.mark (some (.ref e)),calm:=false,xe:=fun _ _=>False}:Cx)) (markI I5) hgS (mg_of I.mod.kin I.mod.glob hS) ?_ hdS
 obtain⟨od,cd,sl,hlk⟩:=ZK (let ⟨Z,z1,z2⟩:=NO hoS;by rw[hS]at z1;cases z1;exact z2)
 obtain⟨oe5,vs5,he5,hc5,_,_⟩:=fly5.first
 refine ZJ I5.kIn ⟨oe5,he5,hc5⟩ hsub (ZL hkS) hlk ?_
 dsimp only[if_true];refine codeAny_handlers_suite_as ?_
 refine lands_againW fly5 fun h6 fly6 ups6=>?_
 have I6:=invAt h6 fly6.1 ((ups4.trans ups5).trans ups6)
 obtain⟨oe6,vs6,he6,hc6,_,_⟩:=fly6.first
 have hexN:e∉X.ex:=fun z=>by rw[hex]at z;cases z
 have I7:Inv X pins σ (upd H' e (.ext (U7 e C))) {s' with heap:=h6}:=by
  refine ZF I6 eH (e0.elim id fun z=>absurd z hexN) (fun z=>?_) (fun x c q z=>?_) (fun p q z=>?_) ⟨oe6,he6,hc6⟩ ⟨_,he6⟩ fun h1 h2 p k=>?_
  ·obtain⟨m,⟨o1,_,_,g,_⟩,_⟩:=I.loc
   rw[←z,eS]at g;cases g
  ·obtain⟨v,o1,g,_⟩:=I.cell x c q
   rw[z,eS]at g;cases g
  ·obtain⟨g,_⟩:=I.pin p q
   rw[z,eS]at g;cases g
  ·obtain⟨o1,g1,g2⟩:=p
   exact⟨o1,k o1 g1,g2⟩
 refine Bl I7 hN hi (.inl hil) (show E3 (.ref e) (.ref e)from rfl) (fun s8 I8=>?_) (.inr hil)
 have hiσ:i<σ.length:=by rw[I.len];exact(Qp.mp hi).1
 refine Qe (LZ (De (X:=({X with A:=X.A.mark (some (.ref e)),calm:=false,xe:=fun _ _=>False}:Cx)) (pos:=apos) (pos':=yp) hN hj (.inl hjl) (Go (pos:=np) hi (.inl hil) hdn hcdn) hsw (.inr hjl)) pins s8 (σ.set i (some (.ref e))) (upd H' e (.ext (U7 e C)))
  {nx:=fun σ' H2=>σ'=(σ.set i (some (.ref e))).set j (some (.ref e))/\H2=upd H' e (.ext (U7 e C)),rt:=fun _ _=>False} (markI I8) ⟨_,Zo hiσ,rfl,rfl⟩) (fun f s9 q=>?_) fun _ _ z=>z.elim
 cases f with
 |ret u=>obtain⟨_,_,_,_,_,z⟩:=q;exact z.elim
 |brk=>obtain⟨_,_,_,z⟩:=q;exact z.elim
 |cont=>obtain⟨_,_,_,z⟩:=q;exact z.elim
 |next=>
  obtain⟨σ9,H9,I9,rfl,rfl⟩:=q;refine ZH (unmark I9) hN hi hil fun s10 I10=>?_
  refine⟨_,_,I10,?_⟩;have f6:=evx.trans (evx.rel.alloc (o:=.ext (U7 e C)) eH);have rp:c4 X.K (upd G' e (.ext (U7 e C))) (.ref e) (uJ c):=by
   simp only[c4];exact⟨e,C,_,rfl,hC,J0,ZA F.kit,ZB F.kit⟩
  exact hD _ _ _ (((f6.setDat (i:=i) rp).setDat (i:=j) rp).setNone (i:=i))
theorem ZO(hst:X.stack=X.env::X.outer)(hfr:X.env.frame=some X.env.locals)(hex:X.ex=[])(hx:Ab X.K S names=true)(hN:X.N.Nodup)(h0:X.N[i0]? =some x)(hv:sZ X.env.scope x)
  (hi:X.N[i]? =some n)(hil:X.env.scope.names.lookup n=some .local)(hj:X.N[j]? =some y)(hjl:X.env.scope.names.lookup y=some .local)(hgS:Gl X S)
  (fn:∀pins σ H s,Inv X pins σ H s->DA fl s.heap)(clo:IA X B fl o G₀)
  (hdx:(x==("__debug__":Str))=false:=by decide)(hcdx:(x==("__classdict__":Str))=false:=by decide)(hdS:(S==("__debug__":Str))=false:=by decide)(hdn:(n==("__debug__":Str))=false:=by decide)(hcdn:(n==("__classdict__":Str))=false:=by decide)
  (hsw:swapsWith (.Name n np) (some (.Name y yp)) apos.line X.env=pure false:=by rfl)(hsw2:swapsWith (.Call (.Name x cp) [] [] cpos) none epos.line X.env=pure false:=by rfl):
  PS X (.Try [.Expr (.Call (.Name x cp) [] [] cpos) epos] [.ExceptHandler (some (.Name S sp)) (some n) [.Assign [.Name y yp] (.Name n np) apos] hpos] [] [] tpos) (ZN X B names fl i0 i j o G₀):=by
 intro pins s σ H D I ⟨hσ,hH,env,rl,hN0,hX0⟩;subst hH;refine wpAny_Try_except ?_
 refine wpAny_execs_cons (wpAny_Expr_any ?_ I.quiet hsw2);refine Jr ?_
 have name:=fun(W:OE)=>Go (X:=X.wish W) (pos:=cp) h0 hv hdx hcdx pins s σ X.H₀ (fun v H'=>v=.ref fl/\H'=X.H₀) (I.wish W) ⟨_,hσ,rfl,rfl⟩
 refine Qe (name fun _ _=>False) (fun u s1 ⟨v,H1,I1,r1,q1,q2⟩=>?_) fun _ _ z=>False.elim z
 subst q1;subst q2;cases (show u=Value.ref fl from r1)
 have I1:=I1.unwish
 refine callWith_of (P:=DA fl) rfl (fun h p=>ZM h p) (evalArgs_nil3 ⟨fn pins σ _ s1 I1,?_⟩)
 refine wpAny_call (Va (clo pins s1 σ env (fun _ H'=>D.nx σ H') (fun cls _ H'=>∃c C G',o=some c/\nsIn X.K mainGlobals c=some (some (.ref C))/\cls=.ref C/\Ev X.K B G₀ σ env _ G' σ env H') I1 rl (fun z v G' H' ev=>hN0 z G' H' ev) (fun c C z hC G' H' ev=>⟨c,C,G',z,hC,rfl,ev⟩)) fun r s' hq=>?_)
 cases r with
 |error ev=>exact uK hst hfr hex hx hN hi hil hj hjl hgS I1 rl hX0 hq hdS hdn hcdn hsw
 |ok f=>
  cases f with
  |next=>exact False.elim hq
  |brk=>exact False.elim hq
  |cont=>exact False.elim hq
  |ret u=>
   obtain⟨v,H',I',_,q⟩:=I1.after hq;exact Uu (Uu ⟨σ,H',I',q⟩)
end
def IB(names:List Str)(i j:Nat)(o:Option Str):Mo Fl:=fun env=>match o with
 |none=>some (.nx,env)
 |some c=>if names.contains c then some (.nx,((env.set i (.dat (uJ c))).set j (.dat (uJ c))).set i .nil)else none
section
variable{S y:Str}{i0 j:Nat}{fl:Addr}{G₀:Hp}{cp cpos epos sp yp np apos hpos tpos yp0 spos0 npos0:Pos}{rest:List Stmt}{m:Mo Fl}{kk:Nat}
theorem ZP(hst:X.stack=X.env::X.outer)(hfr:X.env.frame=some X.env.locals)(hex:X.ex=[])(hx:Ab X.K S names=true)(hN:X.N.Nodup)(h0:X.N[i0]? =some x)(hv:sZ X.env.scope x)
  (hi:X.N[i]? =some n)(hil:X.env.scope.names.lookup n=some .local)(hj:X.N[j]? =some y)(hjl:X.env.scope.names.lookup y=some .local)(hij:i0≠j)(hgS:Gl X S)
  (fn:∀pins σ H s,Inv X pins σ H s->DA fl s.heap)(clo:IA X B fl o G₀)(hr:sK X B rest m)
  (hdx:(x==("__debug__":Str))=false:=by decide)(hcdx:(x==("__classdict__":Str))=false:=by decide)(hdS:(S==("__debug__":Str))=false:=by decide)(hdn:(n==("__debug__":Str))=false:=by decide)(hcdn:(n==("__classdict__":Str))=false:=by decide)
  (hsw:swapsWith (.Name n np) (some (.Name y yp)) apos.line X.env=pure false:=by rfl)(hsw2:swapsWith (.Call (.Name x cp) [] [] cpos) none epos.line X.env=pure false:=by rfl)
  (hsw3:swapsWith (.Constant .none kk npos0) (some (.Name y yp0)) spos0.line X.env=pure false:=by rfl):
  pQ X (.Assign [.Name y yp0] (.Constant .none kk npos0) spos0::.Try [.Expr (.Call (.Name x cp) [] [] cpos) epos] [.ExceptHandler (some (.Name S sp)) (some n) [.Assign [.Name y yp] (.Name n np) apos] hpos] [] [] tpos::rest)
   (fun D σ H=>σ[i0]? =some (some (.ref fl))/\H=X.H₀/\∃env f env',Rel X.K B G₀ σ env H/\(C3 (C9 j (mC .non)) (C3 (IB names i j o) m)) env=some (f,env')/\Post X.K B G₀ σ env H env' D f):=by
 refine p9 (Ca (De hN hj (.inl hjl) LV hsw3 (.inr hjl)) (Ca (ZO hst hfr hex hx hN h0 hv hi hil hj hjl hgS fn clo hdx hcdx hdS hdn hcdn hsw hsw2) hr)) ?_
 rintro D σ H ⟨hσ,hH,env,f,env',rl,e,k⟩;obtain⟨⟨f1,a9⟩,e1,e2⟩:=C6 e;cases e1;dsimp only at e2;obtain⟨⟨f2,g0⟩,e3,e4⟩:=C6 e2;have j9:Ev X.K B G₀ σ env H G₀ (σ.set j (some .non)) (env.set j (.dat .non)) H:=(Ev.refl rl).setDat (i:=j) (v:=.non) (d:=.non) (by simp only[c4])
 refine⟨by rw[Qc (Zm hij)];exact hσ,hH,_,j9.rel,fun z G' H' ev=>?_,fun c z=>?_⟩
 ·subst z
  cases e3;exact⟨G',_,f,env',ev.rel,e4,Post.after _ _ k (j9.trans ev)⟩
 ·subst z
  unfold IB at e3;dsimp only at e3;split at e3
  ·rename_i hc
   cases e3;exact⟨by simpa using hc,fun σ' G' H' ev=>⟨G',_,f,env',ev.rel,e4,Post.after _ _ k (j9.trans ev)⟩⟩
  ·cases e3
end
theorem ZQ{E:XK}(hst:X.stack=X.env::X.outer)(hfr:X.env.frame=some X.env.locals)(hex:X.ex=[])
  (hxe:∀e s',wpAny (model X.prog X.w) X.A (leaving X.env e) (fun _ s''=>pR X.prog X.w X.outer X.H₀ X.s₀ E e s'') (fun e' s''=>pR X.prog X.w X.outer X.H₀ X.s₀ E e' s'') s'->X.xe e s'):vE X E:=by
 refine⟨fun pins σ H s ev s' I h=>hxe _ _ ?_,fun pins σ H s h' e C vs I hm hE=>hxe _ _ ?_⟩
 ·obtain⟨e,t,C,H',Bh,rfl,os,bare,fly,un,hok,kept,thr,hE⟩:=h
  rw[hst]at fly;refine wpAny_leaves_onW (L:=X.env.locals) (by rw[I.ok.frames,hst]) hfr fly fun h2 fly2 ups=>?_
  refine Ff hst hfr hex I os bare fly2 kept thr (fun b o q n hb=>?_) (fun b o q n=>un.free b o q n (by simp)) un.tups un.frzs un.tbls hok hE
  obtain⟨sl,q1⟩:=un.any q n (by simp)
  obtain⟨_,o1,g1,g2⟩:=I.funs.mem hb;rw[q]at g1;cases g1;obtain⟨sl2,q2⟩:=ups b _ q1 g2;exact⟨sl2,q2⟩
 ·have hs:=I.stack
  rw[hst]at hs;refine wpAny_leaves_madeW (L:=X.env.locals) (base:=hideAll s.heap (nR X.stack)) (h:=s.heap) (by rw[I.ok.frames,hst]) hfr (fun b o q=>of_hideAll _ q)
   (funFrames_hide hs fun env he b hb=>by rw[hst];exact Xh.mpr ⟨env,he,hb⟩) hm fun h2 t fly _ hn ups=>?_
  refine Ff (s:=s) (s':={s with heap:=h2}) hst hfr hex I rfl I.bare fly (fun b o q _ hb=>Jc _ q hb) (fun b o q hb=>⟨o,Jc _ q hb⟩) (fun b o q n hb=>?_) (fun b o q n=>n) (fun _ _ q=>q) (fun _ _ _ q=>q) (fun b ps q=>⟨#[],by rw[q];simp⟩) ?_ hE
  ·obtain⟨_,o1,g1,g2⟩:=I.funs.mem hb
   rw[q]at g1;cases g1;obtain⟨sl2,q2⟩:=ups b _ (hm.keeps b o q) g2;exact⟨sl2,q2⟩
  ·exact NM (P:=X.prog) (w:=X.w) I.hok fun b u o q1 q2=>Jc _ q2 fun z=>by rw[I.stkFree b z]at q1;cases q1
theorem Dy{B1 B2:OA}{G':Hp}{σ1' σ2:St}{vI g0:b0}(ev:Ev K B1 G σ1 a9 H G' σ1' vI H')(no:∀a,¬ d6 σ1 a9 a)(rl:Rel K B2 G σ2 g0 H):Ev K B2 G σ2 g0 H G' σ2 g0 H':=by
 refine⟨⟨ev.rel.sub,rl.len,fun i d e=>?_,fun i w ds e1 e2=>?_,rl.inj,rl.fresh,fun b h=>ev.live b (rl.old b h),ev.rel.tabs,ev.rel.gnt⟩,ev.same,fun b o _ t e=>ev.keep b o (no b) t e,ev.live,fun b e _ g=>ev.stay b e (no b) g,fun a z=>.inl z,fun i w e hp=>⟨rfl,w,e,hp⟩,rfl⟩
 ·obtain⟨v,q1,q2⟩:=rl.dat i d e
  exact⟨v,q1,c4.mono ev.same d q2⟩
 ·obtain⟨a,xs,q1,q2,q3,q4⟩:=rl.own i w ds e1 e2
  exact⟨a,xs,q1,ev.keep a _ (no a) q3.nt q2,q3.mono ev.same,ev.stay a (by rw[q2];simp) (no a) q4⟩
theorem NS(rl:Rel K B G σ env H):Rel K O7 G [] [] H:=
 ⟨rl.sub,rfl,fun i d e=>by simp at e,fun i w ds e=>by simp at e,fun i j w w' ds es a e=>by simp at e,fun i ds a e=>by simp at e,fun b h=>h.elim,rl.tabs,rl.gnt⟩
theorem IC:¬ d6 [] [] a:=fun⟨i,w,ds,e,_⟩=>by simp at e
def BX(P:Program)(w:World)(K:Frag)(mg:OU)(base:Heap)(N':List Str)(q:Str)(scope:Scope)(fl:Addr)(cd:Value)(cl:List (Str×Addr))(A:Around)(outer:List Env)(s:Shared)(H:Hp)(E:XK):Cx where
 prog:=P
 w:=w
 K:=K
 mg:=mg
 base:=base
 A:=A.deeper (envX q scope s.heap.objs.size fl cd cl)
 N:=N'
 s₀:=s
 H₀:=H
 env:=envX q scope s.heap.objs.size fl cd cl
 outer:=outer
 stack:=envX q scope s.heap.objs.size fl cd cl::outer
 ex:=[]
 fn:=fun _=>false
 calm:=true
 pn:=[]
 xe:=fun e s'=>wpAny (model P w) (A.deeper (envX q scope s.heap.objs.size fl cd cl)) (leaving (envX q scope s.heap.objs.size fl cd cl) e) (fun _ s''=>pR P w outer H s E e s'') (fun e' s''=>pR P w outer H s E e' s'') s'
section
variable{q:Str}{fl:Addr}{outer:List Env}{E:XK}
theorem ZR:vE (BX P w K mg base N' q scope fl cd cl A outer s H E) E:=ZQ rfl rfl rfl fun _ _ h=>h
theorem ZS{h₁:Heap}{m:OU}(e0:qM P w K mg base A outer s H)(hd:A.handled=none)(hk:scope.kind=.function)(hnc:∀x,scope.names.lookup x≠some .cell)
  (inj:∀x y c,cl.lookup x=some c->cl.lookup y=some c->x=y)(has:∀x,scope.names.lookup x=some .free->∃c,cl.lookup x=some c)
  (cell:∀x c,cl.lookup x=some c->(∃v,s.heap.IsCell c v)/\H c=none)
  (val:∀(i:Nat) (x:Str) (v:V),N'[i]? =some x->σ[i]? =some (some v)->sZ scope x->scope.names.lookup x=some .free/\∃c u,cl.lookup x=some c/\E3 v u/\s.heap.IsCell c (some u))
  (hl:σ.length=N'.length)(hns:h₁.Ns s.heap.objs.size m)(kp:∀b o,s.heap.get? b=some o->h₁.get? b=some o):
  Inv (BX P w K mg base N' q scope fl cd cl A outer s H E) [] σ H {s with heap:=h₁,toks:=tk}:=by
 have noA:∀b:Addr,b∉(BX P w K mg base N' q scope fl cd cl A outer s H E).ex:=fun b z=>absurd (show b∈([]:List Addr)from z) (by simp)
 refine⟨⟨e0.mod,hk,rfl,rfl,Qm _,inj,fun y hy=>?_,fun y c z=>absurd (show(false:Bool)=true from z) (by decide),fun _=>hd,Around.frames_deeper e0.frames,.inr ⟨rfl,rfl⟩,fun b z=>absurd z (noA b),e0.bs,e0.bsz,fun b _ _=>noA b,fun b z=>absurd z (noA b),e0.funs,e0.frf⟩,
  rfl,e0.bare,Un.kept kp,⟨_,hns,fun i x v h1 h2 h3=>?_⟩,fun x c e=>?_,e0.hok.fresh (Qm _),fun x c e=>(cell x c e).2,fun p hp=>absurd (show p∈([]:OX)from hp) (by simp),e0.hok.kept kp,hl⟩
 ·rcases hy with hy|hy
  ·exact absurd hy (hnc y)
  ·exact has y hy
 ·obtain⟨k,c,u,g1,g2,g3⟩:=val i x v h1 h2 h3
  exact⟨u,g2,.inr ⟨.inr k,c,g1,g3.keeps kp⟩⟩
 ·obtain⟨⟨v,z⟩,_⟩:=cell x c e
  exact⟨v,z.keeps kp⟩
end
structure tQ(K:Frag)(params:Arguments)(body:Expr)(scope:Scope)(N':List Str)(lq:Str)(fl c':Addr)(cl:List (Str×Addr))(σ:St)(s₁:Shared)(H₁:Hp)(outer₁:List Env):Prop where
 obj:∃pm ctv,s₁.heap.get? fl=some (kla_obj "<lambda>" lq params body scope cl pm c' ctv)
 free:H₁ fl=none
 nfr:fl∉nR outer₁
 code:∃φ,H₁ c'=some (.ext φ)/\∀h:Heap,φ h->h.CodeRec (.ref c') lq
 inj:∀x y c,cl.lookup x=some c->cl.lookup y=some c->x=y
 has:∀x,scope.names.lookup x=some .free->∃c,cl.lookup x=some c
 cell:∀x c,cl.lookup x=some c->(∃v,s₁.heap.IsCell c v)/\H₁ c=none/\c∉nR outer₁
 val:∀(i:Nat) (x:Str) (v:V),N'[i]? =some x->σ[i]? =some (some v)->sZ scope x->scope.names.lookup x=some .free/\∃c u,cl.lookup x=some c/\E3 v u/\s₁.heap.IsCell c (some u)
 len:σ.length=N'.length
def ID(P:Program)(w:World)(K:Frag)(mg:OU)(base:Heap)(kc:Nat)(fl:Addr)(s₁:Shared)(H₁:Hp)(outer₁:List Env)(o:Option Str)(G:Hp):Prop:=
 (∀(H':Hp) (s:Shared),Un (nR outer₁) [] H₁ H' s₁.heap s.heap->DA fl s.heap)/\
 ∀(A:Around) (outer:List Env) (s:Shared) (Q:VK) (E:XK),f9 kc A->qM P w K mg base A outer s H₁->Un (nR outer₁) [] H₁ H₁ s₁.heap s.heap->
  (o=none->∀v G' H',Ev K O7 G [] [] H₁ G' [] [] H'->Q v H')->
  (∀n C,o=some n->nsIn K mainGlobals n=some (some (.ref C))->∀G' H',Ev K O7 G [] [] H₁ G' [] [] H'->E (.ref C) none H')->
  codeAny (model P w) A (.call (.ref fl) ⟨[],[]⟩) (CR (pR P w) outer P w H₁ s Q E) s
def outcome(names:List Str)(mb:Mo D)(xb:Mx)(env:b0):Option (Option Str):=match xb env with
 |some n=>if names.contains n then some (some n)else none
 |none=>(mb env).map fun _=>none
theorem ZT{lq:Str}{fl c':Addr}{H₁:Hp}{outer₁:List Env}{lw:b0}{mb:Mo D}{xb:Mx}
  (L:tQ K params body scope N' lq fl c' cl σ s₁ H₁ outer₁)(hk:scope.kind=.function)(hco:scope.isCoroutine=false)(hgen:scope.isGenerator=false)(hnc:∀x∈scope.names,x.2≠.cell)
  (hbind:∀pm ctv,bindArgs (kla_fn "<lambda>" lq params body scope cl pm (.ref c') ctv) ⟨[],[]⟩=pure [])
  (rl:Rel K (fun b=>H₁ b≠none) G σ lw H₁)(no:∀a,¬ d6 σ lw a){S:Str}(hex:Ab K S names=true)(ho:outcome names mb xb lw=some o)
  (hb:∀(A:Around) (outer:List Env) (s:Shared) (E:XK),f9 kc (A.deeper (envX lq scope s.heap.objs.size fl (.ref c') cl))->ED (BX P w K mg base N' lq scope fl (.ref c') cl A outer s H₁ E) (fun b=>H₁ b≠none) body mb)
  (hx:∀(A:Around) (outer:List Env) (s:Shared) (E:XK),f9 kc (A.deeper (envX lq scope s.heap.objs.size fl (.ref c') cl))->vG (BX P w K mg base N' lq scope fl (.ref c') cl A outer s H₁ E) (fun b=>H₁ b≠none) E body xb):
  ID P w K mg base (kc+1) fl s₁ H₁ outer₁ o G:=by
 obtain⟨pm,ctv,hobj⟩:=L.obj;have hnc':∀x,scope.names.lookup x≠some .cell:=fun x z=>hnc _ (Zy z) rfl
 refine⟨fun H' s un=>⟨_,_,un.keep fl _ hobj L.free L.nfr (by simp),rfl⟩,fun A outer s Q E hr e0 un hN hX=>?_⟩
 have cellK:∀x c v,cl.lookup x=some c->s₁.heap.IsCell c v->s.heap.IsCell c v:=fun x c v e ⟨oc,h1,h2⟩=>⟨oc,un.keep c oc h1 (L.cell x c e).2.1 (L.cell x c e).2.2 (by simp),h2⟩
 have hcd:s.heap.CodeRec (.ref c') lq:=by
  obtain⟨φ,h1,h2⟩:=L.code;exact h2 _ (e0.hok c' _ h1).1
 have lim:s.heap.NoLimit:=e0.mod.nolimit.keeps fun b o e=>(e0.bs b o e).1
 refine kla_callFunE hr.depth (un.keep fl _ hobj L.free L.nfr (by simp)) rfl hco hgen rfl hcd ?_
 rw[hbind];refine Qy (wpAny_newFunctionEnv hnc (fun x z=>by simp at z) (fun h₁ hns hsb=>⟨lim.fresh _ hsb,?_⟩) hk)
 show codeAny _ _ (.expr body (envX lq scope s.heap.objs.size fl (.ref c') cl)) _ _;have kp:∀b o,s.heap.get? b=some o->h₁.get? b=some o:=fun b o e=>hsb.extBut b o (Qi (Qu e)) (Qv _ e)
 have I:Inv (BX P w K mg base N' lq scope fl (.ref c') cl A outer s H₁ E) [] σ H₁ {s with heap:=h₁,toks:=s.toks+([]:List (Str×Value)).length}:=by
  refine ZS e0 hr.hd hk hnc' L.inj L.has (fun x c e=>?_) (fun i x v h1 h2 h3=>?_) L.len hns kp
  ·obtain⟨⟨v,z⟩,z2,_⟩:=L.cell x c e
   exact⟨⟨v,cellK x c v e z⟩,z2⟩
  ·obtain⟨k,c,u,g1,g2,g3⟩:=L.val i x v h1 h2 h3
   exact⟨k,c,u,g1,g2,cellK x c _ g1 g3⟩
 have side:∀{G' H':Hp}{σ':St}{lw':b0},Ev K (fun b=>H₁ b≠none) G σ lw H₁ G' σ' lw' H'->Ev K O7 G [] [] H₁ G' [] [] H':=fun ev=>Dy ev no (NS rl)
 refine kla_codeExpr ?_
 unfold outcome at ho;cases hxb:xb lw with
 |some n=>
  rw[hxb]at ho;dsimp only at ho;split at ho
  ·rename_i hn
   cases ho;obtain⟨C,F⟩:=Cz hex (by simpa using hn)
   exact Qe (hx A outer s E (hr.deeper _) [] _ σ H₁ (fun _ _=>False) I ⟨G,lw,n,rl,hxb,C,F.nm,fun σ' G' env' H' ev=>hX n C rfl F.nm G' H' (side ev)⟩) (fun v s' ⟨_,_,_,_,z⟩=>z.elim) fun _ _ z=>z
  ·cases ho
 |none=>
  rw[hxb]at ho;obtain⟨⟨d,lw'⟩,e1,e2⟩:=F5 ho;cases e2;refine Qe (hb A outer s E (hr.deeper _) [] _ σ H₁ Q I ⟨G,lw,d,lw',rl,e1,fun v G' H' ev rp=>hN rfl v G' H' (side ev)⟩) (fun v s' ⟨x,H',J,rv,z⟩=>?_) fun _ _ z=>z
  exact⟨x,H',J.os,J.bare,J.base,J.hok,rv,z⟩
theorem ZU{c P:Addr}{q:Str}(h1:codeHdIn K c P=true)(h2:codeIn K (.ref c) qual=true)(h3:sJ K P q=true):q=qual:=by
 unfold codeHdIn at h1;unfold codeIn at h2;split at h1
 ·rename_i vs _ hk
  have m:=Qx.mp h3 _ (mem_of_lookupK hk)
  simp only[hk]at h2;simp only[Qw]at h1;obtain⟨⟨⟨⟨⟨e1,_⟩,_⟩,_⟩,_⟩,_⟩:=h1
  replace m:((match (vs[11]? :Option Value)with|some (.ref P')=>P' !=P|_=>true)||(match vs.toList with|_::.str n _::_=>n==q|_=>false))=true:=by
   split at m
   ·rename_i heq;cases heq;exact m
   ·rename_i hne;exact absurd rfl (hne _ _ _)
  split at e1
  ·rename_i P' h11
   have hP:P'=P:=Yi.mp e1
   subst hP;rw[h11]at m;simp only[bne_self_eq_false,Vc]at m;split at h2
   ·rename_i n t r hl
    simp only[hl]at m;rw[←Yi.mp m,←Yi.mp h2]
   ·cases h2
  ·cases e1
 ·cases h1
def Ax(mg:OU)(base:Heap):Prop:=∃bm o,mg "__builtins__"=some (.ref bm)/\bm≠builtinsNs/\bm≠mainGlobals/\base.get? bm=some o/\o.cls=.type "module"/\o.dict=some builtinsNs/\o.data=.plain
theorem ZV{l:List Value}(h:TriplesOk l):l=[]\/ ∃a t b u d rest,l=.int a t::.int b u::d::rest/\TriplesOk rest:=by
 cases l with
 |nil=>exact .inl rfl
 |cons x l=>
  cases x<;>first|exact False.elim h|skip
  cases l with
  |nil=>exact False.elim h
  |cons y l=>
   cases y<;>first|exact False.elim h|skip
   cases l with
   |nil=>exact False.elim h
   |cons d rest=>exact .inr ⟨_,_,_,_,_,_,rfl,h⟩
theorem NU{M:List Value->Prop}(h0:M [])(h1:∀a t b u d rest,TriplesOk rest->M rest->M (.int a t::.int b u::d::rest))(l:List Value)(h:TriplesOk l):M l:=by
 have:∀(n:Nat) (l:List Value),l.length≤n->TriplesOk l->M l:=by
  intro n
  induction n with
  |zero=>
   intro l hl h;cases l with
   |nil=>exact h0
   |cons x l=>exact absurd hl (Nat.not_succ_le_zero _)
  |succ n ih=>
   intro l hl h
   rcases ZV h with rfl|⟨a,t,b,u,d,rest,rfl,hr⟩
   ·exact h0
   ·exact h1 _ _ _ _ _ _ hr (ih rest (by simp only[Qo]at hl;omega) hr)
 exact this l.length l (Qm _) h
theorem ZW(l:List Value){a b:Int}{t u:Tok}(h:TriplesOk l):TriplesOk (l++[.int a t,.int b u,c]):=
 NU (M:=fun l=>TriplesOk (l++[.int a t,.int b u,c])) trivial (fun _ _ _ _ _ _ _ ih=>ih) l h
theorem ZX(l:List Value){pos pos':Pos}{v:Value}(hk:TriplesOk l):codeAmong pos' (l++[rawInt pos.line,rawInt pos.col,c])=some v->codeAmong pos' l=some v\/v=c:=by
 refine NU (M:=fun l=>codeAmong pos' (l++[rawInt pos.line,rawInt pos.col,c])=some v->codeAmong pos' l=some v\/v=c) (fun h=>?_) (fun a t b u d rest _ ih h=>?_) l hk
 ·change (if(pos.line:Int)==pos'.line&&(pos.col:Int)==pos'.col then some c else none)=some v at h
  split at h
  ·cases h;exact .inr rfl
  ·cases h
 ·change (if a==pos'.line&&b==pos'.col then some d else codeAmong pos' (rest++[rawInt pos.line,rawInt pos.col,c]))=some v at h
  show(if a==pos'.line&&b==pos'.col then some d else codeAmong pos' rest)=some v\/v=c
  split at h
  ·rename_i z;rw[Qh z];exact .inl h
  ·rename_i z;rw[Qs z];exact ih h
section
variable{P c:Addr}{ps:Array Value}{pos:Pos}
structure Made(X:Cx)(pins:OX)(σ:St)(H:Hp)(s:Shared)(P:Addr)(qual:Str)(params:Arguments)(body:Expr)(scope:Scope)(cl:List (Str×Addr))(fl c':Addr)(H1:Hp)(s1:Shared):Prop where
 inv:Inv X pins σ H1 s1
 ev:∀(B:OA) (G:Hp) (env:b0),Rel X.K B G σ env H->Ev X.K B G σ env H G σ env H1
 obj:∃pm ctv,s1.heap.get? fl=some (kla_obj "<lambda>" (oZ qual) params body scope cl pm c' ctv)
 new:s.heap.objs.size≤fl
 free:H1 fl=none
 code:H1 c'=some (qQ X.K P c')
 keep:∀b o,H b=none->s.heap.get? b=some o->s1.heap.get? b=some o/\H1 b=none
theorem ZY{Q:OE}(I:Inv X pins σ H s)(hcode:X.env.code=.ref c)(hc:codeHdIn X.K c P=true)(hq:codeIn X.K (.ref c) qual=true)(htq:sJ X.K P qual=true)(henv:X.env.qual=qual++".<locals>.")
  (bm:Ax X.mg X.base)(hP:H P=some (.tbl ps))(tabs:nK X.K H)(hcl:closureFor scope X.env=pure cl)(hdef:defaultsOf params X.env=([],[]))
  (h:∀fl c' H1 s1,Made X pins σ H s P qual params body scope cl fl c' H1 s1->Q (.ref fl) s1):wpAny M A (eval (.Lambda params body scope pos) X.env) Q E s:=by
 obtain⟨ht,hent⟩:=tabs P ps hP;have hPo:s.heap.get? P=some (tabObj ps):=I.hok P _ hP;have C:=codeHd_of_K I.kIn hc;have nbase:∀{b o},X.base.get? b=some o->b≠P:=fun{b o} e z=>by rw[z]at e;have:=(I.bs P o e).2;rw[hP]at this;cases this
 have hgs:s.heap.Ns mainGlobals X.mg:=I.mod.glob.keeps I.bk
 have hgP:mainGlobals≠P:=by
  obtain⟨o,_,_,e,_⟩:=I.mod.glob;exact nbase e
 obtain⟨b,ob,b1,b2,b3,b4,b5,b6,b7⟩:=bm;have hB:s.heap.BuiltinsAt X.mg P:=⟨b,ob,b1,b2,b3,nbase b4,I.bk _ _ b4,b5,b6,b7⟩;have hlq:X.env.qual++"<lambda>"=oZ qual:=by rw[henv];rfl
 refine kla_eval hdef ?_
 rw[hlq];cases hca:codeAmong pos ps.toList with
 |some cv=>
  obtain⟨c',rfl,hc'⟩:=hent pos cv hca;refine kla_makeFunctionHit hcl I.ok.glob hgs hcode C hPo ht hca hB fun ctv h' tk hk hsz=>?_
  have kp:∀b o,s.heap.get? b=some o->(h'.push ({cls:=.type "function",data:=.func (kla_fn "<lambda>" (oZ qual) params body scope cl ((X.mg "__name__").getD .none) (.ref c') ctv)}:Obj)).get? b=some o:=fun b o e=>Qv _ (hk b o e)
  refine h h'.objs.size c' H _ ⟨?_,fun B G env rl=>.refl rl,⟨_,_,Qn _ rfl⟩,hsz,I.hok.fresh hsz,hc',fun b o n e=>⟨kp b o e,n⟩⟩
  exact I.kept kp
 |none=>
  refine kla_makeFunction hcl I.ok.glob hgs hcode C hPo ht hca hgP hB fun c' ctv h' tk hx hge hlt hrec htb=>?_
  have hfsz:s.heap.objs.size≤h'.objs.size:=Jl (Nat.lt_of_le_of_lt hge hlt)
  have pP:P≠c':=Qi (Qd (Qu hPo) hge)
  have hnc:H c'=none:=I.hok.fresh hge
  have hcf:c'≠h'.objs.size:=Qi hlt
  have hPf:P≠h'.objs.size:=Qi (Qd (Qu hPo) hfsz)
  have get1:∀{b},(upd (upd H P (.tbl (ps++ #[rawInt pos.line,rawInt pos.col,.ref c']))) c' (qQ X.K P c')) b=if b=c' then some (qQ X.K P c')else if b=P then some (.tbl (ps++ #[rawInt pos.line,rawInt pos.col,.ref c']))else H b:=fun{b}=>rfl
  have kp:∀b o,b≠P->s.heap.get? b=some o->(h'.push (kla_obj "<lambda>" (oZ qual) params body scope cl ((X.mg "__name__").getD .none) c' ctv)).get? b=some o:=fun b o n e=>Qv _ (hx b o n e)
  have other:∀{b u},H b=some u->b≠P->(upd (upd H P (.tbl (ps++ #[rawInt pos.line,rawInt pos.col,.ref c']))) c' (qQ X.K P c')) b=some u:=fun{b u} e n=>by
   rw[D7 (Q5 e hnc),D7 n];exact e
  have free1:∀{b o},H b=none->s.heap.get? b=some o->(upd (upd H P (.tbl (ps++ #[rawInt pos.line,rawInt pos.col,.ref c']))) c' (qQ X.K P c')) b=none:=fun{b o} n e=>by
   rw[D7 (Qi (Qd (Qu e) hge)),D7 (fun z=>by rw[z,hP]at n;cases n)];exact n
  have tab1:nK X.K (upd (upd H P (.tbl (ps++ #[rawInt pos.line,rawInt pos.col,.ref c']))) c' (qQ X.K P c')):=by
   intro P2 ps2 e2;rw[get1]at e2;split at e2
   ·cases e2
   ·split at e2
    ·rename_i z
     subst z;cases e2;refine⟨by rw[Array.toList_append];exact ZW _ ht,fun p v e=>?_⟩
     rw[Array.toList_append]at e
     rcases ZX _ ht e with q|q
     ·obtain⟨a,q1,q2⟩:=hent p v q
      exact⟨a,q1,other q2 (fun z=>by rw[z,hP]at q2;cases q2)⟩
     ·exact⟨c',q,J0⟩
    ·obtain⟨q1,q2⟩:=tabs P2 ps2 e2
     refine⟨q1,fun p v e=>?_⟩
     obtain⟨a,q3,q4⟩:=q2 p v e;exact⟨a,q3,other q4 (fun z=>by rw[z,hP]at q4;cases q4)⟩
  have live1:∀b,H b≠none->(upd (upd H P (.tbl (ps++ #[rawInt pos.line,rawInt pos.col,.ref c']))) c' (qQ X.K P c')) b≠none:=fun b e=>by
   rw[get1];split
   ·simp
   ·split
    ·simp
    ·exact e
  refine h h'.objs.size c' _ _ ⟨?_,fun B G env rl=>?_,⟨_,_,Qn _ rfl⟩,hfsz,?_,J0,fun b o n e=>⟨kp b o (fun z=>by rw[z,hP]at n;cases n) e,free1 n e⟩⟩
  ·refine I.un (h':=h'.push (kla_obj "<lambda>" (oZ qual) params body scope cl ((X.mg "__name__").getD .none) c' ctv)) (t':=tk) ⟨fun b o e n _ _=>?_,fun b o e n _ _=>⟨o.slots,?_⟩,fun b o e n _=>free1 n e,fun b o e _=>?_,fun b xs e=>?_,fun b o u e=>?_,fun b ps2 e=>?_⟩ fun b u e=>?_
   ·exact kp b o (fun z=>by rw[z,hP]at n;cases n) e
   ·exact kp b o (fun z=>by rw[z,hP]at n;cases n) e
   ·by_cases z:b=P
    ·subst z;exact⟨_,Qv _ htb⟩
    ·exact⟨o,kp b o z e⟩
   ·exact other e (fun z=>by rw[z,hP]at e;cases e)
   ·exact other e (fun z=>by rw[z,hP]at e;cases e)
   ·by_cases z:b=P
    ·subst z
     rw[hP]at e;cases e;exact⟨#[rawInt pos.line,rawInt pos.col,.ref c'],by rw[D7 pP,J0]⟩
    ·exact⟨#[],by rw[other e z];simp⟩
   ·rw[get1]at e
    split at e
    ·rename_i z
     subst z;cases e;have hrec2:=hrec.push (kla_obj "<lambda>" (oZ qual) params body scope cl ((X.mg "__name__").getD .none) b ctv);obtain⟨c2,oc,vs,t,e2,hoc,hd,hv⟩:=id hrec2;cases e2;refine⟨fun q hq2=>?_,⟨oc,hoc⟩,fun h1 h2 p k q hq2=>?_⟩
     ·rw[ZU hc hq hq2];exact hrec2
     ·obtain⟨c3,oc3,vs3,t3,e3,g1,g2⟩:=p q hq2
      cases e3;exact⟨_,oc3,vs3,t3,rfl,k oc3 g1,g2⟩
    ·split at e
     ·rename_i z
      subst z;cases e;exact Qv _ htb
     ·rename_i z1 z2
      refine(I.hok b u e).stay (fun b2 o2 hb q=>kp b2 o2 (fun z=>?_) q) (fun b2 q=>other q (fun z=>by rw[z,hP]at q;cases q)) fun b2 xs q=>other q (fun z=>by rw[z,hP]at q;cases q)
      rcases hb with hb|hb
      ·exact z2 (hb.symm.trans z)
      ·rw[z,hP]at hb;cases hb
  ·refine⟨⟨fun b o e=>?_,rl.len,rl.dat,fun i wv ds e1 e2=>?_,rl.inj,rl.fresh,fun b hb=>live1 b (rl.old b hb),tab1,rl.gnt⟩,Le.refl,fun b o _ nt e=>?_,live1,fun b e _ g=>g,fun a z=>.inl z,fun i w e hp=>⟨rfl,w,e,hp⟩,rfl⟩
   ·exact other (rl.sub b o e) (fun z=>by have q:=rl.sub b o e;rw[z,hP]at q;cases q;exact rl.gnt b _ e _ rfl)
   ·obtain⟨a,xs,q1,q2,q3,q4⟩:=rl.own i wv ds e1 e2
    exact⟨a,xs,q1,other q2 (fun z=>by rw[z,hP]at q2;cases q2;exact q3.nt _ rfl),q3,q4⟩
   ·exact other e (fun z=>by rw[z,hP]at e;cases e;exact nt _ rfl)
  ·rw[D7 (Zm hcf),D7 (Zm hPf)];exact I.hok.fresh hfsz
end
theorem ZZ{CX:tM}{f:Addr}{name:Str}{body:List Stmt}{dV kV doc pm cdv ct oc:Value}{an:Option Addr}
  {osl:Array (Option Value)}(lk:K.lookup f=some ⟨oc,od,.func (fnOf name qual params body scope dV kV doc pm an cdv ct),osl⟩)(hcd:codeIn K cdv qual=true)(S:c8 N ps scope)
  {outer:List Env}{args:Args}{us:List Value}{vs:List V}{Q:VK}{E:XK}(hr:f9 (k+1) A)(e0:qM P w K mg base A outer s H)(hb:BindsTo s (fnOf name qual params body scope dV kV doc pm an cdv ct) args (ps.zip us))(r:D4 vs us)(hl:vs.length=ps.length)
  (hbody:f9 k (A.deeper (envOfC qual scope s.heap.objs.size f cdv))->∃t,pQ (O0 CX P w K mg base N qual scope f cdv A outer s H E) body t/\t {nx:=fun _ H'=>Q .non H',rt:=Q} (start N vs) H):
  codeAny (model P w) A (.call (.ref f) args) (CR CX outer P w H s Q E) s:=by
 have KX:K.In s.heap:=e0.mod.kin.keeps fun b o e=>(e0.bs b o e).1
 have lim:s.heap.NoLimit:=e0.mod.nolimit.keeps fun b o e=>(e0.bs b o e).1
 have hkind:∀y∈ps.zip us,scope.names.lookup y.1=some .local\/(scope.names.lookup y.1=some .cell/\((cellsFrom (s.heap.objs.size+1) scope.names []).lookup y.1).isSome=true):=fun⟨n,v⟩ hy=>by
  rcases S.par n (Ve hy).1 with q|q
  ·exact .inl q
  ·exact .inr ⟨q,cellsFrom_some _ _ _ (.inl q)⟩
 refine codeAny_call_function hr.depth (KX _ _ lk) rfl S.co S.gen rfl (codeRec_of KX hcd) (hb _ _ _ _ ?_);refine wpAny_newFunctionEnv_cells S.kind hkind fun env he s1 x=>?_
 subst he;refine⟨lim.keeps x.toInCall.keep,codeAny_func ?_⟩;obtain⟨t,ht,hq⟩:=hbody (hr.deeper _);have I:Inv (O0 CX P w K mg base N qual scope f cdv A outer s H E) [] (start N vs) H s1:=Lx S hr.hd e0 hl r x;refine Qe (ht [] s1 (start N vs) H _ I hq) (fun fl s' hs=>?_) fun e s' hs=>hs
 have fin:∀{σ':St}{H':Hp}{v:V}{u:Value},Inv (O0 CX P w K mg base N qual scope f cdv A outer s H E) [] σ' H' s'->E3 v u->Q v H'->CE outer P w H s Q u s':=
  fun{σ' H' v u} J rv q=>⟨v,H',J.os,J.bare,J.base,J.hok,rv,q⟩
 cases fl with
 |ret u=>
  obtain⟨v,σ',H',J,rv,q⟩:=hs;exact fin J rv q
 |next=>
  obtain⟨σ',H',J,q⟩:=hs;exact fin (v:=V.non) (u:=Value.none) J rfl q
 |brk=>
  obtain⟨_,_,_,q⟩:=hs;exact False.elim q
 |cont=>
  obtain⟨_,_,_,q⟩:=hs;exact False.elim q
structure qD(P:Program)(w:World)(K:Frag)(mg:OU)(base:Heap)(x:Str)(k kc:Nat)(fr:Option Str->Option D):Prop where
 ex:∃f:Addr,mg x=some (.ref f)/\keepIn K (.ref f)=true/\∀(A:Around) (outer:List Env) (s:Shared) (H:Hp) (fl:Addr) (o:Option Str) (G:Hp) (Q:VK),f9 k A->qM P w K mg base A outer s H->ID P w K mg base kc fl s H outer o G->Rel K O7 G [] [] H->
  (∃d,fr o=some d/\∀v G' H',Ev K O7 G [] [] H G' [] [] H'->c4 K G' v d->Q v H')->codeAny (model P w) A (.call (.ref f) ⟨[.ref fl],[]⟩) (CR j7 outer P w H s Q E0) s
def IE(N:Nat)(mb:Option Str->Mo Fl)(o:Option Str):Option D:=match mb o (List.replicate N .nil)with
 |some (.ret d,_)=>some d
 |some (.nx,_)=>some .non
 |_=>none
theorem aA{B':OA}{σ':St}(rl:Rel K B G σ env H)(old:∀b,B' b->H b≠none):Rel K B' G σ' (List.replicate σ'.length .nil) H:=by
 have nn:∀{i:Nat}{w:W},(List.replicate σ'.length W.nil)[i]? =some w->w=.nil:=fun{i w} e=>by
  rw[Yo]at e;split at e
  ·cases e;rfl
  ·cases e
 exact⟨rl.sub,by simp,(fun i d e=>by cases nn e),(fun i w ds e1 e2=>by rw[nn e1]at e2;cases e2),(fun i j w w' ds es a e1 e2=>by rw[nn e1]at e2;cases e2),(fun i w a e eo=>by rw[nn e]at eo;cases eo),old,rl.tabs,rl.gnt⟩
theorem aB{n:Nat}:¬ d6 σ (List.replicate n .nil) a:=fun⟨i,w,ds,e1,e2,_⟩=>by
 rw[Yo]at e1;split at e1
 ·cases e1;cases e2
 ·cases e1
theorem aC{v:V}(h:1≤N.length):(start N [v]).length=N.length:=by
 unfold start;simp only[Qt,Qk,Yx,Qo,Jj]
 omega
theorem aD{p1:Str}{st:Stmt}{f:Addr}{mb:Option Str->Mo Fl}(F:k9 K x qual st f fd)(S:c8 N [p1] (E5 st))(hm:mg x=some (.ref f))(hbi:Q6 K fd [p1] [])(hkc:kc≤k)
  (hb:∀(cdv:Value) (A:Around) (outer:List Env) (s:Shared) (H:Hp) (E:XK) (fl:Addr) (o:Option Str) (G:Hp),f9 k (A.deeper (envOfC qual (E5 st) s.heap.objs.size f cdv))->
   (∀pins σ H' s',Inv (O0 j7 P w K mg base N qual (E5 st) f cdv A outer s H E).nox pins σ H' s'->DA fl s'.heap)->IA (O0 j7 P w K mg base N qual (E5 st) f cdv A outer s H E).nox (fun b=>H b≠none) fl o G->
   pQ (O0 j7 P w K mg base N qual (E5 st) f cdv A outer s H E).nox (X8 st) (fun D σ H'=>σ[0]? =some (some (.ref fl))/\H'=H/\∃env fw env',Rel K (fun b=>H b≠none) G σ env H'/\mb o env=some (fw,env')/\Post K (fun b=>H b≠none) G σ env H' env' D fw)):
  qD P w K mg base x (k+1) kc (IE N.length mb):=by
 have hN:1≤N.length:=by have:=Ze List.length S.pre;rw[Jy]at this;simp only[Qo,Jj]at this;omega
 refine⟨f,hm,F.kp,fun A outer s H fl o G Q hr e0 clo rl hfr=>?_⟩
 obtain⟨oc,od,kV,doc,pm,an,cdv,ct,osl,rfl,lk,hcd⟩:=F.ex;obtain⟨d,hd,hQ⟩:=hfr;have KX:K.In s.heap:=e0.mod.kin.keeps fun b o e=>(e0.bs b o e).1
 refine ZZ (us:=[.ref fl]) (vs:=[.ref fl]) lk hcd S hr e0 ?_ (.cons rfl .nil) rfl fun hr'=>?_
 ·have:=hbi s [.ref fl] KX rfl
  simpa using this
 ·have un0:∀{pins:OX}{σ:St}{H':Hp}{s':Shared},Inv (O0 j7 P w K mg base N qual (E5 st) f cdv A outer s H E0).nox pins σ H' s'->Un (nR outer) [] H H' s.heap s'.heap:=fun I=>I.base
  have q:=hb cdv A outer s H E0 fl o G hr' (fun pins σ H' s' I=>clo.1 H' s' (un0 I)) (fun pins s' σ env Q' E' I rl' hN' hX'=>?_)
  ·refine⟨_,q.nox,?_⟩
   have rl0:Rel K (fun b=>H b≠none) G (start N [.ref fl]) (List.replicate N.length .nil) H:=by
    have:=aA (B':=fun b=>H b≠none) (σ':=start N [.ref fl]) rl (fun b h=>h)
    rwa [aC hN]at this
   have side:∀{G' H':Hp}{σ':St}{env':b0},Ev K (fun b=>H b≠none) G (start N [.ref fl]) (List.replicate N.length .nil) H G' σ' env' H'->Ev K O7 G [] [] H G' [] [] H':=fun ev=>Dy ev (fun a=>aB) rl
   unfold IE at hd;split at hd
   ·rename_i d' env' em
    cases hd;exact⟨by rw[AW (by simp)];rfl,rfl,_,_,env',rl0,em,fun v σ' G' H' ev rp=>hQ v G' H' (side ev) rp⟩
   ·rename_i env' em
    cases hd;exact⟨by rw[AW (by simp)];rfl,rfl,_,_,env',rl0,em,fun σ' G' H' ev=>hQ .non G' H' (side ev) (by simp only[c4])⟩
   ·cases hd
  ·exact clo.2 _ _ s' Q' E' (hr'.mono hkc) I.qO (un0 I) (fun z v G' H' ev=>hN' z v G' H' (Dy ev (fun a=>IC) rl')) fun n C z hC G' H' ev=>hX' n C z hC G' H' (Dy ev (fun a=>IC) rl')
def aE(k:Bool)(w:W):W:=if k then(match w with|.dat d=>.dat d|_=>.nil)else .nil
def Ay(keep:List Bool)(env:b0):b0:=List.zipWith aE keep env
theorem IF{w:W}(h:(Ay keep env)[i]? =some w)(hw:w≠.nil):∃d,w=.dat d/\keep[i]? =some true/\env[i]? =some (.dat d):=by
 unfold Ay at h;rw[Jp]at h;cases e1:keep[i]? with
 |none=>rw[e1]at h;cases h
 |some k=>
  cases e2:env[i]? with
  |none=>rw[e1,e2]at h;cases h
  |some w0=>
   rw[e1,e2]at h;cases k with
   |false=>cases h;exact absurd rfl hw
   |true=>
    cases w0 with
    |dat d=>cases h;exact⟨d,rfl,rfl,rfl⟩
    |nil=>cases h;exact absurd rfl hw
    |own _=>cases h;exact absurd rfl hw
    |par _=>cases h;exact absurd rfl hw
    |ownD _ _=>cases h;exact absurd rfl hw
    |parD _ _=>cases h;exact absurd rfl hw
theorem aF(rl:Rel K B G σ env H)(hk:keep.length=σ.length):Rel K (fun b=>H b≠none) G (P0 keep 0 σ) (Ay keep env) H:=by
 have nm:∀(w:W) (es:Mu),w.mut=some es->w≠.nil:=fun w es h z=>by rw[z]at h;cases h
 have no:∀(i:Nat) (w:W) (ds:Mu),(Ay keep env)[i]? =some w->w.mut=some ds->False:=fun i w ds e1 e2=>by
  obtain⟨d,z,_⟩:=IF e1 (nm w ds e2);rw[z]at e2;cases e2
 refine⟨rl.sub,?_,fun i d e=>?_,fun i w ds e1 e2=>(no i w ds e1 e2).elim,fun i j w w' ds es a e1 e2=>(no i w ds e1 e2).elim,fun i w a e eo=>(let ⟨m,q⟩:=pG eo;no i _ m e q).elim,fun b h=>h,rl.tabs,rl.gnt⟩
 ·unfold Ay P0
  rw[Qt,Yd,Yd,Yx,rl.len];rfl
 ·obtain⟨d',z,k1,k2⟩:=IF e (by simp)
  cases z;obtain⟨v,e1,e2⟩:=rl.dat i d k2;exact⟨v,Dt k1 e1,e2⟩
theorem aG:¬ d6 σ (Ay keep env) a:=fun⟨i,w,ds,e1,e2,_⟩=>by
 have:w≠.nil:=fun z=>by rw[z]at e2;cases e2
 obtain⟨d,z,_⟩:=IF e1 this;rw[z]at e2;cases e2
def Y6(names:List Str)(keep:List Bool)(mb:Mo D)(xb:Mx)(fr:Option Str->Option D):Mo D:=fun env=>(outcome names mb xb (Ay keep env)).bind fun o=>(fr o).map fun d=>(d,env)
structure m7(K:Frag)(mg:OU)(base:Heap)(cd:Value)(qual:Str)(P:Addr):Prop where
 ex:∃c,cd=.ref c/\codeHdIn K c P=true/\codeIn K (.ref c) qual=true
 tq:sJ K P qual=true
 bm:Ax mg base
section
variable{S:Str}{fr:Option Str->Option D}{P:Addr}{mb:Mo D}{xb:Mx}{p lpos pos:Pos}{ps0:Array Value}
theorem NV(Rd:qD X.prog X.w X.K X.mg X.base x k (kc+1) fr)(hr:f9 k X.A)(hg:Gl X x)(T:m7 X.K X.mg X.base X.env.code qual P)(hq:X.env.qual=qual++".<locals>.")(hP:X.H₀ P=some (.tbl ps0))(hfn:∀y,X.fn y=true)(hx:Ab X.K S names=true)
  (ok:nE X N' scope keep 0)(hco:scope.isCoroutine=false)(hgen:scope.isGenerator=false)(hnc:∀x∈scope.names,x.2≠.cell)(hdef:defaultsOf params X.env=([],[]))
  (hbind:∀cl pm c' ctv,bindArgs (kla_fn "<lambda>" (oZ qual) params body scope cl pm (.ref c') ctv) ⟨[],[]⟩=pure [])
  (hb:∀(fl c':Addr) (cl:List (Str×Addr)) (H₁:Hp) (A:Around) (outer:List Env) (s:Shared) (E:XK),f9 kc (A.deeper (envX (oZ qual) scope s.heap.objs.size fl (.ref c') cl))->ED (BX X.prog X.w X.K X.mg X.base N' (oZ qual) scope fl (.ref c') cl A outer s H₁ E).nox (fun b=>H₁ b≠none) body mb)
  (hxb:∀(fl c':Addr) (cl:List (Str×Addr)) (H₁:Hp) (A:Around) (outer:List Env) (s:Shared) (E:XK),f9 kc (A.deeper (envX (oZ qual) scope s.heap.objs.size fl (.ref c') cl))->vG (BX X.prog X.w X.K X.mg X.base N' (oZ qual) scope fl (.ref c') cl A outer s H₁ E) (fun b=>H₁ b≠none) E body xb)
  (hdb:(x==("__debug__":Str))=false:=by decide)(he:starEach [.Lambda params body scope lpos] X.env=(false,eval (.Lambda params body scope lpos) X.env)::starEach [] X.env:=by rfl)(hpl:(backTo pos (starEach [] X.env)).any (·.1)=false:=by rfl):
  ED X B (.Call (.Name x p) [.Lambda params body scope lpos] [] pos) (Y6 names keep mb xb fr):=by
 intro pins s σ H Q I ⟨G,env,d,env',rl,em,k⟩;obtain⟨o,eo,e2⟩:=C6 em;obtain⟨d',ed,e3⟩:=F5 e2;cases e3;obtain⟨f,hm,hkp,tY⟩:=Rd.ex;obtain⟨more,hPs⟩:=I.base.tbls P ps0 hP;obtain⟨c,hcd,hc1,hc2⟩:=T.ex;refine Jr (Dc I hg hm ?_ hdb);refine callWith_K (h₀:=X.base) I.ok.mod.kin hkp ?_ he hpl;rw[he];show wpAny _ _ (spliced ((false,eval (.Lambda params body scope lpos) X.env)::backTo pos (starEach [] X.env))) _ _ s;refine Calls.spliced_cons (ZY I hcd hc1 hc2 T.tq hq T.bm hPs rl.tabs ok.clos hdef fun fl c' H1 s1 Md=>?_)
 refine Calls.spliced_nil ⟨Md.inv.kIn,?_⟩;have j9:=Md.ev B G env rl;have kl:keep.length=σ.length:=by rw[ok.klen,I.len]
 have stk:∀{b},b∈nR X.stack->b<s.heap.objs.size:=fun{b} hb=>by obtain⟨_,o,g,_⟩:=I.stack.mem hb;exact Qu g
 have L:tQ X.K params body scope N' (oZ qual) fl c' (O9 X.env.cells scope.names []) (P0 keep 0 σ) s1 H1 X.stack:=by
  have sub:∀{y c},(O9 X.env.cells scope.names []).lookup y=some c->X.env.cells.lookup y=some c:=fun{y c} z=>(BR z).elim (fun q=>by cases q) id
  refine⟨Md.obj,Md.free,fun z=>absurd (stk z) (Nat.not_lt.mpr Md.new),⟨_,Md.code,fun h p=>p qual T.tq⟩,fun y z c q1 q2=>I.ok.inj y z c (sub q1) (sub q2),fun y z=>Yy.mp (Bx (Zy z) (ok.free _ (Zy z) rfl)),fun y c q=>?_,fun i y v q1 q2 q3=>?_,?_⟩
  ·obtain⟨v,oc,g1,g2⟩:=I.cell y c (sub q)
   have g:=Md.keep c oc (I.freeC y c (sub q)) g1
   refine⟨⟨v,oc,g.1,g2⟩,g.2,fun z=>?_⟩
   rcases Ql.mp (I.stkSub c z)with z|z
   ·exact I.cne y c (sub q) z
   ·obtain⟨_,o2,g3,_⟩:=I.ok.funs.mem z
    exact absurd (Qu g3) (Nat.not_lt.mpr (I.ok.cab y c (hfn y) (sub q)))
  ·obtain⟨k1,k2⟩:=By q2
   obtain⟨h1,h2,h3⟩:=ok.kept i y k1 q1;have hfree:scope.names.lookup y=some .free:=by
    rcases q3 with z|z|z
    ·exact absurd z h2
    ·exact absurd z h3
    ·exact z
   obtain⟨m,hn,hl⟩:=I.loc;have ov:=ok.outVis i y k1 h1 hfree;obtain⟨u,r,l⟩:=hl i y v h1 k2 (.inr ov);obtain⟨c0,hc0⟩:=Yy.mp (Bx (acc:=[]) (Zy hfree) (ok.free _ (Zy hfree) rfl));refine⟨hfree,c0,u,hc0,r,?_⟩
   rcases l with⟨kl,_⟩|⟨_,c1,hc1,oc,g1,g2⟩
   ·have kl':X.env.scope.names.lookup y=some .local:=kl
    rcases ov with z|z<;>(rw[z]at kl';cases kl')
   ·have hc0':=sub hc0
    rw[hc1]at hc0';cases hc0';exact⟨oc,(Md.keep c0 oc (I.freeC y c0 (sub hc0)) g1).1,g2⟩
  ·unfold P0
   rw[Qt,Yd,Yx,ok.len,ok.klen,I.len];omega
 have clo:ID X.prog X.w X.K X.mg X.base (kc+1) fl s1 H1 X.stack o G:=
  ZT L ok.kind hco hgen hnc (fun pm ctv=>hbind _ pm c' ctv) (aF j9.rel kl) (fun a=>aG) hx eo (fun A outer s E hr=>(hb fl c' _ H1 A outer s E hr).nox) (fun A outer s E hr=>hxb fl c' _ H1 A outer s E hr)
 refine wpAny_call (Va (tY X.A X.stack s1 H1 fl o G Q hr Md.inv.qO clo (NS j9.rel) ⟨_,ed,fun v G' H' ev rp=>k v G' H' (j9.trans (Dy ev (fun a=>IC) j9.rel)) rp⟩) fun r s' hq=>?_)
 cases r with
 |error e=>exact False.elim hq
 |ok fw=>
  cases fw with
  |ret u=>exact Md.inv.after hq
  |next=>exact False.elim hq
  |brk=>exact False.elim hq
  |cont=>exact False.elim hq
end
def NW(ts:List Addr)(H:Hp):Prop:=∀P∈ts,∃ps,H P=some (.tbl ps)
def uL(K:Frag)(ts:List Addr)(n:Nat)(f:Fn):Sp:=fun vs H Q E=>NW ts H/\mY K n f vs H Q E
theorem aH{st:Stmt}{f:Addr}{mb:Mo Fl}{cdv0:Value}(F:k9 K x qual st f fd)(hcd0:fd.code=cdv0)(S:c8 N ps (E5 st))
  (hb:∀(A:Around) (outer:List Env) (s:Shared) (H:Hp) (E:XK),NW ts H->f9 k (A.deeper (envOfC qual (E5 st) s.heap.objs.size f cdv0))->
   sK (O0 j7 P w K mg base N qual (E5 st) f cdv0 A outer s H E).nox (fun b=>H b≠none) (X8 st) mb):d9 P w K mg base j7 (k+1) f fd ps (uL K ts ps.length (k6 N.length mb)):=by
 have hpl:ps.length≤N.length:=by have:=Ze List.length S.pre;rw[Jy]at this;omega
 obtain⟨oc,od,kV,doc,pm,an,cdv,ct,osl,rfl,lk,hcd⟩:=F.ex;obtain rfl:cdv=cdv0:=hcd0;refine HD lk hcd S (fun vs H Q E h=>?_) (fun A outer s H vs Q E hr h=>?_)
 ·obtain⟨_,G,ws,r,ws',hl,ok,rl,_⟩:=h
  have:=rl.len;rw[Qk]at this;omega
 ·obtain⟨tb,G,ws,r,ws',hl,ok,rl,e,k⟩:=h
  have hv:ws.length=vs.length:=by have:=rl.len;rwa [Qk]at this
  refine⟨_,(hb A outer s H E tb hr).nox,?_⟩;have rl':=HY (N:=N) rl ok (by omega)
  unfold k6 at e;split at e
  ·rename_i d env em
   cases e;refine⟨G,_,_,env,rl',em,?_⟩;exact fun v σ' G' H' ev rp=>k v G' H' (Bv rl ok (by omega) ev) rp
  ·rename_i ds env em
   cases e;refine⟨G,_,_,env,rl',em,?_⟩;intro a xs σ' G' H' ev nb no h' g' rp;refine k a xs G' H' (Bv rl ok (by omega) ev) (Uj nb) ?_ h' g' rp
   rintro⟨i,w',es,e1,e2,e3⟩;obtain⟨w1,w2,q1,q2,q3⟩:=FQ e1;subst q3;obtain⟨q4,q5,q6,q7⟩:=HZ (ok _ (Uz q1)) e2;have hi:i<vs.length:=by have:=(Qp.mp q1).1;omega
   exact no ⟨i,_,es,q2,q4,by rw[(ev.par i w2 q2 q5).1,AW hi];exact e3⟩
  ·rename_i env em
   cases e;refine⟨G,_,_,env,rl',em,?_⟩;exact fun σ' G' H' ev=>k .non G' H' (Bv rl ok (by omega) ev) (by simp only[c4])
  ·cases e
theorem aI{mb:OU}{fa:Addr}{fn:Fn}{vs:List Value}{ns:List Int}
  (KX:K.In s₁.heap)(hnt:noTabs K=true)(hts:∀p∈ts,s₁.heap.get? p=some (tabObj #[]))(hcs:∀p∈ts,∃c,codeHdIn K c p=true)(hns:s₁.heap.Ns mainGlobals mg)(hb:s₁.heap.Ns builtinsNs mb)(hbb:∀x:Str,x≠"__name__"->mb x=bootBuiltins x)(hlim:s₁.heap.NoLimit)(hbm:Ax mg s₁.heap)(hg:s₁.gens= #[])
  (ha:s₁.heap.get? a=some {cls:=.type "list",data:=.seq vs.toArray})(hi:IntsAre vs ns)(hl:ns.length≤sizeLine)(hr:f9 k callerA)
  (F:∀base:Heap,K.In base->base.Ns mainGlobals mg->Ax mg base->d9 P w K mg base j7 k fa fd [x] (uL K ts 1 fn))(hbind:∀(s:Shared) (u:Value),BindsTo s fd ⟨[u],[]⟩ [(x,u)])
  (ht:∃ws',fn [.dat (.lst (ns.map D.int))]=some (.d (.bl true),ws')):
  codeAny (model P w) callerA (.call (.ref fa) ⟨[.ref a],[]⟩) (fun r s'=>r=.ok (.ret (.bool true))/\OldK s₁.heap s'.heap/\s'.os=s₁.os/\AllBare s'.gens) s₁:=by
 have rv:=ML hi
 have lenV:=hi.length
 have nat:a∉ts:=fun z=>by have:=hts a z;rw[ha]at this;cases this
 have kno:∀{b:Addr}{o:Obj},K.lookup b=some o->b∉ts:=fun{b o} e z=>by
  have h2:=Qx.mp hnt (b,o) (mem_of_lookupK e)
  have h3:=KX b o e
  rw[hts b z]at h3;cases h3;cases h2
 have core:∀(H:Hp),(∀b,H b=none\/(b=a/\∃o xs,H b=some (.frz o (.lst xs)))\/(b∈ts/\H b=some (.tbl #[])))->(∀b∈ts,H b=some (.tbl #[]))->oD K H a (ns.map V.int)->oN P w H s₁.heap->(H a≠none->K.lookup a=none)->
   codeAny (model P w) callerA (.call (.ref fa) ⟨[.ref a],[]⟩) (fun r s'=>r=.ok (.ret (.bool true))/\OldK s₁.heap s'.heap/\s'.os=s₁.os/\AllBare s'.gens) s₁:=by
  intro H hO hT hS hok hK;have base_of:∀{b:Addr}{o:Obj},s₁.heap.get? b=some o->H b=none->(AO s₁.heap H).get? b=some o:=fun e n=>SZ e n
  have noA:∀{b:Addr}{o:Obj},s₁.heap.get? b=some o->o.cls≠.type "list"->o.cls≠.none->H b=none:=fun{b o} e d1 d2=>by
   rcases hO b with q|⟨q,_⟩|⟨q,_⟩
   ·exact q
   ·subst q;rw[ha]at e;cases e;exact absurd rfl d1
   ·rw[hts b q]at e;cases e;exact absurd rfl d2
  have noD:∀{b:Addr}{o:Obj}{es:Array DictEntry}{ep:Nat},s₁.heap.get? b=some o->o.data=.dict es ep->H b=none:=fun{b o es ep} e d=>by
   rcases hO b with q|⟨q,_⟩|⟨q,_⟩
   ·exact q
   ·subst q;rw[ha]at e;cases e;cases d
   ·rw[hts b q]at e;cases e;cases d
  have nsK:∀{b:Addr}{m:OU},s₁.heap.Ns b m->(AO s₁.heap H).Ns b m:=fun{b m} ⟨o,es,ep,e,d,r⟩=>⟨o,es,ep,base_of e (noD e d),d,r⟩
  have hKb:K.In (AO s₁.heap H):=fun b o e=>base_of (KX b o e) (by
   rcases hO b with q|⟨q,o',xs,z⟩|⟨q,_⟩
   ·exact q
   ·subst q;rw[hK (by rw[z];simp)]at e;cases e
   ·exact absurd q (kno e))
  have hM:Mod K mg (AO s₁.heap H):=⟨hKb,nsK hns,⟨mb,nsK hb,hbb⟩,let ⟨mc,h1,h2⟩:=hlim;⟨mc,nsK h1,h2⟩⟩
  have hBm:Ax mg (AO s₁.heap H):=by
   obtain⟨bm,o,b1,b2,b3,b4,b5,b6,b7⟩:=hbm;exact⟨bm,o,b1,b2,b3,base_of b4 (noA b4 (by rw[b5];simp) (by rw[b5];simp)),b5,b6,b7⟩
  have e0:qM P w K mg (AO s₁.heap H) callerA [] s₁ H:=⟨rfl,hM,fun b o e=>Sa e,Nat.le_of_eq (SY _ _),trivial,fun b hb=>absurd (show b∈([]:List Addr)from hb) (by simp),hok,.of_eq hg⟩
  have sp:uL K ts 1 fn [.ref a] H (fun v _=>v=.bl true) (fun _ _ _=>False):=by
   obtain⟨ws',e⟩:=ht;refine⟨fun p hp=>⟨#[],hT p hp⟩,fun b=>if b∈ts then none else H b,[.dat (.lst (ns.map D.int))],.d (.bl true),ws',rfl,fun v hv=>.inl ?_,⟨fun b o z=>?_,rfl,fun i d z=>?_,fun i v ds e1 e2=>?_,fun i j v v' ds es a e1 e2=>?_,fun i w a e1 e2=>?_,fun b h=>h.elim,fun p ps z=>?_,fun b o z ps y=>?_⟩,e,?_⟩
   ·simp at hv;exact⟨_,hv⟩
   ·split at z
    ·cases z
    ·exact z
   ·cases i with
    |zero=>
     simp at z
     subst z;refine⟨.ref a,rfl,?_⟩;simp only[c4];refine⟨a,_,rfl,?_,My ns⟩
     rcases hS with(q|⟨o,q⟩)|q
     ·exact .inl (.inl ((Qs nat).trans q))
     ·exact .inl (.inr ⟨o,(Qs nat).trans q⟩)
     ·exact .inr q
    |succ i=>simp at z
   ·cases i with
    |zero=>simp at e1;subst e1;cases e2
    |succ i=>simp at e1
   ·cases i with
    |zero=>simp at e1;subst e1;cases e2
    |succ i=>simp at e1
   ·cases i with
    |zero=>simp at e1;subst e1;cases e2
    |succ i=>simp at e1
   ·rcases hO p with q|⟨_,o,xs,q⟩|⟨_,q⟩
    ·rw[q]at z;cases z
    ·rw[q]at z;cases z
    ·rw[q]at z;cases z
     exact⟨trivial,fun pos v y=>by cases y⟩
   ·split at z
    ·cases z
    ·rename_i hb
     rcases hO b with q|⟨_,o',xs,q⟩|⟨q,_⟩
     ·rw[q]at z;cases z
     ·rw[q]at z;cases z;cases y
     ·exact hb q
   ·intro v G' H' _ rp
    simpa only[c4]using rp
  refine Va ((F _ hKb (nsK hns) hBm).run callerA [] s₁ H ⟨[.ref a],[]⟩ [.ref a] [.ref a] _ _ hr e0 (hbind s₁ (.ref a)) (.cons rfl .nil) sp) fun r s' h=>?_
  cases r with
  |error e=>exact False.elim h
  |ok fl=>
   cases fl with
   |next=>exact False.elim h
   |brk=>exact False.elim h
   |cont=>exact False.elim h
   |ret u=>
    obtain⟨v,H',os,bare,un,hok',r',q⟩:=h;have q':v=.bl true:=q;subst q';obtain rfl:u=Value.bool true:=r';refine⟨rfl,⟨fun b o e=>?_,fun b o e=>un.there b o e (by simp)⟩,os,bare⟩
    rcases hO b with q|⟨_,ob,xs,z⟩|⟨hb,z⟩
    ·exact .inl (un.keep b o e q (by intro z;exact absurd (show b∈([]:List Addr)from z) (by simp)) (by simp))
    ·have z2:=un.frzs b ob _ z
     obtain⟨e1,_⟩:=hok b _ z;obtain⟨e2,_⟩:=hok' b _ z2;rw[e]at e1;cases e1;exact .inl e2
    ·obtain⟨more,z2⟩:=un.tbls b #[] z
     have e2:s'.heap.get? b=some {cls:=.none,data:=.fields (#[]++more)}:=hok' b _ z2
     have e3:=hts b hb
     rw[e]at e3;cases e3;obtain⟨c,hc⟩:=hcs b hb;exact .inr (.inl ⟨((codeHd_of_K KX hc).tab (hts b hb)).isCodeTable,rfl,#[],more,rfl,e2⟩)
 cases hk:K.lookup a with
 |some o=>
  have e:=KX a o hk
  rw[ha]at e;cases e;refine core (fun b=>if b∈ts then some (.tbl #[])else none) (fun b=>?_) (fun b hb=>Qh hb) (.inr ⟨_,vs.toArray,_,hk,rfl,rfl,rfl,by rw[Qb,lenV];exact hl,by simpa using rv⟩) (fun b u z=>?_) fun z=>absurd (Qs nat) z
  ·by_cases hb:b∈ts
   ·exact .inr (.inr ⟨hb,Qh hb⟩)
   ·exact .inl (Qs hb)
  ·dsimp only at z
   split at z
   ·rename_i hb;cases z;exact hts b hb
   ·cases z
 |none=>
  refine core (fun b=>if b=a then some (.frz {cls:=.type "list",data:=.seq vs.toArray} (.lst (ns.map V.int)))else if b∈ts then some (.tbl #[])else none) (fun b=>?_) (fun b hb=>by
   have hne:b≠a:=fun z=>nat (by rw[←z];exact hb)
   show(if b=a then _ else if b∈ts then _ else _)=_
   rw[Qs hne,Qh hb]) (.inl (.inr ⟨{cls:=.type "list",data:=.seq vs.toArray},Qh rfl⟩)) (fun b u z=>?_) fun _=>hk
  ·by_cases hb:b=a
   ·exact .inr (.inl ⟨hb,_,_,Qh hb⟩)
   ·by_cases hb2:b∈ts
    ·exact .inr (.inr ⟨hb2,by rw[Qs hb,Qh hb2]⟩)
    ·exact .inl (by rw[Qs hb,Qs hb2])
  ·dsimp only at z
   split at z
   ·rename_i hb
    cases z;subst hb;exact⟨ha,by rw[Qk];exact hl,vs,_,rv,ha⟩
   ·split at z
    ·rename_i hb;cases z;exact hts b hb
    ·cases z
theorem aJ{l:OpenLaw}{q:Program}{loose:List Str}{XP:(OU)->Heap->Prop}{YP:World->Heap->Prop}{d:DefRec}{K:Params->Frag}{fn:Fn}
  (hn:l.most=some 63)(hdf:d.params.defaults=[])(hr:f9 k callerA)(hY:∀(w:World) (h:Heap),YP w h->(K w.params).In h/\∀p∈ts,h.get? p=some (tabObj #[]))
  (F:∀(w:World) (mg:OU) (fa:Addr) (h:Heap),(K w.params).In h->h.Ns mainGlobals mg->mg d.name=some (.ref fa)->
   ∃fd:FuncData,(∀(s:Shared) (u:Value),BindsTo s fd ⟨[u],[]⟩ [(x,u)])/\noTabs (K w.params)=true/\(∀p∈ts,∃c,codeHdIn (K w.params) c p=true)/\∀base:Heap,(K w.params).In base->base.Ns mainGlobals mg->Ax mg base->d9 l.prog w (K w.params) mg base j7 k fa fd [x] (uL (K w.params) ts 1 fn))
  (ht:∀ns:List Int,ns.length≤63->∃ws',fn [.dat (.lst (ns.map D.int))]=some (.d (.bl true),ws')):
  WalkO q loose XP YP l.row.toRowW d [] (fun f vs=>PySem.call f vs):=by
 refine Att.qP hn hdf fun w s₀ s₁ mg mb fa o pm cd doc a vs ns G Y ho hd hcd hmg hobj hints hlen hg=>?_
 obtain⟨KX,hT⟩:=hY w _ Y;obtain⟨fd,hb,hnt,hcs,hF⟩:=F w mg fa _ KX G.T.g hmg;have hbm:Ax mg s₁.heap:=by
  obtain⟨bm,ob,b1,b2,b3,b4,b5,b6⟩:=G.T.bmain;refine⟨bm,ob,b1,b2,fun z=>?_,b3,b4,b5,b6⟩
  obtain⟨o,es,ep,e,hd,_⟩:=G.T.g;rw[z,e]at b3;cases b3;rw[hd]at b6;cases b6
 exact aI KX hnt hT hcs G.T.g G.T.b G.T.builtins G.T.nolimit hbm hg hobj hints (Zr hlen (by decide)) hr hF hb (ht ns hlen)
theorem aK{S:Str}(h:Ab K S names=true)(hn:n∈names):BV K n=true:=let ⟨_,F⟩:=Cz h hn;F.one
def Fi(K:Frag)(cd:Value)(P:Addr):Bool:=match cd with
 |.ref c=>codeHdIn K c P
 |_=>false
theorem NX{P:Addr}(h:Fi K cd P=true):∃c,cd=.ref c/\codeHdIn K c P=true:=by
 unfold Fi at h;split at h
 ·exact⟨_,rfl,h⟩
 ·cases h
theorem aL{P:Addr}(h1:Fi K cd P=true)(h2:codeIn K cd qual=true)(h3:sJ K P qual=true)(hb:Ax mg base):m7 K mg base cd qual P:=by
 obtain⟨c,rfl,hc⟩:=NX h1;exact⟨⟨c,rfl,hc,h2⟩,h3,hb⟩
end L2.Mir
namespace L2.Mir
open PySem PySem.Spec PyProof.Rows PySem.W
variable{A:Around}{B:OA}{C:Addr->List Key->Prop}{E Q:OE}{G H:Hp}{J:It}{K:Qz}{N':List Str}{P prog:Program}{X:Cx}{a mi ms:Mo (List D)}{acc it:Value}{b:Addr}{d i more n x1 x2:Nat}{e elt iter target tg:Expr}{env:b0}{es ifs:List Expr}{fp:List Addr}{gens gs:List Comprehension}{j:Int}{k:List Key}{keep:List Bool}{m ma:Mo D}{p p1 p2 py spos:Pos}{pins:OX}{s:Shared}{scope:Scope}{v:V}{w:World}{wi:TI}{x y:Str}{σ:St}
def qE:List D->Option (List Bool)
 |[]=>some []
 |.bl i::r=>(qE r).map fun l=>i::l
 |_::_=>none
theorem NY{K:Qz}{G:Hp}:∀{ds:List D}{xs:List V}{ns:List Bool},C4 K G xs ds->qE ds=some ns->xs=ns.map V.bl
 |[],_,ns,r,e=>by simp only[C4]at r;subst r;cases e;rfl
 |d::ds,_,ns,r,e=>by
  simp only[C4]at r;obtain⟨x,t,rfl,q,r⟩:=r;cases d<;>first|(exact absurd (show(none:Option (List Bool))=some ns from e) (by simp))|skip
  obtain⟨l,e1,e2⟩:=F5 (show(qE ds).map _=some ns from e)
  subst e2;simp only[c4]at q;subst q;rw[NY r e1];rfl
def IG:D->D->Option D
 |.lst ds,.bl b=>(qE ds).bind fun bs=>(bs.findIdx? fun y=>y==b).map fun(j:Nat)=>D.int (j:Int)
 |_,_=>none
section
variable{pos:Pos}{o:Expr}{mb:Mo D}
theorem aM(ns:List Bool):(ns.map V.bl).all X7=true:=by
 induction ns with
 |nil=>rfl
 |cons n ns ih=>simp[X7,ih]
def aN(K:Frag):V->List V->Hp->VK->Prop:=fun x vs H Q=>∃(p:Addr) (bs:List Bool) (b:Bool) (j:Nat),x=.ref p/\vs=[.bl b]/\oD K H p (bs.map V.bl)/\(bs.findIdx? fun y=>y==b)=some j/\Q (.int j) H
theorem aO:xU X "list.index" (aN X.K):=by
 intro pins s σ H x vs v us Q I rx rv h;obtain⟨p,bs,b,j,rfl,rfl,hq,hj,q⟩:=h;cases rx;obtain⟨u,rfl,ru⟩:=rv.one;have ru':=ru;cases ru;obtain⟨its,r,pl,hz⟩:=I.list hq;obtain⟨⟨oc,od,odt,osl⟩,n,e,hc,hd,hdt⟩:=pl;dsimp only at hc hd hdt;subst hc hd hdt;obtain⟨hjl,hj1,hj2⟩:=List.findIdx?_eq_some_iff_getElem.mp hj;have hlen:its.length=bs.length:=by have:=r.length;simpa using this.symm
 have item:∀(m:Nat) (hm:m<its.length),its[m]=.bool (bs[m]'(by omega)):=fun m hm=>by
  obtain⟨u,h1,h2⟩:=r.get (i:=m) (x:=.bl (bs[m]'(by omega))) (by simp[show m<bs.length by omega])
  rw[Zk hm]at h1;cases h1;exact h2
 refine Xo PySem.F.slot_list_index ⟨_,e,rfl⟩ PySem.F.entry_list_index (PySem.F.args_list_index_2 _ _)
  (SeqAt.list_indexAt p its.toArray n none osl (.bool b) (qW (.bl b)) j (by simpa using (by omega:j<its.length)) ?_ ?_ ?_) ⟨?_,fun w hw=>Cf (x:=.bl b) ru' rfl r (aM bs) w (by simpa using hw),⟨.int j,H,I.tok _,⟨_,rfl⟩,q⟩⟩
 ·have:its.length≤sizeLine:=by rw[hlen];simpa using hz
  rw[sizeLine_eq]at this
  omega
 ·rw[List.getElem_toArray,item j (by omega)]
  show(bs[j]==b)=true;exact hj1
 ·intro m hm hlt
  rw[List.getElem_toArray,item m (by simpa using hm)]
  show(bs[m]==b)=false;exact Bool.eq_false_iff.mpr (hj2 m hlt)
 ·exact e
theorem NZ{apos cpos:Pos}(ho:ED X B o ma)(he:ED X B e mb)
  (hbase:attributeBase o "index" X.env (eval o X.env)=eval o X.env:=by rfl)
  (hfew:((backTo cpos (starEach [e] X.env)).all (fun x=>!x.1)&&(backToKw cpos (keywordEach [] X.env)).all (fun x=>x.1.isSome)
   &&decide ([e].length+([]:List Keyword).length+(if([]:List Keyword).isEmpty then 0 else 1)<30))=true:=by rfl)
  (hline:(apos.endLine==cpos.line)=true:=by rfl)(hs:starEach [e] X.env=(false,eval e X.env)::starEach [] X.env:=by rfl)(hplain:(backTo cpos (starEach [] X.env)).any (·.1)=false:=by rfl):
  ED X B (.Call (.Attribute o "index" apos) [e] [] cpos) (B5 IG ma mb):=by
 refine d7 (MH PySem.F.plainAttrs_list PySem.F.slot_list_index PySem.F.type_list_index aO ho (R5 he Aj hs) hbase hfew hline hs hplain) ?_
 rintro σ H Q ⟨G,env,d,env',rl,e,k⟩;obtain⟨⟨d1,a9⟩,e1,e2⟩:=C6 e;obtain⟨⟨d2,g0⟩,e3,e4⟩:=C6 e2;obtain⟨d3,e5,e6⟩:=F5 e4;cases e6;dsimp only at e3 e5;unfold IG at e5;split at e5
 ·rename_i ds b
  obtain⟨bs,e7,e8⟩:=C6 e5;obtain⟨j,e9,e10⟩:=F5 e8;cases e10;refine .bind rl e1 fun v G1 H1 j9 r1=>?_
  simp only[c4]at r1;obtain⟨a,xs,rfl,hq,rp⟩:=r1;refine⟨.inl ⟨rfl,xs,j9.rel.sub.sqL hq⟩,.bind j9.rel e3 fun v2 G2 H2 f6 r2=>?_⟩
  simp only[c4]at r2;subst r2;have hb:=NY rp e7;subst hb;exact⟨a,bs,b,j,rfl,rfl,(f6.same.trans f6.rel.sub).sqL hq,e9,k _ G2 H2 (j9.trans f6) (by simp only[c4])⟩
 ·cases e5
end
open AutoSeq1 (wpAny_loadPart')
section
variable{pos:Pos}{a b c:Expr}
end
section
variable{pos:Pos}
end
def Y7(elt:Expr)(gens:List Comprehension)(scope:Scope)(pos:Pos)(d:Nat)(acc:Value)(env:Env):Sem Unit:=match gens[d+1]? with
 |some g'=>do
  let x←eval g'.iter env
  standAt g'.iter.pos
  let x←if g'.is_async !=0 then foldedIterable g'.iter x else foldedSetIterable g'.iter env x
  let _←runOwn (.compStart (.ListComp elt gens scope pos) (d+1) (←holding [x] (if g'.is_async !=0 then asyncIter x else pyIter x)) acc env) env
 |none=>do let _←call (.builtin "list.append") [acc,←eval elt env]
theorem aP{pos:Pos}{env:Env}(hd:gens[d]? =some ⟨target,iter,ifs,0⟩):
  compTurn (.ListComp elt gens scope pos) d it acc env=(do
   standAt iter.pos
   match←pyNext it with
   |none=>pure (.done .next)
   |some v=>
    letOwnedTupleGo target it v
    assign target env v
    let mut ok:=true
    for c in ifs do
     if ok then ok←isTrue c env (eval c env)
    if ok then
     Y7 elt gens scope pos d acc env
    again (.compLoop (.ListComp elt gens scope pos) d it acc env)):=by
 unfold compTurn Y7;dsimp only;rw[hd];cases gens[d+1]? with
 |none=>rfl
 |some g'=>
  show(standAt iter.pos>>=fun _=>pyNext it>>=fun r=>_)=_
  refine Ze (standAt iter.pos>>= ·) (funext fun _=>Ze (pyNext it>>= ·) (funext fun r=>?_))
  cases r with
  |none=>rfl
  |some v=>
   refine Ze (letOwnedTupleGo target it v>>= ·) (funext fun _=>Ze (assign target env v>>= ·) (funext fun _=>Ze (_>>= ·) (funext fun ok=>?_)))
   cases ok with
   |false=>rfl
   |true=>
    by_cases ha:(g'.is_async !=0)=true
    ·simp only[ha,Zn,bind_assoc,pure_bind]
    ·simp only[ha,Zn,Yu,bind_assoc,pure_bind,Zx]
section
variable{R:Result->Shared->Prop}
theorem Na{pos:Pos}{env:Env}(hd:gens[d]? =some ⟨target,iter,ifs,0⟩)(I:Nat->Shared->Prop)
  (turn:∀n s,I n s->wpAny (model prog w) A (pyNext it) (fun r s₁=>match r with
   |none=>R (.ok .next) s₁
   |some v=>wpAny (model prog w) A (letOwnedTupleGo target it v) (fun _ s₁'=>wpAny (model prog w) A (assign target env v) (fun _ s₂=>
     wpAny (model prog w) A (forIn ifs true fun c r=>if r=true then do let ok←isTrue c env (eval c env);pure (ForInStep.yield ok)else pure (ForInStep.yield r)) (fun ok s₃=>
      if ok=true then wpAny (model prog w) A (Y7 elt gens scope pos d acc env) (fun _ s₅=>∃m,m<n/\I m s₅) (fun _ _=>False) s₃
      else∃m,m<n/\I m s₃) (fun _ _=>False) s₂) (fun _ _=>False) s₁') (fun _ _=>False) s₁) (fun _ _=>False) s)
  (n:Nat)(h:I n s):
  codeAny (model prog w) A (.compLoop (.ListComp elt gens scope pos) d it acc env) R s:=by
 refine codeAny_loop rfl I (fun n s hI=>?_) n h
 show wpAny _ A ((compTurn (.ListComp elt gens scope pos) d it acc env).onRaise (fun x=>do noteFrame x env;theTreesLotGoes x)) _ _ s
 refine wpAny_noted ?_
 rw[aP hd];refine Qq (Uy (Qq (Qe (turn n s hI) (fun r s₁ h₁=>?_) fun _ _ h'=>h'.elim)))
 cases r with
 |none=>exact Qy h₁
 |some v=>
  refine Qq (Qe h₁ (fun _ s₁' h₁'=>?_) fun _ _ h'=>h'.elim)
  refine Qq (Qe h₁' (fun _ s₂ h₂=>Qq (Qe h₂ (fun ok s₃ h₃=>?_) fun _ _ h'=>h'.elim)) fun _ _ h'=>h'.elim)
  cases ok with
  |false=>exact Qy ⟨rfl,h₃⟩
  |true=>exact Qq (Qe h₃ (fun _ s₅ h₅=>Qy ⟨rfl,h₅⟩) fun _ _ h'=>h'.elim)
theorem aQ{pos:Pos}{env:Env}(hd:gens[d]? =some ⟨target,iter,ifs,0⟩)
  (h0:codeAny (model prog w) A (.compLoop (.ListComp elt gens scope pos) d it acc env) R s)
  (h:wpAny (model prog w) A (pyIter it) (fun it' s'=>codeAny (model prog w) A (.compLoop (.ListComp elt gens scope pos) d it' acc env) R s')
   (notedBy (model prog w) A env fun x s'=>R (.error x) s') s):
  codeAny (model prog w) A (.compStart (.ListComp elt gens scope pos) d it acc env) R s:=by
 refine codeAny_of_tree ?_
 show wpAny _ _ ((compStart (.ListComp elt gens scope pos) d it acc env).onRaise (fun x=>do noteFrame x env;standAt theWindowsPlace)) _ _ s
 refine wpAny_notedAt ?_
 unfold compStart;rw[show clausesOf (.ListComp elt gens scope pos)=gens from rfl,hd]
 show wpAny _ _ (ask>>=_) _ _ s;refine Qq (wpAny_askSetting (wpAny_ite ?_));split
 ·first
   |exact Qq (Qy (Qy (And.intro rfl h0)))
   |exact Qy (And.intro rfl h0)
 ·first
   |exact Qq (Uq (Qq (Uy (Qq (Qe h (fun it' s' h'=>Qy (And.intro rfl h')) fun _ _ x=>x)))))
   |(refine Qq (Uq ?_);show wpAny _ _ (standAt iter.pos>>=_) _ _ s;exact Qq (Uy (Qq (Qe h (fun it' s' h'=>Qy (And.intro rfl h')) fun _ _ x=>x))))
end
abbrev AG:=St->Hp->(St->Hp->Prop)->Prop
def Fj(J:It)(g:TG)(tt:TT)(act:AG)(σ₀:St)(H₀:Hp)(Q:St->Hp->Prop):Prop:=
 ∃W:Nat->Nat->St->Hp->Prop,(∃m,W 0 m σ₀ H₀)/\∀i m σ H,W i m σ H->
  (J.stop i H/\Q σ H)\/(J.go i H/\∀x H',J.yld i H x H'->g x σ H' fun σ2 H2=>tt σ2 H2 fun b H3=>
   if b=true then act σ2 H3 fun σ4 H4=>∃m',m'<m/\W (i+1) m' σ4 H4 else∃m',m'<m/\W (i+1) m' σ2 H3)
def Az(X:Cx)(sem:Sem Unit)(act:AG):Prop:=∀(pins:OX) (s:Shared) (σ:St) (H:Hp) (Q:St->Hp->Prop),Inv X pins σ H s->act σ H Q->
 wpAny (model X.prog X.w) X.A sem (fun _ s'=>∃σ' H',Inv X pins σ' H' s'/\Q σ' H') (fun _ _=>False) s
def Nb(te:TE)(p:Addr):AG:=fun σ H Q=>te σ H fun y H4=>∃ys,H4 p=some (.lst ys)/\ys.length<sizeLine/\Q σ (upd H4 p (.lst (ys++[y])))
def Nc(wi:TI)(g:TG)(tt:TT)(act:AG):AG:=fun σ H Q=>wi σ H fun J H1=>Fj J g tt act σ H1 Q
section
variable{pos:Pos}
theorem aR{te:TE}{p:Addr}(hx:∀e s,¬ X.xe e s)(hn:gens[d+1]? =none)(he:PE X elt te):Az X (Y7 elt gens scope pos d (.ref p) X.env) (Nb te p):=by
 intro pins s σ H Q I h;unfold Y7;rw[hn];refine Qq (Qe (he pins s σ H _ I h) (fun v s1 ⟨y,H1,I1,r1,ys,hys,hl,q⟩=>?_) fun e s' z=>(hx e s' z).elim)
 refine Qq (Qe (MJ (X:=X) _ s1 σ H1 (.ref p) [y] (.ref p) [v] (fun _ H2=>Q σ H2) I1 rfl (.cons r1 .nil) ⟨p,ys,y,rfl,rfl,hys,hl,q⟩) (fun _ s2 ⟨_,H2,I2,_,w2⟩=>Qy ⟨σ,H2,I2,w2⟩) fun e s' z=>(hx e s' z).elim)
theorem aS{g:TG}{tt:TT}{act:AG}(hx:∀e s,¬ X.xe e s)(hc:X.calm=true)(hd:gens[d+1]? =some ⟨tg,iter,ifs,0⟩)(hi:PI X tg iter wi)(hg:PG X tg g)(ht:V4 X ifs tt)
  (ha:Az X (Y7 elt gens scope pos (d+1) acc X.env) act)(hs:∀x,foldedSetIterable iter X.env x=pure x):Az X (Y7 elt gens scope pos d acc X.env) (Nc wi g tt act):=by
 intro pins s σ H Q I h;unfold Y7;rw[hd];have nof:∀(e:Value) (s:Shared),X.xe e s->False:=fun e s z=>hx e s z
 refine Qq (Qe (hi pins s σ H _ I h) (fun v s1 h1=>?_) fun e s' z=>(hx e s' z).elim)
 refine Qq (Uy ?_);show wpAny _ _ (foldedSetIterable iter X.env v>>=_) _ _ s1;refine Qq (wpAny_of_eq (hs v) ?_);show wpAny _ _ (holding [v] (pyIter v)>>=_) _ _ s1;refine Qq (Jb (Qe h1 (fun itv s2 h2=>?_) fun e s' z=>(hx e s' z).elim))
 obtain⟨it,fp,tn,J,H2,e,I2,T,st2,f2,W,⟨m0,w0⟩,turn⟩:=h2;subst e;have stat:∀{H':Hp},(∀b∈fp,H' b=none)->∀b∈fp,T3 X pins H' b:=fun hn b hb=>⟨hn b hb,(f2 b hb).2⟩
 have loop:codeAny (model X.prog X.w) X.A (.compLoop (.ListComp elt gens scope pos) (d+1) (.ref it) acc X.env) (fun r s'=>match r with|.ok f=>wpAny (model X.prog X.w) X.A (pure ()) (fun _ s'=>∃σ' H',Inv X pins σ' H' s'/\Q σ' H') (fun _ _=>False) s'|.error e=>cameBackBy (model X.prog X.w) X.A X.env (fun _ _=>False) e s') s2:=by
  refine Na hd (fun n s'=>∃i σ' H',Inv X pins σ' H' s'/\tn i s'.heap/\(∀b∈fp,H' b=none)/\W i n σ' H') ?_ m0 ⟨0,σ,H2,I2,st2,fun b hb=>(f2 b hb).1,w0⟩
  rintro n s3 ⟨i,σ3,H3,I3,st3,fr3,w3⟩
  rcases turn i n σ3 H3 w3 with⟨stop,qn⟩|⟨go,step⟩
  ·refine Qe (T.done X rfl rfl rfl hc i pins s3 σ3 H3 (fun _ _=>False) I3 (stat fr3) st3 stop) (fun r s4 ⟨hr,I4⟩=>?_) fun _ _ z=>z
   subst hr;exact Qy ⟨σ3,H3,I4,qn⟩
  ·refine Qe (T.item X rfl rfl rfl hc i pins s3 σ3 H3 (fun _ _=>False) I3 (stat fr3) st3 go) (fun r s4 ⟨u,hr,h4⟩=>?_) fun _ _ z=>z
   subst hr;refine Qe h4 (fun _ s5 ⟨x,H5,I5,r5,y5,st5,fr5⟩=>?_) fun _ _ z=>z
   have I5':=I5.pinned (stat fr5) (T.obj _ _ st5)
   have back:∀{σ8:St}{H8:Hp}{s8:Shared}{m':Nat},Inv X (pins++Cb fp s5.heap) σ8 H8 s8->m'<n->W (i+1) m' σ8 H8->∃m,m<n/\∃i σ' H',Inv X pins σ' H' s8/\tn i s8.heap/\(∀b∈fp,H' b=none)/\W i m σ' H':=fun{σ8 H8 s8 m'} I8 hm w8=>by
    refine⟨m',hm,i+1,σ8,H8,I8.unpinned,T.keep _ _ _ st5 fun b hb o e=>(I8.pin (b,o) (Zp _ (Zp _ (Cc hb e)))).1,fun b hb=>?_,w8⟩
    obtain⟨o,e,d⟩:=T.obj _ _ st5 b hb;exact(I8.pin (b,o) (Zp _ (Zp _ (Cc hb e)))).2.1
   refine Qe (hg _ s5 σ3 H5 x u _ I5' r5 (step x H5 y5)) (fun _ s6 ⟨σ6,H6,I6,q6⟩=>?_) nof
   refine Qe (ht _ s6 σ6 H6 _ I6 q6) (fun b s7 ⟨H7,I7,q7⟩=>?_) nof
   cases b with
   |false=>
    simp only[Zx,Yu]at q7 ⊢;obtain⟨m',hm,w7⟩:=q7;exact back I7 hm w7
   |true=>
    simp only[Zn]at q7 ⊢;exact Qe (ha _ s7 σ6 H7 _ I7 q7) (fun _ s8 ⟨σ8,H8,I8,m',hm,w8⟩=>back I8 hm w8) fun _ _ z=>z
 refine Qq (wpAny_runOwn (h:=none) (aQ hd loop (Qe (T.self X.A 0 s2 _ (fun _ _=>False) st2 loop) (fun _ _ q=>q) fun _ _ q=>q.elim)))
end
section
variable{g:TG}{tt:TT}{act:Addr->AG}{pos:Pos}
theorem Nd{it:Addr}{tn:Nat->Heap->Prop}{Qf:Addr->Hp->Prop}{RR:Value->Addr->Result->Shared->Prop}
  (ok:nE X N' scope keep more)(hc:X.calm=true)(hg:∀s H fp,PG (J2 X N' scope s H fp) tg g)(ht:∀s H fp,V4 (J2 X N' scope s H fp) ifs tt)(he:∀s H fp p,Az (J2 X N' scope s H fp) (Y7 elt (⟨tg,iter,ifs,0⟩::gs) scope pos 0 (.ref p) (J2 X N' scope s H fp).env) (act p))
  (I:Inv X pins σ H s)(T:Turn X.prog X.w X.K tg J fp it tn)(st:tn 0 s.heap)(hf:∀b∈fp,T3 X pins H b)
  (run:∀p,H p=none->Fj J g tt (act p) (P0 keep more σ) (upd H p (.lst [])) (fun _ H'=>Qf p H'))
  (hRR:∀p C s' H' m,Inv X pins σ H' s'->Qf p H'->s'.heap.Ns C m->C≠X.env.locals->(∀x c,X.env.cells.lookup x=some c->c≠C)->H' C=none->(∀σ'' H'' s'' h',Inv X pins σ'' H'' s''->H'' C=none->Heap.SameBut C s''.heap h'->Inv X pins σ'' H'' {s'' with heap:=h'})->RR (.ref p) C (.ok .next) s'):
  wpAny (model X.prog X.w) X.A (newList []) (fun acc s₃=>wpAny (model X.prog X.w) X.A (newFunctionEnv scope X.env.globals (O9 X.env.cells scope.names []) [] X.env.qual none .none (some X.env)) (fun cenv s₄=>
   codeAny (model X.prog X.w) X.A (.compStart (.ListComp elt (⟨tg,iter,ifs,0⟩::gs) scope pos) 0 (.ref it) acc {cenv with scope:=relabel scope X.env}) (RR acc cenv.locals) s₄) E s₃) E s:=by
 have hp0:H s.heap.objs.size=none:=I.hok.fresh (Qm _)
 refine Zt ?_
 have I3:Inv X pins σ (upd H s.heap.objs.size (.lst [])) {s with heap:=s.heap.push {cls:=.type "list",dict:=none,data:=.seq ([]:List Value).toArray}}:=
  I.laid (t':=s.toks) (fun b u e=>Qv _ e) (Qm _) ⟨Ux _,[],0,.nil,Qn _ rfl⟩
 have fpOld:∀b∈fp,b<s.heap.objs.size:=fun b hb=>by
  obtain⟨o,e,_⟩:=T.obj 0 _ st b hb;exact Qu e
 have hf3:∀b∈fp,T3 X pins (upd H s.heap.objs.size (.lst [])) b/\b<(s.heap.push {cls:=.type "list",dict:=none,data:=.seq ([]:List Value).toArray}).objs.size:=fun b hb=>by
  refine⟨⟨by rw[D7 (Qi (fpOld b hb))];exact(hf b hb).1,(hf b hb).2⟩,?_⟩
  rw[Yp];exact Ua (fpOld b hb)
 have st3:tn 0 (s.heap.push {cls:=.type "list",dict:=none,data:=.seq ([]:List Value).toArray}):=T.keep 0 _ _ st fun b hb o e=>Qv _ e
 generalize hs3:({s with heap:=s.heap.push {cls:=.type "list",dict:=none,data:=.seq ([]:List Value).toArray}}:Shared)=s3 at I3 ⊢
 have hs3h:s3.heap=s.heap.push {cls:=.type "list",dict:=none,data:=.seq ([]:List Value).toArray}:=by rw[←hs3]
 rw[←hs3h]at hf3 st3;generalize hp:s.heap.objs.size=p at hp0 I3 hf3 ⊢;generalize hH3:upd H p (.lst [])=H3 at I3 hf3;refine WV _ ?_
 have I4:=WU ok I3 hf3
 generalize hs4:({s3 with heap:=pushCells (s3.heap.push {cls:=.type "dict",data:=.dict #[]}) scope.names}:Shared)=s4 at I4 ⊢
 have st4:tn 0 s4.heap:=T.keep 0 _ _ st3 fun b hb o e=>by rw[←hs4];exact Xj _ _ _ _ (Qv _ e)
 obtain⟨W,⟨m0,w0⟩,turn⟩:=run p hp0;have stat:∀{H':Hp},(∀b∈fp,H' b=none)->∀b∈fp,T3 (J2 X N' scope s3 H3 fp) [] H' b:=fun hn b hb=>by
  have z:=I4.ok.exf b hb
  exact⟨hn b hb,z.1,I4.ok.exfs b hb,.inl hb,z.2,fun p hp=>absurd (show p∈([]:OX)from hp) (by simp)⟩
 have loop:codeAny (model X.prog X.w) X.A (.compLoop (.ListComp elt (⟨tg,iter,ifs,0⟩::gs) scope pos) 0 (.ref it) (.ref p) (Cp scope X.env s3.heap.objs.size)) (RR (.ref p) s3.heap.objs.size) s4:=by
  refine Na (d:=0) rfl (fun n s'=>∃i σ' H',Inv (J2 X N' scope s3 H3 fp) [] σ' H' s'/\tn i s'.heap/\(∀b∈fp,H' b=none)/\W i n σ' H') ?_ m0 ⟨0,_,H3,I4,st4,fun b hb=>(hf3 b hb).1.1,by rw[←hH3];exact w0⟩
  rintro n s5 ⟨i,σ5,H5,I5,st5,fr5,w5⟩
  rcases turn i n σ5 H5 w5 with⟨stop,qf⟩|⟨go,step⟩
  ·refine g6 (T.done (J2 X N' scope s3 H3 fp) rfl rfl rfl hc i [] s5 σ5 H5 (fun _ _=>False) I5 (stat fr5) st5 stop) fun r s6 ⟨hr,I6⟩=>?_
   subst hr;obtain⟨m6,hn6,_⟩:=I6.loc;have hch:∀b∈fp,(b∈X.ex\/X.s₀.heap.objs.size≤b)/\b≠X.env.locals/\(∀x c,X.env.cells.lookup x=some c->c≠b)/\∀p∈X.pn++pins,p.1≠b:=fun b hb=>by
    obtain⟨_,f1,_,f3,f4,f5⟩:=hf b hb;exact⟨f3,f1,f4,f5⟩
   have IX:Inv X pins σ H5 s6:=I3.call' (s':=s6) (I6.os) (I6.base) I6.hok I6.bare hch
   have szC:X.s₀.heap.objs.size≤s3.heap.objs.size:=I3.sz
   have hCL:s3.heap.objs.size≠X.env.locals:=Tq I3.lt
   have hCc:∀x c,X.env.cells.lookup x=some c->c≠s3.heap.objs.size:=fun x c e=>by
    obtain⟨v,q⟩:=I3.cell x c e;exact Qi q.lt
   have hCp:∀q∈X.pn++pins,q.1≠s3.heap.objs.size:=fun q hq=>Qi (Qu (I3.pin q hq).1)
   refine hRR p s3.heap.objs.size s6 H5 m6 IX qf hn6 hCL hCc I6.free fun σ'' H'' s'' h' I'' hn hs=>?_
   exact I''.turned (t':=s''.toks) (it:=s3.heap.objs.size) (fun b o hb e=>(hs.2 b hb).trans e) hn hCL (.inr szC) hCc hCp
  ·refine g6 (T.item (J2 X N' scope s3 H3 fp) rfl rfl rfl hc i [] s5 σ5 H5 (fun _ _=>False) I5 (stat fr5) st5 go) fun r s6 ⟨u,hr,h6⟩=>?_
   subst hr;refine g6 h6 fun _ s7 ⟨x,H7,I7,r7,y7,st7,fr7⟩=>?_
   have I7':=I7.pinned (stat fr7) (T.obj _ _ st7)
   have back:∀{σ8:St}{H8:Hp}{s8:Shared}{m':Nat},Inv (J2 X N' scope s3 H3 fp) ([]++Cb fp s7.heap) σ8 H8 s8->m'<n->W (i+1) m' σ8 H8->∃m,m<n/\∃i σ' H',Inv (J2 X N' scope s3 H3 fp) [] σ' H' s8/\tn i s8.heap/\(∀b∈fp,H' b=none)/\W i m σ' H':=fun{σ8 H8 s8 m'} I8 hm w8=>by
    refine⟨m',hm,i+1,σ8,H8,I8.unpinned,T.keep _ _ _ st7 fun b hb o e=>(I8.pin (b,o) (Zp _ (Zp _ (Cc hb e)))).1,fun b hb=>?_,w8⟩
    obtain⟨o,e,d⟩:=T.obj _ _ st7 b hb;exact(I8.pin (b,o) (Zp _ (Zp _ (Cc hb e)))).2.1
   refine g6 (hg s3 H3 fp _ s7 σ5 H7 x u _ I7' r7 (step x H7 y7)) fun _ s8 ⟨σ8,H8,I8,q8⟩=>?_
   refine g6 (ht s3 H3 fp _ s8 σ8 H8 _ I8 q8) fun b s9 ⟨H9,I9,q9⟩=>?_
   cases b with
   |false=>
    simp only[Zx,Yu]at q9 ⊢;obtain⟨m',hm,w9⟩:=q9;exact back I9 hm w9
   |true=>
    simp only[Zn]at q9 ⊢;exact g6 (he s3 H3 fp p _ s9 σ8 H9 _ I9 q9) fun _ s10 ⟨σ10,H10,I10,m',hm,w10⟩=>back I10 hm w10
 refine codeAny_compStart_list loop ?_
 exact Qe (T.self X.A 0 s4 _ (fun _ _=>False) st4 loop) (fun _ _ q=>q) fun _ _ q=>q.elim
def IH(wi:TI)(keep:List Bool)(more:Nat)(g:TG)(tt:TT)(act:Addr->AG):TE:=fun σ H Q=>wi σ H fun J H1=>∀p,H1 p=none->Fj J g tt (act p) (P0 keep more σ) (upd H1 p (.lst [])) (fun _ H'=>Q (.ref p) H')
theorem aT(ok:nE X N' scope keep more)(hc:X.calm=true)(hi:PI X tg iter wi)(hg:∀s H fp,PG (J2 X N' scope s H fp) tg g)(ht:∀s H fp,V4 (J2 X N' scope s H fp) ifs tt)
  (he:∀s H fp p,Az (J2 X N' scope s H fp) (Y7 elt (⟨tg,iter,ifs,0⟩::gs) scope pos 0 (.ref p) (J2 X N' scope s H fp).env) (act p))
  (hs:∀x,foldedSetIterable iter X.env x=pure x:=by intro _;rfl):PE X (.ListComp elt (⟨tg,iter,ifs,0⟩::gs) scope pos) (IH wi keep more g tt act):=by
 intro pins s σ H Q I h;rw[eval_ListComp];refine wpAny_comprehension_free (use:=none) rfl hs ok.clos ok.kind (fun x hx hl=>by have:=ok.uniq x hx;rwa [hl]at this) (g6 (hi pins s σ H _ I h) fun v s1 h1=>g6 h1 fun itv s2 h2=>?_)
 obtain⟨it,fp,tn,J,H2,e,I2,T,st2,f2,run⟩:=h2;subst e;refine Nd (Qf:=fun p H'=>Q (.ref p) H') (RR:=fun acc C=>compPost (model X.prog X.w) X.A X.xe none (EP X pins σ Q) acc C) ok hc hg ht he I2 T st2 f2 run ?_
 intro p C s' H' m IX qf hn hCL hCc hCn turn;exact⟨m,hn,fun h' hs'=>⟨.ref p,H',turn σ H' s' h' IX hCn hs',rfl,qf⟩⟩
end
def X1(m:Mo D):Mo (List D):=fun env=>(m env).map fun q=>([q.1],q.2)
def AH(g:OZ)(t:Mo Bool)(a:Mo (List D)):List D->Mo (List D)
 |[],env=>some ([],env)
 |d::ds,env=>(g d env).bind fun e1=>(t e1).bind fun p=>if p.1 then(a p.2).bind fun q=>(AH g t a ds q.2).map fun r=>(q.1++r.1,r.2)else AH g t a ds p.2
def wZ(mi:Mo (List D))(g:OZ)(t:Mo Bool)(a:Mo (List D)):Mo (List D):=fun env=>(mi env).bind fun p=>AH g t a p.1 p.2
def CG(mi:Mo (List D))(keep:List Bool)(more:Nat)(g:OZ)(t:Mo Bool)(a:Mo (List D)):Mo (List D):=fun env=>(mi env).bind fun p=>
 (AH g t a p.1 (P1 keep more p.2)).bind fun q=>if q.1.length≤100000 then(N8 keep p.2 q.2).map fun e=>(q.1,e)else none
theorem aU{p:Addr}{o:HO}(h:H p=some o):upd H p o=H:=by
 funext b
 by_cases hb:b=p
 ·subst hb;rw[J0,h]
 ·rw[D7 hb]
def tR(K:Qz)(B:OA)(n:Nat)(a:Mo (List D))(p:Addr):AG:=fun σ H Q=>∃G env zs env' ys,Rel K B G σ env H/\ ¬ d6 σ env p/\G p=none/\H p=some (.lst ys)/\a env=some (zs,env')/\ys.length+zs.length≤100000/\
 ∀σ' G' H' vs,Ev K B G σ env (upd H p (.lst (ys++vs))) G' σ' env' H'->(∀j,j<n->σ'[j]? =σ[j]?)->H' p=some (.lst (ys++vs))->C4 K G' vs zs->Q σ' H'
theorem aV{p:Addr}:∀σ H Q,tR K B n (X1 m) p σ H Q->Nb (TD K B m) p σ H Q:=by
 rintro σ H Q ⟨G,env,zs,env',ys,rl,no,gp,hp,e,hl,k⟩;obtain⟨⟨d,a9⟩,e1,e2⟩:=F5 e;cases e2;refine⟨G,env,d,a9,rl,e1,fun v G' H' ev r=>?_⟩
 have hp':H' p=some (.lst ys):=ev.keep p _ no nJ hp
 refine⟨ys,hp',Qd (by simp at hl;omega) (show 100000≤sizeLine by decide),?_⟩
 exact k σ G' _ [v] (ev.swapAt no (by rw[hp];simp) gp nJ (fun φ z=>by rw[hp']at z;cases z)) (fun _ _=>rfl) J0 (d8 r f7)
theorem Nf{g:OZ}{t:Mo Bool}{p:Addr}{G1:Hp}{a9 envF:b0}{H1:Hp}{items zs:List D}{ys:List V}{Q:St->Hp->Prop}(rl:Rel K B G1 σ a9 H1)(itd:uW K J G1 items)(no:¬ d6 σ a9 p)(gp:G1 p=none)
  (hp:H1 p=some (.lst ys))(e3:AH g t a items a9=some (zs,envF))(hl:ys.length+zs.length≤100000)
  (k:∀σ' G' H' vs,Ev K B G1 σ a9 (upd H1 p (.lst (ys++vs))) G' σ' envF H'->(∀j,j<n->σ'[j]? =σ[j]?)->H' p=some (.lst (ys++vs))->C4 K G' vs zs->Q σ' H'):
  Fj J (vS K B n g) (pX K B t) (tR K B n a p) σ H1 Q:=by
 have hpS:∀us,(upd H1 p (.lst us)) p=some (.lst us):=fun us=>J0
 refine⟨fun i m' σ2 H2=>m'=items.length-i/\i≤items.length/\∃G2 g0 vs acc rest,Ev K B G1 σ a9 (upd H1 p (.lst (ys++vs))) G2 σ2 g0 H2/\(∀j,j<n->σ2[j]? =σ[j]?)/\
   C4 K G2 vs acc/\AH g t a (items.drop i) g0=some (rest,envF)/\acc++rest=zs,⟨_,rfl,Ux _,G1,a9,[],[],zs,?_,fun _ _=>rfl,f7,by simpa using e3,by simp⟩,?_⟩
 ·rw[Ys,aU hp];exact .refl rl
 rintro i m' σ2 H2 ⟨rfl,hi,G2,g0,vs,acc,rest,f6,y2,r2,c2,t2⟩;have hp2:H2 p=some (.lst (ys++vs)):=f6.keep p _ no nJ (hpS _);have lH:Le G1 H2:=f6.same.trans f6.rel.sub
 by_cases hlt:i<items.length
 ·refine .inr ⟨itd.go i H2 lH hlt,fun x H3 y=>?_⟩
  have ed:items.drop i=items[i]::items.drop (i+1):=List.drop_eq_getElem_cons hlt
  rw[ed]at c2;obtain⟨qR,e7,e8⟩:=C6 c2;obtain⟨⟨b,pD⟩,e9,e10⟩:=C6 e8;have hget:items[i]? =some items[i]:=by simp[hlt]
  have st:∃G3,Ev K B G1 σ a9 (upd H1 p (.lst (ys++vs))) G3 σ2 g0 H3/\Le G2 G3/\c4 K G3 x items[i]:=by
   rcases itd.yld i H2 x H3 items[i] lH y hget with⟨rfl,r⟩|⟨q,o,hno,hq,rfl,r⟩
   ·exact⟨G2,f6,Le.refl,c4.mono f6.same _ r⟩
   ·have gq:=f6.rel.gnone hq
    refine⟨upd G2 q o,f6.trans (f6.rel.alloc hq hno),Le.upd gq,c4.mono (fun b u z=>?_) _ r⟩
    by_cases hb2:b=q
    ·subst hb2;rw[J0]at z ⊢;exact z
    ·rw[D7 hb2]at z ⊢;exact f6.same b u z
  obtain⟨G3,pM,l3,r3⟩:=st;refine⟨G3,g0,items[i],qR,pM.rel,r3,e7,fun σ4 G4 H4 rZ y4=>?_⟩
  refine⟨G4,qR,b,pD,rZ.rel,e9,fun G5 H5 sL=>?_⟩
  have o3:=(pM.trans rZ).trans sL
  have r5:C4 K G5 vs acc:=C4.mono ((l3.trans rZ.same).trans sL.same) acc r2
  have y5:∀j,j<n->σ4[j]? =σ[j]?:=fun j hj=>(y4 j hj).trans (y2 j hj)
  have vM:H5 p=some (.lst (ys++vs)):=o3.keep p _ no nJ (hpS _)
  cases b with
  |true=>
   simp only[Zn]at e10 ⊢;obtain⟨⟨z7,vJ⟩,e11,e12⟩:=C6 e10;obtain⟨⟨rest8,zK⟩,e13,e14⟩:=F5 e12;cases e14;have lz:zs.length=acc.length+(z7.length+rest8.length):=by rw[←t2];simp
   have no5:¬ d6 σ4 pD p:=fun z=>(o3.sub p z).elim no fun q=>by rw[hpS]at q;cases q
   refine⟨G5,pD,z7,vJ,ys++vs,sL.rel,no5,o3.stay p (by rw[hpS];simp) no gp,vM,e11,by rw[Qt,r2.length];omega,fun σ6 G6 H6 us yA y7 h7 r7=>?_⟩
   have nx:∀φ,H5 p≠some (.ext φ):=fun φ z=>by rw[vM]at z;cases z
   have sw:=o3.swapAt (o:=.lst (ys++vs++us)) no (by rw[hpS];simp) gp nJ nx
   rw[LP]at sw;refine⟨items.length-(i+1),by omega,rfl,hlt,G6,vJ,vs++us,acc++z7,rest8,?_,fun j hj=>(y7 j hj).trans (y5 j hj),(C4.mono yA.same acc r5).append r7,e13,by rw[Vp];exact t2⟩
   rw[←Vp];exact sw.trans yA
  |false=>
   simp only[Zx,Yu]at e10 ⊢;exact⟨items.length-(i+1),by omega,rfl,hlt,G5,pD,vs,acc,rest,o3,y5,r5,e10,t2⟩
 ·have ei:i=items.length:=by omega
  subst ei;rw[List.drop_length]at c2;cases c2;rw[Ys]at t2;subst t2;exact .inl ⟨itd.stop _ H2 lH (Qm _),k σ2 G2 H2 vs f6 y2 hp2 r2⟩
theorem aW{g:OZ}{t:Mo Bool}{p:Addr}:∀σ H Q,tR K B n (wZ mi g t a) p σ H Q->Nc (wW K B mi) (vS K B n g) (pX K B t) (tR K B n a p) σ H Q:=by
 rintro σ H Q ⟨G,env,zs,env',ys,rl,no,gp,hp,e,hl,k⟩;obtain⟨⟨items,a9⟩,e1,e2⟩:=C6 e;refine⟨G,env,items,a9,rl,e1,fun J G1 H1 j9 itd=>?_⟩
 have hp1:H1 p=some (.lst ys):=j9.keep p _ no nJ hp
 refine Nf j9.rel itd (fun z=>(j9.sub p z).elim no fun q=>by rw[hp]at q;cases q) (j9.stay p (by rw[hp];simp) no gp) hp1 e2 hl fun σ' G' H' vs ev y h r=>?_
 have nx:∀φ,H1 p≠some (.ext φ):=fun φ z=>by rw[hp1]at z;cases z
 exact k σ' G' H' vs ((j9.swapAt (o:=.lst (ys++vs)) no (by rw[hp];simp) gp nJ nx).trans ev) y h r
theorem Ng{g:OZ}{t:Mo Bool}(hkl:keep.length=n):
  ∀(σ:St) H Q,σ.length=n->TL K B (CG mi keep more g t a) σ H Q->IH (wW K B mi) keep more (vS K B n g) (pX K B t) (tR K B n a) σ H Q:=by
 rintro σ H Q hσn ⟨G,env,total,env',rl,e,k⟩;obtain⟨⟨items,a9⟩,e1,e2⟩:=C6 e;obtain⟨⟨total',envF⟩,e3,e4⟩:=C6 e2;dsimp only at e4;split at e4
 ·rename_i hlen
  obtain⟨env'',e5,e6⟩:=F5 e4;cases e6;refine⟨G,env,items,a9,rl,e1,fun J G1 H1 j9 itd p hp=>?_⟩
  have hk:keep.length=σ.length:=by rw[hkl,hσn]
  have gp:G1 p=none:=j9.rel.gnone hp
  have no1:¬ d6 σ a9 p:=j9.rel.unowned hp
  have no:¬ d6 (P0 keep more σ) (P1 keep more a9) p:=fun z=>no1 (Hi z)
  have relS:∀ys,Rel K B G1 σ a9 (upd H1 p (.lst ys)):=fun ys=>(j9.rel.allocM hp).rel
  refine Nf (ys:=[]) ((relS []).ext hk) itd no gp J0 e3 (by simpa using hlen) fun σ2 G2 H2 ys f6 y2 hp2 r2=>?_
  rw[Xx,LP]at f6;rw[Xx]at hp2;have evO:=Ev.out (relS ys) hk f6 (fun j hj=>y2 j (by omega)) e5
  have evA:=j9.trans ((j9.rel.allocM (o:=.lst ys) hp).trans evO)
  have hpn:H p=none:=by
   cases q:H p with
   |none=>rfl
   |some o=>exact absurd hp (j9.live p (by rw[q];simp))
  have hpS:(upd H1 p (.lst ys)) p=some (.lst ys):=J0
  refine k p ys G2 H2 evA hpn (fun z=>?_) hp2 (f6.stay p (by rw[hpS];simp) no gp) r2
  rcases evO.sub p z with q|q
  ·exact no1 q
  ·rw[hpS]at q;cases q
 ·cases e4
def uZ(X:Cx)(B:OA)(n:Nat)(elt:Expr)(gens:List Comprehension)(scope:Scope)(pos:Pos)(d:Nat)(p:Addr)(a:Mo (List D)):Prop:=Az X (Y7 elt gens scope pos d (.ref p) X.env) (tR X.K B n a p)
theorem Nh{sem:Sem Unit}{t t':AG}(h:Az X sem t)(i:∀σ H Q,t' σ H Q->t σ H Q):Az X sem t':=fun pins s σ H Q I q=>h pins s σ H Q I (i σ H Q q)
section
variable{nM:Scope}{g:OZ}{t:Mo Bool}{pos:Pos}{p:Addr}
theorem Fk(hn:gens[d+1]? =none)(he:ED (J2 X N' nM s H fp) B elt m):uZ (J2 X N' nM s H fp) B n elt gens scope pos d p (X1 m):=Nh (aR (fun _ _ z=>z) hn he) aV
theorem Ni(hd:gens[d+1]? =some ⟨tg,iter,ifs,0⟩)(hc:X.calm=true)(hi:EI (J2 X N' nM s H fp) B tg iter mi)(hg:EG (J2 X N' nM s H fp) B n tg g)(ht:V4 (J2 X N' nM s H fp) ifs (pX X.K B t))
  (ha:uZ (J2 X N' nM s H fp) B n elt gens scope pos (d+1) p a)(hs:∀x,foldedSetIterable iter (J2 X N' nM s H fp).env x=pure x:=by intro _;rfl):
  uZ (J2 X N' nM s H fp) B n elt gens scope pos d p (wZ mi g t a):=Nh (aS (fun _ _ z=>z) hc hd hi hg ht ha hs) aW
theorem aX(ok:nE X N' scope keep more)(hc:X.calm=true)(hi:EI X B tg iter mi)(hg:∀s H fp,EG (J2 X N' scope s H fp) B X.N.length tg g)(ht:∀s H fp,V4 (J2 X N' scope s H fp) ifs (pX X.K B t))
  (he:∀s H fp p,uZ (J2 X N' scope s H fp) B X.N.length elt (⟨tg,iter,ifs,0⟩::gs) scope pos 0 p a)
  (hs:∀x,foldedSetIterable iter X.env x=pure x:=by intro _;rfl):EL X B (.ListComp elt (⟨tg,iter,ifs,0⟩::gs) scope pos) (CG mi keep more g t a):=by
 intro pins s σ H Q I h;exact aT (act:=tR X.K B X.N.length a) ok hc hi hg ht (fun s H fp p=>he s H fp p) hs pins s σ H Q I (Ng ok.klen σ H Q I.len h)
end
section
variable{pos:Pos}{o:Expr}{mb:Mo D}
end
section
variable{pos:Pos}
theorem aY{i:Int}:PE X (.Dict [some (.Constant (.int i) x1 p1)] [.Constant (.int j) x2 p2] pos) (fun _ H Q=>∀p,H p=none->Q (.ref p) (upd H p (.dK [(.inl i,.int j)]))):=fun pins s σ H Q I h=>by
 refine wpAny_Dict_walk (knd:=Q4 X.prog X.w) rfl rfl (by simp) (show 1≤15 by decide) (pairTrees_cons_walk (Xf (Xf (pairTrees_nil_walk ?_))))
 refine⟨[(.inl i,.int j (s.toks+1))],⟨by simp[Q4,Bk,Value.isInt],rfl,trivial⟩,Heap.DictOf.new s.heap,fun h' d sb=>?_⟩
 have hne:∀b u,s.heap.get? b=some u->b≠s.heap.objs.size:=fun b u e=>Qi (Qu e)
 refine⟨.ref s.heap.objs.size,_,I.laid (a:=s.heap.objs.size) (o:=.dK [(.inl i,.int j)]) (fun b u e=>(sb.2 b (hne b u e)).trans (Qv _ e)) (Qm _)
  ⟨show 1≤sizeLine by decide,Uw.mpr (Zm (Qi (YA I))),_,.cons ⟨rfl,⟨_,rfl⟩⟩ .nil,d⟩,rfl,h _ (I.hok.fresh (Qm _))⟩
theorem Nj{i:Int}:ED X B (.Dict [some (.Constant (.int i) x1 p1)] [.Constant (.int j) x2 p2] pos) (mC .emp):=by
 refine d7 aY ?_
 rintro σ H Q ⟨G,env,d,env',rl,e,k⟩;cases e;exact fun p hp=>k _ _ _ (rl.alloc hp) (by simp only[c4];exact⟨p,_,rfl,J0⟩)
end
section
variable{c1 c2:Bool}
end
section
variable{R:Result->Shared->Prop}{c1 c2:Bool}{n l1 l2 S:Addr}{xs ys:List V}
end
section
variable{pos:Pos}{a b:Expr}
end
section
variable{pos:Pos}{gs:List D->b0->Option b0}
end
def n5:OI->List D->List Int->Option D
 |k'::ks,v::vs,k=>if k'=k then some v else n5 ks vs k
 |_,_,_=>none
def qK:OI->List D->List Int->D->List D
 |k'::ks,v::vs,k,d=>if k'=k then d::qK ks vs k d else v::qK ks vs k d
 |_,vs,_,_=>vs
def W2:D->Option (List Int)
 |.tup ds=>i4 ds
 |_=>none
theorem II:∀ns:List Int,(M4 ns).map kV=ns.map V.int
 |[]=>rfl
 |n::ns=>by show V.int n::(M4 ns).map kV=_;rw[II ns];rfl
theorem IJ:∀{a b:List Int},M4 a=M4 b->a=b
 |[],[],_=>rfl
 |[],_::_,e=>by simp[M4]at e
 |_::_,[],e=>by simp[M4]at e
 |x::a,y::b,e=>by
  simp only[M4,Qg,Xz,Sum.inl.injEq]at e;rw[e.1,IJ e.2]
def DB(K:Qz)(H:Hp)(b:Addr)(k:List Int):Prop:=H b=some (.tup ((M4 k).map kV))\/L9 K b (M4 k)
theorem DB.mono{H':Hp}{k:List Int}(l:Le H H')(h:DB K H b k):DB K H' b k:=h.imp (fun e=>l _ _ e) id
theorem Dz{d:D}{k:List Int}(r:c4 K G v d)(h:W2 d=some k):∃b,v=.ref b/\DB K G b k:=by
 cases d<;>first|(exact absurd (show(none:Option (List Int))=some k from h) (by simp))|skip
 rename_i ds;simp only[c4]at r;obtain⟨a,xs,rfl,q,t⟩:=r;have hx:=AX t (show i4 ds=some k from h)
 subst hx;refine⟨a,rfl,?_⟩
 rcases q with q|q
 ·exact .inl (by rw[II];exact q)
 ·exact .inr (.inr (by rw[II];exact q))
theorem EA{h:Heap}(ok:oN P w H h)(kin:K.In h)(e:H b=some (.tup (k.map kV))\/L9 K b k):(tupleKind (Q4 P w)).is h k b:=by
 rcases e with e|e
 ·exact VS ok e
 ·rcases e with e|⟨o,its,n,h1,h2,_,h3,_,h4⟩
  ·cases e
  ·exact⟨o,its,n,kin b o h1,h2,h3,HI h4⟩
section
variable{a:Addr}{kvs:List (List Key×V)}
theorem EB(I:Inv X pins σ H s)(e:H a=some (.dT (L9 X.K) kvs)):kvs.length≤sizeLine/\(a==sysModules)=false/\∃xs,KT (L9 X.K) H kvs xs/\s.heap.DictOfH (tupleKind (Q4 X.prog X.w)) a xs:=by
 obtain⟨z,y,xs,r,o,es,ep,h1,h2,h3,h4,h5⟩:=(show K2 X.prog X.w H s.heap a (.dT (L9 X.K) kvs)from I.hok a _ e)
 refine⟨z,y,xs,r,o,es,ep,h1,h2,h3,h4,fun x hx=>?_,h5⟩
 have all:∀{l:List (List Key×V)}{m:List (List Key×Addr×Value)},KT (L9 X.K) H l m->∀x∈m,(tupleKind (Q4 X.prog X.w)).is s.heap x.1 x.2.1:=by
  intro l m q
  induction q with
  |nil=>intro x hx;exact nomatch hx
  |@cons p q ps qs hq t ih=>
   intro x hx
   rcases Ql.mp hx with e|hx
   ·subst e
    exact EA (K:=X.K) I.hok I.kIn (by rw[←hq.1];exact hq.2.1)
   ·exact ih x hx
 exact all r x hx
theorem Nk(hu:A.units+1<cLine)(I:Inv X pins σ H s)(e:H a=some (.dT (L9 X.K) kvs))(eb:H b=some (.tup (k.map kV))\/L9 X.K b k)(l:X9 kvs k=some v)
  (h:∀w' s',Inv X pins σ H s'->E3 v w'->Q w' s'):wpAny (model X.prog X.w) A (getItem (.ref a) (.ref b)) Q E s:=by
 obtain⟨z,hd,xs,rel,dd⟩:=EB I e;obtain⟨w',hw,rw'⟩:=AN.some_of (v:=v) (o:=(atKey xs k).map (·.2)) (by rw[←l];exact rel.val k)
 obtain⟨p,hp,hp2⟩:=Ur.mp hw;refine wpAny_getItem_heap (Vv hu) (EA (K:=X.K) I.hok I.kIn eb) dd hp ?_
 rw[hp2];exact h w' _ (I.tok _) rw'
theorem aZ(hu:A.units+1<cLine)(I:Inv X pins σ H s)(e:H a=some (.dT (L9 X.K) kvs))(eb:H b=some (.tup (k.map kV))\/L9 X.K b k)
  (h:∀s',Inv X pins σ H s'->Q (.bool (X9 kvs k).isSome) s'):wpAny (model X.prog X.w) A (compareOp .In (.ref b) (.ref a)) Q E s:=by
 obtain⟨z,hd,xs,rel,dd⟩:=EB I e;refine wpAny_in_heap (Vv hu) (EA (K:=X.K) I.hok I.kIn eb) hd dd ?_
 have q:=(rel.val k).isSome_eq
 rw[Xs]at q;rw[←q];exact h _ (I.tok _)
theorem bA(hu:A.units+1<cLine)(I:Inv X pins σ H s)(e:H a=some (.dT (L9 X.K) kvs))(eb:H b=some (.tup (k.map kV))\/L9 X.K b k)
  (h:∀s',Inv X pins σ H s'->Q (.bool (!(X9 kvs k).isSome)) s'):wpAny (model X.prog X.w) A (compareOp .NotIn (.ref b) (.ref a)) Q E s:=by
 obtain⟨z,hd,xs,rel,dd⟩:=EB I e;refine wpAny_notIn_heap (Vv hu) (EA (K:=X.K) I.hok I.kIn eb) hd dd ?_
 have q:=(rel.val k).isSome_eq
 rw[Xs]at q;rw[←q];exact h _ (I.tok _)
theorem bB{r:Value}{Q:Unit->Shared->Prop}(hu:A.units+1<cLine)(I:Inv X pins σ H s)(e:H a=some (.dT (L9 X.K) kvs))(eb:H b=some (.tup (k.map kV))\/L9 X.K b k)(l:kvs.length<sizeLine)(rv:E3 v r)
  (h:∀s',Inv X pins σ (upd H a (.dT (L9 X.K) (AQ kvs k v))) s'->Q () s'):wpAny (model X.prog X.w) A (setItem (.ref a) (.ref b) r) Q E s:=by
 obtain⟨z,hd,xs,rel,dd⟩:=EB I e;have hz:xs.length≤sizeLine:=by rw[←Paired.length rel];exact z
 have hl:(AQ kvs k v).length≤sizeLine:=by have:=VQ kvs k v;omega
 refine wpAny_setItem_heap (hsz:=hz) (Vv hu) (EA (K:=X.K) I.hok I.kIn eb) dd fun h' dd' hs=>h _ ?_
 obtain⟨q,es,ep,hq,h2,h3,h4,_,h5⟩:=dd';refine VT I (by rw[e];exact True.intro) hs ⟨q,hq⟩ ⟨hl,hd,_,(rel.put k eb rv).keeps fun c ys ec=>?_,q,es,ep,hq,h2,h3,h4,h5⟩
 rw[D7 (SX ec e (fun z=>nomatch z))]
 exact ec
theorem Nl(I:Inv X pins σ H s)(e:H a=some (.dT (L9 X.K) kvs)):s.TypeIs (.ref a) "dict":=by
 obtain⟨_,_,xs,_,dd⟩:=EB I e;exact dd.typeIs
end
theorem DC:∀{kvs:List (List Key×V)}{ks:OI}{vs:List D}(k:List Int),kvs.map (·.1)=ks.map M4->C4 K G (kvs.map (·.2)) vs->
  (∀d,n5 ks vs k=some d->∃v,X9 kvs (M4 k)=some v/\c4 K G v d)/\((X9 kvs (M4 k)).isSome=ks.contains k)
 |[],[],vs,k,_,r=>⟨fun d h=>by simp[n5]at h,rfl⟩
 |[],_::_,_,_,e,_=>by simp at e
 |_::_,[],_,_,e,_=>by simp at e
 |p::kvs,k'::ks,[],k,e,r=>by have:=r.length;simp at this
 |p::kvs,k'::ks,d'::vs,k,e,r=>by
  simp only[Qg,Xz]at e;obtain⟨e1,e2⟩:=e;rw[Qg]at r;simp only[C4]at r;obtain⟨x,t,z,r1,r2⟩:=r;cases z;obtain⟨h1,h2⟩:=DC (ks:=ks) (vs:=vs) k e2 r2
  by_cases hk:k'=k
  ·subst hk
   refine⟨fun d h=>?_,?_⟩
   ·simp only[n5,Zn,Za]at h
    subst h;exact⟨p.2,FD e1,r1⟩
   ·rw[FD e1];simp
  ·have ne:¬ p.1=M4 k:=fun z=>hk (IJ (e1.symm.trans z))
   refine⟨fun d h=>?_,?_⟩
   ·simp only[n5,Qs hk]at h
    obtain⟨v,q1,q2⟩:=h1 d h;exact⟨v,by rw[FE ne];exact q1,q2⟩
   ·have hb:(k==k')=false:=by simpa using fun z=>hk (Eq.symm z)
    rw[FE ne,h2,Yt,hb,Vc]
theorem Nm:∀{kvs:List (List Key×V)}{ks:OI}{vs:List D}(k:List Int) {v:V}{d:D},kvs.map (·.1)=ks.map M4->C4 K G (kvs.map (·.2)) vs->c4 K G v d->
  (kvs.map fun kv=>if kv.1=M4 k then(kv.1,v)else kv).map (·.1)=ks.map M4/\C4 K G ((kvs.map fun kv=>if kv.1=M4 k then(kv.1,v)else kv).map (·.2)) (qK ks vs k d)
 |[],[],vs,k,v,d,_,r,_=>⟨rfl,by simpa [qK]using r⟩
 |[],_::_,_,_,_,_,e,_,_=>by simp at e
 |_::_,[],_,_,_,_,e,_,_=>by simp at e
 |p::kvs,k'::ks,[],k,v,d,e,r,_=>by have:=r.length;simp at this
 |p::kvs,k'::ks,d'::vs,k,v,d,e,r,rd=>by
  simp only[Qg,Xz]at e;obtain⟨e1,e2⟩:=e;rw[Qg]at r;simp only[C4]at r;obtain⟨x,t,z,r1,r2⟩:=r;cases z;obtain⟨h1,h2⟩:=Nm (ks:=ks) (vs:=vs) k e2 r2 rd
  by_cases hk:k'=k
  ·subst hk
   simp only[Qg,Qh e1,qK,Zn];exact⟨by rw[e1,h1],d8 rd h2⟩
  ·have ne:¬ p.1=M4 k:=fun z=>hk (IJ (e1.symm.trans z))
   simp only[Qg,Qs ne,qK,Qs hk];exact⟨by rw[e1,h1],d8 r1 h2⟩
def O3(ks:OI)(k:List Int):OI:=if ks.contains k then ks else ks++[k]
def P9(ks:OI)(vs:List D)(k:List Int)(d:D):List D:=if ks.contains k then qK ks vs k d else vs++[d]
theorem bC{kvs:List (List Key×V)}{ks:OI}{vs:List D}(k:List Int){d:D}(e:kvs.map (·.1)=ks.map M4)(r:C4 K G (kvs.map (·.2)) vs)(rd:c4 K G v d):
  (AQ kvs (M4 k) v).map (·.1)=(O3 ks k).map M4/\C4 K G ((AQ kvs (M4 k) v).map (·.2)) (P9 ks vs k d):=by
 have h:=(DC (K:=K) (G:=G) k e r).2
 unfold AQ O3 P9;rw[HH,h];cases ks.contains k with
 |true=>simp only[Zn];exact Nm k e r rd
 |false=>
  simp only[Zx,Yu,Zl,Qg,Vo];exact⟨by rw[e],r.append (d8 rd f7)⟩
theorem bD(h:Heap)(hb:sysModules<h.objs.size):K2 P w H (h.push {cls:=.type "dict",data:=.dict #[]}) h.objs.size (.dT C []):=
 ⟨Ux _,Uw.mpr (Zm (Qi hb)),[],.nil,_,#[],0,Qn _ rfl,⟨rfl,rfl,rfl⟩,rfl,rfl,List.nodup_nil⟩
def bE(C:Addr->List Key->Prop):TE:=fun _ H Q=>∀p,H p=none->Q (.ref p) (upd H p (.dT C []))
section
variable{pos:Pos}{a b:Expr}{mb:Mo D}
theorem Nn:PE X (.Dict [] [] pos) (bE C):=fun pins s σ H Q I h=>
 wpAny_Dict_empty ⟨.ref s.heap.objs.size,_,I.laid (a:=s.heap.objs.size) (o:=.dT C []) (t':=s.toks) (fun _ _ q=>Qv _ q) (Qm _) (bD s.heap I.big),rfl,h _ (I.hok.fresh (Qm _))⟩
def Fm(i:Nat):Mo Fl:=fun env=>some (.nx,env.set i (.ownD [] []))
theorem Fo{pos' dpos:Pos}(hN:X.N.Nodup)(hi:X.N[i]? =some x)(hx:Loc X.env.scope x)(hs:swapsWith (.Dict [] [] dpos) (some (.Name x pos')) pos.line X.env=pure false:=by rfl)(hf:X.fn x=true\/X.env.scope.names.lookup x=some .local:=by first|exact .inl rfl|exact .inr rfl|assumption):
  ES X B (.Assign [.Name x pos'] (.Dict [] [] dpos) pos) (Fm i):=by
 refine j2 (De hN hi hx (Nn (C:=L9 X.K)) hs hf) ?_
 rintro D σ H ⟨G,env,fl,env',rl,e,k⟩;cases e;intro p hp;have ev:=rl.allocM (o:=.dT (L9 X.K) []) hp;exact k _ _ _ (ev.setOwnM (m:=.d [] []) (fun z=>rl.old p z hp) hp (rl.unowned hp) J0 (rl.gnone hp) ⟨[],rfl,rfl,f7⟩ rfl rfl)
def Fp(i:Nat)(mb:Mo D):Mo D:=fun env=>(mb env).bind fun p=>((p.2[i]?).bind W.mutD).bind fun q=>(W2 p.1).bind fun k=>(n5 q.1 q.2 k).map fun d=>(d,p.2)
theorem IK(hu:X.A.units+64<cLine)(ha:PE X (.Name x p) (V0 i))(hb:ED X B b mb)(hs:Di b)(hr:∀env d env' w ds,mb env=some (d,env')->env'[i]? =some w->w.mut=some ds->∃w0 ds0,env[i]? =some w0/\w0.mut=some ds0):
  ED X B (.Subscript (.Name x p) b pos) (Fp i mb):=by
 intro pins s σ H Q I h;obtain⟨G,env,d,env',rl,e,k⟩:=h;obtain⟨⟨d1,a9⟩,e1,e2⟩:=C6 e;obtain⟨⟨ks,vs⟩,e3,e4⟩:=C6 e2;obtain⟨w,e5,e6⟩:=C6 e3;obtain⟨key,e7,e8⟩:=C6 e4;obtain⟨d2,e9,e10⟩:=F5 e8;cases e10;obtain⟨w0,m0,e11,e12⟩:=hr env d1 _ w (.d ks vs) e1 e5 (W.mutD_of e6);obtain⟨q,o,h1,_⟩:=rl.own i w0 m0 e11 e12;refine MM PySem.F.slot_dict_getitem.lookup hs (g6 (ha pins s σ H (fun v H1=>v=.ref q/\H1=H) I ⟨_,h1,rfl,rfl⟩) fun u s1 ⟨x,H1,I1,rx,z1,z2⟩=>?_)
 subst z1 z2;cases rx;refine g6 (hb pins s1 σ H1 (fun v H2=>∃G2,Ev X.K B G σ env H1 G2 σ a9 H2/\c4 X.K G2 v d1) I1 ⟨G,env,d1,a9,rl,e1,fun v G2 H2 ev r=>⟨G2,ev,r⟩⟩) fun iv s2 ⟨y,H2,I2,ry,G2,ev,r⟩=>?_
 obtain⟨q',kvs,g1,g2,g3,g4,g5⟩:=ev.rel.ownD i w ks vs e5 e6;rw[h1]at g1;cases g1;obtain⟨b',rfl,kb⟩:=Dz r e7;cases ry;obtain⟨v,l1,l2⟩:=(DC key g3 g4).1 _ e9;exact⟨Nl I2 g2,Nk (by omega) I2 g2 (kb.mono ev.rel.sub) l1 fun w' s3 I3 rw'=>⟨v,H2,I3,rw',k v G2 H2 ev l2⟩⟩
def BA:D->D->Option D:=fun a b=>match a with
 |.dct ks vs=>(W2 b).bind fun k=>n5 ks vs k
 |_=>none
theorem IL(hu:X.A.units+64<cLine)(ha:ED X B a ma)(hb:ED X B b mb)(hs:Di b):ED X B (.Subscript a b pos) (B5 BA ma mb):=by
 intro pins s σ H Q I h;obtain⟨G,env,d,env',rl,e,k⟩:=h;obtain⟨⟨d0,qO⟩,e0,e⟩:=C6 e;obtain⟨⟨d1,a9⟩,e1,e2⟩:=C6 e;obtain⟨d2,e3,e4⟩:=F5 e2;cases e4;unfold BA at e3;dsimp only at e3;split at e3
 case h_2=>cases e3
 rename_i ks vs;obtain⟨key,e7,e9⟩:=C6 e3;refine MM PySem.F.slot_dict_getitem.lookup hs (g6 (ha pins s σ H (fun v H1=>∃G1,Ev X.K B G σ env H G1 σ qO H1/\c4 X.K G1 v (.dct ks vs)) I ⟨G,env,_,qO,rl,e0,fun v G1 H1 ev r=>⟨G1,ev,r⟩⟩) fun u s1 ⟨x,H1,I1,rx,G1,j9,r1⟩=>?_)
 simp only[c4]at r1;obtain⟨q,kvs,rfl,g2,g3,g4⟩:=r1;cases rx;refine g6 (hb pins s1 σ H1 (fun v H2=>∃G2,Ev X.K B G1 σ qO H1 G2 σ a9 H2/\c4 X.K G2 v d1) I1 ⟨G1,qO,d1,a9,j9.rel,e1,fun v G2 H2 ev r=>⟨G2,ev,r⟩⟩) fun iv s2 ⟨y,H2,I2,ry,G2,f6,r⟩=>?_
 obtain⟨b',rfl,kb⟩:=Dz r e7;cases ry;have hq:H2 q=some (.dT (L9 X.K) kvs):=f6.rel.sub _ _ (f6.same _ _ g2);obtain⟨v,l1,l2⟩:=(DC key g3 (C4.mono f6.same _ g4)).1 _ e9;exact⟨Nl I2 hq,Nk (by omega) I2 hq (kb.mono f6.rel.sub) l1 fun w' s3 I3 rw'=>⟨v,H2,I3,rw',k v G2 H2 (j9.trans f6) l2⟩⟩
def DD(neg:Bool)(i:Nat)(ma:Mo D):Mo D:=fun env=>(ma env).bind fun p=>((p.2[i]?).bind W.mutD).bind fun q=>(W2 p.1).map fun k=>(.bl (if neg then !q.1.contains k else q.1.contains k),p.2)
theorem mU(hu:X.A.units+64<cLine)(ha:ED X B a ma)(hn:PE X (.Name x p) (V0 i)):PC X .In a (.Name x p) (TD X.K B (DD false i ma)):=by
 intro pins s σ H Q I h;obtain⟨G,env,d,env',rl,e,k⟩:=h;obtain⟨⟨d1,a9⟩,e1,e2⟩:=C6 e;obtain⟨⟨ks,vs⟩,e3,e4⟩:=C6 e2;obtain⟨w,e5,e6⟩:=C6 e3;obtain⟨key,e7,e8⟩:=F5 e4;cases e8;refine g6 (ha pins s σ H (fun v H1=>∃G1,Ev X.K B G σ env H G1 σ a9 H1/\c4 X.K G1 v d1) I ⟨G,env,d1,a9,rl,e1,fun v G2 H2 ev r=>⟨G2,ev,r⟩⟩) fun iv s1 ⟨y,H1,I1,ry,G1,ev,r⟩=>?_
 obtain⟨q,kvs,g1,g2,g3,g4,g5⟩:=ev.rel.ownD i w ks vs e5 e6;refine g6 (hn pins s1 σ H1 (fun v H2=>v=.ref q/\H2=H1) I1 ⟨_,g1,rfl,rfl⟩) fun u s2 ⟨x,H2,I2,rx,z1,z2⟩=>?_
 subst z1 z2;cases rx;obtain⟨b',rfl,kb⟩:=Dz r e7;cases ry;exact aZ (by omega) I2 g2 (kb.mono ev.rel.sub) fun s3 I3=>⟨.bl _,H2,I3,rfl,k _ G1 H2 ev (by rw[(DC key g3 g4).2];simp only[c4];rfl)⟩
theorem bF(hu:X.A.units+64<cLine)(ha:ED X B a ma)(hn:PE X (.Name x p) (V0 i)):PC X .NotIn a (.Name x p) (TD X.K B (DD true i ma)):=by
 intro pins s σ H Q I h;obtain⟨G,env,d,env',rl,e,k⟩:=h;obtain⟨⟨d1,a9⟩,e1,e2⟩:=C6 e;obtain⟨⟨ks,vs⟩,e3,e4⟩:=C6 e2;obtain⟨w,e5,e6⟩:=C6 e3;obtain⟨key,e7,e8⟩:=F5 e4;cases e8;refine g6 (ha pins s σ H (fun v H1=>∃G1,Ev X.K B G σ env H G1 σ a9 H1/\c4 X.K G1 v d1) I ⟨G,env,d1,a9,rl,e1,fun v G2 H2 ev r=>⟨G2,ev,r⟩⟩) fun iv s1 ⟨y,H1,I1,ry,G1,ev,r⟩=>?_
 obtain⟨q,kvs,g1,g2,g3,g4,g5⟩:=ev.rel.ownD i w ks vs e5 e6;refine g6 (hn pins s1 σ H1 (fun v H2=>v=.ref q/\H2=H1) I1 ⟨_,g1,rfl,rfl⟩) fun u s2 ⟨x,H2,I2,rx,z1,z2⟩=>?_
 subst z1 z2;cases rx;obtain⟨b',rfl,kb⟩:=Dz r e7;cases ry;exact bA (by omega) I2 g2 (kb.mono ev.rel.sub) fun s3 I3=>⟨.bl _,H2,I3,rfl,k _ G1 H2 ev (by rw[(DC key g3 g4).2];simp only[c4];rfl)⟩
theorem bG(σ:St)(H:Hp)(Q:Bool->Hp->Prop)(h:pX X.K B (mT m) σ H Q):tB (TD X.K B m) σ H Q:=by
 obtain⟨G,env,b,env',rl,e,k⟩:=h;unfold mT at e;obtain⟨⟨d,a9⟩,e1,e2⟩:=C6 e;cases d<;>first|(exact absurd (show(none:Option (Bool×b0))=some _ from e2) (by simp))|skip
 cases e2;exact⟨G,env,_,_,rl,e1,fun v G1 H1 ev r=>⟨_,by simpa only[c4]using r,k G1 H1 ev⟩⟩
theorem Np(hu:X.A.units+64<cLine)(ha:ED X B a ma)(hn:PE X (.Name x p) (V0 i))(hm:behindInMarks .NotIn (.Name x p)=false):ET X B (.Compare a [.NotIn] [.Name x p] pos) (mT (DD true i ma)):=
 pL (Sf (bF hu ha hn) hm) bG
def bH(K:Qz):Ex:=fun o i v H Q=>∃a b kvs k,o=.ref a/\i=.ref b/\H a=some (.dT (L9 K) kvs)/\DB K H b k/\kvs.length<sizeLine/\Q (upd H a (.dT (L9 K) (AQ kvs (M4 k) v)))
theorem bI(hu:X.A.units+64<cLine):Gq X (bH X.K):=by
 intro pins s σ H o i v ov iv u Q I ro ri rv h;obtain⟨a,b,kvs,k,rfl,rfl,e,kb,hl,q⟩:=h;cases ro;cases ri;exact bB (by omega) I e kb hl rv fun s' I'=>⟨_,I',q⟩
def tS(s:Nat)(mi:Mo D):OZ:=fun d env=>((env[s]?).bind W.mutD).bind fun _=>(mi env).bind fun p=>(p.2[s]?).bind fun w=>w.mutD.bind fun q=>(W2 p.1).bind fun k=>
 if q.1.length<100000 then some (p.2.set s (w.putM (.d (O3 q.1 k) (P9 q.1 q.2 k d))))else none
theorem Fq{s:Nat}(hu:X.A.units+64<cLine)(ho:PE X (.Name x p) (V0 s))(hi:ED X B b mb)
  (ha:∀v,assign (.Subscript (.Name x p) b pos) X.env v=(do
   let ov←holding [v] (eval (.Name x p) X.env)
   let iv←holding [v,ov] (eval b X.env)
   standAt pos
   holding [v,ov,iv] (setItem ov iv v)
   release [v,ov,iv] []):=by intro _;rfl):EG X B n (.Subscript (.Name x p) b pos) (tS s mb):=by
 refine FN (Lf ho hi (bI hu) ha) ?_
 rintro v σ H Q ⟨G,env,d,env',rl,r,e,k⟩;obtain⟨⟨ks0,vs0⟩,e0,e⟩:=C6 e;obtain⟨w0,e00,em0⟩:=C6 e0;obtain⟨⟨d1,a9⟩,e1,e2⟩:=C6 e;obtain⟨w,e3,e4⟩:=C6 e2;obtain⟨⟨ks,vs⟩,e5,e6⟩:=C6 e4;obtain⟨key,e7,e8⟩:=C6 e6;dsimp only at e8 e3;split at e8
 case isFalse=>cases e8
 rename_i hl;cases e8;obtain⟨q,kvs0,h1,_⟩:=rl.ownD s w0 ks0 vs0 e00 em0;refine⟨_,h1,.bind rl e1 fun iv G1 H1 ev r1=>?_⟩
 obtain⟨q',kvs,g1,g2,g3,g4,g5⟩:=ev.rel.ownD s w ks vs e3 e5;rw[h1]at g1;cases g1;obtain⟨b',rfl,kb⟩:=Dz r1 e7;obtain⟨p1,p2⟩:=bC (K:=X.K) (G:=G1) key g3 g4 (c4.mono ev.same _ r);have hz:kvs.length<sizeLine:=by
  have:=Ze List.length g3;rw[Qk,Qk]at this;rw[this];exact Uv hl (by decide)
 exact⟨q,b',kvs,key,rfl,rfl,g2,kb.mono ev.rel.sub,hz,k _ G1 _ (ev.writeM e3 (W.mutD_of e5) h1 ⟨_,rfl,p1,p2⟩) fun _ _=>rfl⟩
end
def yB(K:Qz)(B:OA)(m:Mo (List D)):TA:=fun σ H Q=>∃G env ds env',Rel K B G σ env H/\m env=some (ds,env')/\
 ∀vs a G' H',Ev K B G σ env H G' σ env' H'->C4 K G' vs ds->H a=none-> ¬ d6 σ env' a->H' a=some (.dT (L9 K) [])->G' a=none->Q (vs++[V.ref a]) H'
abbrev vX(X:Cx)(B:OA)(es:List Expr)(m:Mo (List D)):Prop:=PA X es (yB X.K B m)
section
variable{pos:Pos}
theorem Nq{dp:Pos}(hs:starEach (.Dict [] [] dp::[]) X.env=(false,eval (.Dict [] [] dp) X.env)::starEach [] X.env:=by rfl):vX X B [.Dict [] [] dp] B4:=by
 refine oK (R5 (Nn (C:=L9 X.K)) Aj hs) ?_
 rintro σ H Q ⟨G,env,ds,env',rl,e,k⟩;cases e;intro a ha;exact k [] a _ _ (rl.allocM ha) f7 ha (rl.unowned ha) J0 (rl.gnone ha)
theorem IM(ha:ED X B e ma)(hr:vX X B es ms)(hs:starEach (e::es) X.env=(false,eval e X.env)::starEach es X.env:=by rfl):vX X B (e::es) (B0 ma ms):=by
 refine oK (R5 ha hr hs) ?_
 rintro σ H Q ⟨G,env,ds,env',rl,e,k⟩;obtain⟨⟨d1,a9⟩,e1,e2⟩:=C6 e;obtain⟨⟨ds2,g0⟩,e3,e4⟩:=F5 e2;cases e4;refine .bind rl e1 fun v G1 H1 j9 r1=>⟨G1,a9,ds2,_,j9.rel,e3,fun vs a G2 H2 f6 r2 ha no h' g'=>?_⟩
 have h0:H a=none:=by
  cases q:H a with
  |none=>rfl
  |some o=>exact absurd ha (j9.live a (by rw[q];simp))
 exact k (v::vs) a G2 H2 (j9.trans f6) (d8 (c4.mono f6.same _ r1) r2) h0 no h' g'
end
def IP(n:Nat)(f:Fn)(ms:Mo (List D)):Mo Rr:=fun env=>(ms env).bind fun p=>if p.1.length+1=n then(f (p.1.map W.dat++[.parD [] []])).map fun q=>(q.1,p.2)else none
def IQ(n:Nat)(f:Fn)(ms:Mo (List D)):Mo D:=fun env=>(IP n f ms env).bind sW
section
variable{G1 G2:Hp}{a9:b0}{H1 H2:Hp}{vs:List V}{ds:List D}{a:Addr}
theorem Fs{α:Type}{l:List α}{x y:α}(h:(l++[x])[i]? =some y):(i<l.length/\l[i]? =some y)\/(i=l.length/\y=x):=by
 by_cases hi:i<l.length
 ·rw[Yw hi]at h;exact .inl ⟨hi,h⟩
 ·rw[Jv (by omega)]at h
  have:i-l.length=0:=by
   have:=(Qp.mp h).1
   simp at this;omega
  rw[this]at h
  simp at h
  exact .inr ⟨by omega,h.symm⟩
theorem bJ(hl:vs.length=ds.length)(h:d6 ((vs++[V.ref a]).map some) (ds.map W.dat++[.parD [] []]) b):b=a:=by
 obtain⟨i,w,m,e1,e2,e3⟩:=h
 rcases Fs e1 with⟨_,z⟩|⟨z1,z2⟩
 ·rw[Zv]at z
  cases q:ds[i]? with
  |none=>rw[q]at z;cases z
  |some d=>rw[q]at z;cases z;cases e2
 ·rw[Qk]at z1
  subst z1;rw[Zl,Jv (by simp[hl]),Qk,hl]at e3
  simp at e3
  exact e3.symm
theorem bK(rl:Rel K B G1 σ a9 H1)(r:C4 K G1 vs ds)(h':H1 a=some (.dT (L9 K) []))(g':G1 a=none):Rel K O7 G1 ((vs++[V.ref a]).map some) (ds.map W.dat++[.parD [] []]) H1:=by
 have hl:=r.length
 refine⟨rl.sub,by simp[hl],fun i d e=>?_,fun i w m e1 e2=>?_,fun i j w w' m m' b q1 q2 q3 q4 q5 q6=>?_,fun i w b q1 qo q2 h=>h,fun b h=>h.elim,rl.tabs,rl.gnt⟩
 ·rcases Fs e with⟨z1,z⟩|⟨z1,z2⟩
  ·rw[Zv]at z
   cases q:ds[i]? with
   |none=>rw[q]at z;cases z
   |some d'=>
    rw[q]at z;cases z;obtain⟨v,g1,g2⟩:=r.get q;refine⟨v,?_,g2⟩;rw[Zl,Yw (by rw[Qk]at z1 ⊢;omega),Zv,g1];rfl
  ·cases z2
 ·rcases Fs e1 with⟨_,z⟩|⟨z1,z2⟩
  ·rw[Zv]at z
   cases q:ds[i]? with
   |none=>rw[q]at z;cases z
   |some d=>rw[q]at z;cases z;cases e2
  ·subst z2
   cases e2;rw[Qk]at z1;subst z1;refine⟨a,_,?_,h',⟨[],rfl,rfl,f7⟩,g'⟩;rw[Zl,Jv (by simp[hl]),Qk,hl];simp
 ·have g:∀(i:Nat) (w:W) (m:Mu),(ds.map W.dat++[.parD [] []])[i]? =some w->w.mut=some m->i=ds.length:=fun i w m e1 e2=>by
   rcases Fs e1 with⟨_,z⟩|⟨z1,z2⟩
   ·rw[Zv]at z
    cases q:ds[i]? with
    |none=>rw[q]at z;cases z
    |some d=>rw[q]at z;cases z;cases e2
   ·simpa using z1
  rw[g i w m q1 q2,g j w' m' q3 q4]
theorem Nr{ws':List W}(ev:Ev K B G σ env H G1 σ a9 H1)(r:C4 K G1 vs ds)(ha:H a=none)(no:¬ d6 σ a9 a)(f6:Ev K O7 G1 ((vs++[V.ref a]).map some) (ds.map W.dat++[.parD [] []]) H1 G2 ((vs++[V.ref a]).map some) ws' H2):
  Ev K B G σ env H G2 σ a9 H2:=by
 have isA:∀b,d6 ((vs++[V.ref a]).map some) (ds.map W.dat++[.parD [] []]) b->b=a:=fun b=>bJ r.length
 refine⟨⟨f6.rel.sub,ev.rel.len,fun i d e=>?_,fun i w m e1 e2=>?_,ev.rel.inj,ev.rel.fresh,fun b h=>f6.live b (ev.rel.old b h),f6.rel.tabs,f6.rel.gnt⟩,ev.same.trans f6.same,fun b o n t e=>?_,fun b e=>f6.live b (ev.live b e),fun b e n g=>?_,ev.sub,ev.par,ev.slen⟩
 ·obtain⟨v,q1,q2⟩:=ev.rel.dat i d e
  exact⟨v,q1,c4.mono f6.same d q2⟩
 ·obtain⟨p,o,q1,q2,q3,q4⟩:=ev.rel.own i w m e1 e2
  have hp:¬ d6 ((vs++[V.ref a]).map some) (ds.map W.dat++[.parD [] []]) p:=fun z=>no (by rw[←isA p z];exact⟨i,w,m,e1,e2,q1⟩)
  exact⟨p,o,q1,f6.keep p o hp q3.nt q2,q3.mono f6.same,f6.stay p (by rw[q2];simp) hp q4⟩
 ·exact f6.keep b o (fun z=>by rw[isA b z,ha]at e;cases e) t (ev.keep b o n t e)
 ·exact f6.stay b (ev.live b e) (fun z=>e (by rw[isA b z];exact ha)) (ev.stay b e n g)
end
theorem bL{f:Fn}{env':b0}{r:Rr}{Q:VK}{E:XK}(rl:Rel K B G σ env H)(e:IP n f ms env=some (r,env'))
  (k:Mf K B G σ env H env' Q r):HC (mY K n f) [] E (yB K B ms) σ H Q:=by
 obtain⟨⟨ds,a9⟩,e1,e2⟩:=C6 e;dsimp only at e2;split at e2
 case isFalse=>cases e2
 rename_i hn;obtain⟨⟨r',ws'⟩,e3,e4⟩:=F5 e2;cases e4;refine⟨G,env,ds,env',rl,e1,fun vs a G1 H1 ev rp ha no h' g'=>?_⟩
 show mY K n f ((vs++[V.ref a])++[]) H1 Q E;rw[Ys];have ok:Cn (ds.map W.dat++[.parD [] []]):=fun w hw=>by
  rcases Yr.mp hw with z|z
  ·obtain⟨d,_,rfl⟩:=Qa.mp z
   exact .inl ⟨d,rfl⟩
  ·obtain rfl:=List.mem_singleton.mp z
   exact .inr rfl
 refine⟨G1,_,r',ws',by simpa using hn,ok,bK ev.rel rp h' g',e3,?_⟩
 cases r' with
 |d d=>exact fun v G2 H2 f6 r2=>k v G2 H2 (Nr ev rp ha no f6) r2
 |l xs=>
  intro b ys G2 H2 f6 hb nb hb' gb rb;have h0:H b=none:=by
   cases q:H b with
   |none=>rfl
   |some o=>exact absurd hb (ev.live b (by rw[q];simp))
  exact k b ys G2 H2 (Nr ev rp ha no f6) h0 (ev.rel.unowned hb) hb' gb rb
section
variable{pos:Pos}{fn:Fn}{k:Nat}
theorem Nt(D:Def X.prog X.w X.K X.mg X.base x k n fn)(hr:f9 k X.A)(hg:Gl X x)(ha:vX X B (e::es) ms)(hdb:(x==("__debug__":Str))=false:=by decide)
  (he:starEach (e::es) X.env=(false,eval e X.env)::starEach es X.env:=by rfl)(hpl:(backTo pos (starEach es X.env)).any (·.1)=false:=by rfl):
  ED X B (.Call (.Name x p) (e::es) [] pos) (IQ n fn ms):=by
 obtain⟨f,fd,ps,F,rfl,hm,hk,hb⟩:=D.ex;refine d7 (FA F hr hg hm hk hb .nil HF ha hdb he hpl) ?_
 rintro σ H Q ⟨G,env,d,env',rl,e,k⟩;obtain⟨⟨r,a9⟩,e1,e2⟩:=C6 e;cases r with
 |d d'=>cases e2;exact bL rl e1 k
 |l ds=>cases e2
end
def vY(i:Nat)(m:Mo (List Ar)):Prop:=∀env d env' w ds,m env=some (d,env')->env'[i]? =some w->w.mut=some ds->∃w0 ds0,env[i]? =some w0/\w0.mut=some ds0
theorem bM:vY i B8:=fun env d env' w ds e h1 h2=>by cases e;exact⟨w,ds,h1,h2⟩
theorem Nu{ms:Mo (List Ar)}(h:Kp i m)(t:vY i ms):vY i (B7 m ms):=fun env d env' w ds e h1 h2=>by
 obtain⟨⟨d1,a9⟩,e1,e2⟩:=C6 e;obtain⟨⟨d2,g0⟩,e3,e4⟩:=F5 e2;cases e4;obtain⟨w1,m1,q1,q2⟩:=t a9 _ _ w ds e3 h1 h2;exact h env _ _ w1 m1 e1 q1 q2
theorem bN{f:Fn}{as:Mo (List Ar)}(h:vY i as):Kp i (c9 n f as):=fun env d env' w ds e h1 h2=>by
 obtain⟨⟨r,a9⟩,e1,e2⟩:=C6 e;have e0:a9=env':=by
  cases r with
  |d d'=>cases e2;rfl
  |l _=>cases e2
 subst e0;obtain⟨⟨av,g0⟩,e3,e4⟩:=C6 e1;dsimp only at e4;split at e4
 case isFalse=>cases e4
 split at e4
 ·obtain⟨q,e5,e6⟩:=F5 e4
  cases e6;exact h env _ _ w ds e3 h1 h2
 ·rename_i j hs
  obtain⟨w0,e5,e6⟩:=C6 e4;obtain⟨c,e7,e8⟩:=C6 e6;obtain⟨q,e9,e10⟩:=C6 e8;obtain⟨c',e11,e12⟩:=F5 e10;cases e12
  rcases M6 h1 with⟨z1,z2⟩|⟨z1,z2⟩
  ·subst z1
   exact h env _ _ w0 c e3 e5 e7
  ·exact h env _ _ w ds e3 z2 h2
 ·cases e4
def EC:D->Option Str
 |.str x=>if x.length≤1000 then some x else none
 |.int i=>if-1000000000000000000<i/\i<1000000000000000000 then some (Str.ofString (toString i))else none
 |_=>none
def Ft:List D->Option Str
 |[]=>some Str.empty
 |d::ds=>(EC d).bind fun x=>(Ft ds).map fun y=>x++y
def Nv(ms:Mo (List D)):Mo D:=fun env=>(ms env).bind fun p=>if p.1.length≤100 then(Ft p.1).map fun s=>(.str s,p.2)else none
theorem Nw{i:Int}(h: -1000000000000000000<i/\i<1000000000000000000):i.natAbs<10^18:=by omega
theorem bO{i:Int}(hi: -1000000000000000000<i/\i<1000000000000000000):i.natAbs.log2<1920:=by
 have h1:=Nw hi
 by_cases h0:i.natAbs=0
 ·rw[h0];decide
 ·exact(Nat.log2_lt h0).mpr (Qd h1 (Zr (by decide:10^18≤2^60) (Xw (by decide) (by decide))))
theorem IS(h:EC (.str x)=some y):y=x/\x.length≤1000:=by
 have h':(if x.length≤1000 then some x else none)=some y:=h
 by_cases hx:x.length≤1000
 ·rw[Qh hx]at h';cases h';exact⟨rfl,hx⟩
 ·rw[Qs hx]at h';cases h'
theorem Nx{i:Int}(h:EC (.int i)=some y):y=Str.ofString (toString i)/\(-1000000000000000000<i/\i<1000000000000000000):=by
 have h':(if-1000000000000000000<i/\i<1000000000000000000 then some (Str.ofString (toString i))else none)=some y:=h
 by_cases hx: -1000000000000000000<i/\i<1000000000000000000
 ·rw[Qh hx]at h';cases h';exact⟨rfl,hx⟩
 ·rw[Qs hx]at h';cases h'
theorem IT{d:D}(h:EC d=some x):x.length≤1000:=by
 cases d<;>first|(exact absurd (show(none:Option Str)=some x from h) (by simp))|skip
 ·obtain⟨rfl,hi⟩:=Nx h
  have:=int_text_length_le10 (k:=18) (by decide) (Nw hi)
  rw[PySem.ofString_length];omega
 ·obtain⟨rfl,hx⟩:=IS h
  exact hx
theorem Ny:∀{ds:List D}{y:Str},Ft ds=some y->y.length≤1000 * ds.length
 |[],y,h=>by cases h;exact Ux _
 |d::ds,y,h=>by
  obtain⟨x,h1,h2⟩:=C6 h;obtain⟨z,h3,h4⟩:=F5 h2;subst h4;have:=IT h1;have:=Ny h3;rw[strLen_append,Qo];omega
section
variable{pos:Pos}{vs:List Expr}
def PJ(X:Cx)(B:OA)(vs:List Expr)(ms:Mo (List D)):Prop:=∀(pins:OX) (s:Shared) (σ:St) (H:Hp) (acc:Str) (Q:Str->Hp->Prop),Inv X pins σ H s->
 (∃G env ds env' y,Rel X.K B G σ env H/\ms env=some (ds,env')/\Ft ds=some y/\acc.length+1000 * ds.length≤sizeLine/\∀G' H',Ev X.K B G σ env H G' σ env' H'->Q (acc++y) H')->
 Joins (model X.prog X.w) X.A X.xe (evalEach vs X.env) acc (fun out s1=>∃H',Inv X pins σ H' s1/\Q out H') s
theorem Nz:PJ X B [] B4:=by
 rintro pins s σ H acc Q I ⟨G,env,ds,env',y,rl,e,f,hl,k⟩;cases e;cases f;refine⟨H,I,?_⟩;have:=k G H (.refl rl);rw[Str.append_empty]at this;exact this
theorem OB{ev:Expr}(h:∀(pins:OX) (s:Shared) (σ:St) (H:Hp) (x:Str) (G:Hp) (env:b0) (d:D) (env':b0) (Q:OE),Inv X pins σ H s->Rel X.K B G σ env H->ma env=some (d,env')->EC d=some x->
   (∀t s1 G' H',Inv X pins σ H' s1->Ev X.K B G σ env H G' σ env' H'->Q (.str x t) s1)->wpAny (model X.prog X.w) X.A (eval ev X.env) Q X.xe s)(t:PJ X B vs ms):PJ X B (ev::vs) (B0 ma ms):=by
 rintro pins s σ H acc Q I ⟨G,env,ds,env',y,rl,e,f,hl,k⟩;obtain⟨⟨d1,a9⟩,e1,e2⟩:=C6 e;obtain⟨⟨ds2,g0⟩,e3,e4⟩:=F5 e2;cases e4;obtain⟨x,f1,f2⟩:=C6 f;obtain⟨z,f3,f4⟩:=F5 f2;subst f4;show wpAny _ _ (eval ev X.env) _ _ s;refine h pins s σ H x G env d1 a9 _ I rl e1 f1 fun tk s1 G1 H1 I1 j9=>⟨x,tk,rfl,?_,?_⟩
 ·have:=IT f1
  rw[Qo]at hl;dsimp only at hl;rw[strLen_append];omega
 ·refine t pins s1 σ H1 (acc++x) Q I1 ⟨G1,a9,ds2,_,z,j9.rel,e3,f3,?_,fun G2 H2 f6=>?_⟩
  ·have:=IT f1
   rw[Qo]at hl;dsimp only at hl;rw[strLen_append];omega
  ·rw[Str.append_assoc]
   exact k G2 H2 (j9.trans f6)
theorem Fu{j}(t:PJ X B vs ms):PJ X B (.Constant (.str x) j p::vs) (B0 (mC (.str x)) ms):=by
 refine OB (fun pins s σ H y G env d env' Q I rl e f k=>?_) t
 cases e;obtain⟨rfl,_⟩:=IS f;exact Calls.Constant_str (k _ _ G H (I.tok _) (.refl rl))
theorem Fv(h:ED X B e ma)(t:PJ X B vs ms):PJ X B (.FormattedValue e (-1) none p::vs) (B0 ma ms):=by
 refine OB (fun pins s σ H y G env d env' Q I rl em f k=>?_) t
 refine PyProof.Rows.FormattedValue_plain (g6 (h pins s σ H (fun v H1=>∃G1,Ev X.K B G σ env H G1 σ env' H1/\c4 X.K G1 v d) I ⟨G,env,d,env',rl,em,fun v G1 H1 ev r=>⟨G1,ev,r⟩⟩) fun u s1 ⟨x,H1,I1,rx,G1,ev,r⟩=>?_)
 cases d<;>first|(exact absurd (show(none:Option Str)=some y from f) (by simp))|skip
 ·simp only[c4]at r
  subst r;obtain⟨tk,rfl⟩:=rx;obtain⟨rfl,hi⟩:=Nx f;exact formatField_int_small (bO hi) (k _ _ G1 H1 ((I1.tok _)) ev)
 ·rename_i z
  simp only[c4]at r;obtain⟨r,hz⟩:=r;subst r;obtain⟨tk,rfl⟩:=rx;obtain⟨rfl,_⟩:=IS f;exact formatField_str (fun t' tk'=>k _ _ G1 H1 (I1.tok _) ev) hz
theorem OC{M:Model}{A:Around}{E:OE}:∀{l:List (Sem Value)}{acc:Str}{Q Q':Str->Shared->Prop}{s:Shared},Joins M A E l acc Q s->(∀x s,Q x s->Q' x s)->Joins M A E l acc Q' s
 |[],acc,Q,Q',s,h,f=>f _ _ h
 |x::l,acc,Q,Q',s,h,f=>Qe h (fun v s1 ⟨y,t,e,z,r⟩=>⟨y,t,e,z,OC r f⟩) fun _ _ e=>e
theorem OD{v1 v2:Expr}(h:PJ X B (v1::v2::vs) ms):ED X B (.JoinedStr (v1::v2::vs) pos) (Nv ms):=by
 rintro pins s σ H Q I ⟨G,env,d,env',rl,e,k⟩;obtain⟨⟨ds,a9⟩,e1,e2⟩:=C6 e;dsimp only at e2;split at e2
 case isFalse=>cases e2
 rename_i hl;obtain⟨y,e3,e4⟩:=F5 e2;cases e4;have hy:=Ny e3;have hb:1000 * ds.length≤100000:=by omega
 have hz:(100000:Nat)≤sizeLine:=by decide
 refine wpAny_JoinedStr ?_
 have:=h pins s σ H Str.empty (fun out H1=>out.length≤sizeLine/\Q (.str out) H1) I ⟨G,env,ds,env',y,rl,e1,e3,by show 0+_≤_;omega,fun G1 H1 ev=>⟨?_,?_⟩⟩
 ·exact OC this fun out s1 ⟨H1,I1,q1,q2⟩=>⟨q1,.str out,H1,I1.tok _,⟨_,rfl⟩,q2⟩
 ·rw[Str.empty_append];omega
 ·rw[Str.empty_append]
  exact k _ G1 H1 ev (by simp only[c4];exact⟨trivial,by omega⟩)
end
section
variable{g:TG}{tt:TT}{act:Addr->AG}{pos:Pos}
theorem bP(ok:nE X N' scope keep more)(hc:X.calm=true)(hN:X.N.Nodup)(hy:X.N[i]? =some y)(hyl:X.env.scope.names.lookup y=some .local)
  (hsw:swapsWith (.ListComp elt (⟨tg,iter,ifs,0⟩::gs) scope pos) (some (.Name y py)) spos.line X.env=pure true)
  (hi:PI X tg iter wi)(hg:∀s H fp,PG (J2 X N' scope s H fp) tg g)(ht:∀s H fp,V4 (J2 X N' scope s H fp) ifs tt)(he:∀s H fp p,Az (J2 X N' scope s H fp) (Y7 elt (⟨tg,iter,ifs,0⟩::gs) scope pos 0 (.ref p) (J2 X N' scope s H fp).env) (act p))
  (hs:∀x,foldedSetIterable iter X.env x=pure x:=by intro _;rfl):PS X (.Assign [.Name y py] (.ListComp elt (⟨tg,iter,ifs,0⟩::gs) scope pos) spos) (Gs (IH wi keep more g tt act) (Gr i)):=by
 intro pins s σ H D I h;rw[exec_Assign_Name_used _ _ _ _ hsw];refine Qq (Uy (Qq ?_));show wpAny _ X.A (do let _←comprehension (.ListComp elt (⟨tg,iter,ifs,0⟩::gs) scope pos) scope X.env _ (newList []) false (eval iter X.env) (some (assign (.Name y py) X.env))) _ _ s
 refine Qq (Qe (wpAny_comprehension_free (use:=some (assign (.Name y py) X.env)) (Q:=fun _ s'=>SP X pins D .next s') rfl hs ok.clos ok.kind (fun x hx hl=>by have:=ok.uniq x hx;rwa [hl]at this) (g6 (hi pins s σ H _ I h) fun v s1 h1=>g6 h1 fun itv s2 h2=>?_)) (fun _ s' hq=>Qy (Qy hq)) fun _ _ e=>e)
 obtain⟨it,fp,tn,J,H2,e,I2,T,st2,f2,run⟩:=h2;subst e;refine Nd (Qf:=fun p H'=>D.nx (σ.set i (some (.ref p))) H') (RR:=fun acc C=>compPost (model X.prog X.w) X.A X.xe (some (assign (.Name y py) X.env)) (fun _ s'=>SP X pins D .next s') acc C) ok hc hg ht he I2 T st2 f2 run ?_
 intro p C s' H' m IX qf hn hCL hCc hCn turn;refine wpAny_assign_Name (LR (v:=.ref p) (u:=.ref p) IX hN hy (.inl hyl) rfl (fun s'' I'' hs''=>?_) (.inr hyl))
 obtain⟨a,hsb,ha⟩:=hs'';have hCa:C≠a:=by
  rcases ha with z|z
  ·rw[z];exact hCL
  ·exact fun q=>hCc y a z q.symm
 exact⟨m,hn.sameBut hsb hCa,fun h' hs'=>⟨_,H',turn _ H' s'' h' I'' hCn hs',qf⟩⟩
end
section
variable{nM:Scope}{g:OZ}{t:Mo Bool}{pos:Pos}{p:Addr}
theorem IU(ok:nE X N' scope keep more)(hc:X.calm=true)(hN:X.N.Nodup)(hy:X.N[i]? =some y)(hyl:X.env.scope.names.lookup y=some .local)
  (hsw:swapsWith (.ListComp elt (⟨tg,iter,ifs,0⟩::gs) scope pos) (some (.Name y py)) spos.line X.env=pure true)
  (hi:EI X B tg iter mi)(hg:∀s H fp,EG (J2 X N' scope s H fp) B X.N.length tg g)(ht:∀s H fp,V4 (J2 X N' scope s H fp) ifs (pX X.K B t))
  (he:∀s H fp p,uZ (J2 X N' scope s H fp) B X.N.length elt (⟨tg,iter,ifs,0⟩::gs) scope pos 0 p a)
  (hs:∀x,foldedSetIterable iter X.env x=pure x:=by intro _;rfl):ES X B (.Assign [.Name y py] (.ListComp elt (⟨tg,iter,ifs,0⟩::gs) scope pos) spos) (O2 i (CG mi keep more g t a)):=by
 intro pins s σ H D I h;obtain⟨G,env,fl,env',rl,e,k⟩:=h;obtain⟨⟨d,a9⟩,e1,e2⟩:=F5 e;cases e2;exact bP (act:=tR X.K B X.N.length a) ok hc hN hy hyl hsw hi hg ht (fun s H fp p=>he s H fp p) hs pins s σ H D I (Ng ok.klen σ H _ I.len ⟨G,env,d,_,rl,e1,fun a xs G' H' ev ha no h' g' r=>k _ G' H' (ev.setOwn (fun z=>rl.old a z ha) ha no h' g' r)⟩)
end
inductive qF (X:Cx):List Expr->List Nat->Prop
 |nil:qF X [] []
 |cons {x:Str}{p:Pos}{i:Nat}{es:List Expr}{is:List Nat}:PE X (.Name x p) (V0 i)->qF X es is->qF X (.Name x p::es) (i::is)
section
open Classical in
end
section
variable{pos:Pos}{is:List Nat}{fn:Fn}{k:Nat}
end
end L2.Mir
namespace L2.Mir
open PySem PyProof PyProof.Rows L2
variable{A:Around}{B:OA}{E Q:OE}{G H:Hp}{K:Qz}{X:Cx}{b:Addr}{e:Expr}{prog:Program}{r:Nat}{s:Shared}{w:World}{x:Str}{σ:St}
variable{X:Cx}{B:OA}
def IV(i j:Int):Prop:=Builtin.Int.intBits i≤60000/\Builtin.Int.intBits j≤60000
def DE(i j:Int):Bool:=decide (Builtin.Int.intBits i≤60000)&&decide (Builtin.Int.intBits j≤60000)
def BY:=fI DE fun i j=>.int (i * j)
theorem bQ:k8 X (inplaceOp .Mult) (rI IV fun i j=>.int (i * j)):=uT fun _ _ _ _ _ _ _ hc q=>imul_int q (IntMulOk.of_le (m:=60000) (n:=60000) hc.1 hc.2 (by decide))
theorem bR:nL X B (rI IV fun i j=>.int (i * j)) BY:=Ch (fun i j h=>by simpa [IV,DE]using h) fun _ _ _ _=>by simp only[c4]
def Y8:OI->OI->Bool
 |[],[]=>false
 |[],_::_=>true
 |_::_,[]=>false
 |x::xs,y::ys=>if x=y then Y8 xs ys else HT.lexLt x y
theorem bT(x y:List Int)(xs ys:OI):Y8 (x::xs) (y::ys)=if x=y then Y8 xs ys else HT.lexLt x y:=rfl
inductive i6 (h:Heap):List Value->OI->Prop
 |nil:i6 h [] []
 |cons {a:Addr}{its:Array Value}{k:List Int}{vs:List Value}{ks:OI}(t:IsTup h a its) (i:IntsAre its.toList k) (r:i6 h vs ks):i6 h (.ref a::vs) (k::ks)
theorem i6.length{h:Heap}{vs:List Value}{ks:OI}(r:i6 h vs ks):vs.length=ks.length:=by
 induction r with
 |nil=>rfl
 |cons _ _ _ ih=>simp[ih]
theorem IW{h:Heap}:∀{vs:List Value}{ns:List Int},IntsAre vs ns->∃as,ReadsAll h vs (ns.map PyData.int) as
 |_,_,.nil=>⟨_,.nil⟩
 |_,_,.cons n t r=>by
  obtain⟨as,q⟩:=IW (h:=h) r;exact⟨_,.cons (.int n t) q⟩
theorem DF:∀ns:List Int,PyData.canLayAll0 (ns.map PyData.int)=true
 |[]=>rfl
 |n::ns=>by simp[PyData.canLayAll0,PyData.canLay0,DF ns]
theorem OF:∀ns:List Int,PyData.depthAll (ns.map PyData.int)≤1
 |[]=>by simp[PyData.depthAll]
 |n::ns=>by
  have:=OF ns;simp only[Qg,PyData.depthAll,PyData.depth]
  omega
theorem OG:∀l k:List Int,PyData.eqvAll (l.map PyData.int) (k.map PyData.int)=decide (l=k)
 |[],[]=>by simp[PyData.eqvAll]
 |[],_::_=>by simp[PyData.eqvAll]
 |_::_,[]=>by simp[PyData.eqvAll]
 |a::l,b::k=>by
  simp only[Qg,PyData.eqvAll,OG l k,PyData.eqv]
  by_cases h:a=b<;>simp[h]
theorem bU{a:Addr}{xs ys:Array Value}{l k:List Int}(ta:IsTup s.heap a xs)(ia:IntsAre xs.toList l)(tb:IsTup s.heap b ys)(ib:IntsAre ys.toList k)(hu:A.units+8<cLine):
  SeqAt.EqAt A s (.ref a) (.ref b) (decide (l=k)):=by
 obtain⟨o,h1,h2,n,h3⟩:=ta;obtain⟨o',g1,g2,n',g3⟩:=tb;obtain⟨as,ra⟩:=IW (h:=s.heap) ia;obtain⟨bs,rb⟩:=IW (h:=s.heap) ib;have c1:(PyData.tuple (l.map .int)).canLay0=true:=by simpa [PyData.canLay0]using DF l
 have c2:(PyData.tuple (k.map .int)).canLay0=true:=by simpa [PyData.canLay0]using DF k
 have d1:(PyData.tuple (l.map .int)).depth≤2:=by
  have:=OF l;simp only[PyData.depth];omega
 have:=SeqAt.eqAt_reads (.tuple (l.map .int)) (.tuple (k.map .int)) A s (.ref a) (.ref b) _ _ (.tuple h1 h2 h3 ra) (.tuple g1 g2 g3 rb) c1 c2 (by
  have:min (PyData.tuple (l.map .int)).depth (PyData.tuple (k.map .int)).depth≤(PyData.tuple (l.map .int)).depth:=Nat.min_le_left _ _
  omega)
 have e:PyData.eqv (.tuple (l.map .int)) (.tuple (k.map .int))=decide (l=k):=by
  rw[←OG l k];simp[PyData.eqv]
 rw[e]at this;exact this
section
open PySem.SeqAt
open PySem.AutoSeq1 (wpAny_loadPart')
open PySem.MeetsSeq PySem.MeetsSeq2 PySem.MeetsSeq3
theorem bV(l b:Addr)(items items2:Array Value)(n n2:Nat)(dd dd2:Option Addr)(sl sl2:Array (Option Value))(ns ms:OI):
  Meets (Builtin.«tuple.__lt__» ⟨[.ref l,.ref b],[]⟩)
   (fun A R s=>A.units+16<cLine/\i6 s.heap items.toList ns/\i6 s.heap items2.toList ms/\s.heap.get? l=some {cls:=.type "tuple",dict:=dd,data:=.seq items n,slots:=sl}/\s.heap.get? b=some {cls:=.type "tuple",dict:=dd2,data:=.seq items2 n2,slots:=sl2}/\
    R (.ok (.ret (.bool (Y8 ns ms)))) s):=
 .of_wp fun prog w A R s h=>by
  obtain⟨hp,g,d,tk,os⟩:=s;obtain⟨hu,hi,hj,hl,hb,h⟩:=h;have f2:=AutoSeq1.sub_tuple_tuple;have z1:items.size=ns.length:=by rw[←hi.length];simp
  have z2:items2.size=ms.length:=by rw[←hj.length];simp
  wp_walk using Yk hl,Yk hb,wpAny_forIn_list _ (fun rest b s'=>b.1=none/\s'=⟨hp,g,d,tk,os⟩/\∃(vs ws:List Value) (ns' ms':OI),rest=vs.zip ws/\
   i6 hp vs ns'/\i6 hp ws ms'/\ns'.length+items2.size=ms'.length+items.size/\R (.ok (.ret (.bool (Y8 ns' ms')))) ⟨hp,g,d,tk,os⟩) _
  case turn=>
   rintro⟨y,x⟩ rest b s' ⟨hb',rfl,vs,ws,ns',ms',hz,hvi,hwi,hlen,hR⟩;cases hvi with
   |nil=>rw[List.zip_nil_left]at hz;cases hz
   |@cons a its k vs ks ta ia hvi'=>
    cases hwi with
    |nil=>rw[List.zip_nil_right]at hz;cases hz
    |@cons a' its' k' ws ks' tb ib hwi'=>
     rw[Js]at hz;injection hz with hyx hrest
     injection hyx with hy hx
     subst hy hx;rw[bT]at hR;simp only[Qo]at hlen;have he:=bU (A:=A.in1) (s:=⟨hp,g,d,tk,os⟩) ta ia tb ib (by show A.units+1+8<cLine;omega)
     refine Qq (he prog w _ _ ?_)
     by_cases e:k=k'
     ·rw[Qh e]at hR
      rw[Yc e]
      wp_walk
      exact⟨rfl,rfl,_,_,_,_,hrest,hvi',hwi',by omega,hR⟩
     ·rw[Qs e]at hR
      rw[Zj e];have hri:∀(E:OE) (Q:OE),Q (.bool (HT.lexLt k k')) ⟨hp,g,d,tk,os⟩->wpAny (model prog w) A.in1 (richCompare .Lt (.ref a) (.ref a')) Q E ⟨hp,g,d,tk,os⟩:=fun E Q hq=>
       (HT.pJ ta tb ia ib (by show A.units+1<cLine;omega) hq:wpAny (model prog w) A.in1 (compareOp .Lt (.ref a) (.ref a')) Q E ⟨hp,g,d,tk,os⟩)
      wp_walk using hri
      exact⟨_,rfl,by simpa using hR⟩
  case fin=>
   rintro⟨b1,b2⟩ s' ⟨hb',rfl,vs,ws,ns',ms',hz,hvi,hwi,hlen,hR⟩;simp only at hb';subst hb';have hv:Y8 ns' ms'=decide (items.size<items2.size):=by
    cases hvi with
    |nil=>
     cases hwi with
     |nil=>
      simp only[Jj]at hlen;show false=_;exact(Zj (by omega)).symm
     |cons _ _ hw=>
      simp only[Jj,Qo]at hlen;show true=_;exact(Yc (by omega)).symm
    |cons _ _ hv=>
     cases hwi with
     |nil=>
      simp only[Jj,Qo]at hlen;show false=_;exact(Zj (by omega)).symm
     |cons _ _ hw=>
      rw[Js]at hz;cases hz
   rw[hv]at hR
   wp_walk
   exact⟨_,rfl,by simpa [Builtin.Tuple.tupleCompareSizes]using hR⟩
  case h=>
   exact⟨rfl,rfl,items.toList,items2.toList,ns,ms,rfl,hi,hj,by omega,h⟩
end
theorem bW{l:Addr}{items items2:Array Value}{ns ms:OI}(hl:IsTup s.heap l items)(hb:IsTup s.heap b items2)(hi:i6 s.heap items.toList ns)(hj:i6 s.heap items2.toList ms)
  (hu:A.units+64<cLine)(h:Q (.bool (Y8 ns ms)) s):wpAny (model prog w) A (compareOp .Lt (.ref l) (.ref b)) Q E s:=by
 obtain⟨⟨cls,dd,data,sl⟩,ho,hc,n,hd⟩:=id hl;obtain⟨⟨cls2,dd2,data2,sl2⟩,ho2,hc2,n2,hd2⟩:=id hb;simp only at hc hd hc2 hd2;subst hc hd hc2 hd2;exact richCompare_meets_room (op:=.Lt) ⟨_,ho,rfl⟩ ⟨_,ho2,rfl⟩ PySem.F.slot_tuple_lt PySem.F.entry_tuple_lt (PySem.F.args_tuple_lt_2 _ _) (bV l b items items2 n n2 dd dd2 sl sl2 ns ms)
  ⟨by omega,hi,hj,ho,ho2,show Value.bool (Y8 ns ms)≠Value.notImplemented/\Q (.bool (Y8 ns ms)) s from⟨(fun x=>nomatch x),h⟩⟩ (by omega)
def oE:List D->Option (OI)
 |[]=>some []
 |.tup x::r=>(i4 x).bind fun a=>(oE r).map fun l=>a::l
 |_::_=>none
section
variable{pins:OX}
theorem Fw(I:Inv X pins σ H s)(l:Le G H):∀{ds:List D}{xs:List V}{us:List Value}{ks:OI},D4 xs us->C4 X.K G xs ds->oE ds=some ks->i6 s.heap us ks
 |[],_,_,_,v,r,e=>by
  simp only[C4]at r;subst r;cases v;cases e;exact .nil
 |d::ds,_,_,ks,v,r,e=>by
  simp only[C4]at r;obtain⟨x,t,rfl,q,r⟩:=r;cases d<;>first|(exact absurd (show(none:Option (OI))=some ks from e) (by simp))|skip
  rename_i es;obtain⟨k,e1,e2⟩:=C6 (show(i4 es).bind _=some ks from e)
  obtain⟨l',e3,e4⟩:=F5 e2;subst e4;simp only[c4]at q;obtain⟨a,ys,rfl,hq,rp⟩:=q;have hy:=AX rp e1;subst hy;cases v with
  |cons v1 v2=>
   cases v1;obtain⟨its,rv,p1,_⟩:=I.tuple (l.sqT hq);exact .cons p1 (by simpa using Bn rv) (Fw I l v2 r e3)
def Fx(K:Qz):R2:=fun x y H Q=>∃G as bs ns ms,Le G H/\c4 K G x (.tup as)/\c4 K G y (.tup bs)/\oE as=some ns/\oE bs=some ms/\Q (.bl (Y8 ns ms)) H
theorem bY(hu:X.A.units+64<cLine):k8 X (compareOp .Lt) (Fx X.K):=by
 intro pins s σ H x y v u Q I rx ry h;obtain⟨G,as,bs,ns,ms,l,ra,rb,ha,hb,q⟩:=h;simp only[c4]at ra rb;obtain⟨a,xs,rfl,qa,pa⟩:=ra;obtain⟨b,ys,rfl,qb,pb⟩:=rb;cases rx;cases ry;obtain⟨its,r1,p1,_⟩:=I.tuple (l.sqT qa);obtain⟨its2,r2,p2,_⟩:=I.tuple (l.sqT qb);exact bW p1 p2 (by simpa using Fw I l r1 pa ha) (by simpa using Fw I l r2 pb hb) hu ⟨.bl (Y8 ns ms),H,I,rfl,q⟩
def Fy:D->D->Option D
 |.tup as,.tup bs=>(i4 as).bind fun ns=>(i4 bs).map fun ms=>.bl (HT.lexLt ns ms)
 |_,_=>none
def IY:D->D->Option D
 |.tup as,.tup bs=>(oE as).bind fun ns=>(oE bs).map fun ms=>.bl (Y8 ns ms)
 |_,_=>none
def AI:=sV tG (sV Fy IY)
theorem bZ:nL X B (FB X.K) Fy:=by
 intro G σ env H x y a b d Q rl ra rb e k;cases a<;>cases b<;>first|(exact absurd (show(none:Option D)=some d from e) (by simp))|skip
 rename_i as bs;obtain⟨ns,e1,e2⟩:=C6 (show(i4 as).bind _=some d from e)
 obtain⟨ms,e3,e4⟩:=F5 e2;subst e4;simp only[c4]at ra rb;obtain⟨p,xs,rfl,qa,pa⟩:=ra;obtain⟨p',ys,rfl,qb,pb⟩:=rb;have hx:=AX pa e1;have hy:=AX pb e3;subst hx hy;exact⟨p,p',ns,ms,rfl,rfl,rl.sub.sqT qa,rl.sub.sqT qb,k _ G H (.refl rl) (by simp only[c4])⟩
theorem cA:nL X B (Fx X.K) IY:=by
 intro G σ env H x y a b d Q rl ra rb e k;cases a<;>cases b<;>first|(exact absurd (show(none:Option D)=some d from e) (by simp))|skip
 rename_i as bs;obtain⟨ns,e1,e2⟩:=C6 (show(oE as).bind _=some d from e)
 obtain⟨ms,e3,e4⟩:=F5 e2;subst e4;exact⟨G,as,bs,ns,ms,rl.sub,ra,rb,e1,e3,k _ G H (.refl rl) (by simp only[c4])⟩
theorem OH(hu:X.A.units+64<cLine):k8 X (compareOp .Lt) (fun x y H Q=>p7 (fun i j=>.bl (decide (i<j))) x y H Q\/(FB X.K x y H Q\/Fx X.K x y H Q)):=k8.or Lk (k8.or (VC (by omega)) (bY hu))
theorem cB:nL X B (fun x y H Q=>p7 (fun i j=>.bl (decide (i<j))) x y H Q\/(FB X.K x y H Q\/Fx X.K x y H Q)) AI:=MQ.or (bZ.or cA)
end
def IZ(i j:Int):Prop:=0<j/\Builtin.divisionGoesByPylong i j=false
def Fz(i j:Int):Bool:=decide (0<j)&&!Builtin.divisionGoesByPylong i j
def Ia:=fI Fz fun i j=>.int (i/j)
theorem cC:k8 X (binaryOp .FloorDiv) (rI IZ fun i j=>.int (i/j)):=uT fun i j _ _ _ _ _ hc q=>by
 have h1:(0:Int)<j:=hc.1
 exact floordiv_int (by omega) (by rw[Int.fdiv_eq_ediv_of_nonneg i (by omega)];exact q) (.inl hc.2)
theorem cE:nL X B (rI IZ fun i j=>.int (i/j)) Ia:=Ch (fun i j h=>by simpa [IZ,Fz]using h) fun _ _ _ _=>by simp only[c4]
section
variable{st:Expr}{ma:Mo D}{pos p2:Pos}
end
section
theorem cF{p:Addr}{its:List Value}{ns:List Int}(hh:A.handled=none)(hl:IsTup s.heap p its.toArray)(hi:IntsAre its ns)
  (q:∀h' tk t',(∀b o,s.heap.get? b=some o->h'.get? b=some o)->Q (.int ns.sum t') {s with heap:=h',toks:=tk}):wpAny (model prog w) A (call (.builtin "sum") [.ref p]) Q E s:=by
 have hl:s.heap.IsTuple p its.toArray:=hl
 have hlt:p<s.heap.objs.size:=by obtain⟨_,e,_⟩:=hl;exact Qu e
 refine call_sum_walkG (Ub hl ?_);refine⟨s.heap.objs.size,[s.heap.objs.size,p],[s.heap.objs.size],its.toArray.size,_,_,fun i=>ns.getD i 0,rfl,Walks.tuple (A:=A.in1) hh _ p (Qi hlt) its.toArray,
  ⟨⟨_,Qn _ rfl,rfl,rfl⟩,hl.push _⟩,fun b hb=>?_,fun i v hP=>Cv hi i v (by simpa using hP),fun h' tk t' hk'=>?_⟩
 ·have hs:=Qu (Qn s.heap (o:={cls:=.type "tuple_iterator",data:=.fields #[.ref p,.int 0 0]}) rfl)
  rcases Ql.mp hb with rfl|hb
  ·exact hs
  ·rcases Ql.mp hb with rfl|hb
   ·exact Uv hlt hs
   ·cases hb
 ·rw[Qb,hi.length,Vk,Vh (Qm _)]
  exact q h' tk t' (Vl hk')
variable{h₀:Heap}{L kS D:Addr}{m:OU}{news0:OX}{e1:Nat}{Fin:List Value->Nat->Shared->Prop}
theorem OJ{n:Int}{t:Tok}:∀{vs:List Value}{ns:List Int},IntsAre vs ns->IntsAre (vs++[.int n t]) (ns++[n])
 |_,_,.nil=>.cons n t .nil
 |_,_,.cons a u r=>.cons a u (OJ r)
end
section
variable{pins:OX}
def Ib:List (Str×Value):=[(Str.ofString "key",.builtin "sum"),(Str.ofString "reverse",.bool true)]
end
section
variable{ma:Mo D}{p p1 kp1 kp2 pos:Pos}{j:Nat}{p2:Pos}
end
section
open PySem.SeqAt
open PySem.AutoSeq1 (wpAny_loadPart')
open PySem.MeetsSeq PySem.MeetsSeq2 PySem.MeetsSeq3
end
section
variable{pos:Pos}{o:Expr}{ma mb:Mo D}
end
section
variable{H0 G':Hp}{σ':St}{env env':b0}{H':Hp}
end
section
variable(K:Qz)(B:OA)(r:Nat)
end
section
variable{a b:Expr}{pos:Pos}{st:Stmt}{rest:List Stmt}
end
section
variable{a b tg:Expr}{pos:Pos}{st:Stmt}{rest:List Stmt}
end
mutual
def D.lf:D->Bool
 |.non=>true
 |.bl _=>true
 |.int _=>true
 |.str _=>true
 |.tup ds=>vK ds
 |_=>false
def vK:List D->Bool
 |[]=>true
 |d::ds=>d.lf&&vK ds
end
section
variable{G':Hp}
mutual
theorem uM(h:∀b xs,G b=some (.tup xs)->G' b=some (.tup xs)):∀(d:D) {v:V},d.lf=true->c4 K G v d->c4 K G' v d
 |.non,v,_,r=>by simpa only[c4]using r
 |.bl b,v,_,r=>by simpa only[c4]using r
 |.int i,v,_,r=>by simpa only[c4]using r
 |.str x,v,_,r=>by simpa only[c4]using r
 |.tup ds,v,l,r=>by
  simp only[c4]at r ⊢;obtain⟨a,xs,e,q,t⟩:=r;exact⟨a,xs,e,q.imp (fun e=>h _ _ e) id,rJ h ds (by simpa only[D.lf]using l) t⟩
 |.lst ds,v,l,r=>by simp[D.lf]at l
 |.emp,v,l,r=>by simp[D.lf]at l
 |.obj o,v,l,r=>by simp[D.lf]at l
 |.dct _ _,v,l,r=>by simp[D.lf]at l
theorem rJ(h:∀b xs,G b=some (.tup xs)->G' b=some (.tup xs)):∀(ds:List D) {xs:List V},vK ds=true->C4 K G xs ds->C4 K G' xs ds
 |[],_,_,r=>by simpa only[C4]using r
 |d::ds,_,l,r=>by
  simp only[C4]at r ⊢;obtain⟨x,t,e,q,u⟩:=r;have l':d.lf=true/\vK ds=true:=by simpa only[vK,Qw]using l
  exact⟨x,t,e,uM h d l'.1 q,rJ h ds l'.2 u⟩
end
end
section
variable{H0:Hp}{env:b0}
end
section
variable{pos p px:Pos}{fn:Fn}{k n:Nat}{y:Str}
end
section
variable{G1:Hp}{σ1:St}{env a9:b0}{H1:Hp}
end
section
variable{N':List Str}{scope:Scope}{keep:List Bool}{more:Nat}{tg iter elt:Expr}{g:OZ}{ml mi:Mo (List D)}{pos:Pos}
end
section
variable{ma:Mo D}{pos p2:Pos}
end
open PySem.W Builtin Builtin.ObjectAttr Builtin.Getset_descriptor PySem.Calls
theorem xX:typeLookup (.type "function") "__getattribute__"=pure (some (.builtin "object.__getattribute__")):=by rfl
theorem uX:getOf (some (.builtin "object.__class__"))=pure (some (.builtin "getset_descriptor.__get__")):=by rfl
section
variable{x:Addr}{h:Heap}{g:Array GenState}{d:Drawn}{t:Nat}{os:OsState}
end
def u0(K:Qz)(mg:OU)(x:Str):Prop:=∃f,PySem.W.nsIn K mainGlobals x=some (some (.ref f))/\mg x=some (.ref f)/\PySem.W.KitX K (.ref f) (.type "function") (fun _=>True)
section
variable{es:List Expr}{p pos:Pos}{y:Str}{i k n:Nat}{as:Mo (List Ar)}
def EE(X:Cx)(n:Nat)(l:List (Str×Fn)):Prop:=∀nm fn,l.lookup nm=some fn->∃k,f9 k X.A/\Def X.prog X.w X.K X.mg X.base nm k n fn/\u0 X.K X.mg nm
def EF(X:Cx)(n:Nat)(l:List (Str×(List W->Option Str))):Prop:=∀nm g,l.lookup nm=some g->∃k,f9 k X.A/\qC X.prog X.w X.K X.mg X.base nm k n g/\u0 X.K X.mg nm
theorem cG{fn:Fn}{l:List (Str×Fn)}(hr:f9 k X.A)(d:Def X.prog X.w X.K X.mg X.base x k n fn)(hn:u0 X.K X.mg x)(h:EE X n l):EE X n ((x,fn)::l):=fun nm fn' e=>by
 rw[Tj]at e;split at e
 ·rename_i hb
  cases e;have:nm=x:=Vq hb;subst this;exact⟨k,hr,d,hn⟩
 ·exact h nm fn' e
theorem cH{g:List W->Option Str}{l:List (Str×(List W->Option Str))}(hr:f9 k X.A)(d:qC X.prog X.w X.K X.mg X.base x k n g)(hn:u0 X.K X.mg x)(h:EF X n l):EF X n ((x,g)::l):=fun nm fn' e=>by
 rw[Tj]at e;split at e
 ·rename_i hb
  cases e;have:nm=x:=Vq hb;subst this;exact⟨k,hr,d,hn⟩
 ·exact h nm fn' e
end
inductive qG (K:Qz) (G:Hp):List V->List (List Int×V)->Prop
 |nil:qG K G [] []
 |cons {q b:Addr}{k:List Int}{v:V}{xs:List V}{ps:List (List Int×V)}:sT K G q [.ref b,v]->DB K G b k->qG K G xs ps->qG K G (.ref q::xs) ((k,v)::ps)
section
variable{pins:OX}{R:Result->Shared->Prop}{l it d:Addr}{xs:List V}
end
end L2.Mir
namespace L2.Mir
open PySem PySem.Spec PyProof.Rows PySem.W
variable{B:OA}{X:Cx}{arr:Array Nat}{base c hint i j k key lo n:Nat}{e tg:Expr}{left:Bool}{m ma mb:Mo D}{p:Pos}{s:Shared}{vs:List Value}{x y:Str}{α:Type}
structure zL(P:Program)(w:World)(K:Frag)(mg:OU)(base:Heap)(x:Str)(k n:Nat)(fn:Fn)(ts:List Addr):Prop where
 ex:∃(f:Addr) (fd:FuncData) (ps:List Str),d9 P w K mg base j7 k f fd ps (uL K ts n fn)/\ps.length=n/\mg x=some (.ref f)/\keepIn K (.ref f)=true/\Q6 K fd ps []
section
variable{pos:Pos}{es:List Expr}{as:Mo (List Ar)}{fn:Fn}{ts:List Addr}{f:Addr}{fd:FuncData}{ps:List Str}{t:TA}{E:XK}
end
theorem J3{N P:List Str}{sc:Scope}(a:sc.kind=.function:=by rfl)(b:sc.isCoroutine=false:=by rfl)(c:sc.isGenerator=false:=by rfl)(d:N.Nodup:=by rfl')(e:N.take P.length=P:=by rfl)(f:∀x∈P,sc.names.lookup x=some .local\/sc.names.lookup x=some .cell:=by rfl')(g:∀y∈sc.names,y.2≠.free:=by rfl'):c8 N P sc:=⟨a,b,c,d,e,f,g⟩
theorem pY{M:List α->Prop}(h:∀a,M [a]):∀us:List α,us.length=1->M us
 |[a],_=>h a
theorem rK{M:List α->Prop}(h:∀a b,M [a,b]):∀us:List α,us.length=2->M us
 |[a,b],_=>h a b
theorem vZ{M:List α->Prop}(h:∀a b c,M [a,b,c]):∀us:List α,us.length=3->M us
 |[a,b,c],_=>h a b c
theorem zM{M:List α->Prop}(h:∀a b c d,M [a,b,c,d]):∀us:List α,us.length=4->M us
 |[a,b,c,d],_=>h a b c d
section
variable{pos:Pos}{o:Expr}
end
section
variable{pos:Pos}{o:Expr}
end
section
variable{pos:Pos}{e2:Expr}
end
def yC:List (Key×Key)->Key->Option Key
 |[],_=>none
 |p::l,k=>if p.1=k then some p.2 else yC l k
structure DkG(P:Program)(w:World)(K:Qz)(mg:OU)(x:Str)(kvs:List (Key×Key)):Prop where
 ex:∃a,mg x=some (.ref a)/\(a==sysModules)=false/\∀h:Heap,K.In h->(∃o,h.get? a=some o/\o.cls=.type "dict")/\∃g:Key->Option Value,h.MapOf (Q4 P w) a g/\∀k,AN ((yC kvs k).map kV) (g k)
section
variable{pos:Pos}{a b:Expr}{kvs:List (Key×Key)}
end
section
variable{pos:Pos}{k1 k2 k3 v1 v2 v3:Expr}{a1 a2 a3 b1 b2 b3:Key}
end
inductive uN (P:Program) (w:World):List DictEntry->List (Key×Key)->Prop
 |nil:uN P w [] []
 |cons {e:DictEntry}{p:Key×Key}{es:List DictEntry}{kvs:List (Key×Key)}:E3 (kV p.1) e.key->e.hash=(Q4 P w).hash p.1->E3 (kV p.2) e.val->uN P w es kvs->uN P w (e::es) (p::kvs)
section
variable{a b st:Expr}{pos p2:Pos}
end
def yD:List (Str×Str)->Key->Option Str
 |[],_=>none
 |p::l,k=>if(.inr p.1:Key)=k then some p.2 else yD l k
def cI(mg:OU):Option Str->Option Value->Prop
 |none,o=>o=none
 |some n,o=>∃f,mg n=some (.ref f)/\o=some (.ref f)
structure DfG(P:Program)(w:World)(K:Qz)(mg:OU)(x:Str)(kvs:List (Str×Str)):Prop where
 ex:∃a,mg x=some (.ref a)/\(a==sysModules)=false/\∀h:Heap,K.In h->(∃o,h.get? a=some o/\o.cls=.type "dict")/\∃g:Key->Option Value,h.MapOf (Q4 P w) a g/\∀k,cI mg (yD kvs k) (g k)
 wk:(kvs.map fun p=>(.inr p.1:Key)).Nodup->∃a vs ep,mg x=some (.ref a)/\(a==sysModules)=false/\vs.map (·.1)=kvs.map (fun p=>(.inr p.1:Key))/\∀h:Heap,K.In h->h.DictAt (Q4 P w) a vs ep
section
variable{pos:Pos}{a b:Expr}{kvs:List (Str×Str)}
end
inductive uO (P:Program) (w:World) (mg:OU):List DictEntry->List (Str×Str)->Prop
 |nil:uO P w mg [] []
 |cons {e:DictEntry}{p:Str×Str}{f:Addr}{es:List DictEntry}{kvs:List (Str×Str)}:E3 (.str p.1) e.key->e.hash=(Q4 P w).hash (.inr p.1)->e.val=.ref f->mg p.2=some (.ref f)->uO P w mg es kvs->uO P w mg (e::es) (p::kvs)
section
variable{K:Qz}{G G':Hp}{σ σ':St}{env env':b0}{H H':Hp}
end
section
variable{pos:Pos}{k1 k2 k3 k4 v1 v2 v3 v4:Expr}{a1 a2 a3 a4:Str}{m1 m2 m3 m4:Mo D}
end
section
variable{pos:Pos}{fn:Fn}
end
section
variable{kvs:List (Str×Str)}
end
section
variable{prog:Program}{w:World}{A:Around}{R:Result->Shared->Prop}{I S:Addr}{fp wr:List Addr}{P:Nat->Value->Prop}{St:Nat->Heap->Prop}{bt:Nat->Nat->Bool}{Z:Heap->Prop}
end
section
variable{pos p1:Pos}{e2:Expr}{fn:Fn}
end
section
variable{prog:Program}{w:World}{A:Around}{fin:Bool}{Q:Bool->Shared->Prop}
end
section
variable{pins:OX}{σ:St}{G H:Hp}
end
theorem Ic{g:OZ}{t:Mo Bool}{m:Mo D}:∀{ds:List D}{env e:b0}{r:List D},N1 g t m ds env=some (r,e)->AH g t (X1 m) ds env=some (r,e)/\r.length≤ds.length
 |[],env,e,r,h=>by cases h;exact⟨rfl,Qm _⟩
 |d::ds,env,e,r,h=>by
  obtain⟨e1,h1,h⟩:=C6 h;obtain⟨⟨b,e2⟩,h2,h⟩:=C6 h;have goal:∀z,((g d env).bind fun e1=>(t e1).bind fun p=>if p.1 then(X1 m p.2).bind fun q'=>(AH g t (X1 m) ds q'.2).map fun r=>(q'.1++r.1,r.2)else AH g t (X1 m) ds p.2)=z->AH g t (X1 m) (d::ds) env=z:=fun z h=>h
  cases b with
  |false=>
   obtain⟨a1,a2⟩:=Ic (show N1 g t m ds e2=some (r,e)from h)
   exact⟨goal _ (by rw[h1,Qj,h2];exact a1),Xe a2⟩
  |true=>
   obtain⟨⟨x,e3⟩,h3,h⟩:=C6 (show(m e2).bind (fun q=>(N1 g t m ds q.2).map fun r=>(q.1::r.1,r.2))=some (r,e)from h)
   obtain⟨⟨r',e4⟩,h4,h5⟩:=F5 h;cases h5;obtain⟨a1,a2⟩:=Ic h4;refine⟨goal _ ?_,Nat.succ_le_succ a2⟩;have he:X1 m e2=some ([x],e3):=by
    show(m e2).map _=_;rw[h3]
    rfl
   rw[h1,Qj,h2];show(X1 m e2).bind _=_;rw[he];show(AH g t (X1 m) ds e3).map _=_;rw[a1]
   rfl
theorem OK{mi:Mo (List D)}{keep:List Bool}{more:Nat}{g:OZ}{t:Mo Bool}{env:b0}{x:List D×b0}(h:D8 mi keep more g t m env=some x):CG mi keep more g t (X1 m) env=some x:=by
 obtain⟨p,h1,h⟩:=C6 h;split at h
 case isFalse=>cases h
 rename_i hl;obtain⟨⟨r,e⟩,h2,h3⟩:=C6 h;obtain⟨a1,a2⟩:=Ic h2;unfold CG;rw[h1,Qj,a1,Qj,Qh (Zr a2 hl)];exact h3
section
variable{N':List Str}{scope:Scope}{keep:List Bool}{more:Nat}{iter elt:Expr}{ifs:List Expr}{g:OZ}{t:Mo Bool}{mi:Mo (List D)}{pos:Pos}
theorem L8(ok:nE X N' scope keep more)(hc:X.calm=true)(hi:EI X B tg iter mi)(hg:∀s H fp,EG (J2 X N' scope s H fp) B X.N.length tg g)(ht:∀s H fp,V4 (J2 X N' scope s H fp) ifs (pX X.K B t))(he:∀s H fp,ED (J2 X N' scope s H fp) B elt m)
  (hs:∀x,foldedSetIterable iter X.env x=pure x:=by intro _;rfl):EL X B (.ListComp elt [⟨tg,iter,ifs,0⟩] scope pos) (D8 mi keep more g t m):=
 d7 (aX ok hc hi hg ht (fun s H fp p=>Fk rfl (he s H fp)) hs) fun σ H Q ⟨G,env,d,env',rl,e,k⟩=>⟨G,env,d,env',rl,OK e,k⟩
theorem Ie{py spos:Pos}(ok:nE X N' scope keep more)(hc:X.calm=true)(hN:X.N.Nodup)(hy:X.N[i]? =some y)(hyl:X.env.scope.names.lookup y=some .local)
  (hsw:swapsWith (.ListComp elt [⟨tg,iter,ifs,0⟩] scope pos) (some (.Name y py)) spos.line X.env=pure true)
  (hi:EI X B tg iter mi)(hg:∀s H fp,EG (J2 X N' scope s H fp) B X.N.length tg g)(ht:∀s H fp,V4 (J2 X N' scope s H fp) ifs (pX X.K B t))(he:∀s H fp,ED (J2 X N' scope s H fp) B elt m)
  (hs:∀x,foldedSetIterable iter X.env x=pure x:=by intro _;rfl):ES X B (.Assign [.Name y py] (.ListComp elt [⟨tg,iter,ifs,0⟩] scope pos) spos) (O2 i (D8 mi keep more g t m)):=by
 refine j2 (IU (i:=i) ok hc hN hy hyl hsw hi hg ht (fun s H fp p=>Fk rfl (he s H fp)) hs) ?_
 rintro D σ H ⟨G,env,fl,env',rl,e,k⟩;obtain⟨⟨d,a9⟩,e1,e2⟩:=F5 e;cases e2;refine⟨G,env,.nx,a9.set i (.own d),rl,?_,k⟩;show(CG mi keep more g t (X1 m) env).map _=_;rw[OK e1]
 rfl
end
theorem mV{fn:Fn}{l:List (Str×Fn)}(d:Def X.prog X.w X.K X.mg X.base x k n fn)(hn:u0 X.K X.mg x)(hr:f9 k X.A)(h:EE X n l):EE X n ((x,fn)::l):=cG hr d hn h
theorem mW{g:List W->Option Str}{l:List (Str×(List W->Option Str))}(d:qC X.prog X.w X.K X.mg X.base x k n g)(hn:u0 X.K X.mg x)(hr:f9 k X.A)(h:EF X n l):EF X n ((x,g)::l):=cH hr d hn h
structure PS where
 a:Array Nat
 pd:Array (Nat×Nat×Nat)
 mg:Nat
variable{S1:PS}
def Ig:Bool->Keyed->Array Keyed->Nat->Nat->Nat->StateT SortSt Sem (Option Nat):=sortPriv%PySem.Builtin.gallop
def zN:Nat->StateT SortSt Sem Unit:=sortPriv%PySem.Builtin.setMinGallop
def zO:Array Keyed->Array Keyed->StateT SortSt Sem (Array Keyed):=sortPriv%PySem.Builtin.mergeLo
structure Lt where
 N:Nat
 lt:Nat->Nat->Bool
structure Sx where
 prog:Program
 w:World
 A:Around
 E:OE
 s:Shared
 κ:SortKind
 it:Nat->Keyed
 L:Lt
 ok:∀i j (C:Bool->Shared->Prop),i<L.N->j<L.N->C (L.lt i j) s->wpAny (model prog w) A (keyLt' κ (it i).1 (it j).1) C (fun _ _=>False) s
variable{Y:Sx}{α β γ δ:Type}
abbrev Sx.st(Y:Sx)(S:PS):SortSt:=SortSt.mk' Y.κ (S.a.map Y.it) S.pd S.mg none
def At(Y:Sx)(enc:β->α)(m:StateT SortSt Sem α)(S:PS)(o:Option (β×PS)):Prop:=
 ∀r S',o=some (r,S')->∀Q:α->SortSt->Shared->Prop,Q (enc r) (Y.st S') Y.s->kasC (model Y.prog Y.w) Y.A Y.E m Q (Y.st S) Y.s
theorem BZ{enc:β->α}{m:StateT SortSt Sem α}{S:PS}:At Y enc m S none:=fun _ _ h=>nomatch h
theorem F3{enc:β->α}{v:α}{b:β}{S:PS}(h:v=enc b):At Y enc (pure v) S (some (b,S)):=by
 intro r S' e Q q;cases e;rw[h];exact kasC_pure q
theorem F4{e1:β->α}{e2:δ->γ}{m:StateT SortSt Sem α}{k:α->StateT SortSt Sem γ}{S:PS}{o:Option (β×PS)}{g:β×PS->Option (δ×PS)}(h:At Y e1 m S o)(hk:∀b S',At Y e2 (k (e1 b)) S' (g (b,S'))):
  At Y e2 (m>>=k) S (o.bind g):=by
 intro r S' e Q q;obtain⟨⟨b,S1⟩,h1,h2⟩:=C6 e;exact Uh (h b S1 h1 _ (hk b S1 r S' h2 Q q))
theorem J8{enc:β->α}{c:Prop}[Decidable c]{m n:StateT SortSt Sem α}{S:PS}{o p:Option (β×PS)}(h1:c->At Y enc m S o)(h2:¬ c->At Y enc n S p):At Y enc (if c then m else n) S (if c then o else p):=by
 by_cases h:c
 ·rw[Qh h,Qh h];exact h1 h
 ·rw[Qs h,Qs h];exact h2 h
theorem OL{a:Array Nat}{S:PS}:At Y Y.it (elem' (a.map Y.it) i) S (a[i]?.map fun x=>(x,S)):=by
 intro r S' e Q q;obtain⟨x,h1,h2⟩:=F5 e;cases h2;rw[elem'_eq,Xn,h1];exact kasC_pure q
theorem GA{S:PS}:At Y some (lt' (Y.it i) (Y.it j)) S (if i<Y.L.N/\j<Y.L.N then some (Y.L.lt i j,S)else none):=by
 intro r S' e Q q;split at e
 ·rename_i h
  cases e;rw[lt'_eq];refine Uh (kasC_get ?_);refine Uh (kasC_lift (Xl (Qe (Y.ok i j (fun b s'=>b=Y.L.lt i j/\s'=Y.s) h.1 h.2 ⟨rfl,rfl⟩) (fun c s' hc=>?_) fun _ _ hF=>hF.elim)))
  obtain⟨rfl,rfl⟩:=hc;exact kasC_pure q
 ·cases e
def v7(Y:Lt)(i j:Nat)(S:PS):Option (Bool×PS):=if i<Y.N/\j<Y.N then some (Y.lt i j,S)else none
def DG(Y:Lt)(i j:Nat)(S:PS):Option (Bool×PS):=S.a[i]?.bind fun x=>S.a[j]?.bind fun y=>v7 Y x y S
theorem EH{S:PS}:At Y some (ltAt' i j) S (DG Y.L i j S):=by
 intro r S' e Q q;obtain⟨x,h1,e⟩:=C6 e;obtain⟨y,h2,e⟩:=C6 e;rw[ltAt'_eq];refine Uh (kasC_get ?_);show kasC _ _ _ (do let x←elem' (S.a.map Y.it) i;let y←elem' (S.a.map Y.it) j;lt' x y) Q _ _
 rw[elem'_eq,elem'_eq,Xn,Xn,h1,h2];exact Uh (kasC_pure (Uh (kasC_pure (GA r S' e Q q))))
theorem EJ{enc:β->α}{x:String}{k:Unit->StateT SortSt Sem α}{S:PS}{o:Option (β×PS)}(h:At Y enc (k ()) S o):At Y enc ((liftM (rule x):StateT SortSt Sem Unit)>>=k) S o:=by
 intro r S' e Q q;exact Uh (kasC_lift (Uq (h r S' e Q q)))
theorem BB{enc:β->α}{k:SortSt->StateT SortSt Sem α}{S:PS}{o:Option (β×PS)}(h:At Y enc (k (Y.st S)) S o):At Y enc (get>>=k) S o:=by
 intro r S' e Q q;exact Uh (kasC_get (h r S' e Q q))
theorem CH{enc:β->α}{f:SortSt->SortSt}{k:PUnit->StateT SortSt Sem α}{S:PS}{o:Option (β×PS)}(hf:f (Y.st S)=Y.st S1)(h:At Y enc (k ⟨⟩) S1 o):At Y enc (modify f>>=k) S o:=by
 intro r S' e Q q;refine Uh (kasC_modify ?_);rw[hf];exact h r S' e Q q
def U8(g:β->PS->Option (ForInStep β×PS)):Nat->β->PS->Option (β×PS)
 |0,b,S=>some (b,S)
 |n+1,b,S=>(g b S).bind fun p=>match p.1 with
  |.done b'=>some (b',p.2)
  |.yield b'=>U8 g n b' p.2
def T1(enc:β->α):ForInStep β->ForInStep α
 |.done b=>.done (enc b)
 |.yield b=>.yield (enc b)
theorem DH{enc:β->α}{f:Nat->α->StateT SortSt Sem (ForInStep α)}{g:β->PS->Option (ForInStep β×PS)}(h:∀x b S,At Y (T1 enc) (f x (enc b)) S (g b S)){a:Nat}{b:β}{S:PS}:
  At Y enc (forIn [a:c] (enc b) f) S (U8 g (c-a) b S):=by
 have go:∀(l:List Nat) (b:β) (S:PS),At Y enc (forIn l (enc b) f) S (U8 g l.length b S):=by
  intro l
  induction l with
  |nil=>
   intro b S r S' e Q q;cases e;exact kasC_nil q
  |cons x l ih=>
   intro b S r S' e Q q;obtain⟨⟨st,S1⟩,h1,h2⟩:=C6 e;refine kasC_cons (h x b S st S1 h1 _ ?_);cases st with
   |done b'=>
    cases h2;exact q
   |yield b'=>exact ih b' S1 r S' h2 Q q
 intro r S' e Q q;refine kasC_range (go _ b S r S' ?_ Q q);rw[List.length_range'];exact e
abbrev Mz:=StateT SortSt Sem
variable{bx:Nat->Mz (Option Bool)}
variable{Y:Sx}{α β γ δ:Type}
def bX(left:Bool)(key:Keyed)(arr:Array Keyed)(base i:Nat):Mz (Option Bool):=do
 let x←elem' arr (base+i)
 if left=true then lt' x key else do
  let r←lt' key x
  pure (r.map fun b=>!b)
def DI(bey:Nat->Mz (Option Bool))(n lo hi:Nat):Mz (Option Nat):=do
 let t←forIn [0:n] ((none,lo,hi):Option (Option Nat)×Nat×Nat) fun _ t=>if t.2.1 ≥ t.2.2 then pure (.done (none,t.2.1,t.2.2))else do
  let y←bey (t.2.1+(t.2.2-t.2.1)/2)
  match y with
  |some b=>if b=true then pure (.yield (none,t.2.1+(t.2.2-t.2.1)/2+1,t.2.2))else pure (.yield (none,t.2.1,t.2.1+(t.2.2-t.2.1)/2))
  |_=>pure (.done (some none,t.2.1,t.2.2))
 match t.1 with
 |some r=>pure r
 |none=>pure (some t.2.2)
def DJ(bey:Nat->Mz (Option Bool))(at_:Nat->Nat)(stp:Bool->Bool)(n most:Nat)(k:Nat->Nat->Mz (Option Nat)):Mz (Option Nat):=do
 let t←forIn [0:n] ((none,0,1):Option (Option Nat)×Nat×Nat) fun _ t=>if t.2.2 ≥ most then pure (.done (none,t.2.1,t.2.2))else do
  let y←bey (at_ t.2.2)
  match y with
  |some b=>if stp b=true then pure (.done (none,t.2.1,t.2.2))else pure (.yield (none,t.2.2,2 * t.2.2+1))
  |_=>pure (.done (some none,t.2.1,t.2.2))
 match t.1 with
 |some r=>pure r
 |none=>k t.2.1 t.2.2
theorem cJ(left:Bool)(key:Keyed)(arr:Array Keyed)(base n hint:Nat):Ig left key arr base n hint=(do
  let y←bX left key arr base hint
  match y with
  |some b=>if b=true then DJ (bX left key arr base) (fun o=>hint+o) (fun b=>!b) n (n-hint) (fun l o=>DI (bX left key arr base) n (hint+l+1) (hint+min o (n-hint)))else DJ (bX left key arr base) (fun o=>hint-o) (fun b=>b) n (hint+1) (fun l o=>DI (bX left key arr base) n (hint+1-min o (hint+1)) (hint-l))
  |_=>pure none):=by
 refine congr (Ze bind ?_) (funext fun y=>?_)
 ·rfl
 ·cases y with
  |none=>rfl
  |some b=>
   show(if b=true then _ else _)=(if b=true then _ else _)
   congr 1
   ·unfold DJ
    refine congr (Ze bind ?_) (funext fun y=>?_)
    ·congr 1
    ·obtain⟨o,l,h⟩:=y
     cases o with
     |some o=>rfl
     |none=>
      unfold DI;refine congr (Ze bind ?_) (funext fun y=>?_)
      ·congr 1
      ·obtain⟨o,_,_⟩:=y;cases o<;>rfl
   ·unfold DJ
    refine congr (Ze bind ?_) (funext fun y=>?_)
    ·congr 1
    ·obtain⟨o,l,h⟩:=y
     cases o with
     |some o=>rfl
     |none=>
      unfold DI;refine congr (Ze bind ?_) (funext fun y=>?_)
      ·congr 1
      ·obtain⟨o,_,_⟩:=y;cases o<;>rfl
def bS(Y:Lt)(left:Bool)(key:Nat)(arr:Array Nat)(base i:Nat)(S:PS):Option (Bool×PS):=(arr[base+i]?.map fun x=>(x,S)).bind fun p=>if left=true then v7 Y p.1 key p.2 else(v7 Y key p.1 p.2).bind fun q=>some (!q.1,q.2)
theorem EK{S:PS}:At Y some (bX left (Y.it key) (arr.map Y.it) base i) S (bS Y.L left key arr base i S):=by
 unfold bX bS;refine F4 OL fun x S'=>?_
 exact J8 (fun _=>GA) fun _=>F4 (e1:=some) GA fun b S2=>F3 rfl
def GB(bey:Nat->PS->Option (Bool×PS))(n lo hi:Nat)(S:PS):Option (Nat×PS):=
 (U8 (fun(b:Nat×Nat) S=>if b.1 ≥ b.2 then some (.done b,S)else(bey (b.1+(b.2-b.1)/2) S).bind fun p=>if p.1=true then some (.yield (b.1+(b.2-b.1)/2+1,b.2),p.2)else some (.yield (b.1,b.1+(b.2-b.1)/2),p.2)) (n-0) (lo,hi) S).bind fun p=>some (p.1.2,p.2)
abbrev e2(b:Nat×Nat):Option (Option Nat)×Nat×Nat:=(none,b.1,b.2)
theorem OM{bs:Nat->PS->Option (Bool×PS)}(hb:∀i S,At Y some (bx i) S (bs i S)){hi:Nat}{S:PS}:At Y some (DI bx n lo hi) S (GB bs n lo hi S):=by
 unfold DI GB;refine F4 (DH (enc:=e2) (b:=(lo,hi)) fun x b S=>?_) fun b S'=>F3 rfl
 exact J8 (fun _=>F3 rfl) fun _=>F4 (hb _ _) fun c S2=>J8 (fun _=>F3 rfl) fun _=>F3 rfl
def GC(bey:Nat->PS->Option (Bool×PS))(at_:Nat->Nat)(stp:Bool->Bool)(n most:Nat)(k:Nat->Nat->PS->Option (Nat×PS))(S:PS):Option (Nat×PS):=
 (U8 (fun(b:Nat×Nat) S=>if b.2 ≥ most then some (.done b,S)else(bey (at_ b.2) S).bind fun p=>if stp p.1=true then some (.done b,p.2)else some (.yield (b.2,2 * b.2+1),p.2)) (n-0) (0,1) S).bind fun p=>k p.1.1 p.1.2 p.2
theorem ON{bs:Nat->PS->Option (Bool×PS)}(hb:∀i S,At Y some (bx i) S (bs i S)){at_:Nat->Nat}{stp:Bool->Bool}{most:Nat}{kx:Nat->Nat->Mz (Option Nat)}{ks:Nat->Nat->PS->Option (Nat×PS)}(hk:∀i j S,At Y some (kx i j) S (ks i j S)){S:PS}:At Y some (DJ bx at_ stp n most kx) S (GC bs at_ stp n most ks S):=by
 unfold DJ GC;refine F4 (DH (enc:=e2) (b:=(0,1)) fun x b S=>?_) fun b S'=>hk _ _ _
 exact J8 (fun _=>F3 rfl) fun _=>F4 (hb _ _) fun c S2=>J8 (fun _=>F3 rfl) fun _=>F3 rfl
def CI(Y:Lt)(left:Bool)(key:Nat)(arr:Array Nat)(base n hint:Nat)(S:PS):Option (Nat×PS):=
 (bS Y left key arr base hint S).bind fun p=>if p.1=true then GC (bS Y left key arr base) (fun o=>hint+o) (fun b=>!b) n (n-hint) (fun l o=>GB (bS Y left key arr base) n (hint+l+1) (hint+min o (n-hint))) p.2
  else GC (bS Y left key arr base) (fun o=>hint-o) (fun b=>b) n (hint+1) (fun l o=>GB (bS Y left key arr base) n (hint+1-min o (hint+1)) (hint-l)) p.2
theorem Ih{S:PS}:At Y some (Ig left (Y.it key) (arr.map Y.it) base n hint) S (CI Y.L left key arr base n hint S):=by
 rw[cJ];unfold CI;refine F4 EK fun b S'=>?_
 exact J8 (fun _=>ON (fun _ _=>EK) fun _ _ _=>OM fun _ _=>EK) fun _=>ON (fun _ _=>EK) fun _ _ _=>OM fun _ _=>EK
def EM(i j:Nat)(S:PS):PS:={S with a:=mirror S.a i j ((j-i)/2)}
def OP(i j:Nat)(S:PS):PS:={S with a:=bubble S.a i (i-j)}
theorem Ba{S:PS}:At Y id (reverseSlice' i j) S (some ((),EM i j S)):=by
 intro r S' e Q q;cases e;rw[reverseSlice'_eq];refine kasC_modify ?_
 have e1:mirror (S.a.map Y.it) i j ((j-i)/2)=(mirror S.a i j ((j-i)/2)).map Y.it:=kas_swaps_map Y.it (fun k=>i+k) (fun k=>j-1-k) _ S.a
 show Q () (SortSt.mk' Y.κ (mirror (S.a.map Y.it) i j ((j-i)/2)) S.pd S.mg none) Y.s;rw[e1];exact q
theorem cK{S:PS}:At Y id (moveDown' i j) S (some ((),OP i j S)):=by
 intro r S' e Q q;cases e;rw[moveDown'_eq];refine kasC_modify ?_
 have e1:bubble (S.a.map Y.it) i (i-j)=(bubble S.a i (i-j)).map Y.it:=kas_swaps_map Y.it (fun k=>i-k) (fun k=>i-k-1) _ S.a
 show Q () (SortSt.mk' Y.κ (bubble (S.a.map Y.it) i (i-j)) S.pd S.mg none) Y.s;rw[e1];exact q
def yE(lo a m:Nat):Mz (Option (Option Nat)×Nat):=forIn [a:m] ((none,a):Option (Option Nat)×Nat) fun _ t=>do
 let y←ltAt' (lo+t.2) (lo+t.2-1)
 match y with
 |some b=>if b=true then pure (.done (none,t.2))else pure (.yield (none,t.2+1))
 |_=>pure (.done (some none,t.2))
def v8(Y:Lt)(lo a m:Nat)(S:PS):Option (Nat×PS):=U8 (fun(b:Nat) S=>(DG Y (lo+b) (lo+b-1) S).bind fun p=>if p.1=true then some (.done b,p.2)else some (.yield (b+1),p.2)) (m-a) a S
abbrev e1(b:Nat):Option (Option Nat)×Nat:=(none,b)
theorem EN{a m:Nat}{S:PS}:At Y e1 (yE lo a m) S (v8 Y.L lo a m S):=by
 unfold yE v8;exact DH (enc:=e1) (b:=a) fun x b S=>F4 EH fun c S2=>J8 (fun _=>F3 rfl) fun _=>F3 rfl
def DK(Y:Lt)(lo n m:Nat)(S:PS):Option (Nat×PS):=(some ((),EM lo (lo+n) S)).bind fun p=>(v8 Y lo n m p.2).bind fun q=>some (q.1,q.2)
def yF(lo a m:Nat):Mz (Option (Option Nat)×Nat×Nat):=forIn [a:m] ((none,a,0):Option (Option Nat)×Nat×Nat) fun _ t=>do
 let y←ltAt' (lo+t.2.1) (lo+t.2.1-1)
 match y with
 |some b=>if b=true then(if t.2.2>0 then(reverseSlice' (lo+t.2.1-(t.2.2+1)) (lo+t.2.1)>>=fun _=>pure (.yield (none,t.2.1+1,0)))else pure (.yield (none,t.2.1+1,0)))else do
   let y←ltAt' (lo+t.2.1-1) (lo+t.2.1)
   match y with
   |some c=>if c=true then pure (.done (none,t.2.1,t.2.2))else pure (.yield (none,t.2.1+1,t.2.2+1))
   |_=>pure (.done (some none,t.2.1,t.2.2))
 |_=>pure (.done (some none,t.2.1,t.2.2))
def xA(Y:Lt)(lo a m:Nat)(S:PS):Option ((Nat×Nat)×PS):=U8 (fun(t:Nat×Nat) S=>(DG Y (lo+t.1) (lo+t.1-1) S).bind fun p=>if p.1=true then(if t.2>0 then(some ((),EM (lo+t.1-(t.2+1)) (lo+t.1) p.2)).bind fun q=>some (.yield (t.1+1,0),q.2)else some (.yield (t.1+1,0),p.2))
  else(DG Y (lo+t.1-1) (lo+t.1) p.2).bind fun q=>if q.1=true then some (.done t,q.2)else some (.yield (t.1+1,t.2+1),q.2)) (m-a) (a,0) S
theorem OQ{a m:Nat}{S:PS}:At Y e2 (yF lo a m) S (xA Y.L lo a m S):=by
 unfold yF xA;refine DH (enc:=e2) (b:=(a,0)) fun x b S=>F4 EH fun c S2=>?_
 refine J8 (fun _=>J8 (fun _=>?_) fun _=>F3 rfl) fun _=>?_
 ·exact F4 Ba fun u S3=>F3 rfl
 ·exact F4 EH fun d S3=>J8 (fun _=>F3 rfl) fun _=>F3 rfl
def v9(Y:Lt)(lo n m:Nat)(S:PS):Option (Nat×PS):=(xA Y lo (n+1) m S).bind fun p=>if p.1.2>0 then(some ((),EM (lo+p.1.1-(p.1.2+1)) (lo+p.1.1) p.2)).bind fun q=>DK Y lo p.1.1 m q.2 else DK Y lo p.1.1 m p.2
variable{Y:Sx}{α β γ δ:Type}
def Ii(Y:Lt)(lo m:Nat)(S:PS):Option (Nat×PS):=(v8 Y lo 1 m S).bind fun p=>if(p.1==m)=true then some (p.1,p.2)else if p.1>1 then(DG Y lo (lo+p.1-1) p.2).bind fun q=>if q.1=true then some (p.1,q.2)else(some ((),EM lo (lo+p.1) q.2)).bind fun u=>v9 Y lo p.1 m u.2
 else v9 Y lo p.1 m p.2
theorem cL{m:Nat}{S:PS}:At Y some (countRun' lo m) S (Ii Y.L lo m S):=by
 unfold Ii;refine F4 (e1:=e1) (EN (lo:=lo) (a:=1) (m:=m)) fun b S1=>?_
 refine J8 (fun _=>F3 rfl) fun _=>?_
 refine J8 (fun _=>?_) fun _=>?_
 ·refine F4 EH fun c S2=>?_
  refine J8 (fun _=>F3 rfl) fun _=>?_
  refine F4 Ba fun u S3=>?_
  unfold v9;refine EJ (F4 (OQ (lo:=lo) (a:=b+1) (m:=m)) fun t S4=>J8 (fun _=>F4 Ba fun u S5=>?_) fun _=>?_)
  ·unfold DK
   exact F4 Ba fun u S6=>F4 EN fun c S7=>F3 rfl
  ·unfold DK
   exact F4 Ba fun u S6=>F4 EN fun c S7=>F3 rfl
 ·unfold v9
  refine EJ (F4 (OQ (lo:=lo) (a:=b+1) (m:=m)) fun t S4=>J8 (fun _=>F4 Ba fun u S5=>?_) fun _=>?_)
  ·unfold DK
   exact F4 Ba fun u S6=>F4 EN fun c S7=>F3 rfl
  ·unfold DK
   exact F4 Ba fun u S6=>F4 EN fun c S7=>F3 rfl
def GD(g:Nat->β->PS->Option (ForInStep β×PS)):Nat->Nat->β->PS->Option (β×PS)
 |0,_,b,S=>some (b,S)
 |n+1,x,b,S=>(g x b S).bind fun p=>match p.1 with
  |.done b'=>some (b',p.2)
  |.yield b'=>GD g n (x+1) b' p.2
theorem cM{enc:β->α}{f:Nat->α->StateT SortSt Sem (ForInStep α)}{g:Nat->β->PS->Option (ForInStep β×PS)}(h:∀x b S,At Y (T1 enc) (f x (enc b)) S (g x b S)){a:Nat}{b:β}{S:PS}:
  At Y enc (forIn [a:c] (enc b) f) S (GD g (c-a) a b S):=by
 have go:∀(n a:Nat) (b:β) (S:PS),At Y enc (forIn (List.range' a n) (enc b) f) S (GD g n a b S):=by
  intro n
  induction n with
  |zero=>
   intro a b S r S' e Q q;cases e;exact kasC_nil q
  |succ n ih=>
   intro a b S r S' e Q q;obtain⟨⟨st,S1⟩,h1,h2⟩:=C6 e;show kasC _ _ _ (forIn (a::List.range' (a+1) n) _ _) _ _ _;refine kasC_cons (h a b S st S1 h1 _ ?_);cases st with
   |done b'=>
    cases h2;exact q
   |yield b'=>exact ih (a+1) b' S1 r S' h2 Q q
 intro r S' e Q q;exact kasC_range (go _ a b S r S' e Q q)
def yG(Y:Lt)(lo k:Nat)(S:PS):Option ((Nat×Nat)×PS):=U8 (fun(b:Nat×Nat) S=>if b.1 ≥ b.2 then some (.done b,S)else(DG Y (lo+k) (lo+(b.1+b.2)/2) S).bind fun p=>if p.1=true then some (.yield (b.1,(b.1+b.2)/2),p.2)else some (.yield ((b.1+b.2)/2+1,b.2),p.2)) (k-0) (0,k) S
def Ij(Y:Lt)(lo n ok:Nat)(S:PS):Option (Bool×PS):=(GD (fun k (_:Unit) S=>(yG Y lo k S).bind fun p=>(some ((),OP (lo+k) (lo+p.1.1) p.2)).bind fun q=>some (.yield (),q.2)) (n-max ok 1) (max ok 1) () S).bind fun p=>some (true,p.2)
abbrev e3(b:Nat×Nat):Option Bool×Nat×Nat:=(none,b.1,b.2)
abbrev e0{α:Type}(_:Unit):Option α×Unit:=(none,())
theorem cN{ok:Nat}{S:PS}:At Y id (binarySort' lo n ok) S (Ij Y.L lo n ok S):=by
 unfold Ij;refine F4 (e1:=e0) (cM (enc:=e0) (b:=()) fun k b S=>?_) fun b S'=>F3 rfl
 unfold yG;refine F4 (DH (enc:=e3) (b:=(0,k)) fun x b S=>?_) fun b S1=>?_
 ·exact J8 (fun _=>F3 rfl) fun _=>F4 EH fun c S2=>J8 (fun _=>F3 rfl) fun _=>F3 rfl
 ·exact F4 cK fun u S2=>F3 rfl
theorem X2(a:Array Nat)(it:Nat->Keyed)(i j:Nat):(a.map it).extract i j=(a.extract i j).map it:=by simp
theorem X3(a:Array Nat)(it:Nat->Keyed)(x:Nat):(a.map it).push (it x)=(a.push x).map it:=by simp
theorem AJ(a b:Array Nat)(it:Nat->Keyed):a.map it++b.map it=(a++b).map it:=by simp
theorem BC(a:Array Nat)(it:Nat->Keyed):(a.map it).size=a.size:=by simp
theorem OR{S:PS}:At Y id (zN n) S (some ((),{S with mg:=n})):=by
 intro r S' e Q q;cases e;exact kasC_modify q
variable{Y:Sx}{α β γ δ:Type}
theorem Ac{enc:β->α}{c d:Prop}[Decidable c][Decidable d]{m n:StateT SortSt Sem α}{S:PS}{o p:Option (β×PS)}(hc:c↔d)(h1:d->At Y enc m S o)(h2:¬ d->At Y enc n S p):At Y enc (if c then m else n) S (if d then o else p):=by
 by_cases h:d
 ·rw[Qh (hc.mpr h),Qh h];exact h1 h
 ·rw[Qs (fun z=>h (hc.mp z)),Qs h];exact h2 h
abbrev An:=Array Nat
variable{a b:An}
def sX(a b out:An)(ia ib:Nat):An:=out++a.extract ia a.size++b.extract ib b.size
def tT(a b out:An)(ia ib:Nat):An:=out++b.extract ib b.size++a.extract ia a.size
abbrev T6:=Option An×An×Nat×Nat×Nat×Nat
abbrev T7:=Option An×An×Nat×Nat×Nat×Nat×Nat
abbrev T5:=Option An×An×Nat×Nat×Nat
abbrev oM(it:Nat->Keyed)(o:Option An):Option (Array Keyed):=o.map fun a=>a.map it
abbrev c5(it:Nat->Keyed)(t:T5):Option (Array Keyed)×Array Keyed×Nat×Nat×Nat:=(oM it t.1,t.2.1.map it,t.2.2.1,t.2.2.2.1,t.2.2.2.2)
abbrev c6(it:Nat->Keyed)(t:T6):Option (Array Keyed)×Array Keyed×Nat×Nat×Nat×Nat:=(oM it t.1,t.2.1.map it,t.2.2.1,t.2.2.2.1,t.2.2.2.2.1,t.2.2.2.2.2)
abbrev c7(it:Nat->Keyed)(t:T7):Option (Array Keyed)×Array Keyed×Nat×Nat×Nat×Nat×Nat:=(oM it t.1,t.2.1.map it,t.2.2.1,t.2.2.2.1,t.2.2.2.2.1,t.2.2.2.2.2.1,t.2.2.2.2.2.2)
def sA(a:An)(i:Nat)(S:PS):Option (Nat×PS):=a[i]?.map fun x=>(x,S)
def lo1(Y:Lt)(a b:An)(mg:Nat)(t:T6)(S:PS):Option (ForInStep T6×PS):=
 (sA b t.2.2.2.1 S).bind fun p=>(sA a t.2.2.1 p.2).bind fun q=>(v7 Y p.1 q.1 q.2).bind fun c=>if c.1=true then(sA b t.2.2.2.1 c.2).bind fun x=>
   if(t.2.2.2.1+1==b.size)=true then some (.done (some (sX a b (t.2.1.push x.1) t.2.2.1 (t.2.2.2.1+1)),t.2.1.push x.1,t.2.2.1,t.2.2.2.1+1,0,t.2.2.2.2.2+1),x.2)
   else if t.2.2.2.2.2+1 ≥ mg then some (.done (none,t.2.1.push x.1,t.2.2.1,t.2.2.2.1+1,0,t.2.2.2.2.2+1),x.2)else some (.yield (none,t.2.1.push x.1,t.2.2.1,t.2.2.2.1+1,0,t.2.2.2.2.2+1),x.2)
  else(sA a t.2.2.1 c.2).bind fun x=>
   if(t.2.2.1+1+1==a.size)=true then some (.done (some (tT a b (t.2.1.push x.1) (t.2.2.1+1) t.2.2.2.1),t.2.1.push x.1,t.2.2.1+1,t.2.2.2.1,t.2.2.2.2.1+1,0),x.2)
   else if t.2.2.2.2.1+1 ≥ mg then some (.done (none,t.2.1.push x.1,t.2.2.1+1,t.2.2.2.1,t.2.2.2.2.1+1,0),x.2)else some (.yield (none,t.2.1.push x.1,t.2.2.1+1,t.2.2.2.1,t.2.2.2.2.1+1,0),x.2)
def xB(a b:An)(mg k k2 ia:Nat)(out:An)(ib:Nat)(S:PS):Option (ForInStep T7×PS):=(sA a ia S).bind fun z=>
 if(ia+1+1==a.size)=true then some (.done (some (tT a b (out.push z.1) (ia+1) ib),out.push z.1,ia+1,ib,mg,k,k2),z.2)
 else if(decide (k<7)&&decide (k2<7))=true then some (.done (none,out.push z.1,ia+1,ib,mg,k,k2),z.2)else some (.yield (none,out.push z.1,ia+1,ib,mg,k,k2),z.2)
def xC(Y:Lt)(a b:An)(mg k bc ib:Nat)(out:An)(ia:Nat)(S:PS):Option (ForInStep T7×PS):=(sA b ib S).bind fun x=>
 if(ib+1==b.size)=true then some (.done (some (sX a b (out.push x.1) ia (ib+1)),out.push x.1,ia,ib+1,mg,k,bc),x.2)
 else(sA a ia x.2).bind fun y=>(CI Y true y.1 b (ib+1) (b.size-(ib+1)) 0 y.2).bind fun q=>if q.1>0 then
   (if(ib+1+q.1==b.size)=true then some (.done (some (sX a b (out.push x.1++b.extract (ib+1) (ib+1+q.1)) ia (ib+1+q.1)),out.push x.1++b.extract (ib+1) (ib+1+q.1),ia,ib+1+q.1,mg,k,q.1),q.2)
    else xB a b mg k q.1 ia (out.push x.1++b.extract (ib+1) (ib+1+q.1)) (ib+1+q.1) q.2)
  else xB a b mg k q.1 ia (out.push x.1) (ib+1) q.2
def Ik(Y:Lt)(a b:An)(t:T7)(mg:Nat)(S:PS):Option (ForInStep T7×PS):=(some ((),{S with mg:=mg})).bind fun u=>(sA b t.2.2.2.1 u.2).bind fun x=>(CI Y false x.1 a t.2.2.1 (a.size-t.2.2.1) 0 x.2).bind fun q=>if q.1>0 then
   (if(t.2.2.1+q.1+1==a.size)=true then some (.done (some (tT a b (t.2.1++a.extract t.2.2.1 (t.2.2.1+q.1)) (t.2.2.1+q.1) t.2.2.2.1),t.2.1++a.extract t.2.2.1 (t.2.2.1+q.1),t.2.2.1+q.1,t.2.2.2.1,mg,q.1,t.2.2.2.2.2.2),q.2)
    else if(t.2.2.1+q.1==a.size)=true then some (.done (some (sX a b (t.2.1++a.extract t.2.2.1 (t.2.2.1+q.1)) (t.2.2.1+q.1) t.2.2.2.1),t.2.1++a.extract t.2.2.1 (t.2.2.1+q.1),t.2.2.1+q.1,t.2.2.2.1,mg,q.1,t.2.2.2.2.2.2),q.2)
    else xC Y a b mg q.1 t.2.2.2.2.2.2 t.2.2.2.1 (t.2.1++a.extract t.2.2.1 (t.2.2.1+q.1)) (t.2.2.1+q.1) q.2)
  else xC Y a b mg q.1 t.2.2.2.2.2.2 t.2.2.2.1 t.2.1 t.2.2.1 q.2
def yH(Y:Lt)(a b:An)(t:T7)(S:PS):Option (ForInStep T7×PS):=if t.2.2.2.2.1>1 then Ik Y a b t (t.2.2.2.2.1-1) S else Ik Y a b t t.2.2.2.2.1 S
def yI(Y:Lt)(a b:An)(t:T5)(S:PS):Option (ForInStep T5×PS):=(U8 (lo1 Y a b t.2.2.2.2) (a.size+b.size-0) (none,t.2.1,t.2.2.1,t.2.2.2.1,0,0) S).bind fun p=>match p.1.1 with
 |some r=>some (.done (some r,p.1.2.1,p.1.2.2.1,p.1.2.2.2.1,t.2.2.2.2),p.2)
 |none=>(U8 (yH Y a b) (a.size+b.size-0) (none,p.1.2.1,p.1.2.2.1,p.1.2.2.2.1,t.2.2.2.2+1,p.1.2.2.2.2.1,p.1.2.2.2.2.2) p.2).bind fun q=>match q.1.1 with
  |some r=>some (.done (some r,q.1.2.1,q.1.2.2.1,q.1.2.2.2.1,q.1.2.2.2.2.1),q.2)
  |none=>(some ((),{q.2 with mg:=q.1.2.2.2.2.1+1})).bind fun u=>some (.yield (none,q.1.2.1,q.1.2.2.1,q.1.2.2.2.1,q.1.2.2.2.2.1+1),u.2)
def xD(Y:Lt)(a b:An)(S:PS):Option (An×PS):=(sA b 0 S).bind fun x=>if(1==b.size)=true then some (sX a b #[x.1] 0 1,x.2)else if(0+1==a.size)=true then some (tT a b #[x.1] 0 1,x.2)
 else(U8 (yI Y a b) (a.size+b.size-0) (none,#[x.1],0,1,x.2.mg) x.2).bind fun p=>match p.1.1 with
  |some r=>some (r,p.2)
  |none=>none
theorem AK{S:PS}:At Y Y.it (elem' (a.map Y.it) i) S (sA a i S):=OL
theorem BD:((i==(a.map Y.it).size)=true)↔((i==a.size)=true):=by rw[Array.size_map]
theorem CJ{enc:β->α}{f:Nat->α->StateT SortSt Sem (ForInStep α)}{g:β->PS->Option (ForInStep β×PS)}{v:α}{b:β}{d:Nat}{S:PS}(h0:v=enc b)(hc:c=d)(h:∀x b S,At Y (T1 enc) (f x (enc b)) S (g b S)):
  At Y enc (forIn [0:c] v f) S (U8 g (d-0) b S):=by
 subst h0 hc;exact DH h
theorem OS{arr:An}{n':Nat}{S:PS}(h:n=n'):At Y some (Ig left (Y.it key) (arr.map Y.it) base n hint) S (CI Y.L left key arr base n' hint S):=by
 subst h;exact Ih
theorem xE:(a.map Y.it).size+(b.map Y.it).size=a.size+b.size:=by simp
theorem yJ:(a.map Y.it).size-i=a.size-i:=by simp
theorem OT(it:Nat->Keyed)(x:Nat): #[it x]=(#[x]:An).map it:=by simp
theorem cO{S:PS}:At Y (fun r:An=>r.map Y.it) (zO (a.map Y.it) (b.map Y.it)) S (xD Y.L a b S):=by
 unfold xD;refine EJ (F4 AK fun x S1=>?_)
 refine Ac BD (fun _=>F3 ?_) fun _=>Ac BD (fun _=>F3 ?_) fun _=>BB ?_
 ·rw[OT];simp only[sX,AJ,X2,BC]
 ·rw[OT];simp only[tT,AJ,X2,BC]
 refine F4 (e1:=c5 Y.it) (CJ (enc:=c5 Y.it) (b:=(none,#[x],0,1,S1.mg)) (by simp) xE fun _ t S2=>?_) fun t S2=>?_
 ·unfold yI
  refine F4 (e1:=c6 Y.it) (CJ (enc:=c6 Y.it) (b:=(none,t.2.1,t.2.2.1,t.2.2.2.1,0,0)) (by simp) xE fun _ t S3=>?_) fun u S3=>?_
  ·unfold lo1
   refine F4 AK fun p S1=>F4 AK fun q S2=>F4 GA fun c S3=>?_
   refine J8 (fun _=>F4 AK fun x S4=>?_) fun _=>F4 AK fun x S4=>?_
   ·refine Ac BD (fun _=>F3 ?_) fun _=>J8 (fun _=>F3 ?_) fun _=>F3 ?_
    ·simp only[T1,sX,X3,AJ,X2,BC,Jx]<;>rfl
    ·simp only[T1,X3,Um]<;>rfl
    ·simp only[T1,X3,Um]<;>rfl
   ·refine Ac BD (fun _=>F3 ?_) fun _=>J8 (fun _=>F3 ?_) fun _=>F3 ?_
    ·simp only[T1,tT,X3,AJ,X2,BC,Jx]<;>rfl
    ·simp only[T1,X3,Um]<;>rfl
    ·simp only[T1,X3,Um]<;>rfl
  ·obtain⟨o,out,ia,ib,ac,bc⟩:=u
   cases o with
   |some r=>exact F3 rfl
   |none=>
    refine EJ (F4 (e1:=c7 Y.it) (CJ (enc:=c7 Y.it) (b:=(none,out,ia,ib,t.2.2.2.2+1,ac,bc)) (by simp) xE fun _ t S4=>?_) fun u S4=>?_)
    ·unfold yH
     refine J8 (fun _=>?_) fun _=>?_
     all_goals
      unfold Ik;refine F4 OR fun _ S5=>F4 AK fun x S6=>F4 (OS yJ) fun k S7=>?_
      refine J8 (fun _=>Ac BD (fun _=>F3 (by simp only[T1,tT,X3,AJ,X2,BC,Jx]<;>rfl)) fun _=>Ac BD (fun _=>F3 (by simp only[T1,sX,X3,AJ,X2,BC,Jx]<;>rfl)) fun _=>?_) fun _=>?_
      all_goals
       unfold xC;refine F4 AK fun y S8=>Ac BD (fun _=>F3 (by simp only[T1,sX,X3,AJ,X2,BC,Jx]<;>rfl)) fun _=>?_
       refine F4 AK fun z S9=>F4 (OS yJ) fun k2 S10=>?_
       refine J8 (fun _=>Ac BD (fun _=>F3 (by simp only[T1,sX,X3,AJ,X2,BC,Jx]<;>rfl)) fun _=>?_) fun _=>?_
       all_goals
        unfold xB;refine F4 AK fun z S11=>Ac BD (fun _=>F3 (by simp only[T1,tT,X3,AJ,X2,BC,Jx]<;>rfl)) fun _=>J8 (fun _=>F3 (by simp only[T1,X3,AJ,X2,Um]<;>rfl)) fun _=>F3 (by simp only[T1,X3,AJ,X2,Um]<;>rfl)
    ·obtain⟨o,out,ia,ib,mg,ac,bc⟩:=u
     cases o with
     |some r=>exact F3 rfl
     |none=>exact F4 OR fun _ S5=>F3 rfl
 ·obtain⟨o,out,ia,ib,mg⟩:=t
  cases o with
  |some r=>exact F3 rfl
  |none=>exact BZ
variable{Y:Sx}{α β γ δ:Type}
theorem cP{enc:β->α}{st:SortSt}{k:PUnit->StateT SortSt Sem α}{S:PS}{o:Option (β×PS)}(hf:st=Y.st S1)(h:At Y enc (k ⟨⟩) S1 o):At Y enc ((set st:StateT SortSt Sem PUnit)>>=k) S o:=by
 intro r S' e Q q;refine Uh ?_
 unfold kasC;rw[StateT.run_set];refine Qy ?_
 rw[hf];exact h r S' e Q q
def CK{γ:Type}(sa:Nat)(l:List (γ ×Nat))(a:Array γ):Array γ:=l.foldl (fun a x=>a.setIfInBounds (sa+x.2) x.1) a
theorem OV(it:Nat->Keyed)(sa:Nat):∀(l:List (Nat×Nat)) (a:An),CK sa (l.map fun x=>(it x.1,x.2)) (a.map it)=(CK sa l a).map it
 |[],_=>rfl
 |x::l,a=>by
  show CK sa (l.map fun x=>(it x.1,x.2)) ((a.map it).setIfInBounds (sa+x.2) (it x.1))=_
  rw[show(a.map it).setIfInBounds (sa+x.2) (it x.1)=(a.setIfInBounds (sa+x.2) x.1).map it by simp]
  exact OV it sa l _
theorem cQ(it:Nat->Keyed)(r:An):(r.map it).toList.zipIdx=r.toList.zipIdx.map fun x=>(it x.1,x.2):=by
 rw[Array.toList_map,List.zipIdx_map]
 rfl
def GF(Y:Lt)(i:Nat)(S:PS):Option (Bool×PS):=match S.pd[i]?,S.pd[i+1]? with
 |some (sa,na,pw),some (sb,nb,_)=>(sA S.a sb {S with pd:=(S.pd.setIfInBounds i (sa,na+nb,pw)).eraseIdxIfInBounds (i+1)}).bind fun x=>(CI Y false x.1 S.a sa na 0 x.2).bind fun k=>
   if(na-k.1==0)=true then some (true,k.2)else(sA S.a (sa+k.1+(na-k.1)-1) k.2).bind fun y=>(CI Y true y.1 S.a sb nb (nb-1) y.2).bind fun q=>
    if(q.1==0)=true then some (true,q.2)else if na-k.1≤q.1 then(xD Y (S.a.extract (sa+k.1) sb) (S.a.extract sb (sb+q.1)) q.2).bind fun r=>some (true,{r.2 with a:=CK (sa+k.1) r.1.toList.zipIdx r.2.a})else none
 |_,_=>none
theorem Il{S:PS}:At Y id (mergeAt' i) S (GF Y.L i S):=by
 unfold GF;refine BB ?_
 dsimp only;cases h1:S.pd[i]? with
 |none=>exact BZ
 |some p1=>
  cases h2:S.pd[i+1]? with
  |none=>exact BZ
  |some p2=>
   obtain⟨sa,na,pw⟩:=p1;obtain⟨sb,nb,pw2⟩:=p2;dsimp only;refine cP (S1:={S with pd:=(S.pd.setIfInBounds i (sa,na+nb,pw)).eraseIdxIfInBounds (i+1)}) rfl ?_
   refine F4 AK fun x S1=>F4 Ih fun k S2=>?_
   refine J8 (fun _=>F3 rfl) fun _=>?_
   refine F4 AK fun y S3=>F4 Ih fun q S4=>?_
   refine J8 (fun _=>F3 rfl) fun _=>J8 (fun _=>?_) fun _=>BZ
   have el:=cO (Y:=Y) (a:=S.a.extract (sa+k) sb) (b:=S.a.extract sb (sb+q)) (S:=S4)
   rw[←X2,←X2]at el;refine F4 el fun r S5=>CH (S1:={S5 with a:=CK (sa+k) r.toList.zipIdx S5.a}) ?_ (BB (F3 rfl))
   show SortSt.mk' Y.κ (CK (sa+k) ((r.map Y.it).toList.zipIdx) (S5.a.map Y.it)) S5.pd S5.mg none=SortSt.mk' Y.κ ((CK (sa+k) r.toList.zipIdx S5.a).map Y.it) S5.pd S5.mg none;rw[cQ,OV]
def Im(Y:Lt)(pw:Nat)(_:Unit)(S:PS):Option (ForInStep Unit×PS):=match (if S.pd.size>1 then S.pd[S.pd.size-2]? else none)with
 |some (_,_,older)=>if older≤pw then some (.done (),S)else(GF Y (S.pd.size-2) S).bind fun p=>if(!p.1)=true then none else some (.yield (),p.2)
 |none=>some (.done (),S)
def GG(Y:Lt)(size lo n:Nat)(S:PS):Option (ForInStep Nat×PS):=match S.pd.back? with
 |some (s1,n1,_)=>(U8 (Im Y (power' size (2 * s1+n1) (2 * s1+n1+n1+n) size)) (size-0) () S).bind fun u=>some (.yield (lo+n),{u.2 with pd:=(u.2.pd.modify (u.2.pd.size-1) fun x=>(x.1,x.2.1,power' size (2 * s1+n1) (2 * s1+n1+n1+n) size)).push (lo,n,0)})
 |none=>some (.yield (lo+n),{S with pd:=S.pd.push (lo,n,0)})
def OW(Y:Lt)(size lo:Nat)(S:PS):Option (ForInStep Nat×PS):=if lo ≥ size then some (.done lo,S)else(Ii Y lo (size-lo) S).bind fun p=>
 if p.1<minRun' size size 0 then(Ij Y lo (min (size-lo) (minRun' size size 0)) p.1 p.2).bind fun q=>if(!q.1)=true then none else GG Y size lo (min (size-lo) (minRun' size size 0)) q.2 else GG Y size lo p.1 p.2
def OY(Y:Lt)(_:Unit)(S:PS):Option (ForInStep Unit×PS):=if S.pd.size≤1 then some (.done (),S)else
 (GF Y (if(Option.any (fun x=>decide (x<(S.pd[S.pd.size-2+1]?.elim 0 fun x=>x.2.1))) (if S.pd.size-2>0 then(S.pd[S.pd.size-2-1]?).map (fun x=>x.2.1)else none))=true then S.pd.size-2-1 else S.pd.size-2) S).bind fun p=>if(!p.1)=true then none else some (.yield (),p.2)
def Io(Y:Lt)(S:PS):Option (Unit×PS):=(U8 (OW Y S.a.size) (S.a.size-0) 0 S).bind fun p=>(U8 (OY Y) (S.a.size-0) () p.2).bind fun q=>some ((),q.2)
abbrev eN(n:Nat):Option Unit×Nat:=(none,n)
theorem cR{S:PS}:At Y id sortRuns' S (Io Y.L S):=by
 unfold Io;refine BB ?_
 refine F4 (e1:=eN) (CJ (enc:=eN) (b:=0) (d:=S.a.size) rfl (by simp) fun _ lo S0=>?_) fun lo S1=>?_
 ·unfold OW
  refine Ac (by simp) (fun _=>F3 rfl) fun _=>?_
  have hz:(S.a.map Y.it).size=S.a.size:=by simp
  show At Y _ (countRun' lo ((S.a.map Y.it).size-lo)>>=_) _ _;rw[hz];refine F4 cL fun n S2=>?_
  refine J8 (fun _=>EJ (F4 cN fun ok S3=>J8 (fun _=>BZ) fun _=>?_)) fun _=>?_
  ·unfold GG
   refine BB ?_
   dsimp only;cases h1:S3.pd.back? with
   |none=>
    refine CH (S1:={S3 with pd:=S3.pd.push (lo,(min (S.a.size-lo) (minRun' S.a.size S.a.size 0)),0)}) rfl ?_
    exact F3 rfl
   |some p=>
    obtain⟨s1,n1,pw⟩:=p;refine F4 (e1:=e0) (CJ (enc:=e0) (b:=()) rfl rfl fun _ b S1=>?_) fun _ S1=>?_
    ·unfold Im
     refine BB ?_
     dsimp only;cases h2:(if S1.pd.size>1 then S1.pd[S1.pd.size-2]? else none)with
     |none=>exact F3 rfl
     |some p=>
      obtain⟨_,_,older⟩:=p;refine J8 (fun _=>F3 rfl) fun _=>F4 Il fun ok S2=>?_
      exact J8 (fun _=>BZ) fun _=>F3 rfl
    ·refine CH (S1:={S1 with pd:=S1.pd.modify (S1.pd.size-1) fun x=>(x.1,x.2.1,power' S.a.size (2 * s1+n1) (2 * s1+n1+n1+(min (S.a.size-lo) (minRun' S.a.size S.a.size 0))) S.a.size)}) rfl ?_
     refine CH (S1:={S1 with pd:=(S1.pd.modify (S1.pd.size-1) fun x=>(x.1,x.2.1,power' S.a.size (2 * s1+n1) (2 * s1+n1+n1+(min (S.a.size-lo) (minRun' S.a.size S.a.size 0))) S.a.size)).push (lo,(min (S.a.size-lo) (minRun' S.a.size S.a.size 0)),0)}) rfl ?_
     exact F3 rfl
  ·unfold GG
   refine BB ?_
   dsimp only;cases h1:S2.pd.back? with
   |none=>
    refine CH (S1:={S2 with pd:=S2.pd.push (lo,n,0)}) rfl ?_
    exact F3 rfl
   |some p=>
    obtain⟨s1,n1,pw⟩:=p;refine F4 (e1:=e0) (CJ (enc:=e0) (b:=()) rfl rfl fun _ b S1=>?_) fun _ S1=>?_
    ·unfold Im
     refine BB ?_
     dsimp only;cases h2:(if S1.pd.size>1 then S1.pd[S1.pd.size-2]? else none)with
     |none=>exact F3 rfl
     |some p=>
      obtain⟨_,_,older⟩:=p;refine J8 (fun _=>F3 rfl) fun _=>F4 Il fun ok S2=>?_
      exact J8 (fun _=>BZ) fun _=>F3 rfl
    ·refine CH (S1:={S1 with pd:=S1.pd.modify (S1.pd.size-1) fun x=>(x.1,x.2.1,power' S.a.size (2 * s1+n1) (2 * s1+n1+n1+n) S.a.size)}) rfl ?_
     refine CH (S1:={S1 with pd:=(S1.pd.modify (S1.pd.size-1) fun x=>(x.1,x.2.1,power' S.a.size (2 * s1+n1) (2 * s1+n1+n1+n) S.a.size)).push (lo,n,0)}) rfl ?_
     exact F3 rfl
 ·refine F4 (e1:=e0) (CJ (enc:=e0) (b:=()) (d:=S.a.size) rfl (by simp) fun _ b S2=>?_) fun _ S2=>F3 rfl
  unfold OY;refine BB (J8 (fun _=>F3 rfl) fun _=>F4 Il fun ok S3=>?_)
  exact J8 (fun _=>BZ) fun _=>F3 rfl
section
variable{prog:Program}{w:World}{A:Around}{E:OE}
theorem Bb(h:n≤1000):n≤sizeLine:=by rw[sizeLine_eq];omega
theorem Oa{D kS:Addr}{e1:Nat}{h0:Heap}{s0:Shared}{body:Value->PUnit->Sem (ForInStep PUnit)}{Q:PUnit->Shared->Prop}(hne:D≠kS)(hk0:∀o,h0.get? kS=some o->False)(hh:A.handled=none)
  (hb:∀x (s:Shared) (R:ForInStep PUnit->Shared->Prop),wpAny (model prog w) A (call (.builtin "sum") [x]) (fun k s'=>wpAny (model prog w) A (Builtin.List.listUpdate (.ref kS) (·.push k)) (fun _ s''=>R (.yield ⟨⟩) s'') E s') (fun _ _=>False) s->wpAny (model prog w) A (body x ⟨⟩) R E s):
  ∀(r:List Value) (ns:OI) (ks:List Value) (kz:List Int) (e tk:Nat) (h:Heap),i6 h0 r ns->IntsAre ks kz->ks.length+r.length≤1000->(∀b o,h0.get? b=some o->h.get? b=some o)->h.get? kS=some (seqObj "list" ks.toArray e)->h.get? D=some (seqObj "list" #[] e1)->
   (∀ks' e' tk' h',IntsAre ks' (kz++ns.map List.sum)->(∀b o,h0.get? b=some o->h'.get? b=some o)->h'.get? kS=some (seqObj "list" ks'.toArray e')->h'.get? D=some (seqObj "list" #[] e1)->Q ⟨⟩ {s0 with heap:=h',toks:=tk'})->
   wpAny (model prog w) A (forIn r PUnit.unit body) Q E {s0 with heap:=h,toks:=tk}
 |[],ns,ks,kz,e,tk,h,hr,hi,hz,kp,gk,gd,hQ=>by
  cases hr;rw[Xg];exact Qy (hQ ks e tk h (by simpa using hi) kp gk gd)
 |v::r,ns,ks,kz,e,tk,h,hr,hi,hz,kp,gk,gd,hQ=>by
  cases hr with
  |@cons a its k vs ks0 t i r0=>
   rw[Tv];have t':IsTup h a its.toList.toArray:=by
    obtain⟨o,q1,q2,n,q3⟩:=t;exact⟨o,kp _ _ q1,q2,n,by simpa using q3⟩
   refine Qq (hb _ _ _ (cF (s:={s0 with heap:=h,toks:=tk}) hh t' i fun h' tk' t2 kp2=>?_))
   have gk':=kp2 _ _ gk
   have ea:ks.toArray.push (Value.int k.sum t2)=(ks++[Value.int k.sum t2]).toArray:=by simp
   rw[Qo]at hz;have hsz:(ks.toArray.push (Value.int k.sum t2)).size≤sizeLine:=by rw[Array.size_push,Qb];exact Bb (by omega)
   refine listUpdate_at (s:={s0 with heap:=h',toks:=tk'}) gk' rfl ?_ (Bb (by rw[Qb];omega)) (Xe hsz)
   have s1:=Jf h' kS (Obj.mapSeq (·.push (Value.int k.sum t2)))
   have gk2:=get?_update_seq gk' (·.push (Value.int k.sum t2))
   rw[ea]at gk2;refine Oa hne hk0 hh hb r ks0 (ks++[Value.int k.sum t2]) (kz++[k.sum]) _ tk' _ r0 (OJ hi) (by rw[Qt,List.length_singleton];omega) (fun b o hbo=>(s1.2 b (fun z=>by subst z;exact hk0 o hbo)).trans (kp2 b o (kp b o hbo))) gk2 ((s1.2 D hne).trans (kp2 _ _ gd)) fun ks' e' tk2 h2 q1 q2 q3 q4=>?_
   exact hQ ks' e' tk2 h2 (by simpa using q1) q2 q3 q4
def GH(n:Nat)(lt:Nat->Nat->Bool):Option (Array Nat):=(Io ⟨n,lt⟩ ⟨(List.range n).toArray,#[],7⟩).bind fun p=>if p.2.a.size=n then some p.2.a else none
theorem cT{κ:SortKind}{ks:List Value}{lt:Nat->Nat->Bool}{p:Array Nat}{Q:Unit×SortSt->Shared->Prop}(hl:ks.length=vs.length)
  (ok:∀i j (C:Bool->Shared->Prop),i<vs.length->j<vs.length->C (lt i j) s->wpAny (model prog w) A (keyLt' κ (ks.getD i Value.none) (ks.getD j Value.none)) C (fun _ _=>False) s)(hp:GH vs.length lt=some p)
  (h:∀st',p.size=vs.length->arrOf st'=p.map (kas_item (ks.toArray.zip vs.toArray))->failedOf st'=none->Q ((),st') s):wpAny (model prog w) A (sortRuns'.run (SortSt.mk' κ (ks.toArray.zip vs.toArray) #[] 7 none)) Q E s:=by
 obtain⟨⟨u,S'⟩,h1,h2⟩:=C6 hp;dsimp only at h2;split at h2
 ·rename_i hn
  cases h2;have hok:∀i j (C:Bool->Shared->Prop),i<vs.length->j<vs.length->C (lt i j) s->wpAny (model prog w) A (keyLt' κ (kas_item (ks.toArray.zip vs.toArray) i).1 (kas_item (ks.toArray.zip vs.toArray) j).1) C (fun _ _=>False) s:=fun i j C hi hj hc=>by
   rw[kat_item hl,kat_item hl];exact ok i j C hi hj hc
  let Y:Sx:={prog:=prog,w:=w,A:=A,E:=E,s:=s,κ:=κ,it:=kas_item (ks.toArray.zip vs.toArray),L:=⟨vs.length,lt⟩,ok:=hok}
  have est:SortSt.mk' κ (ks.toArray.zip vs.toArray) #[] 7 none=Y.st ⟨(List.range vs.length).toArray,#[],7⟩:=by
   have e:=kas_range (ks.toArray.zip vs.toArray)
   rw[show(ks.toArray.zip vs.toArray).size=vs.length by simp[hl]]at e
   show SortSt.mk' κ (ks.toArray.zip vs.toArray) #[] 7 none=SortSt.mk' κ ((List.toArray (List.range vs.length)).map (kas_item (ks.toArray.zip vs.toArray))) #[] 7 none;rw[e]
  rw[est];exact(cR (Y:=Y) () S' h1 (fun _ st s'=>Q ((),st) s') (h _ hn rfl rfl))
 ·cases h2
theorem cU{l:Addr}{ns:OI}{p:Array Nat}{Q:OE}(hh:A.handled=none)(hl:s.heap.IsList l vs.toArray)(ht:i6 s.heap vs ns)(h2:2≤vs.length)(hz:vs.length≤1000)
  (hp:GH vs.length (fun i j=>decide (((ns.map List.sum).reverse).getD i 0<((ns.map List.sum).reverse).getD j 0))=some p)
  (h:∀c h' tk,(∀b o,s.heap.get? b=some o->h'.get? b=some o)->h'.get? (s.heap.objs.size+1)=some (seqObj "list" ((p.toList.map fun i=>vs.reverse.getD i Value.none).reverse).toArray c)->Q (.ref (s.heap.objs.size+1)) {s with heap:=h',toks:=tk}):
  wpAny (model prog w) A (call (.builtin "sorted") [.ref l] Ib) Q E s:=by
 refine call_function_entry_kw kind_sorted plain_sorted entry_sorted (ksk_s2 _ _ _) ?_
 unfold Builtin.«sorted»;refine Qq (m:=checkCount "sorted" 1 1 _) (Qy ?_);refine Qq (collect_list hl ?_ (Bb hz));refine Qq (wpAny_newList ?_ (Bb hz));generalize hH1:((s.heap.push (seqObj "list" #[] 0)).update s.heap.objs.size (Obj.mapSeq (· ++vs.toArray)))=H1
 have hsz:H1.objs.size=s.heap.objs.size+1:=by rw[←hH1,Heap.size_update,size_push']
 have keep:∀b o,s.heap.get? b=some o->(H1.push (seqObj "list" vs.toArray 0)).get? b=some o:=fun b o q=>by
  have hlt:b<s.heap.objs.size:=Qu q
  refine Qv _ ?_
  rw[←hH1,Heap.get?_update_ne _ _ _ _ (Qi hlt)];exact Qv _ q
 have gD:(H1.push (seqObj "list" vs.toArray 0)).get? H1.objs.size=some (seqObj "list" vs.toArray 0):=Qn _ rfl
 show wpAny _ _ _ _ _ {s with heap:=H1.push (seqObj "list" vs.toArray 0)}
 refine Qq (Jb (wpAny_call_entry_kw slot_list_sort ⟨_,gD,rfl⟩ entry_list_sort ?body (ksk_l2 _ _ _)))
 case body=>
  show wpAny (model prog w) A.in1.in1 (Builtin.«list.sort» ⟨[.ref H1.objs.size],Ib⟩) _ _ _;have ht5:Builtin.«list.sort» ⟨[.ref H1.objs.size],Ib⟩=ksk_tree H1.objs.size (.builtin "sum") true:=ksk_t5 "sum" H1.objs.size true;rw[ht5];unfold ksk_tree;refine Qq (listItems_at gD rfl ?_);refine Qq (listUpdate_at gD rfl ?_ (by rw[Qb];exact Bb hz) (Ux _))
  have u1:=Jf (H1.push (seqObj "list" vs.toArray 0)) H1.objs.size (Obj.mapSeq fun _=>(#[]:Array Value))
  obtain⟨e1,g1⟩:∃e1,((H1.push (seqObj "list" vs.toArray 0)).update H1.objs.size (Obj.mapSeq fun _=>(#[]:Array Value))).get? H1.objs.size=some (seqObj "list" #[] e1):=⟨_,get?_update_seq gD fun _=>#[]⟩
  generalize hH2:(H1.push (seqObj "list" vs.toArray 0)).update H1.objs.size (Obj.mapSeq fun _=>(#[]:Array Value))=H2 at u1 g1
  have kp2:∀b o,s.heap.get? b=some o->H2.get? b=some o:=fun b o q=>by
   refine(u1.2 b ?_).trans (keep b o q);have:=Qu q;exact Qi (by rw[hsz];exact Ua this)
  refine Qq (seqEpoch_at (s:={s with heap:=H2}) g1 rfl ?_)
  refine Qq (wpAny_newTuple ?_ (by show vs.length≤_;exact Bb hz))
  refine Qq (wpAny_newList ?_ (Ux _));refine Jb ?_
  generalize hH3:H2.push (seqObj "tuple" vs.toArray 0)=H3;have kp3:∀b o,H2.get? b=some o->(H3.push (seqObj "list" #[] 0)).get? b=some o:=fun b o q=>Qv _ (by rw[←hH3];exact Qv _ q)
  have gk:(H3.push (seqObj "list" #[] 0)).get? H3.objs.size=some (seqObj "list" #[] 0):=Qn _ rfl
  have hne:H1.objs.size≠H3.objs.size:=by
   have h1:=Qu g1
   rw[←hH3,size_push'];exact Qi (Ua h1)
  have hk0:∀o,s.heap.get? H3.objs.size=some o->False:=fun o q=>by
   have h1:=Qu (kp2 _ _ q)
   rw[←hH3,size_push']at h1;exact absurd h1 (Nat.not_lt_of_le (Nat.le_succ _))
  show wpAny _ A.in1.in1 (ksk_rest H1.objs.size (.builtin "sum") true vs.toArray e1 (.ref H3.objs.size)) _ _ {s with heap:=H3.push (seqObj "list" #[] 0)}
  unfold ksk_rest;refine Qq (Uq ?_)
  first
   |rw[List.forIn_toArray]
   |(rw[←Array.forIn_toList];simp only[List.toList_toArray])
   |rw[←Array.forIn_toList]
  refine Qq (Oa (A:=A.in1.in1) (s0:=s) (D:=H1.objs.size) (kS:=H3.objs.size) (e1:=e1) (h0:=s.heap) hne hk0 (by simp[hh]) (fun x s' R hx=>?_) vs ns [] [] 0 s.toks _ ht .nil (by simpa using hz) (fun b o q=>kp3 b o (kp2 b o q)) gk (kp3 _ _ g1) fun ks' e' tk' h' hi kp gk' gd'=>?_)
  ·refine Qq (Xl (Qe hx (fun k s'' hk=>?_) fun _ _ hF=>hF.elim))
   exact Qq (Qe hk (fun _ s3 h3=>Qy h3) fun _ _ e=>e)
  ·have hi':IntsAre ks' (ns.map List.sum):=by simpa using hi
   have hlen:ks'.length=vs.length:=by rw[hi'.length,Qk,ht.length]
   refine Qq (listItems_at (s:={s with heap:=h',toks:=tk'}) gk' rfl ?_)
   unfold ksk_end;dsimp only;rw[Qh rfl];refine Qq (Uq ?_);have hn2:¬ vs.toArray.size<2:=by rw[Qb];omega
   rw[Qs hn2,Qs hn2];have hkd:=PyProof.Rows.ksk_kind (keys:=ks'.toArray) (kz:=ns.map List.sum) (by simpa using hi') (by simp;omega)
   rw[hkd];refine Qq (Qy ?_);rw[kat_pairs true hlen];have hlr:(katRev true ks').length=(katRev true vs).length:=by rw[kat_len,kat_len,hlen]
   have hr:IntsAre ks'.reverse (ns.map List.sum).reverse:=hi'.reverse
   have at':∀i,i<vs.length->∃t,ks'.reverse.getD i Value.none=.int (((ns.map List.sum).reverse).getD i 0) t:=fun i hi=>by
    have hl:i<ks'.reverse.length:=by rw[Xp];omega
    obtain⟨t,e⟩:=Cv hr i (ks'.reverse[i]) (by rw[Zk hl])
    exact⟨t,by rw[List.getD_eq_getElem?_getD,Zk hl,Option.getD_some];exact e⟩
   refine Qq (cT (lt:=fun i j=>decide (((ns.map List.sum).reverse).getD i 0<((ns.map List.sum).reverse).getD j 0)) (p:=p) hlr (fun i j C hi hj hc=>?_) (by rw[kat_len];exact hp) fun st' hps har hf=>?_)
   ·rw[kat_len]at hi hj
    obtain⟨t1,q1⟩:=at' i hi;obtain⟨t2,q2⟩:=at' j hj;show wpAny _ _ (keyLt' oneType' (ks'.reverse.getD i Value.none) (ks'.reverse.getD j Value.none)) C _ _;rw[q1,q2];exact kat_lt_int hc
   ·have hout:=kat_snds hlr har
    have hpl:p.toList.length=vs.length:=by rw[Vj,hps,kat_len]
    unfold ksk_tail;dsimp only;rw[hout,kat_outs];have gkz:ks'.toArray.size≤sizeLine:=by rw[Qb,hlen];exact Bb hz
    refine Qq (listUpdate_at (s:={s with heap:=h',toks:=tk'}) gk' rfl ?_ gkz (Ux _))
    have u4:=Jf h' H3.objs.size (Obj.mapSeq fun _=>(#[]:Array Value))
    generalize h'.update H3.objs.size (Obj.mapSeq fun _=>(#[]:Array Value))=H4 at u4
    refine Qq (wpAny_letGo ?_);have gd4:H4.get? H1.objs.size=some (seqObj "list" #[] e1):=(u4.2 _ hne).trans gd';refine Qq (seqEpoch_at (s:={s with heap:=H4,toks:=tk'}) gd4 rfl ?_)
    have hsz5:(List.toArray (katRev true (p.toList.map fun i=>(katRev true vs).getD i Value.none))).size≤sizeLine:=by
     rw[Qb,kat_len,Qk,hpl];exact Bb hz
    refine Qq (listUpdate_at (s:={s with heap:=H4,toks:=tk'}) gd4 rfl ?_ (Ux _) (Xe hsz5))
    have u5:=Jf H4 H1.objs.size (Obj.mapSeq fun _=>List.toArray (katRev true (p.toList.map fun i=>(katRev true vs).getD i Value.none)))
    have g5:=get?_update_seq gd4 fun _=>List.toArray (katRev true (p.toList.map fun i=>(katRev true vs).getD i Value.none))
    generalize H4.update H1.objs.size (Obj.mapSeq fun _=>List.toArray (katRev true (p.toList.map fun i=>(katRev true vs).getD i Value.none)))=H5 at u5 g5
    rw[hf];simp only[bne_self_eq_false,Zx,Yu];refine Qy ⟨_,rfl,Qy ⟨_,rfl,?_⟩⟩;rw[hsz]at g5 ⊢;refine h _ H5 tk' (fun b o q=>?_) g5
    have hb:=Qu q
    refine(u5.2 b (fun z=>?_)).trans ((u4.2 b (fun z=>by subst z;exact hk0 o q)).trans (kp b o q))
    rw[z,hsz]at hb;exact absurd hb (Nat.not_lt_of_le (Nat.le_succ _))
end
section
variable{p1 kp1 kp2 pos:Pos}{p2:Pos}
def CL(ds:List D):Option (List D):=(oE ds).bind fun ks=>if 2≤ks.length/\ks.length≤1000 then
 (GH ks.length (fun i j=>decide (((ks.map List.sum).reverse).getD i 0<((ks.map List.sum).reverse).getD j 0))).bind fun p=>if p.toList.length≤1000 then(p.toList.mapM fun i=>ds.reverse[i]?).map List.reverse else none else none
def Ip(m:Mo D):Mo (List D):=fun env=>(m env).bind fun p=>match p.1 with
 |.lst ds=>(CL ds).map fun es=>(es,p.2)
 |_=>none
theorem Oc(hc:X.calm=true)(he:ED X B e ma)(hg:Gl X "sorted")(hm:X.mg "sorted"=none)(hg2:Gl X "sum")(hm2:X.mg "sum"=none)
  (hs:starEach [e] X.env=(false,eval e X.env)::starEach [] X.env:=by rfl)(hpl:(backTo pos (starEach [] X.env)).any (·.1)=false:=by rfl):
  EL X B (.Call (.Name "sorted" p) [e] [⟨some "key",.Name "sum" p1,kp1⟩,⟨some "reverse",.Constant (.bool true) j p2,kp2⟩] pos) (Ip ma):=by
 have pe:PE X (.Call (.Name "sorted" p) [e] [⟨some "key",.Name "sum" p1,kp1⟩,⟨some "reverse",.Constant (.bool true) j p2,kp2⟩] pos) (fun σ H Q=>vQ X.K B (B0 ma B4) σ H fun vs H1=>∃a G ys ds es,vs=[.ref a]/\Le G H1/\oD X.K G a ys/\C4 X.K G ys ds/\CL ds=some es/\∀l zs,H1 l=none->C4 X.K G zs es->Q (.ref l) (upd H1 l (.lst zs))):=by
  intro pins s σ H Q I h;refine Jr (BL I hg hm YK ?_ (by decide) (by decide))
  refine PyProof.Rows.callWith_kw (g6 ((B6 he B9 hs:rB X B [e] (B0 ma B4)) pos pins s σ H _ I h) fun us s1 ⟨vs,H1,I1,r1,q1⟩=>?_) (by simp only[hs,backTo];rfl) (by simp only[hs,backTo];rfl) rfl rfl
  refine PyProof.Rows.kws_cons (BL I1 hg2 hm2 NJ (PyProof.Rows.kws_cons ?_) (by decide) (by decide))
  refine g6 (LU (b:=true) pins s1 σ H1 (fun x H2=>x=.bl true/\H2=H1) I1 ⟨rfl,rfl⟩) fun vb s1' ⟨xb,H1',I1',rb,qb⟩=>PyProof.Rows.kws_nil ?_
  obtain⟨rfl,rfl⟩:=qb;cases rb;obtain⟨a,G,ys,ds,es,rfl,l,hq,rp,hs',q⟩:=q1;obtain⟨u,rfl,rx⟩:=Ai r1;cases rx;clear I1;obtain⟨vs,rv,pl,hz⟩:=I1'.list (l.sqL hq);obtain⟨ks,e1,e2⟩:=C6 hs';split at e2
  case isFalse=>cases e2
  rename_i hn;obtain⟨pa,e3,e4⟩:=C6 e2;split at e4
  case isFalse=>cases e4
  rename_i hpl;obtain⟨es0,e5,e6⟩:=F5 e4;subst e6;have ht:i6 s1'.heap vs ks:=Fw I1' l rv rp e1;have hlen:=ht.length;obtain⟨zs,h1,h2⟩:=Mv rp.reverse rv.reverse e5;refine cU (p:=pa) (I1'.ok.hd hc) pl.isList ht (by omega) (by omega) (by rw[hlen];exact e3) fun c h' tk kp gD=>?_
  have hzl:zs.reverse.length≤sizeLine:=by
   have:=h1.length;rw[Qk]at this;rw[Xp,this];exact Jl (Dk hpl)
  have hs1:s1'.heap.objs.size≤s1'.heap.objs.size+1:=Nat.le_succ _
  exact⟨.ref (s1'.heap.objs.size+1),_,I1'.laid (a:=s1'.heap.objs.size+1) (o:=.lst zs.reverse) (t':=tk) kp hs1 ⟨hzl,_,_,h1.reverse,gD⟩,rfl,q _ zs.reverse (I1'.hok.fresh hs1) h2.reverse⟩
 refine d7 pe ?_
 rintro σ H Q ⟨G,env,d,env',rl,e,k⟩;obtain⟨⟨d1,a9⟩,e1,e2⟩:=C6 e;dsimp only at e2;split at e2
 ·rename_i ds
  obtain⟨es,e3,e4⟩:=F5 e2;cases e4;refine⟨G,env,[.lst ds],_,rl,by unfold B0;rw[e1];rfl,fun vs G1 H1 ev r1=>?_⟩
  obtain⟨x,rfl,q⟩:=V3 r1;simp only[c4]at q;obtain⟨a,ys,rfl,h1,h2⟩:=q;exact⟨a,G1,ys,ds,_,rfl,ev.rel.sub,h1,h2,e3,fun l zs hl rz=>FM ev hl rz k⟩
 ·cases e2
end
section
variable{E:XK}{pos:Pos}{g:OZ}
end
section
variable{es:List Expr}{pos:Pos}{as:Mo (List Ar)}
end
end L2.Mir
namespace L2.Mir
open PySem L2
variable{M m mb:Mo D}{N i j k n:Nat}{a b d:D}{as:Mo (List Ar)}{av:List Ar}{base e env:b0}{keep:List Bool}{mi ms:Mo (List D)}{names:List Str}{r:Option (Fl×b0)}{u:Mo Bool}{v w:W}{ws':List W}{xb:Mx}{xs:List D}{α:Type}
abbrev tH(n:Nat):List D:=(List.range n).map fun(i:Nat)=>D.int (i:Int)
theorem cV(n:Nat):Q7 0 n=tH n:=by
 unfold Q7 tH;exact Zc fun i _=>by simp
theorem DL{e1:b0}{j:Int}(hM:M e=some (.int j,e1))(hj:j=(n:Int))(hn:n≤10000):N0 (B0 M B4) e=some (tH n,e1):=by
 subst hj;have:=Fb (ms:=B0 M B4) (env:=e) (e1:=e1) (j:=(n:Int)) (by unfold B0 B4;rw[hM];rfl) (by omega) (by omega)
 rw[this,Jz,cV]
theorem cW(h:base.length=k):(base++[w]).set k v=base++[v]:=by
 subst h;simp
theorem cX{w2 v2:W}(h:base.length=k):((base++[w,w2]).set k v).set (k+1) v2=base++[v,v2]:=by
 subst h;rw[List.set_append_right _ _ (Qm _),Nat.sub_self,List.set_append_right _ _ (by omega)]
 simp
theorem Od{α:Type}{t:Mo Bool}{m:Mo D}{base:b0}{q f:α->D}{p:α->Bool}{k:Nat}(hk:base.length=k):∀{l:List α},(∀a∈l,t (base++[.dat (q a)])=some (p a,base++[.dat (q a)])/\(p a=true->m (base++[.dat (q a)])=some (f a,base++[.dat (q a)])))->∀w,∃w',N1 (gN k) t m (l.map q) (base++[w])=some ((l.filter p).map f,base++[w'])
 |[],_,w=>⟨w,rfl⟩
 |a::l,h,w=>by
  obtain⟨h1,h2⟩:=h a (by simp)
  obtain⟨w',e⟩:=Od hk (l:=l) (fun x hx=>h x (by simp[hx])) (.dat (q a))
  refine⟨w',?_⟩;rw[Qg];unfold N1 gN;rw[Qj,cW hk,h1,Qj];cases hp:p a with
  |false=>simp only[Zx,Yu];rw[Zf (by simp[hp])];exact e
  |true=>
   simp only[Zn];rw[h2 hp,Qj,Zu hp,Qg];show(N1 (gN k) t m (l.map q) (base++[.dat (q a)])).map _=_;rw[e];rfl
theorem Iq{t:Mo Bool}{l:List α}{q f:α->D}{p:α->Bool}(hi:mi env=some (l.map q,env))(hl:l.length≤100000)(hb:P1 keep 0 env=base)(hk:base.length=k)
  (h:∀a∈l,t (base++[.dat (q a)])=some (p a,base++[.dat (q a)])/\(p a=true->m (base++[.dat (q a)])=some (f a,base++[.dat (q a)])))(ho:∀w,N8 keep env (base++[w])=some env):D8 mi keep 1 (gN k) t m env=some ((l.filter p).map f,env):=by
 obtain⟨w',e⟩:=Od hk h .nil;refine Aa hi (by simpa using hl) (e2:=base++[w']) ?_ (ho w')
 have:P1 keep 1 env=base++[.nil]:=by rw[←hb];unfold P1;simp
 rw[this];exact e
theorem CM{l:List α}{q f:α->D}(hi:mi env=some (l.map q,env))(hl:l.length≤100000)(hb:P1 keep 0 env=base)(hk:base.length=k)
  (h:∀a∈l,m (base++[.dat (q a)])=some (f a,base++[.dat (q a)]))(ho:∀w,N8 keep env (base++[w])=some env):D8 mi keep 1 (gN k) F1 m env=some (l.map f,env):=by
 have:=Iq (p:=fun _=>true) (t:=F1) hi hl hb hk (fun a ha=>⟨rfl,fun _=>h a ha⟩) ho
 rw[this,Xb.mpr (fun _ _=>rfl)]
theorem GI{α:Type}{t:Mo Bool}{m:Mo D}{base:b0}{q q2 f:α->D}{p:α->Bool}{k:Nat}(hk:base.length=k):∀{l:List α},(∀a∈l,t (base++[.dat (q a),.dat (q2 a)])=some (p a,base++[.dat (q a),.dat (q2 a)])/\(p a=true->m (base++[.dat (q a),.dat (q2 a)])=some (f a,base++[.dat (q a),.dat (q2 a)])))->∀w w2,∃w' w2',N1 (gT 2 (l0 (gN k) (l0 (gN (k+1)) oY))) t m (l.map fun a=>.tup [q a,q2 a]) (base++[w,w2])=some ((l.filter p).map f,base++[w',w2'])
 |[],_,w,w2=>⟨w,w2,rfl⟩
 |a::l,h,w,w2=>by
  obtain⟨h1,h2⟩:=h a (by simp)
  obtain⟨w',w2',e⟩:=GI hk (l:=l) (fun x hx=>h x (by simp[hx])) (.dat (q a)) (.dat (q2 a))
  refine⟨w',w2',?_⟩;rw[Qg];unfold N1;have hg:gT 2 (l0 (gN k) (l0 (gN (k+1)) oY)) (.tup [q a,q2 a]) (base++[w,w2])=some (base++[.dat (q a),.dat (q2 a)]):=by
   show some (((base++[w,w2]).set k _).set (k+1) _)=_;rw[cX hk]
  rw[hg,Qj,h1,Qj];cases hp:p a with
  |false=>simp only[Zx,Yu];rw[Zf (by simp[hp])];exact e
  |true=>
   simp only[Zn];rw[h2 hp,Qj,Zu hp,Qg];show(N1 _ t m (l.map _) (base++[.dat (q a),.dat (q2 a)])).map _=_;rw[e];rfl
theorem cY{t:Mo Bool}{l:List α}{q q2 f:α->D}{p:α->Bool}(hi:mi env=some (l.map (fun a=>.tup [q a,q2 a]),env))(hl:l.length≤100000)(hb:P1 keep 0 env=base)(hk:base.length=k)
  (h:∀a∈l,t (base++[.dat (q a),.dat (q2 a)])=some (p a,base++[.dat (q a),.dat (q2 a)])/\(p a=true->m (base++[.dat (q a),.dat (q2 a)])=some (f a,base++[.dat (q a),.dat (q2 a)])))(ho:∀w w2,N8 keep env (base++[w,w2])=some env):
  D8 mi keep 2 (gT 2 (l0 (gN k) (l0 (gN (k+1)) oY))) t m env=some ((l.filter p).map f,env):=by
 obtain⟨w',w2',e⟩:=GI hk h .nil .nil;refine Aa hi (by simpa using hl) (e2:=base++[w',w2']) ?_ (ho w' w2')
 have:P1 keep 2 env=base++[.nil,.nil]:=by rw[←hb];unfold P1;simp
 rw[this];exact e
theorem Ir{l:List α}{q q2 f:α->D}(hi:mi env=some (l.map (fun a=>.tup [q a,q2 a]),env))(hl:l.length≤100000)(hb:P1 keep 0 env=base)(hk:base.length=k)
  (h:∀a∈l,m (base++[.dat (q a),.dat (q2 a)])=some (f a,base++[.dat (q a),.dat (q2 a)]))(ho:∀w w2,N8 keep env (base++[w,w2])=some env):D8 mi keep 2 (gT 2 (l0 (gN k) (l0 (gN (k+1)) oY))) F1 m env=some (l.map f,env):=by
 have:=cY (p:=fun _=>true) (t:=F1) hi hl hb hk (fun a ha=>⟨rfl,fun _=>h a ha⟩) ho
 rw[this,Xb.mpr (fun _ _=>rfl)]
theorem Iu{g:OZ}{b:Mo Fl}:∀{ds:List D}{P:Nat->b0->Prop}{env:b0},(∀i d e,ds[i]? =some d->P i e->∃e1 e2,g d e=some e1/\b e1=some (.nx,e2)/\P (i+1) e2)->P 0 env->∃env',loop g b ds env=some (.nx,env')/\P ds.length env'
 |[],P,env,_,p=>⟨env,rfl,p⟩
 |d::ds,P,env,h,p=>by
  obtain⟨e1,e2,h1,h2,h3⟩:=h 0 d env rfl p;obtain⟨e3,h4,h5⟩:=Iu (ds:=ds) (P:=fun i e=>P (i+1) e) (fun i x e hi q=>h (i+1) x e (by simpa using hi) q) h3
  refine⟨e3,?_,h5⟩;unfold loop;rw[h1];simp only[Qj];rw[h2];exact h4
theorem Iv{g:OZ}{b:Mo Fl}(P:Nat->b0->Prop)(h:∀i<n,∀e,P i e->∃e1 e2,g (.int (i:Int)) e=some e1/\b e1=some (.nx,e2)/\P (i+1) e2)(p:P 0 env):∃env',loop g b (tH n) env=some (.nx,env')/\P n env':=by
 obtain⟨e',h1,h2⟩:=Iu (ds:=tH n) (g:=g) (b:=b) (P:=P) (env:=env) (fun i d e hi q=>by
  unfold tH at hi;rw[Zv]at hi
  by_cases hl:i<n
  ·rw[List.getElem?_range hl]at hi
   cases hi;exact h i hl e q
  ·rw[List.getElem?_eq_none (by simpa using hl)]at hi;cases hi) p
 refine⟨e',h1,?_⟩;have:(tH n).length=n:=by simp[tH]
 rw[this]at h2;exact h2
theorem Lz{ml mh:Mo (Option Int)}{lo hi:Option Int}(h:m e=some (.tup xs,e))(h1:ml e=some (lo,e))(h2:mh e=some (hi,e)):oC m ml mh e=some (.tup (AE xs lo hi),e):=by
 unfold oC;rw[h,Qj,h1,Qj,h2];rfl
theorem AL(l:List Int):i4 (l.map D.int)=some l:=by
 induction l with
 |nil=>rfl
 |cons a l ih=>show(i4 (l.map D.int)).map _=_;rw[ih];rfl
theorem E8{m n:Mo Fl}{e1:b0}(h:m e=some (.nx,e1))(h2:n e1=r):C3 m n e=r:=by unfold C3;rw[h];exact h2
theorem DM{t:Mo Bool}{m n:Mo Fl}{e1:b0}(h:t e=some (true,e1))(h2:m e1=r):G0 t m n e=r:=by unfold G0;rw[h];exact h2
theorem X4{t:Mo Bool}{m n:Mo Fl}{e1:b0}(h:t e=some (false,e1))(h2:n e1=r):G0 t m n e=r:=by unfold G0;rw[h];exact h2
theorem cZ{t:Mo Bool}{e1:b0}(h:t e=some (true,e1)):J9 t u e=some (true,e1):=by unfold J9;rw[h];rfl
theorem DN{t:Mo Bool}{e1:b0}{r:Option (Bool×b0)}(h:t e=some (false,e1))(h2:u e1=r):J9 t u e=r:=by unfold J9;rw[h];exact h2
theorem K4{f:Fn}{e1:b0}{r:D}(h:as env=some (av,e1))(hn:av.length=n)(hs:slots av=[])(hf:f (av.map (O8 (.l [])))=some (.d r,ws')):c9 n f as env=some (r,e1):=R9 (V7 h hn hs hf)
theorem Oe{fr:Option Str->Option D}{lw:b0}{n:Str}(hw:Ay keep env=lw)(hx:xb lw=some n)(hn:names.contains n=true)(hf:fr (some n)=some d):Y6 names keep mb xb fr env=some (d,env):=by
 unfold Y6 outcome;rw[hw,hx];simp only[hn,Zn,Qj];rw[hf];rfl
theorem dA{fr:Option Str->Option D}{lw:b0}{p:D×b0}(hw:Ay keep env=lw)(hx:xb lw=none)(hm:mb lw=some p)(hf:fr none=some d):Y6 names keep mb xb fr env=some (d,env):=by
 unfold Y6 outcome;rw[hw,hx,hm];show(fr none).map _=_;rw[hf];rfl
theorem dB{C:Nat}(hC:1≤C)(hC2:C≤900){body last:Mo Fl}{ns:List Int}(hb:∀k:Nat,k<1000->∀ws:List W,ws.length=N->∃ws':List W,ws'.length=N+1/\body (.dat (.lst (ns.map D.int))::.dat (.int (k:Int))::ws)=some (.nx,.dat (.lst (ns.map D.int))::ws'))
  (hl:∀ws:List W,ws.length=N+1->∃e,last (.dat (.lst (ns.map D.int))::ws)=some (.ret (.bl true),e)):
  ∃ws',k6 (N+2) (C3 (K6 (N0 (B0 (d5 Cq (B0 (mC (.int 1)) (B0 (d5 Cr (B0 (d5 E6 (B0 (A0 0) B4)) (B0 (mC (.int (C:Int))) B4))) B4))) B4)) (gN 1) body) last) [.dat (.lst (ns.map D.int))]=some (.d (.bl true),ws'):=by
 obtain⟨K,hK,hr⟩:∃K:Nat,K≤C/\(N0 (B0 (d5 Cq (B0 (mC (.int 1)) (B0 (d5 Cr (B0 (d5 E6 (B0 (A0 0) B4)) (B0 (mC (.int (C:Int))) B4))) B4))) B4)) (.dat (.lst (ns.map D.int))::List.replicate (N+1) .nil)=some (tH K,.dat (.lst (ns.map D.int))::List.replicate (N+1) .nil):=by
  let q:Int:=if(C:Int)<(ns.length:Int)then C else(ns.length:Int)
  let p:Int:=if q>1 then q else 1
  have hq:q≤C:=by simp only[q];split<;>omega
  have hp:1≤p/\p≤C:=by simp only[p];split<;>omega
  refine⟨p.toNat,by omega,DL (j:=p) (K3 (C7 rfl (C7 (K3 (C7 (K3 (C7 rfl rfl) (show E6 [.lst (ns.map .int)]=some (.int (ns.length:Int))from ?_)) (C7 rfl rfl)) (show Cr [.int (ns.length:Int),.int C]=some (.int q)from rfl)) rfl)) (show Cq [.int 1,.int q]=some (.int p)from rfl)) (by omega) (by omega)⟩
  show some (D.int ((ns.map D.int).length:Nat))=_;rw[Qk]
 obtain⟨e',h1,ws,hws,rfl⟩:=Iv (g:=gN 1) (b:=body) (n:=K) (fun _ e=>∃ws:List W,ws.length=N+1/\e=.dat (.lst (ns.map D.int))::ws) (env:=.dat (.lst (ns.map D.int))::List.replicate (N+1) .nil)
  (fun i hi e ⟨ws,hw,he⟩=>by
   subst he
   match ws,hw with
   |w::ws,hw=>
    obtain⟨ws',h1,h2⟩:=hb i (by omega) ws (by simpa using hw)
    exact⟨_,_,rfl,h2,ws',h1,rfl⟩) ⟨_,by simp,rfl⟩
 obtain⟨e2,h2⟩:=hl ws hws;refine⟨_,J4 (d:=.bl true) (env:=e2) ?_⟩;show C3 _ _ (.dat (.lst (ns.map D.int))::List.replicate (N+1) .nil)=_;exact E8 ((V6 hr).trans h1) h2
theorem Bc{g:List W->Option Str}{e1:b0}{r:Option Str}(h:as env=some (av,e1))(hn:av.length=n)(hs:slots av=[])(hg:g (av.map (O8 (.l [])))=r):V8 n g as env=r:=by
 unfold V8;rw[h,Qj];simp only[hn,Zn,hs];exact hg
theorem GJ(l:List Int):M7 [.lst (l.map D.int)]=some (.int l.sum):=by
 show(i4 _).map _=_;rw[AL];rfl
theorem dC{e1:b0}(h:m env=some (.tup [a,b],e1)):N7 m (gT 2 (l0 (gN i) (l0 (gN j) oY))) env=some (.nx,(e1.set i (.dat a)).set j (.dat b)):=by
 unfold N7;rw[h];rfl
theorem Of{e1:b0}{ds:List D}(h:ms env=some (ds,e1))(hl:ds.length≤1000):D6 ms env=some (.tup ds,e1):=by unfold D6;rw[h,Qj];simp only[hl,Zn]
theorem Og(l:List α)(p q:α->D):Q9 (l.map p) (l.map q)=l.map fun a=>.tup [p a,q a]:=by
 unfold Q9
 induction l with
 |nil=>rfl
 |cons a l ih=>rw[Qg,Qg,Js,Qg,ih,Qg]
theorem dD{e1:b0}{l:List α}{p q:α->D}(h:ms e=some ([a,b],e1))(ha:a.items=some (l.map p))(hb:b.items=some (l.map q)):Y2 ms e=some (l.map fun a=>.tup [p a,q a],e1):=by
 unfold Y2;rw[h];show a.items.bind _=_;rw[ha];show b.items.map _=_;rw[hb,Jx,Og]
theorem Iw{n:Mo D}{e1:b0}{r:Option (D×b0)}(h:m e=some (.bl true,e1))(h2:n e1=r):T8 m n e=r:=by unfold T8;rw[h];exact h2
theorem Oh{e1:b0}{b:Bool}(h:m e=some (.bl b,e1)):AS m e=some (.bl (!b),e1):=by unfold AS;rw[h];rfl
theorem dE{e1 e2:b0}(h:m env=some (.tup [a,b],e1))(he:(e1.set i (.dat a)).set j (.dat b)=e2):N7 m (gT 2 (l0 (gN i) (l0 (gN j) oY))) env=some (.nx,e2):=by
 rw[dC h,he]
theorem N6{e1 e2:b0}(h:m env=some (d,e1))(he:e1.set i (.dat d)=e2):C9 i m env=some (.nx,e2):=by rw[V5 h,he]
theorem dF{m:Mo (List D)}{e1 e2:b0}{d:List D}(h:m env=some (d,e1))(he:e1.set i (.own d)=e2):O2 i m env=some (.nx,e2):=by rw[ND h,he]
theorem dG{e1 e2:b0}(h:ms env=some ([a,b],e1))(he:(e1.set i (.dat a)).set j (.dat b)=e2):Cm i j ms env=some (.nx,e2):=by
 unfold Cm;rw[h,←he];rfl
theorem GK{mb:Mo Fl}{ws env:List W}(h:mb (ws++List.replicate (N-ws.length) .nil)=some (.ret d,env))(he:W9 ws env=ws'):k6 N mb ws=some (.d d,ws'):=by rw[J4 h,he]
abbrev up(a n:Nat):List Nat:=(List.range (n-a)).map (a+ ·)
abbrev qN:Nat->D:=fun i=>.int (i:Int)
theorem dH{a:Nat}(h:i∈up a n):i<n/\a≤i:=by
 obtain⟨k,hk,rfl⟩:=Qa.mp h;have:=Zs.mp hk
 constructor<;>omega
theorem dI{N:Mo D}{a:Nat}{i j:Int}(hM:M e=some (.int i,e))(hN:N e=some (.int j,e))(hi:i=(a:Int))(hj:j=(n:Int))(hn:n≤1000)(ha:a≤1000):FP (B0 M (B0 N B4)) e=some ((up a n).map qN,e):=by
 subst hi hj;unfold FP;rw[C7 hM (C7 hN rfl),Qj];show(if _ then some (Q7 a ((n:Int)-a).toNat,_)else none)=_
 rw[Qh (by omega)]
 have:((n:Int)-a).toNat=n-a:=by omega
 rw[this];unfold Q7 up;rw[Zz];refine Ze (fun l=>some (l,e)) (Zc fun k _=>?_)
 show D.int _=D.int _
 congr 1
theorem Y9{ys:List D}(h:xs.length+ys.length≤10000):D3 (.tup xs) (.tup ys)=some (.tup (xs++ys)):=by
 show(if xs.length+ys.length≤10000 then _ else none)=_
 rw[Qh h]
theorem Iy{a:Nat}:i∈up a n↔a≤i/\i<n:=by
 constructor
 ·intro h;have:=dH h;exact⟨this.2,this.1⟩
 ·rintro⟨h1,h2⟩
  exact Qa.mpr ⟨i-a,Zs.mpr (by omega),by omega⟩
end L2.Mir
namespace L2.Mir
open PySem PySem.W
variable{K:Frag}{cd:Addr}{fd:FuncData}{h:Heap}{k n:Nat}{mg:OU}{pm:Value}{ps:List Str}{x:Str}
structure g9(K:Frag)(x:Str)(st:Stmt)(f:Addr)(pm:Value)(cd:Addr):Prop where
 a:nsIn K mainGlobals x=some (some (.ref f))
 l:K.lookup f=some ⟨.type "function",none,.func (fnOf x x (Bp st) (X8 st) (E5 st) .none .none .none pm none (.ref cd) .none),⟨[]⟩⟩
 c:codeIn K (.ref cd) x=true
 k:keepIn K (.ref f)=true
theorem g9.f{st:Stmt}{f:Addr}(A:g9 K x st f pm cd):k9 K x x st f (fnOf x x (Bp st) (X8 st) (E5 st) .none .none .none pm none (.ref cd) .none):=VP A.l A.c A.k
theorem g9.g{st:Stmt}{f:Addr}(A:g9 K x st f pm cd)(X:K.In h)(G:h.Ns mainGlobals mg):mg x=some (.ref f):=mg_of X G A.a
theorem dM(P:Program)(w:World)(base:Heap){st:Stmt}{f:Addr}{fn:Fn}(o:d9 P w K mg base j7 k f fd ps (mY K n fn))(A:g9 K x st f pm cd)(X:K.In h)(G:h.Ns mainGlobals mg)(b:Q6 K fd ps [])(e:ps.length=n:=by rfl):Def P w K mg base x k n fn:=⟨_,_,_,o,e,A.g X G,A.k,b⟩
theorem dX(P:Program)(w:World)(base:Heap){st:Stmt}{f:Addr}{g:List W->Option Str}(o:d9 P w K mg base (pR P w) k f fd ps (tP K n g))(A:g9 K x st f pm cd)(X:K.In h)(G:h.Ns mainGlobals mg)(b:Q6 K fd ps [])(e:ps.length=n:=by rfl):qC P w K mg base x k n g:=⟨_,_,_,o,e,A.g X G,A.k,b⟩
end L2.Mir
namespace K43
open PySem L2 L2.Mir
variable{N i j m n:Nat}{T ks l rows:OI}{a acc b v z:Int}{d:D}{ds es vs xs:List D}{e env:b0}{fd:FuncData}{h k r s:List Int}{ma mb mc:Mo D}{o:Option D}{w:List Int->Int}{w0 w1 w2 w3 w5 w6 w7 w8:W}{x y:Mx}{α:Type}
def top(i:Nat):Stmt:=PySem.Challenge.pw_turnsigns_k43_tables_by_number.main.body.getD i (.Pass ⟨0,0,0,0⟩)
abbrev Iz:Stmt:=top 16
abbrev JA:Stmt:=top 17
abbrev JB:Stmt:=top 18
abbrev JC:Stmt:=top 19
abbrev JD:Stmt:=top 20
abbrev JE:Stmt:=top 21
abbrev JF:Stmt:=top 22
abbrev JG:Stmt:=top 23
abbrev JH:Stmt:=top 24
abbrev JI:Stmt:=top 27
abbrev JJ:Stmt:=top 28
abbrev GL:Stmt:=top 29
abbrev GN:Stmt:=top 31
abbrev JK:Stmt:=top 32
abbrev JL:Stmt:=top 33
abbrev JM:Stmt:=top 34
abbrev JN:Stmt:=top 35
abbrev GO:Stmt:=top 36
abbrev JO:Stmt:=top 37
abbrev JP:Stmt:=top 38
abbrev JQ:Stmt:=top 39
abbrev GP:Stmt:=top 40
abbrev GQ:Stmt:=top 41
abbrev JR:Stmt:=top 43
abbrev JS:Stmt:=top 44
abbrev JT:Stmt:=top 45
abbrev JU:Stmt:=top 46
abbrev JV:Stmt:=top 47
abbrev JW:Stmt:=top 48
abbrev JX:Stmt:=top 49
abbrev JY:Stmt:=top 50
abbrev JZ:Stmt:=top 51
abbrev KA:Stmt:=top 52
abbrev KB:Stmt:=top 53
abbrev KC:Stmt:=top 54
abbrev KD:Stmt:=top 55
abbrev KE:Stmt:=top 56
abbrev KG:Stmt:=top 57
abbrev DO:Stmt:=top 58
abbrev xN:List Str:=["NoTable","NoHeights","NoNet","NoPlace","NoTriangle","NoRow","NoNumber","NoTurn","NotAlike","NoStep","NoRows","TooMany","BadNote"]
structure Txt(K:Qz)(mg:OU):Prop where
 ex:Ab K "SignError" xN=true
 g_isinstance:mg "isinstance"=none
 g_int:mg "int"=none
 g_bool:mg "bool"=none
 g_all:mg "all"=none
 g_tuple:mg "tuple"=none
 g_len:mg "len"=none
 g_range:mg "range"=none
 g_sum:mg "sum"=none
 g_zip:mg "zip"=none
 g_min:mg "min"=none
 g_sorted:mg "sorted"=none
 g_list:mg "list"=none
 g_ValueError:mg "ValueError"=none
 g_max:mg "max"=none
 c_GREATEST_SIDE:∃t,mg "GREATEST_SIDE"=some (.int 6 t)
section
variable{P:Program}{w:World}{K:Qz}{mg:OU}{base:Heap}
set_option hygiene false
local macro_rules
 | `(tactic| k_units)=>`(tactic| first | fail_if_success (show (_:Prop)) | ((with_reducible show PE _ _ (V0 _));exact pv _) | ((with_reducible show PE _ _ (tC _));exact Mm) | with_reducible (first | show PE _ _ _ | show PA _ _ _ | show PS _ _ _ | show pQ _ _ _ | show PT _ _ _ | show PG _ _ _ | show PI _ _ _ _ | show V4 _ _ _ | show PW _ _ _ | show PO _ _ _ | show tL _ _ _ | show P4 _ _ _ | show k8 _ _ _ | show uZ _ _ _ _ _ _ _ _ _ _ | show PJ _ _ _ _ | show EE _ _ _ | show EF _ _ _ | show vG _ _ _ _ _ | show zI _ _ _ _ _ | show zJ _ _ _ _ _ | show uH _ _ _ _ _ | show BW _ _ _ _ _ | assumption | exact PassesOwn.never | exact PySem.boot_len | exact YH | exact YE | exact YD | exact YG | exact YI | exact YJ | exact NJ | exact YF | exact Cd | exact N2 | exact FC | exact Z5 | exact Wg | exact YQ | exact Wj | exact WI | exact Wh | exact Wi | exact YN | exact WJ | exact WK | exact hr.units | exact Wf | exact We | exact Wd | exact Wc | exact Ho | exact Wz | exact MP | exact VY | exact cE | exact uD | exact WC | exact Wm | exact ZE | exact WB | exact MQ | exact cB | exact VZ | exact XB | exact bR | exact WA | exact VW | exact Mm | exact YR | exact ZR) | exact FZ rfl | exact NA rfl | assumption | exact xZ rfl | exact zG rfl rfl | exact Or.inl rfl | exact Or.inr rfl | exact hr.mono (by decide) | exact hr.mono (Nat.le_refl _) | rfl | exact (CA rfl) | exact (Lm rfl) | exact (Fe rfl) | exact (Ln rfl) | exact (AF rfl) | exact (YB rfl rfl) | exact (aK (by assumption) (by rfl')) | exact (bN (Nu (Hq (by decide)) (Nu (Hq (by decide)) bM))) | exact (Hq (by decide)) | exact (YC Ho) | exact (t7 _) | exact f9.units (by assumption) | exact Ho | exact f9.mono (by assumption) (by decide) | exact f9.mono (by assumption) (by omega) | exact fun _ _=>rfl | exact fun _=>rfl | exact fun _ _ _ _=>rfl | (intro _;rfl) | decide | with_unfolding_all rfl | rfl')
local macro_rules
 | `(tactic| k_types)=>`(tactic| ((with_reducible show k8 _ _ _);first | exact (sM hr.units) | exact (sM (f9.units (by assumption))) | exact (OH hr.units) | exact (OH (f9.units (by assumption))) | exact (sN hr.units) | exact (sN (f9.units (by assumption))) | exact UE | exact bQ | exact UG | exact Wx | exact UB | exact cC | exact UJ | exact VL | exact UK | exact UI | exact Lk | exact UC | exact XA | exact VM | exact UD | exact Tu))
local macro_rules
 | `(tactic| exists $t)=>`(tactic| (((intros;refine' $t) <;> try k_units) <;> try k_types))
local macro_rules
 | `(tactic| injections $xs*)=>do
  let mut r ← `(tactic| skip)
  let w:=("A C5 B3 B B3 B9 C B6 C1 D D1 F9 E C8 G7 F B6 B G A D2 H B6 F8 I E4 J7 J D9 B3 K M9 E7 L J1 N2 M B6 E4 N J6 B3 O C B9 P B6 K5 Q E7 N3 R C8 L6 S C8 O6 T E2 N5 U E2 G V E2 A W P7 P5 X R8 B3 Y B3 C1 Z C5 C1 a U6 B3 b M0 L5 c B3 B6 d B6 D9 e L F f M8 B3 g B6 M0 h V1 Y0 i D1 L6 j C1 C1 k W8 K l K W7 m V2 Z5 n Z9 C1 o Cy PA.nox p E2 C5 q U5 B3 r B9 B9 s C8 Ao t K0 B3 u E4 AZ v AY B3 w J C1 x B6 Z7 y N E7 z Z8 K0 Aa D9 C1 Ab B6 B3 Ac C5 K5 Ad Ac D2 Ae B3 D Af F8 O Ag PS.nox CC Ah Cw PS.nox Ai Z D2 Aj T Ai Am W0 c An V G Aq E C1 Ar Z C5 At D1 Ap Au F8 F Av D1 Ck Aw N5 D2 Ax B3 L5 Ay D1 G7 Az Al C1 Ba O B9 Bb K0 Y Bc C C Bd a U4 Be D9 Bd Bf I B6 Bg Bc Bc Bh k l Bi N Q Bj C5 e Bk Bj D2 Bl B6 n Bm J6 u Bn E D9 Bo An B9 Bp AV B6 Bq Ar Dv Br B9 E7 Bt Bh N3 Bv C8 Bu Bw V2 Cd Bx Am Am By Bx W0".splitOn " ").map String.toName
  let m:=(List.range 96).foldl (fun m i=>m.insert w[3*i]! [w[3*i+1]!,w[3*i+2]!]) ({}:Lean.NameMap (List Lean.Name))
  let mut ns:List Lean.Name:=(xs.map fun x=>x.raw.getId).toList
  for _ in [0:5] do ns:=ns.flatMap fun n=>(m.find? n).getD [n]
  for n in ns do
   let t:Lean.TSyntax `term:=⟨(Lean.mkIdent n).raw⟩
   let h ← `(?_)
   let hs:Array (Lean.TSyntax `term):=Array.replicate (if [`Cd,`N2,`FC,`Z5,`D2,`M0,`Nj,`C1,`Z7,`B9,`W7,`N3,`U4,`HW,`L5,`Hv,`Cw,`Nz].contains n then 0 else if [`PA.nox,`PS.nox,`PT.nox,`Nq,`OD,`B3,`Z9,`FL,`E4,`BN,`K5,`F8,`J6,`As,`J7,`U5,`D1,`F9,`Ck,`CF,`P7,`V1,`FJ,`Z8,`Fu].contains n then 1 else if [`Fk,`BO,`FW,`AY,`C8,`CC,`Fg,`P5,`FK,`Y0,`Fv].contains n then 2 else if [`C5,`N5,`IM,`Dv,`M8,`U6,`B6,`HX,`M9,`L6,`Hu,`CD,`Hw].contains n then 3 else if [`D9,`IL,`Al,`Fq,`W8,`AV,`Np].contains n then 4 else if [`Ak,`IK,`E7,`MW,`Ct,`Bu,`Fo,`K0].contains n then 5 else if [`O6,`G7,`Ao].contains n then 6 else if [`Ni,`E2,`Nt,`NZ,`NQ,`AZ,`L8,`Ap].contains n then 7 else if [`HM,`W0,`Cy,`Oc,`Bs,`Hy,`HN].contains n then 8 else if [`J1,`V2,`R8,`HS,`MU].contains n then 10 else if [`Ie,`IU].contains n then 11 else if [`NG].contains n then 16 else 19) h
   r ← if hs.isEmpty then `(tactic| ($r:tactic;(intros;exact $t))) else `(tactic| ($r:tactic;((intros;refine' $t $hs*) <;> try k_units) <;> try k_types))
  return r
set_option hygiene true
theorem dJ:c8 ["thing"] ["thing"] (E5 Iz):=J3
def dO:Mo Fl:=(E1 (T8 (pE "int" (A0 0)) (AS (pE "bool" (A0 0)))))
def Ad:Fn:=k6 1 dO
theorem dP{f:Addr}(F:k9 K "is_whole" "is_whole" Iz f fd)(T:Txt K mg):d9 P w K mg base j7 1 f fd ["thing"] (mY K 1 Ad):=
 J5 F dJ fun cdv A outer s H E hr=>(by cases T;injections D BO X BN FL X)
theorem dQ:c8 ["thing","least","greatest"] ["thing","least","greatest"] (E5 JA):=J3
def KH:Mo Fl:=(E1 (T8 (c9 1 Ad (B7 (A0 0) B8)) (R7 oQ oQ (A0 1) (A0 0) (A0 2))))
def DP:Fn:=k6 3 KH
theorem dS{f:Addr}(F:k9 K "is_within" "is_within" JA f fd)(T:Txt K mg)(nN:Def P w K mg base "is_whole" 1 1 Ad):d9 P w K mg base j7 2 f fd ["thing","least","greatest"] (mY K 3 DP):=
 J5 F dQ fun cdv A outer s H E hr=>(by cases T;injections D BO U BN HM B3 B3 B3)
theorem dU:c8 ["thing","width"] ["thing","width"] (E5 JB):=J3
theorem zP:(["-0","-1","number"]:List Str).Nodup:=by rfl'
def KI:Mo Fl:=(C3 (G0 (J9 (G9 (mT (pE "tuple" (A0 0)))) (mT (B5 (i9 true) (d5 E6 (B0 (A0 0) B4)) (A0 1)))) (E1 (mC (.bl false))) nD) (E1 (d5 AD (B0 (mF (D8 (D5 (A0 0)) [false,false] 1 (gN 2) F1 (c9 1 Ad (B7 (A0 2) B8)))) B4))))
def BE:Fn:=k6 2 KI
theorem dW{f:Addr}(F:k9 K "is_row" "is_row" JB f fd)(T:Txt K mg)(nN:Def P w K mg base "is_whole" 1 1 Ad):d9 P w K mg base j7 2 f fd ["thing","width"] (mY K 2 BE):=
 J5 F dU fun cdv A outer s H E hr=>(by have n0:=zP;cases T;injections R h W X z e Ae b D J1;exists (CA rfl);injections M;exists (L8 (N':=["-0","-1","number"]) (keep:=[false,false]) (more:=1) ?_ ?_ ?_ ?_ ?_ ?_ ?_);injections Bi U B9)
theorem dY:c8 ["thing","many","width"] ["thing","many","width"] (E5 JC):=J3
theorem zQ:(["-0","-1","width","row"]:List Str).Nodup:=by rfl'
def ER:Mo Fl:=(C3 (G0 (J9 (G9 (mT (pE "tuple" (A0 0)))) (mT (B5 (i9 true) (d5 E6 (B0 (A0 0) B4)) (A0 1)))) (E1 (mC (.bl false))) nD) (E1 (d5 AD (B0 (mF (D8 (D5 (A0 0)) [false,false,true] 1 (gN 3) F1 (c9 2 BE (B7 (A0 3) (B7 (A0 2) B8))))) B4))))
def EU:Fn:=k6 3 ER
theorem dZ{f:Addr}(F:k9 K "is_grid" "is_grid" JC f fd)(T:Txt K mg)(qS:Def P w K mg base "is_row" 2 2 BE):d9 P w K mg base j7 3 f fd ["thing","many","width"] (mY K 3 EU):=
 J5 F dY fun cdv A outer s H E hr=>(by have n0:=zQ;cases T;injections R h W X z e Ae b D J1;exists (CA rfl);injections M;exists (L8 (N':=["-0","-1","width","row"]) (keep:=[false,false,true]) (more:=1) ?_ ?_ ?_ ?_ ?_ ?_ ?_);injections Bi Bo)
theorem eA:c8 ["thing","least","greatest"] ["thing","least","greatest"] (E5 JD):=J3
def EV:Mo Fl:=(C3 (G0 (J9 (G9 (mT (pE "tuple" (A0 0)))) (G9 (mT (R7 oQ oQ (A0 1) (d5 E6 (B0 (A0 0) B4)) (A0 2))))) (E1 (mC (.bl false))) nD) (E1 (c9 3 EU (B7 (A0 0) (B7 (d5 E6 (B0 (A0 0) B4)) (B7 (d5 E6 (B0 (A0 0) B4)) B8))))))
def DQ:Fn:=k6 3 EV
theorem eD{f:Addr}(F:k9 K "is_square" "is_square" JD f fd)(T:Txt K mg)(pZ:Def P w K mg base "is_grid" 3 3 EU):d9 P w K mg base j7 4 f fd ["thing","least","greatest"] (mY K 3 DQ):=
 J5 F eA fun cdv A outer s H E hr=>(by cases T;injections R h W X Z8 P7 HN B3 e Ae b D V Bj Bk)
theorem eF:c8 ["grid"] ["grid"] (E5 JE):=J3
theorem zR:(["grid","at"]:List Str).Nodup:=by rfl'
theorem zS:(["-0","at","row"]:List Str).Nodup:=by rfl'
def KJ:Mo Fl:=(E1 (d5 P8 (B0 (mF (D8 (N0 (B0 (d5 E6 (B0 (B5 i8 (A0 0) (mC (.int 0))) B4)) B4)) [true] 1 (gN 1) F1 (d5 P8 (B0 (mF (D8 (D5 (A0 0)) [false,true] 1 (gN 2) F1 (B5 i8 (A0 2) (A0 1)))) B4)))) B4)))
def Z0:Fn:=k6 1 KJ
theorem eG{f:Addr}(F:k9 K "flipped" "flipped" JE f fd)(T:Txt K mg):d9 P w K mg base j7 1 f fd ["grid"] (mY K 1 Z0):=
 J5 F eF fun cdv A outer s H E hr=>(by have n0:=zR;have n1:=zS;cases T;injections D m M;exists (L8 (N':=["grid","at"]) (keep:=[true]) (more:=1) ?_ ?_ ?_ ?_ ?_ ?_ ?_);injections Bp L B6 M8 Y r Q m M;exists (L8 (N':=["-0","at","row"]) (keep:=[false,true]) (more:=1) ?_ ?_ ?_ ?_ ?_ ?_ ?_);injections Bi f B B9)
theorem Oi:c8 ["row","sums","number"] ["row"] (E5 JF):=J3
def KM:Mo Fl:=(C3 (O2 1 (F6 (B0 (mC (.int 0)) B4))) (C3 (K6 (D5 (A0 0)) (gN 2) (AU 1 (B5 D3 (O4 1 (M5 (mC (.int 1)))) (A0 2)))) (E1 (d5 P8 (B0 (A0 1) B4)))))
def EX:Fn:=k6 3 KM
theorem eI{f:Addr}(F:k9 K "running_sums" "running_sums" JF f fd)(T:Txt K mg):d9 P w K mg base j7 1 f fd ["row"] (mY K 1 EX):=
 J5 F Oi fun cdv A outer s H E hr=>(by have n0:=Oi.nd;cases T;injections s J7 O S y D1 Bs d Al n B D m F)
theorem eJ:c8 ["grid"] ["grid"] (E5 JG):=J3
theorem zT:(["-0","row"]:List Str).Nodup:=by rfl'
def Oj:Mo Fl:=(E1 (d5 P8 (B0 (mF (D8 (D5 (A0 0)) [false] 1 (gN 1) F1 (c9 1 EX (B7 (A0 1) B8)))) B4)))
def EY:Fn:=k6 1 Oj
theorem eK{f:Addr}(F:k9 K "sums_across" "sums_across" JG f fd)(T:Txt K mg)(nV:Def P w K mg base "running_sums" 1 1 EX):d9 P w K mg base j7 2 f fd ["grid"] (mY K 1 EY):=
 J5 F eJ fun cdv A outer s H E hr=>(by have n0:=zT;cases T;injections D m M;exists (L8 (N':=["-0","row"]) (keep:=[false]) (more:=1) ?_ ?_ ?_ ?_ ?_ ?_ ?_);injections Bi U B9)
theorem eL:c8 ["grid"] ["grid"] (E5 JH):=J3
def KN:Mo Fl:=(E1 (c9 1 Z0 (B7 (c9 1 EY (B7 (c9 1 Z0 (B7 (A0 0) B8)) B8)) B8)))
def CN:Fn:=k6 1 KN
theorem eM{f:Addr}(F:k9 K "sums_down" "sums_down" JH f fd)(T:Txt K mg)(n8:Def P w K mg base "flipped" 1 1 Z0)(oF:Def P w K mg base "sums_across" 2 1 EY):d9 P w K mg base j7 3 f fd ["grid"] (mY K 1 CN):=
 J5 F eL fun cdv A outer s H E hr=>(by cases T;injections D p p U D2 D2)
theorem Ol:c8 ["line","total","number"] ["line"] (E5 JI):=J3
def EZ:Mo Fl:=(C3 (C9 1 (mC (.int 0))) (C3 (K6 (D5 (A0 0)) (gN 2) (C3 (O5 1 AR (A0 2)) (G0 (mT (B5 (r8 true) (A0 1) (D6 (B0 (mC (.int 0)) (B0 (mC (.int 1)) B4))))) (E1 (mC (.bl false))) nD))) (E1 (B5 (i9 false) (A0 1) (mC (.int 1))))))
def CO:Fn:=k6 3 EZ
theorem eO{f:Addr}(F:k9 K "takes_turns" "takes_turns" JI f fd)(T:Txt K mg):d9 P w K mg base j7 1 f fd ["line"] (mY K 1 CO):=
 J5 F Ol fun cdv A outer s H E hr=>(by have n0:=Ol.nd;cases T;injections Aq S y C8 Ap B3 i t F8 C O D b D Ak Y)
theorem eP:c8 ["thing"] ["thing"] (E5 JJ):=J3
theorem zU:(["-0","line"]:List Str).Nodup:=by rfl'
def KO:Mo Fl:=(C3 (G0 (G9 (mT (c9 3 DQ (B7 (A0 0) (B7 (mC (.int 1)) (B7 (mC (.int 6)) B8)))))) (E1 (mC (.bl false))) nD) (E1 (d5 AD (B0 (mF (D8 (D5 (B5 D3 (A0 0) (c9 1 Z0 (B7 (A0 0) B8)))) [false] 1 (gN 1) F1 (c9 1 CO (B7 (A0 1) B8)))) B4))))
def CP:Fn:=k6 1 KO
theorem eQ{f:Addr}(F:k9 K "is_table" "is_table" JJ f fd)(T:Txt K mg)(o5:Def P w K mg base "is_square" 4 3 DQ)(oG:Def P w K mg base "takes_turns" 1 1 CO)(n8:Def P w K mg base "flipped" 1 1 Z0):d9 P w K mg base j7 5 f fd ["thing"] (mY K 1 CP):=
 J5 F eP fun cdv A outer s H E hr=>(by have n0:=zU;cases T;injections R W V Bq D2 D b D J1;exists (CA rfl);injections M;exists (L8 (N':=["-0","line"]) (keep:=[false]) (more:=1) ?_ ?_ ?_ ?_ ?_ ?_ ?_);injections J6 J U Q U B9)
theorem Om:c8 ["thing"] ["thing"] (E5 GL):=J3
def Ea:Mo Fl:=(G0 (G9 (mT (c9 1 CP (B7 (A0 0) B8)))) HV nD)
def DR:Fn:=k6 1 Ea
theorem eR{f:Addr}(F:k9 K "must_be_table" "must_be_table" GL f fd)(T:Txt K mg)(nO:Def P w K mg base "is_table" 5 1 CP):d9 P w K mg base j7 6 f fd ["thing"] (mY K 1 DR):=
 J5 F Om fun cdv A outer s H E hr=>(by cases T;injections i W U D1 HW L5)
def KP:Mx:=(uI (G9 (mT (c9 1 CP (B7 (A0 0) B8)))) (Hx "NoTable" (B0 (mC (.str "this is no table")) B4)) rV)
def Eb:List W->Option Str:=vH 1 KP
theorem eU{f:Addr}(F:k9 K "must_be_table" "must_be_table" GL f fd)(T:Txt K mg)(nO:Def P w K mg base "is_table" 5 1 CP):d9 P w K mg base (pR P w) 6 f fd ["thing"] (tP K 1 Eb):=
 Fh F Om fun cdv A outer s H E hr=>(by cases T;injections CF Hw PT.nox W U CF Hy PA.nox P B9 Hv)
theorem Oo:c8 ["thing","least","greatest","name"] ["thing","least","greatest","name"] (E5 GN):=J3
def Ec:Mo Fl:=(G0 (G9 (mT (c9 3 DP (B7 (A0 0) (B7 (A0 1) (B7 (A0 2) B8)))))) HV nD)
def BF:Fn:=k6 4 Ec
theorem eV{f:Addr}(F:k9 K "must_be_within" "must_be_within" GN f fd)(T:Txt K mg)(m8:Def P w K mg base "is_within" 2 3 DP):d9 P w K mg base j7 3 f fd ["thing","least","greatest","name"] (mY K 4 BF):=
 J5 F Oo fun cdv A outer s H E hr=>(by cases T;injections i W V A G D1 HW L5)
def eW:Mx:=(uI (G9 (mT (c9 3 DP (B7 (A0 0) (B7 (A0 1) (B7 (A0 2) B8)))))) (Hx "NoNumber" (B0 (Nv (B0 (mC (.str "the ")) (B0 (A0 3) (B0 (mC (.str " must be a whole number from ")) (B0 (A0 1) (B0 (mC (.str " to ")) (B0 (A0 2) B4))))))) B4)) rV)
def CQ:List W->Option Str:=vH 4 eW
theorem eX{f:Addr}(F:k9 K "must_be_within" "must_be_within" GN f fd)(T:Txt K mg)(m8:Def P w K mg base "is_within" 2 3 DP):d9 P w K mg base (pR P w) 3 f fd ["thing","least","greatest","name"] (tP K 4 CQ):=
 Fh F Oo fun cdv A outer s H E hr=>(by cases T;injections CF Hw PT.nox W V A G CF Hy PA.nox B6 OD Fu Fv B3 Fu Fv B3 Fu Fv B3 Nz B9 Hv)
theorem Oq:c8 ["number","product","factor"] ["number"] (E5 JK):=J3
def KQ:Mo Fl:=(C3 (C9 1 (mC (.int 1))) (C3 (K6 (FP (B0 (mC (.int 2)) (B0 (B5 D3 (A0 0) (mC (.int 1))) B4))) (gN 2) (O5 1 BY (A0 2))) (E1 (A0 1))))
def BG:Fn:=k6 3 KQ
theorem eY{f:Addr}(F:k9 K "factorial" "factorial" JK f fd)(T:Txt K mg):d9 P w K mg base j7 1 f fd ["number"] (mY K 1 BG):=
 J5 F Oq fun cdv A outer s H E hr=>(by have n0:=Oq.nd;cases T;injections Aq S MW C B6 w Br At Ae B3)
theorem Ot:c8 ["side","top","bottom","at"] ["side"] (E5 JL):=J3
def KR:Mo Fl:=(C3 (C9 1 (mC (.int 1))) (C3 (C9 2 (mC (.int 1))) (C3 (K6 (N0 (B0 (A0 0) B4)) (gN 3) (C3 (O5 1 BY (c9 1 BG (B7 (B5 D3 (B5 K7 (mC (.int 3)) (A0 3)) (mC (.int 1))) B8))) (O5 2 BY (c9 1 BG (B7 (B5 D3 (A0 0) (A0 3)) B8))))) (E1 (B5 Ia (A0 1) (A0 2))))))
def CS:Fn:=k6 4 KR
theorem eZ{f:Addr}(F:k9 K "counted" "counted" JL f fd)(T:Txt K mg)(o6:Def P w K mg base "factorial" 1 1 BG):d9 P w K mg base j7 2 f fd ["side"] (mY K 1 CS):=
 J5 F Ot fun cdv A outer s H E hr=>(by have n0:=Ot.nd;cases T;injections Aq Aq S AV F E7 C8 Ap p D9 Aa Y D2 At p J B3 D2 D J B3)
theorem Ou:c8 ["sums","rows","above"] ["sums"] (E5 JM):=J3
theorem zV:(["-0","-1","-2","row"]:List Str).Nodup:=by rfl'
theorem zW:(["-0","-1","above","row","number"]:List Str).Nodup:=by rfl'
def fB:Mo Fl:=(C3 (C9 1 (mF (F6 (B0 (D6 B4) B4)))) (C3 (K6 (D5 (A0 0)) (gN 2) (O2 1 (CG (D5 (A0 1)) [false,false,true] 2 (gN 3) F1 (wZ (D5 (D6 (B0 (M5 (mC (.int 1))) (B0 (mC (.int 0)) (B0 (mC (.int 1)) B4))))) (gN 4) (Ci (mT (B5 (r8 false) (B5 D3 (A0 2) (A0 4)) (D6 (B0 (mC (.int 0)) (B0 (mC (.int 1)) B4))))) (mT (B5 (r8 false) (B5 D3 (d5 M7 (B0 (A0 3) B4)) (A0 4)) (D6 (B0 (mC (.int 0)) (B0 (mC (.int 1)) B4)))))) (X1 (B5 D3 (A0 3) (D6 (B0 (A0 4) B4)))))))) (Am (D8 (D5 (A0 1)) [false,false,false] 1 (gN 3) (mT (B5 (i9 false) (d5 M7 (B0 (A0 3) B4)) (mC (.int 1)))) (A0 3)))))
def DS:Fn:=k6 3 fB
theorem fC{f:Addr}(F:k9 K "rows_on" "rows_on" JM f fd)(T:Txt K mg):d9 P w K mg base j7 1 f fd ["sums"] (mY K 1 DS):=
 J5 F Ou fun cdv A outer s H E hr=>(by have n0:=zV;have n1:=zW;have n2:=Ou.nd;cases T;injections E I H r S y D1;exists (IU (N':=["-0","-1","above","row","number"]) (keep:=[false,false,true]) (more:=2) ?_ ?_ ?_ ?_ ?_ ?_ ?_ ?_ ?_ ?_ ?_);injections Bi Ni J6 F8 Bl C O E7 As V1 FK K0 J B3 F8 C O FJ K0 D9 J1;exists (AF rfl);injections F B3 F8 C O Fk J Au Av;exists (L8 (N':=["-0","-1","-2","row"]) (keep:=[false,false,false]) (more:=1) ?_ ?_ ?_ ?_ ?_ ?_ ?_);injections y As K0 J1;exists (AF rfl);injections F C1 B3)
theorem fE:c8 ["sums","row"] ["sums","row"] (E5 JN):=J3
theorem zX:(["-0","-1","above","number"]:List Str).Nodup:=by rfl'
def KS:Mo Fl:=(E1 (d5 P8 (B0 (mF (D8 (Y2 (B0 (A0 0) (B0 (A0 1) B4))) [false,false] 2 (gT 2 (l0 (gN 2) (l0 (gN 3) oY))) F1 (B5 D3 (A0 2) (A0 3)))) B4)))
def BH:Fn:=k6 2 KS
theorem fF{f:Addr}(F:k9 K "added" "added" JN f fd)(T:Txt K mg):d9 P w K mg base j7 1 f fd ["sums","row"] (mY K 2 BH):=
 J5 F fE fun cdv A outer s H E hr=>(by have n0:=zX;cases T;injections D m M;exists (L8 (N':=["-0","-1","above","number"]) (keep:=[false,false]) (more:=2) ?_ ?_ ?_ ?_ ?_ ?_ ?_);injections Ct Ab F Bt J B)
theorem fG:c8 ["sums","known"] ["sums","known"] (E5 GO):=J3
theorem fH:(["sums","known","row"]:List Str).Nodup:=by rfl'
def KU(r_:Fn):Mo Fl:=(Am (D8 (D5 (mF (M1 1 DS (B7 (A0 0) B8)))) [true,true] 1 (gN 2) F1 (D6 (B0 (A0 2) (B0 (c9 2 r_ (B7 (c9 2 BH (B7 (A0 0) (B7 (A0 2) B8))) (F7 1 B8))) B4)))))
def Q3(r_:Fn):Fn:=k6 2 (KU r_)
theorem Ov{f:Addr}{k_:Nat}{r_:Fn}(F:k9 K "choices_on" "choices_on" GO f fd)(T:Txt K mg)(mZ:Def P w K mg base "rows_on" 1 1 DS)(m9:Def P w K mg base "added" 1 2 BH)(hk_:1≤k_)(n9:Def P w K mg base "ways_on" k_ 2 r_):d9 P w K mg base j7 (k_+1) f fd ["sums","known"] (mY K 2 (Q3 r_)):=
 J5 F fG fun cdv A outer s H E hr=>(by have n0:=fH;cases T;injections Av;exists (L8 (N':=["sums","known","row"]) (keep:=[true,true]) (more:=1) ?_ ?_ ?_ ?_ ?_ ?_ ?_);injections Bm G Q F8 B6 c p An Aw B9)
theorem fJ:c8 ["sums","known"] ["sums","known"] (E5 JO):=J3
theorem fK:(["-0","-1","row","ways"]:List Str).Nodup:=by rfl'
def BI(r_:Fn):Mo Fl:=(C3 (G0 (mT (B5 (r8 true) (mC (.int 0)) (A0 0))) (E1 (mC (.int 1))) nD) (C3 (G0 (mT (DD true 1 (A0 0))) (N7 (d5 M7 (B0 (mF (D8 (D5 (mF (M1 2 (Q3 r_) (B7 (A0 0) (F7 1 B8))))) [false,false] 2 (gT 2 (l0 (gN 2) (l0 (gN 3) oY))) F1 (A0 3))) B4)) (tS 1 (A0 0))) nD) (E1 (Fp 1 (A0 0)))))
def M3:Nat->Fn
 |0=>fun _=>none
 |n_+1=>k6 2 (BI (M3 n_))
theorem Ow{f f2:Addr}{fd fd2:FuncData}(F:k9 K "ways_on" "ways_on" JO f fd)(F2:k9 K "choices_on" "choices_on" GO f2 fd2)(T:Txt K mg)(mZ:Def P w K mg base "rows_on" 1 1 DS)(m9:Def P w K mg base "added" 1 2 BH)(hmg:mg "ways_on"=some (.ref f))(hkp:PySem.W.keepIn K (.ref f)=true)(hbd:Q6 K fd ["sums","known"] [])(hmg2:mg "choices_on"=some (.ref f2))(hkp2:PySem.W.keepIn K (.ref f2)=true)(hbd2:Q6 K fd2 ["sums","known"] []):∀n_:Nat,d9 P w K mg base j7 (1+2 * n_) f fd ["sums","known"] (mY K 2 (M3 n_))
 |0=>NK
 |n_+1=>by
  have n9:Def P w K mg base "ways_on" (1+2 * n_) 2 (M3 n_):=⟨_,_,_,Ow F F2 T mZ m9 hmg hkp hbd hmg2 hkp2 hbd2 n_,rfl,hmg,hkp,hbd⟩
  have i7:Def P w K mg base "choices_on" (1+2 * n_+1) 2 (Q3 (M3 n_)):=⟨_,_,_,Ov F2 T mZ m9 (by omega) n9,rfl,hmg2,hkp2,hbd2⟩
  exact(show d9 P w K mg base j7 (1+2 * n_+1+1) f fd ["sums","known"] (mY K 2 (M3 (n_+1)))from J5 F fJ fun cdv A outer s H E hr=>(by have n0:=fK;cases T;injections R K0 C1 Ae C1 L5 R Np B3 D1 Bu J1;exists (AF rfl);injections M;exists (L8 (N':=["-0","-1","row","ways"]) (keep:=[false,false]) (more:=2) ?_ ?_ ?_ ?_ ?_ ?_ ?_);injections Bm A Aw Bt B Fq Ax D IK B3))
theorem Ox:c8 ["choices","number","at"] ["choices","number"] (E5 JP):=J3
def KW:Mo Fl:=(C3 (C9 2 (mC (.int 0))) (C3 (Ht 60 (mT (B5 uU (A0 1) (B5 i8 (B5 i8 (A0 0) (A0 2)) (mC (.int 1))))) (C3 (O5 1 T4 (B5 i8 (B5 i8 (A0 0) (A0 2)) (mC (.int 1)))) (O5 2 AR (mC (.int 1))))) (E1 (D6 (B0 (B5 i8 (B5 i8 (A0 0) (A0 2)) (mC (.int 0))) (B0 (A0 1) B4))))))
def Ed:Fn:=k6 3 KW
theorem fL{f:Addr}(F:k9 K "chosen" "chosen" JP f fd)(T:Txt K mg):d9 P w K mg base j7 1 f fd ["choices","number"] (mY K 2 Ed):=
 J5 F Ox fun cdv A outer s H E hr=>(by have n0:=Ox.nd;cases T;injections Aq C8 Hu t M8 f Y C8 Ap M8 f Y At C1 D F8 B6 M8 f Y F)
theorem Oy:c8 ["side","number","known","rows","sums","row"] ["side","number","known"] (E5 JQ):=J3
def KY:Mo Fl:=(C3 (O2 3 (F6 B4)) (C3 (C9 4 (B5 K7 (D6 (B0 (mC (.int 0)) B4)) (A0 0))) (C3 (Ht 60 (mT (B5 (r8 false) (mC (.int 0)) (A0 4))) (C3 (N7 (c9 2 Ed (B7 (mF (M1 2 (Q3 (M3 8)) (B7 (A0 4) (F7 2 B8)))) (B7 (A0 1) B8))) (gT 2 (l0 (gN 5) (l0 (gN 1) oY)))) (C3 (AU 3 (A0 5)) (C9 4 (c9 2 BH (B7 (A0 4) (B7 (A0 5) B8))))))) (E1 (d5 P8 (B0 (A0 3) B4))))))
def DT:Fn:=k6 6 KY
theorem fM{f:Addr}(F:k9 K "laid" "laid" JQ f fd)(T:Txt K mg)(qT:Def P w K mg base "chosen" 1 2 Ed)(m9:Def P w K mg base "added" 1 2 BH)(i7:Def P w K mg base "choices_on" 18 2 (Q3 (M3 8))):d9 P w K mg base j7 19 f fd ["side","number","known"] (mY K 3 DT):=
 J5 F Oy fun cdv A outer s H E hr=>(by have n0:=Oy.nd;cases T;injections s J7 B9 Bn Af B3 C8 Hu K0 C1 B3 Bv p u A Aw G Bh C8 Bs F Ay An D m F)
theorem GR:c8 ["table","known","number","sums","row"] ["table"] (E5 GP):=J3
theorem fN:(["-0","-1","-2","-3","row","other","ways"]:List Str).Nodup:=by rfl'
def KZ:Mo Fl:=(C3 (Aw (c9 1 DR (B7 (A0 0) B8))) (C3 (Fm 1) (C3 (C9 2 (mC (.int 0))) (C3 (K6 (Y2 (B0 (c9 1 CN (B7 (A0 0) B8)) (B0 (A0 0) B4))) (gT 2 (l0 (gN 3) (l0 (gN 4) oY))) (O5 2 AR (d5 M7 (B0 (mF (D8 (D5 (mF (M1 2 (Q3 (M3 8)) (B7 (A0 3) (F7 1 B8))))) [false,false,false,false,true] 2 (gT 2 (l0 (gN 5) (l0 (gN 6) oY))) (mT (B5 AI (A0 5) (A0 4))) (A0 6))) B4)))) (E1 (A0 2))))))
def Ae:Fn:=k6 5 KZ
theorem fO{f:Addr}(F:k9 K "number_of" "number_of" GP f fd)(T:Txt K mg)(j1:Def P w K mg base "must_be_table" 6 1 DR)(nA:Def P w K mg base "sums_down" 3 1 CN)(i7:Def P w K mg base "choices_on" 18 2 (Q3 (M3 8))):d9 P w K mg base j7 19 f fd ["table"] (mY K 1 Ae):=
 J5 F GR fun cdv A outer s H E hr=>(by have n0:=fN;have n1:=GR.nd;cases T;injections C8 CC U C8 Fo Aq S Ct B6 U F Bh At J1;exists (AF rfl);injections M;exists (L8 (N':=["-0","-1","-2","-3","row","other","ways"]) (keep:=[false,false,false,false,true]) (more:=2) ?_ ?_ ?_ ?_ ?_ ?_ ?_);injections Bm A Aw Bh As t B3 B D B3)
theorem fP:(["-0","-1","-2","-3","row","other","ways"]:List Str).Nodup:=by rfl'
def Ka:Mx:=(T0 (V8 1 Eb (B7 (A0 0) B8)) (Aw (c9 1 DR (B7 (A0 0) B8))) (T0 rV (Fm 1) (T0 rV (C9 2 (mC (.int 0))) (T0 rV (K6 (Y2 (B0 (c9 1 CN (B7 (A0 0) B8)) (B0 (A0 0) B4))) (gT 2 (l0 (gN 3) (l0 (gN 4) oY))) (O5 2 AR (d5 M7 (B0 (mF (D8 (D5 (mF (M1 2 (Q3 (M3 8)) (B7 (A0 3) (F7 1 B8))))) [false,false,false,false,true] 2 (gT 2 (l0 (gN 5) (l0 (gN 6) oY))) (mT (B5 AI (A0 5) (A0 4))) (A0 6))) B4)))) rV))))
def CU:List W->Option Str:=vH 5 Ka
theorem fQ{f:Addr}(F:k9 K "number_of" "number_of" GP f fd)(T:Txt K mg)(j1:Def P w K mg base "must_be_table" 6 1 DR)(nA:Def P w K mg base "sums_down" 3 1 CN)(i7:Def P w K mg base "choices_on" 18 2 (Q3 (M3 8)))(nH:qC P w K mg base "must_be_table" 6 1 Eb):d9 P w K mg base (pR P w) 19 f fd ["table"] (tP K 1 CU):=
 Fh F GR fun cdv A outer s H E hr=>(by have n0:=fP;have n1:=GR.nd;cases T;injections CD Fg o G Ag U CD Ah Fo CD Ah G7 C1 CD Ah O6 Ct B6 U F Bh At J1;exists (AF rfl);injections M;exists (L8 (N':=["-0","-1","-2","-3","row","other","ways"]) (keep:=[false,false,false,false,true]) (more:=2) ?_ ?_ ?_ ?_ ?_ ?_ ?_);injections Bm A Aw Bh As t B3 B CF Cw)
theorem Oz:c8 ["side","number"] ["side","number"] (E5 GQ):=J3
def Kb:Mo Fl:=(C3 (Aw (c9 4 BF (B7 (A0 0) (B7 (mC (.int 1)) (B7 (mC (.int 6)) (B7 (mC (.str "side")) B8)))))) (C3 (Aw (c9 4 BF (B7 (A0 1) (B7 (mC (.int 0)) (B7 (B5 T4 (c9 1 CS (B7 (A0 0) B8)) (mC (.int 1))) (B7 (mC (.str "number")) B8)))))) (E1 (IQ 3 DT (B0 (A0 0) (B0 (A0 1) B4))))))
def Z1:Fn:=k6 2 Kb
theorem fR{f:Addr}(F:k9 K "table_at" "table_at" GQ f fd)(T:Txt K mg)(j0:Def P w K mg base "must_be_within" 3 4 BF)(qH:Def P w K mg base "laid" 19 3 DT)(oA:Def P w K mg base "counted" 2 1 CS):d9 P w K mg base j7 20 f fd ["side","number"] (mY K 2 Z1):=
 J5 F Oz fun cdv A outer s H E hr=>(by cases T;injections C8 CC V Bq Ad C8 CC V Ar D9 U C1 Ad D Nt IM B3 IM B3 Nq)
def Ee:Mx:=(T0 (V8 4 CQ (B7 (A0 0) (B7 (mC (.int 1)) (B7 (mC (.int 6)) (B7 (mC (.str "side")) B8))))) (Aw (c9 4 BF (B7 (A0 0) (B7 (mC (.int 1)) (B7 (mC (.int 6)) (B7 (mC (.str "side")) B8)))))) (T0 (V8 4 CQ (B7 (A0 1) (B7 (mC (.int 0)) (B7 (B5 T4 (c9 1 CS (B7 (A0 0) B8)) (mC (.int 1))) (B7 (mC (.str "number")) B8))))) (Aw (c9 4 BF (B7 (A0 1) (B7 (mC (.int 0)) (B7 (B5 T4 (c9 1 CS (B7 (A0 0) B8)) (mC (.int 1))) (B7 (mC (.str "number")) B8)))))) rV))
def Bd:List W->Option Str:=vH 2 Ee
theorem fS{f:Addr}(F:k9 K "table_at" "table_at" GQ f fd)(T:Txt K mg)(j0:Def P w K mg base "must_be_within" 3 4 BF)(qH:Def P w K mg base "laid" 19 3 DT)(oA:Def P w K mg base "counted" 2 1 CS)(nC:qC P w K mg base "must_be_within" 3 4 CQ):d9 P w K mg base (pR P w) 20 f fd ["side","number"] (tP K 2 Bd):=
 Fh F Oz fun cdv A outer s H E hr=>(by cases T;injections CD Fg o A Bq Ad Ag V Bq Ad CD Fg o A Ar D9 U C1 Ad Ag V Ar D9 U C1 Ad CF Cw)
theorem fT:c8 ["_law_script","_law_k"] ["_law_script","_law_k"] (E5 JR):=J3
def Ef:Mo Fl:=(C3 (G0 (mT (B5 tG (A0 1) (d5 E6 (B0 (A0 0) B4)))) (E1 (B5 i8 (A0 0) (A0 1))) nD) (E1 (mC (.int 0))))
def Eg:Fn:=k6 2 Ef
theorem fU{f:Addr}(F:k9 K "_law_cell_at" "_law_cell_at" JR f fd)(T:Txt K mg):d9 P w K mg base j7 1 f fd ["_law_script","_law_k"] (mY K 2 Eg):=
 J5 F fT fun cdv A outer s H E hr=>(by cases T;injections R t e D f Ax D C1)
theorem PB:c8 ["_law_script","_law_k","_law_cell"] ["_law_script","_law_k"] (E5 JS):=J3
def Eh:Mo Fl:=(C3 (C9 2 (c9 2 Eg (B7 (A0 0) (B7 (A0 1) B8)))) (C3 (G0 (mT (B5 uU (A0 2) (B5 R6 (mC (.int 10)) (mC (.int 18))))) (Am (F6 (B0 (B5 T4 (A0 2) (B5 R6 (mC (.int 10)) (mC (.int 18)))) (B0 (mC (.bl true)) B4)))) nD) (Am (F6 (B0 (B5 O1 (A0 2) (mC (.int 2147483647))) (B0 (mC (.bl false)) B4))))))
def Ei:Fn:=k6 3 Eh
theorem fV{f:Addr}(F:k9 K "_law_state" "_law_state" JS f fd)(T:Txt K mg)(nW:Def P w K mg base "_law_cell_at" 1 2 Eg):d9 P w K mg base j7 2 f fd ["_law_script","_law_k"] (mY K 2 Ei):=
 J5 F PB fun cdv A outer s H E hr=>(by have n0:=PB.nd;cases T;injections E An R t D9 j Av J7 B6 J D9 j g B9 L5 Av J7 B6 w g B9)
theorem PD:c8 ["_law_state_here","_law_many","_law_mixed","_law_found"] ["_law_state_here","_law_many"] (E5 JT):=J3
def Ej:Mo Fl:=(C3 (G0 (mT (O4 0 (mC (.int 1)))) (C3 (C9 3 (B5 O1 (O4 0 (mC (.int 0))) (A0 1))) (C3 (N7 (B5 Dn (O4 0 (mC (.int 0))) (A0 1)) (gS 0 (mC (.int 0)))) (E1 (A0 3)))) nD) (C3 (N7 (B5 O1 (B5 D3 (B5 K7 (O4 0 (mC (.int 0))) (mC (.int 48271))) (mC (.int 29))) (mC (.int 2147483647))) (gS 0 (mC (.int 0)))) (C3 (C9 2 (B5 O1 (B5 D3 (B5 D3 (B5 K7 (O4 0 (mC (.int 0))) (O4 0 (mC (.int 0)))) (B5 K7 (mC (.int 39373)) (O4 0 (mC (.int 0))))) (mC (.int 7))) (mC (.int 2147483629)))) (C3 (C9 2 (B5 O1 (B5 D3 (B5 K7 (A0 2) (A0 2)) (B5 K7 (mC (.int 16807)) (A0 2))) (mC (.int 2147483587)))) (E1 (B5 O1 (B5 Dn (A0 2) (mC (.int 8))) (A0 1)))))))
def K1:Fn:=k6 4 Ej
theorem fW{f:Addr}(F:k9 K "_law_take" "_law_take" JT f fd)(T:Txt K mg):d9 P w K mg base j7 1 f fd ["_law_state_here","_law_many"] (mY K 2 K1):=
 J5 F PD fun cdv A outer s H E hr=>(by have n0:=PD.nd;cases T;injections R P5 Az Bn Az B3 Bv D9 Az B3 HX C1 D Ax Bv D9 D9 D9 Al j j HX C1 Bn D9 D9 D9 Az Az Aa Al j C1 Bn D9 J B3 Aa Y D D9 w B3)
theorem PF:c8 ["_law_held_here","_law_found","_law_bit","_law_longer","_law_row","_law_here"] ["_law_held_here"] (E5 JU):=J3
theorem fX:(["-0","-1","-2","-3","-4","-5","_law_row","_law_here"]:List Str).Nodup:=by rfl'
def fY:Mo Fl:=(C3 (C9 1 (mF (F6 (B0 (D6 (B0 (D6 B4) (B0 (mC (.int 0)) B4))) B4)))) (C3 (K6 (D5 (A0 0)) (gN 2) (C3 (O2 3 (F6 B4)) (C3 (K6 (D5 (A0 1)) (gT 2 (l0 (gN 4) (l0 (gN 5) oY))) (C3 (G0 (Ci (mT (B5 (i9 false) (A0 5) (mC (.int 1)))) (mT (B5 (i9 false) (A0 2) (mC (.int 1))))) (AU 3 (D6 (B0 (B5 D3 (A0 4) (D6 (B0 (M5 (mC (.int 1))) B4))) (B0 (mC (.int 0)) B4)))) nD) (C3 (AU 3 (D6 (B0 (B5 D3 (A0 4) (D6 (B0 (mC (.int 0)) B4))) (B0 (A0 5) B4)))) (G0 (Ci (mT (B5 (i9 false) (A0 5) (mC (.int 0)))) (mT (B5 (i9 false) (A0 2) (mC (.int 0))))) (AU 3 (D6 (B0 (B5 D3 (A0 4) (D6 (B0 (mC (.int 1)) B4))) (B0 (mC (.int 1)) B4)))) nD)))) (C9 1 (A0 3))))) (Am (D8 (D5 (A0 1)) [false,false,false,false,false,false] 2 (gT 2 (l0 (gN 6) (l0 (gN 7) oY))) (mT (B5 (i9 false) (A0 7) (mC (.int 1)))) (A0 6)))))
def R3:Fn:=k6 6 fY
theorem fZ{f:Addr}(F:k9 K "_law_rows" "_law_rows" JU f fd)(T:Txt K mg):d9 P w K mg base j7 1 f fd ["_law_held_here"] (mY K 1 R3):=
 J5 F PF fun cdv A outer s H E hr=>(by have n0:=fX;have n1:=PF.nd;cases T;injections E I H H B9 Ba S y s J7 B9 S N Bh R V1 FK Bb FJ Bb D1 Bs H B6 J F8 Bl B9 Ba L5 C8 Bs H B6 J Af F B9 i V1 FK Bb FJ Bb D1 Bs H B6 J Af Ba L5 Ay B3 Av;exists (L8 (N':=["-0","-1","-2","-3","-4","-5","_law_row","_law_here"]) (keep:=[false,false,false,false,false,false]) (more:=2) ?_ ?_ ?_ ?_ ?_ ?_ ?_);injections N Bh As Bb B3)
theorem gA:c8 ["_law_held_here","_law_row"] ["_law_held_here","_law_row"] (E5 JV):=J3
theorem gB:(["-0","-1","_law_first","_law_second"]:List Str).Nodup:=by rfl'
def Kc:Mo Fl:=(E1 (d5 P8 (B0 (mF (D8 (Y2 (B0 (A0 0) (B0 (A0 1) B4))) [false,false] 2 (gT 2 (l0 (gN 2) (l0 (gN 3) oY))) F1 (B5 D3 (A0 2) (A0 3)))) B4)))
def R4:Fn:=k6 2 Kc
theorem gC{f:Addr}(F:k9 K "_law_held" "_law_held" JV f fd)(T:Txt K mg):d9 P w K mg base j7 1 f fd ["_law_held_here","_law_row"] (mY K 2 R4):=
 J5 F gA fun cdv A outer s H E hr=>(by have n0:=gB;cases T;injections D m M;exists (L8 (N':=["-0","-1","_law_first","_law_second"]) (keep:=[false,false]) (more:=2) ?_ ?_ ?_ ?_ ?_ ?_ ?_);injections Ct Ab F Bt J B)
theorem PH:c8 ["_law_state_here","_law_side","_law_held_here","_law_found","_law_few","_law_turn","_law_rows_here","_law_row","_law_most"] ["_law_state_here","_law_side"] (E5 JW):=J3
theorem gE:(["-0","-1","-2","-3","-4","-5","-6","-7","_law_most","_law_row"]:List Str).Nodup:=by rfl'
theorem gF:(["-0","-1","-2","-3","-4","-5","-6","-7","-8","_law_row"]:List Str).Nodup:=by rfl'
def Kd:Mo Fl:=(C3 (C9 2 (B5 K7 (D6 (B0 (mC (.int 0)) B4)) (A0 1))) (C3 (C9 3 (D6 B4)) (C3 (C9 4 (c9 2 K1 (F7 0 (B7 (mC (.int 3)) B8)))) (C3 (K6 (N0 (B0 (A0 1) B4)) (gN 5) (C3 (C9 6 (mF (M1 1 R3 (B7 (A0 2) B8)))) (C3 (G0 (mT (B5 (i9 false) (A0 4) (mC (.int 0)))) (C3 (C9 8 (d5 (R1 false) (B0 (mF (D8 (D5 (A0 6)) [false,false,false,false,false,false,false,false,false] 1 (gN 9) F1 (d5 (R1 false) (B0 (A0 9) B4)))) B4))) (O2 6 (D8 (D5 (A0 6)) [false,false,false,false,false,false,false,false,true] 1 (gN 9) (mT (B5 (i9 false) (d5 (R1 false) (B0 (A0 9) B4)) (A0 8))) (A0 9)))) nD) (C3 (C9 7 (B5 i8 (A0 6) (c9 2 K1 (F7 0 (B7 (d5 E6 (B0 (A0 6) B4)) B8))))) (C3 (C9 3 (B5 D3 (A0 3) (D6 (B0 (A0 7) B4)))) (C9 2 (c9 2 R4 (B7 (A0 2) (B7 (A0 7) B8))))))))) (E1 (A0 3))))))
def DU:Fn:=k6 9 Kd
theorem gG{f:Addr}(F:k9 K "_law_table" "_law_table" JW f fd)(T:Txt K mg)(i5:Def P w K mg base "_law_take" 1 2 K1)(j3:Def P w K mg base "_law_rows" 1 1 R3)(j5:Def P w K mg base "_law_held" 1 2 R4):d9 P w K mg base j7 2 f fd ["_law_state_here","_law_side"] (mY K 2 DU):=
 J5 F PH fun cdv A outer s H E hr=>(by have n0:=gE;have n1:=gF;have n2:=PH.nd;cases T;injections Bn Af B3 E F8 B9 E Aj S AV F E7 E u G R Bb E J1;exists (Fe rfl);injections M;exists (L8 (N':=["-0","-1","-2","-3","-4","-5","-6","-7","-8","_law_row"]) (keep:=[false,false,false,false,false,false,false,false,false]) (more:=1) ?_ ?_ ?_ ?_ ?_ ?_ ?_);injections Bi J1;exists (Fe rfl);injections F B9 D1;exists (Ie (N':=["-0","-1","-2","-3","-4","-5","-6","-7","_law_most","_law_row"]) (keep:=[false,false,false,false,false,false,false,false,true]) (more:=1) ?_ ?_ ?_ ?_ ?_ ?_ ?_ ?_ ?_ ?_ ?_);injections y As K0 J1;exists (Fe rfl);injections F B3 Ax E f T Bk E J Au Ay An D B3)
theorem PK:c8 ["_law_side","_law_lots","_law_place","_law_found","_law_held_here"] ["_law_side"] (E5 JX):=J3
theorem gH:(["-0","-1","-2","_law_found","_law_held_here","_law_row"]:List Str).Nodup:=by rfl'
theorem gI:(["-0","-1","-2","-3","-4","_law_row"]:List Str).Nodup:=by rfl'
theorem gJ:(["-0","-1","-2","-3","-4","_law_row"]:List Str).Nodup:=by rfl'
def Ke:Mo Fl:=(C3 (C9 1 (mF (F6 (B0 (D6 B4) B4)))) (C3 (K6 (N0 (B0 (A0 0) B4)) (gN 2) (C9 1 (mF (Q8 (mF (D8 (D5 (A0 1)) [false,false,false,false,false] 1 (gN 5) F1 (B5 D3 (A0 5) (D6 (B0 (mC (.int 0)) B4))))) (mF (D8 (D5 (A0 1)) [false,false,false,false,false] 1 (gN 5) F1 (B5 D3 (A0 5) (D6 (B0 (mC (.int 1)) B4))))))))) (C3 (Fm 3) (C3 (K6 (D5 (mF (Ip (A0 1)))) (gN 4) (C3 (N7 (d5 U2 (B0 (B5 (i9 false) (d5 M7 (B0 (A0 4) B4)) (A0 0)) B4)) (tS 3 (A0 4))) (G0 (mT (B5 tG (d5 M7 (B0 (A0 4) B4)) (A0 0))) (N7 (d5 M7 (B0 (mF (D8 (D5 (mF (M1 1 R3 (B7 (A0 4) B8)))) [false,false,false,true,true] 1 (gN 5) F1 (Fp 3 (c9 2 R4 (B7 (A0 4) (B7 (A0 5) B8)))))) B4)) (tS 3 (A0 4))) nD))) (E1 (A0 3))))))
def Ek:Fn:=k6 5 Ke
theorem gK{f:Addr}(F:k9 K "_law_counts" "_law_counts" JX f fd)(T:Txt K mg)(j5:Def P w K mg base "_law_held" 1 2 R4)(j3:Def P w K mg base "_law_rows" 1 1 R3):d9 P w K mg base j7 2 f fd ["_law_side"] (mY K 1 Ek):=
 J5 F PK fun cdv A outer s H E hr=>(by have n0:=gH;have n1:=gI;have n2:=gJ;have n3:=PK.nd;cases T;injections E I H r S AV F E7 Ay E4 AY E4;exists (L8 (N':=["-0","-1","-2","-3","-4","_law_row"]) (keep:=[false,false,false,false,false]) (more:=1) ?_ ?_ ?_ ?_ ?_ ?_ ?_);injections Bi J Af E4;exists (L8 (N':=["-0","-1","-2","-3","-4","_law_row"]) (keep:=[false,false,false,false,false]) (more:=1) ?_ ?_ ?_ ?_ ?_ ?_ ?_);injections Bi J Af C8 Fo S J6 E4 Oc B3 E7 Bv Bw B6 Ak J1;exists (AF rfl);injections F B Fq B3 i K0 J1;exists (AF rfl);injections F B3 D1 Bu J1;exists (AF rfl);injections M;exists (L8 (N':=["-0","-1","-2","_law_found","_law_held_here","_law_row"]) (keep:=[false,false,false,true,true]) (more:=1) ?_ ?_ ?_ ?_ ?_ ?_ ?_);injections Bm G Q IK Bo Fq Ax D B3)
theorem gL:c8 ["_law_thing"] ["_law_thing"] (E5 JY):=J3
def gM:Mo Fl:=(E1 (T8 (pE "int" (A0 0)) (AS (pE "bool" (A0 0)))))
def El:Fn:=k6 1 gM
theorem gO{f:Addr}(F:k9 K "_law_whole" "_law_whole" JY f fd)(T:Txt K mg):d9 P w K mg base j7 1 f fd ["_law_thing"] (mY K 1 El):=
 J5 F gL fun cdv A outer s H E hr=>(by cases T;injections D BO X BN FL X)
theorem PL:c8 ["_law_row","_law_some"] ["_law_row"] (E5 JZ):=J3
theorem gP:(["-0","-1","_law_at"]:List Str).Nodup:=by rfl'
theorem gQ:(["-0","-1","_law_one"]:List Str).Nodup:=by rfl'
def Kf:Mo Fl:=(C3 (O2 1 (D8 (D5 (A0 0)) [false,false] 1 (gN 2) (mT (B5 (i9 true) (A0 2) (mC (.int 0)))) (A0 2))) (E1 (T8 (B5 (i9 false) (B5 O1 (d5 E6 (B0 (A0 1) B4)) (mC (.int 2))) (mC (.int 1))) (B5 (i9 false) (A0 1) (mF (D8 (N0 (B0 (d5 E6 (B0 (A0 1) B4)) B4)) [false,false] 1 (gN 2) F1 (B5 T4 (mC (.int 1)) (B5 K7 (mC (.int 2)) (B5 O1 (A0 2) (mC (.int 2)))))))))))
def Be:Fn:=k6 2 Kf
theorem gR{f:Addr}(F:k9 K "_law_turns" "_law_turns" JZ f fd)(T:Txt K mg):d9 P w K mg base j7 1 f fd ["_law_row"] (mY K 1 Be):=
 J5 F PL fun cdv A outer s H E hr=>(by have n0:=gP;have n1:=gQ;have n2:=PL.nd;cases T;injections C8;exists (Ie (N':=["-0","-1","_law_one"]) (keep:=[false,false]) (more:=1) ?_ ?_ ?_ ?_ ?_ ?_ ?_ ?_ ?_ ?_ ?_);injections y As Bb Ae BO Ak D9 e j BN Ak B3 E4;exists (L8 (N':=["-0","-1","_law_at"]) (keep:=[false,false]) (more:=1) ?_ ?_ ?_ ?_ ?_ ?_ ?_);injections Bp e B9 Q Aa Aa w)
theorem PM:c8 ["_law_thing","_law_row"] ["_law_thing"] (E5 KA):=J3
theorem gU:(["_law_thing","_law_row","_law_at"]:List Str).Nodup:=by rfl'
theorem gW:(["-0","-1","_law_at","_law_row"]:List Str).Nodup:=by rfl'
theorem gX:(["-0","-1","_law_one"]:List Str).Nodup:=by rfl'
def CV:Mo Fl:=(C3 (G0 (J9 (G9 (mT (pE "tuple" (A0 0)))) (G9 (mT (R7 oQ oQ (mC (.int 1)) (d5 E6 (B0 (A0 0) B4)) (mC (.int 6)))))) (E1 (mC (.bl false))) nD) (C3 (K6 (D5 (A0 0)) (gN 1) (C3 (G0 (J9 (G9 (mT (pE "tuple" (A0 1)))) (mT (B5 (i9 true) (d5 E6 (B0 (A0 1) B4)) (d5 E6 (B0 (A0 0) B4))))) (E1 (mC (.bl false))) nD) (G0 (J9 (G9 (mT (d5 AD (B0 (mF (D8 (D5 (A0 1)) [false,false] 1 (gN 2) F1 (T8 (c9 1 El (B7 (A0 2) B8)) (R7 oQ oQ (M5 (mC (.int 1))) (A0 2) (mC (.int 1)))))) B4)))) (G9 (mT (c9 1 Be (B7 (A0 1) B8))))) (E1 (mC (.bl false))) nD))) (E1 (d5 AD (B0 (mF (D8 (N0 (B0 (d5 E6 (B0 (A0 0) B4)) B4)) [true,true] 1 (gN 2) F1 (c9 1 Be (B7 (mF (D8 (D5 (A0 0)) [false,false,true] 1 (gN 3) F1 (B5 i8 (A0 3) (A0 2)))) B8)))) B4)))))
def Af:Fn:=k6 2 CV
theorem gY{f:Addr}(F:k9 K "_law_is_table" "_law_is_table" KA f fd)(T:Txt K mg)(oT:Def P w K mg base "_law_turns" 1 1 Be)(oU:Def P w K mg base "_law_whole" 1 1 El):d9 P w K mg base j7 2 f fd ["_law_thing"] (mY K 1 Af):=
 J5 F PM fun cdv A outer s H E hr=>(by have n0:=gU;have n1:=gW;have n2:=gX;have n3:=PM.nd;cases T;injections R h W X Z8 P7 HN C1 e C1 D b S y R h W X z e e D b i h W J1;exists (CA rfl);injections M;exists (L8 (N':=["-0","-1","_law_one"]) (keep:=[false,false]) (more:=1) ?_ ?_ ?_ ?_ ?_ ?_ ?_);injections Bi BO U BN HM n Y B9 Z8 W U D b D J1;exists (CA rfl);injections M;exists (L8 (N':=["_law_thing","_law_row","_law_at"]) (keep:=[true,true]) (more:=1) ?_ ?_ ?_ ?_ ?_ ?_ ?_);injections Bp e B9 Q p E4;exists (L8 (N':=["-0","-1","_law_at","_law_row"]) (keep:=[false,false,true]) (more:=1) ?_ ?_ ?_ ?_ ?_ ?_ ?_);injections Bi f B3 D2 B9)
theorem PN:c8 ["_law_state_here","_law_some"] ["_law_state_here"] (E5 KB):=J3
def Kg:Mo Fl:=(C3 (C9 1 (mF (F6 (B0 (mC .non) (B0 (mC (.bl true)) (B0 (mC (.bl false)) (B0 (M5 (mC (.int 1))) (B0 (mC (.int 0)) (B0 (mC (.int 1)) (B0 (mC (.str "")) (B0 (mC (.str "+")) (B0 (D6 B4) (B0 (mF (F6 B4)) (B0 (D6 (B0 (mC (.bl true)) B4)) (B0 (mF (F6 (B0 (D6 (B0 (mC (.int 1)) B4)) B4))) (B0 (mC .emp) (B0 (D6 (B0 (mC .non) B4)) (B0 (D6 (B0 (D6 (B0 (mC (.bl true)) B4)) B4)) B4)))))))))))))))))) (E1 (B5 i8 (mF (Q8 (A0 1) (mF (F6 (B0 (B5 R6 (mC (.int 10)) (mC (.int 29))) (B0 (D6 (B0 (D6 B4) B4)) (B0 (D6 (B0 (D6 (B0 (mC (.int 0)) B4)) B4)) (B0 (D6 (B0 (D6 (B0 (mC (.int 1)) B4)) (B0 (D6 (B0 (mC (.int 1)) B4)) B4))) (B0 (D6 (B0 (D6 (B0 (D6 (B0 (mC (.int 1)) B4)) B4)) B4)) B4))))))))) (c9 2 K1 (F7 0 (B7 (mC (.int 20)) B8))))))
def DV:Fn:=k6 2 Kg
theorem gZ{f:Addr}(F:k9 K "_law_odd" "_law_odd" KB f fd)(T:Txt K mg)(i5:Def P w K mg base "_law_take" 1 2 K1):d9 P w K mg base j7 2 f fd ["_law_state_here"] (mY K 1 DV):=
 J5 F PN fun cdv A outer s H E hr=>(by have n0:=PN.nd;cases T;injections E I x g g Bl Bc P P H B9 B6 I B9 H g B9 B6 I H Ba B6 Nj H x B9 H H g r B9 D M8 E4 v I d j H H r H H Ba H H O H Ba H H H O r B9 Aj)
theorem PQ:c8 ["_law_state_here","_law_table_here","_law_row","_law_odd_here","_law_rows_here","_law_one","_law_other","_law_some","_law_at","_law_k"] ["_law_state_here","_law_table_here"] (E5 KC):=J3
def Kh:Mo Fl:=(C3 (Cm 8 9 (B0 (c9 2 K1 (F7 0 (B7 (d5 E6 (B0 (A0 1) B4)) B8))) (B0 (c9 2 K1 (F7 0 (B7 (d5 E6 (B0 (A0 1) B4)) B8))) B4))) (C3 (C9 2 (B5 i8 (A0 1) (A0 8))) (C3 (C9 3 (B5 i8 (mF (F6 (B0 (mC (.int 0)) (B0 (mC (.int 1)) (B0 (M5 (mC (.int 1))) (B0 (mC (.int 2)) (B0 (M5 (mC (.int 2))) (B0 (mC (.bl true)) (B0 (mC (.bl false)) (B0 (mC .non) (B0 (mC (.str "1")) (B0 (D6 (B0 (mC (.int 1)) B4)) (B0 (B5 R6 (mC (.int 10)) (mC (.int 29))) (B0 (M5 (B5 i8 (A0 2) (A0 9))) B4)))))))))))))) (c9 2 K1 (F7 0 (B7 (mC (.int 12)) B8))))) (C3 (C9 4 (mF (F6 (B0 (B5 D3 (B5 D3 (oC (A0 2) K8 (K9 (A0 9))) (D6 (B0 (A0 3) B4))) (oC (A0 2) (K9 (B5 D3 (A0 9) (mC (.int 1)))) K8)) (B0 (B5 D3 (B5 D3 (oC (A0 2) K8 (K9 (A0 9))) (D6 (B0 (A0 3) B4))) (oC (A0 2) (K9 (A0 9)) K8)) (B0 (B5 D3 (oC (A0 2) K8 (K9 (A0 9))) (oC (A0 2) (K9 (B5 D3 (A0 9) (mC (.int 1)))) K8)) (B0 (mF (uV Dq (B0 (A0 2) B4))) B4))))))) (C3 (C9 5 (B5 i8 (mF (Q8 (A0 4) (mF (F6 (B0 (Au (A0 2)) (B0 (mC .non) B4)))))) (B5 i8 (mF (F6 (B0 (mC (.int 0)) (B0 (mC (.int 0)) (B0 (mC (.int 0)) (B0 (mC (.int 0)) (B0 (mC (.int 0)) (B0 (mC (.int 1)) (B0 (mC (.int 2)) (B0 (mC (.int 3)) (B0 (mC (.int 4)) (B0 (mC (.int 5)) B4)))))))))))) (c9 2 K1 (F7 0 (B7 (mC (.int 10)) B8)))))) (C3 (C9 6 (B5 i8 (A0 1) (c9 2 K1 (F7 0 (B7 (d5 E6 (B0 (A0 1) B4)) B8))))) (C3 (C9 7 (mF (F6 (B0 (B5 D3 (B5 D3 (oC (A0 1) K8 (K9 (A0 8))) (D6 (B0 (A0 5) B4))) (oC (A0 1) (K9 (B5 D3 (A0 8) (mC (.int 1)))) K8)) (B0 (B5 D3 (B5 D3 (oC (A0 1) K8 (K9 (A0 8))) (D6 (B0 (A0 6) B4))) (oC (A0 1) (K9 (B5 D3 (A0 8) (mC (.int 1)))) K8)) B4))))) (C3 (C9 7 (mF (Q8 (A0 7) (mF (F6 (B0 (B5 D3 (oC (A0 1) K8 (K9 (A0 8))) (oC (A0 1) (K9 (B5 D3 (A0 8) (mC (.int 1)))) K8)) (B0 (B5 D3 (B5 D3 (oC (A0 1) K8 (K9 (A0 8))) (D6 (B0 (A0 2) B4))) (oC (A0 1) (K9 (A0 8)) K8)) (B0 (mF (uV Dq (B0 (A0 1) B4))) (B0 (Au (A0 1)) B4))))))))) (C3 (C9 7 (mF (Q8 (A0 7) (mF (F6 (B0 (D6 (B0 (A0 1) B4)) (B0 (mC .non) (B0 (A0 2) B4)))))))) (E1 (B5 i8 (A0 7) (B5 i8 (mF (F6 (B0 (mC (.int 0)) (B0 (mC (.int 0)) (B0 (mC (.int 0)) (B0 (mC (.int 0)) (B0 (mC (.int 1)) (B0 (mC (.int 1)) (B0 (mC (.int 2)) (B0 (mC (.int 3)) (B0 (mC (.int 4)) (B0 (mC (.int 5)) (B0 (mC (.int 6)) (B0 (mC (.int 7)) (B0 (mC (.int 8)) B4))))))))))))))) (c9 2 K1 (F7 0 (B7 (mC (.int 13)) B8)))))))))))))))
def BJ:Fn:=k6 10 Kh
theorem hG{f:Addr}(F:k9 K "_law_bent" "_law_bent" KC f fd)(T:Txt K mg)(i5:Def P w K mg base "_law_take" 1 2 K1):d9 P w K mg base j7 2 f fd ["_law_state_here","_law_table_here"] (mY K 2 BJ):=
 J5 F PQ fun cdv A outer s H E hr=>(by have n0:=PQ.nd;cases T;injections C8;exists (MU (i:=8) (j:=9) ?_ ?_ ?_ ?_ ?_ ?_ ?_ ?_ ?_ ?_);injections B6 T Bk B6 T Bk B9 E f B3 E M8 I Bc Bl C Bl g g x P H O d j B6 Z9 f B Aj E I d Be q Au a U5 w U4 d Be q Au a q U4 d Bd q a U5 w U4 M HS FC F B9 E M8 E4 v Bf FW c Z7 B9 M8 I Bg Bg C O Aj E f T Bk E I d Be q Au a U5 w U4 d Be q Au a U5 w U4 B9 E E4 v I d Bd q a U5 w U4 d Be q Au a q U4 M HS FC F B6 FW B E E4 v I H F x F D f M8 I Bg Bg Bg O Aj)
theorem hJ:c8 ["_law_found","_law_due"] ["_law_found","_law_due"] (E5 KD):=J3
theorem iA:(["-0","-1","_law_one","_law_other"]:List Str).Nodup:=by rfl'
def Em(r_:Fn):Mo Fl:=(C3 (G0 (mT (NF "tuple" "list" (A0 1))) (C3 (G0 (J9 (mT (B5 (i9 true) (pE "tuple" (A0 0)) (pE "tuple" (A0 1)))) (mT (B5 (i9 true) (pE "list" (A0 0)) (pE "list" (A0 1))))) (E1 (mC (.bl false))) nD) (E1 (T8 (B5 (i9 false) (d5 E6 (B0 (A0 0) B4)) (d5 E6 (B0 (A0 1) B4))) (d5 AD (B0 (mF (D8 (Y2 (B0 (A0 0) (B0 (A0 1) B4))) [false,false] 2 (gT 2 (l0 (gN 2) (l0 (gN 3) oY))) F1 (c9 2 r_ (B7 (A0 2) (B7 (A0 3) B8))))) B4))))) nD) (E1 (T8 (B5 (i9 false) (A0 0) (A0 1)) (B5 (i9 false) (pE "bool" (A0 0)) (pE "bool" (A0 1))))))
def Q1:Nat->Fn
 |0=>fun _=>none
 |n_+1=>k6 2 (Em (Q1 n_))
theorem PR{f:Addr}{fd:FuncData}(F:k9 K "_law_same" "_law_same" KD f fd)(T:Txt K mg)(hmg:mg "_law_same"=some (.ref f))(hkp:PySem.W.keepIn K (.ref f)=true)(hbd:Q6 K fd ["_law_found","_law_due"] []):∀n_:Nat,d9 P w K mg base j7 (1+n_) f fd ["_law_found","_law_due"] (mY K 2 (Q1 n_))
 |0=>NK
 |n_+1=>by
  have nX:Def P w K mg base "_law_same" (1+n_) 2 (Q1 n_):=⟨_,_,_,PR F T hmg hkp hbd n_,rfl,hmg,hkp,hbd⟩
  exact J5 F hJ fun cdv A outer s H E hr=>(by have n0:=iA;cases T;injections R P5 NG B3 R h K0 X X z X X D b D BO Ak e e BN J1;exists (CA rfl);injections M;exists (L8 (N':=["-0","-1","_law_one","_law_other"]) (keep:=[false,false]) (more:=2) ?_ ?_ ?_ ?_ ?_ ?_ ?_);injections Ct Ab F Bt Bo L5 D BO Ak B3 B3 BN Ak X X)
theorem Ki:c8 ["_law_call","_law_error","e","_law_sorts","_law_words"] ["_law_call"] (E5 KE):=J3
theorem iB:(["-0","-1","-2","-3","-4","_law_one"]:List Str).Nodup:=by rfl'
def iC:Mo Fl:=(C3 (G0 (mT (B5 Hz (A0 1) (mC .non))) (E1 (mC .non)) nD) (C3 (O2 3 (F6 (B0 (V9 xN "NoTable" (A0 1)) (B0 (V9 xN "NoHeights" (A0 1)) (B0 (V9 xN "NoNet" (A0 1)) B4))))) (C3 (O2 3 (Q8 (A0 3) (mF (F6 (B0 (V9 xN "NoPlace" (A0 1)) (B0 (V9 xN "NoTriangle" (A0 1)) (B0 (V9 xN "NoRow" (A0 1)) B4))))))) (C3 (AU 3 (V9 xN "NoNumber" (A0 1))) (C3 (O2 3 (Q8 (A0 3) (mF (F6 (B0 (V9 xN "NoTurn" (A0 1)) (B0 (V9 xN "NotAlike" (A0 1)) (B0 (V9 xN "NoStep" (A0 1)) B4))))))) (C3 (O2 3 (Q8 (A0 3) (mF (F6 (B0 (V9 xN "NoRows" (A0 1)) (B0 (V9 xN "TooMany" (A0 1)) (B0 (V9 xN "BadNote" (A0 1)) B4))))))) (C3 (G0 (J9 (G9 (mT (NP xN (A0 1)))) (mT (B5 (i9 true) (d5 M7 (B0 (mF (D8 (D5 (A0 3)) [false,false,false,false,false] 1 (gN 5) F1 (d5 U2 (B0 (A0 5) B4)))) B4)) (mC (.int 1))))) (E1 (mC (.str "none of these"))) nD) (C3 (C9 4 (mF (F6 (B0 (mC (.str "table")) (B0 (mC (.str "heights")) (B0 (mC (.str "net")) (B0 (mC (.str "place")) (B0 (mC (.str "triangle")) (B0 (mC (.str "row")) (B0 (mC (.str "number")) (B0 (mC (.str "turn")) (B0 (mC (.str "not alike")) (B0 (mC (.str "step")) B4))))))))))))) (E1 (B5 i8 (mF (Q8 (A0 4) (mF (F6 (B0 (mC (.str "rows")) (B0 (mC (.str "many")) (B0 (mC (.str "note")) B4))))))) (B5 IG (A0 3) (mC (.bl true)))))))))))))
def iD(o:Option Str):Mo Fl:=C3 (C9 1 (mC .non)) (C3 (IB xN 2 1 o) iC)
def Z2:Option Str->Option D:=IE 5 iD
theorem iE{f:Addr}(F:k9 K "_law_refused" "_law_refused" KE f fd)(T:Txt K mg)(hmg:mg "_law_refused"=some (.ref f))(hbd:Q6 K fd ["_law_call"] []):qD P w K mg base "_law_refused" 22 21 Z2:=
 aD F Ki hmg hbd (by decide) fun cdv A outer s H E fl o G hr fn clo=>ZP (i0:=0) (i:=2) (j:=1) rfl rfl rfl T.ex Ki.nd rfl (Or.inl rfl) rfl rfl rfl rfl (by decide) rfl fn clo (by have n0:=iB;have n1:=Ki.nd;cases T;injections R t Z7 D Z7 L5 s J7 B6 By B s v Bf By B C8 Bs B6 W0 B s v Bf By B s v Bf By B R h W NQ B3 z J1;exists (AF rfl);injections M;exists (L8 (N':=["-0","-1","-2","-3","-4","_law_one"]) (keep:=[false,false,false,false,false]) (more:=1) ?_ ?_ ?_ ?_ ?_ ?_ ?_);injections Bi Bw F B9 C1 D K5 L5 E I P P P P P P P P P P B9 D M8 E4 v I P P P B9 NZ B3 M0)
theorem PU:c8 ["_law_table_here","_law_ways","_law_held_here","_law_found","_law_row"] ["_law_table_here","_law_ways"] (E5 KG):=J3
theorem iF:(["-0","_law_ways","_law_held_here","-3","_law_row","_law_other"]:List Str).Nodup:=by rfl'
def Kj:Mo Fl:=(C3 (C9 2 (B5 K7 (D6 (B0 (mC (.int 0)) B4)) (d5 E6 (B0 (A0 0) B4)))) (C3 (C9 3 (mC (.int 0))) (C3 (K6 (D5 (A0 0)) (gN 4) (C3 (C9 3 (B5 D3 (A0 3) (d5 M7 (B0 (mF (D8 (D5 (mF (M1 1 R3 (B7 (A0 2) B8)))) [false,true,true,false,true] 1 (gN 5) (mT (B5 AI (A0 5) (A0 4))) (B5 BA (A0 1) (c9 2 R4 (B7 (A0 2) (B7 (A0 5) B8)))))) B4)))) (C9 2 (c9 2 R4 (B7 (A0 2) (B7 (A0 4) B8)))))) (E1 (A0 3)))))
def BK:Fn:=k6 5 Kj
theorem iG{f:Addr}(F:k9 K "_law_number" "_law_number" KG f fd)(T:Txt K mg)(j5:Def P w K mg base "_law_held" 1 2 R4)(j3:Def P w K mg base "_law_rows" 1 1 R3):d9 P w K mg base j7 2 f fd ["_law_table_here","_law_ways"] (mY K 2 BK):=
 J5 F PU fun cdv A outer s H E hr=>(by have n0:=iF;have n1:=PU.nd;cases T;injections Bn Af e Aq S y E J J1;exists (AF rfl);injections M;exists (L8 (N':=["-0","_law_ways","_law_held_here","-3","_law_row","_law_other"]) (keep:=[false,true,true,false,true]) (more:=1) ?_ ?_ ?_ ?_ ?_ ?_ ?_);injections Bm G E7 As t B3 IL B3 Bo Ay An D B3)
theorem PV:c8 ["_law_script","_law_k","_law_state_here","_law_side","_law_ways","_law_many","_law_plain","_law_table_here","_law_number_here","_law_odd_here","_law_beyond","_law_thing","_law_due","_law_found","_law_one","_law_other","_law_word"] ["_law_script"] (E5 DO):=J3
theorem iH:(["-0","-1","-2","_law_side","-4","-5","-6","-7","-8","-9","-10","-11","-12","-13","-14","-15","-16","_law_row"]:List Str).Nodup:=by rfl'
theorem iI:(["-0","-1","-2","-3","-4","-5","-6","-7","-8","-9","-10","-11","-12","-13","-14","-15","-16","_law_row","_law_place"]:List Str).Nodup:=by rfl'
def PX:Mo Fl:=(C3 (K6 (N0 (B0 (d5 Cq (B0 (mC (.int 1)) (B0 (d5 Cr (B0 (d5 E6 (B0 (A0 0) B4)) (B0 (mC (.int 6)) B4))) B4))) B4)) (gN 1) (C3 (O2 2 (M1 2 Ei (B7 (A0 0) (B7 (A0 1) B8)))) (C3 (C9 3 (B5 D3 (mC (.int 1)) (c9 2 K1 (F7 2 (B7 (mC (.int 6)) B8))))) (C3 (C9 4 (c9 1 Ek (B7 (A0 3) B8))) (C3 (C9 5 (B5 BA (A0 4) (B5 K7 (D6 (B0 (mC (.int 0)) B4)) (A0 3)))) (C3 (C9 6 (d5 P8 (B0 (mF (D8 (N0 (B0 (A0 3) B4)) [false,false,false,true,false,false,false,false,false,false,false,false,false,false,false,false,false] 1 (gN 17) F1 (d5 P8 (B0 (mF (D8 (N0 (B0 (A0 3) B4)) [false,false,false,false,false,false,false,false,false,false,false,false,false,false,false,false,false,true] 1 (gN 18) F1 (d5 U2 (B0 (B5 (i9 false) (A0 17) (A0 18)) B4)))) B4)))) B4))) (C3 (K6 (D5 (mF (F6 (B0 (A0 6) (B0 (Au (A0 6)) (B0 (c9 2 DU (F7 2 (B7 (A0 3) B8))) B4)))))) (gN 7) (C3 (C9 12 (c9 2 BK (B7 (A0 7) (B7 (A0 4) B8)))) (G0 (J9 (G9 (mT (c9 2 (Q1 6) (B7 (c9 1 Ae (B7 (A0 7) B8)) (B7 (A0 12) B8))))) (G9 (mT (c9 2 (Q1 6) (B7 (c9 2 Z1 (B7 (A0 3) (B7 (A0 12) B8))) (B7 (A0 7) B8)))))) (E1 (mC (.bl false))) nD))) (C3 (K6 (D5 (mF (F6 (B0 (mC (.int 0)) (B0 (B5 T4 (A0 5) (mC (.int 1))) (B0 (c9 2 K1 (F7 2 (B7 (A0 5) B8))) B4)))))) (gN 8) (C3 (C9 13 (c9 2 Z1 (B7 (A0 3) (B7 (A0 8) B8)))) (G0 (J9 (G9 (mT (c9 1 Af (B7 (A0 13) B8)))) (J9 (mT (B5 (i9 true) (d5 E6 (B0 (A0 13) B4)) (A0 3))) (mT (B5 (i9 true) (c9 2 BK (B7 (A0 13) (B7 (A0 4) B8))) (A0 8))))) (E1 (mC (.bl false))) nD))) (C3 (C9 9 (B5 i8 (mF (F6 (B0 (mC (.int 0)) (B0 (mC (.int 7)) (B0 (M5 (mC (.int 1))) (B0 (mC (.bl true)) (B0 (mC (.bl false)) (B0 (mC .non) (B0 (mC (.str "2")) (B0 (D6 (B0 (mC (.int 2)) B4)) (B0 (B5 R6 (mC (.int 10)) (mC (.int 29))) (B0 (mF (F6 (B0 (mC (.int 1)) B4))) B4)))))))))))) (c9 2 K1 (F7 2 (B7 (mC (.int 10)) B8))))) (C3 (C9 10 (B5 i8 (mF (F6 (B0 (A0 5) (B0 (M5 (mC (.int 1))) (B0 (mC (.bl true)) (B0 (mC .non) (B0 (mC (.str "0")) (B0 (D6 (B0 (mC (.int 0)) B4)) (B0 (B5 R6 (mC (.int 10)) (mC (.int 29))) B4))))))))) (c9 2 K1 (F7 2 (B7 (mC (.int 7)) B8))))) (C3 (K6 (D5 (mF (F6 (B0 (D6 (B0 (A0 9) (B0 (mC (.int 0)) B4))) (B0 (D6 (B0 (A0 3) (B0 (A0 10) B4))) (B0 (D6 (B0 (A0 9) (B0 (A0 10) B4))) B4)))))) (gT 2 (l0 (gN 14) (l0 (gN 15) oY))) (G0 (mT (B5 (i9 true) (Y6 xN [false,false,false,false,false,false,false,false,false,false,false,false,false,false,true,true,false] (c9 2 Z1 (B7 (A0 14) (B7 (A0 15) B8))) (V8 2 Bd (B7 (A0 14) (B7 (A0 15) B8))) Z2) (mC (.str "number")))) (E1 (mC (.bl false))) nD)) (K6 (D5 (mF (F6 (B0 (c9 2 BJ (F7 2 (B7 (A0 7) B8))) (B0 (c9 2 BJ (F7 2 (B7 (A0 7) B8))) (B0 (c9 1 DV (F7 2 B8)) B4)))))) (gN 11) (C3 (C9 16 (B5 i8 (mF (F6 (B0 (mC .non) (B0 (mC (.str "table")) B4)))) (d5 U2 (B0 (AS (c9 1 Af (B7 (A0 11) B8))) B4)))) (G0 (mT (B5 (i9 true) (Y6 xN [false,false,false,false,false,false,false,false,false,false,false,true,false,false,false,false,false] (c9 1 Ae (B7 (A0 11) B8)) (V8 1 CU (B7 (A0 11) B8)) Z2) (A0 16))) (E1 (mC (.bl false))) nD)))))))))))))) (E1 (mC (.bl true))))
def GS:Fn:=k6 17 PX
theorem iJ{f Pt:Addr}{cd:Value}(F:k9 K "law" "law" DO f fd)(hcd:fd.code=cd)(T:Txt K mg)(tb:m7 K mg base cd "law" Pt)(oV:Def P w K mg base "_law_state" 2 2 Ei)(oH:Def P w K mg base "_law_counts" 2 1 Ek)(i5:Def P w K mg base "_law_take" 1 2 K1)(oW:Def P w K mg base "_law_table" 2 2 DU)(oI:Def P w K mg base "_law_number" 2 2 BK)(pN:Def P w K mg base "table_at" 20 2 Z1)(o7:Def P w K mg base "_law_bent" 2 2 BJ)(pO:Def P w K mg base "_law_odd" 2 1 DV)(nY:qD P w K mg base "_law_refused" 22 21 Z2)(nX:Def P w K mg base "_law_same" 7 2 (Q1 6))(nP:Def P w K mg base "_law_is_table" 2 1 Af)(o8:Def P w K mg base "number_of" 19 1 Ae)(o9:qC P w K mg base "table_at" 20 2 Bd)(oX:qC P w K mg base "number_of" 19 1 CU):d9 P w K mg base j7 23 f fd ["_law_script"] (uL K [Pt] 1 GS):=
 aH (N:=["_law_script","_law_k","_law_state_here","_law_side","_law_ways","_law_many","_law_plain","_law_table_here","_law_number_here","_law_odd_here","_law_beyond","_law_thing","_law_due","_law_found","_law_one","_law_other","_law_word"]) (mb:=PX) F hcd PV fun A outer s H E tbi hr=>by
  obtain⟨ps0,hP⟩:=tbi Pt (by simp)
  exact(by have n0:=iH;have n1:=iI;have n2:=PV.nd;cases T;injections S Bp J1;exists (Lm rfl);injections C B6 J1;exists (Ln rfl);injections B6 e O r E7 s AZ A G E Aa Aj E U E IL B3 D9 Af B3 E m M;exists (L8 (N':=["-0","-1","-2","_law_side","-4","-5","-6","-7","-8","-9","-10","-11","-12","-13","-14","-15","-16","_law_row"]) (keep:=[false,false,false,true,false,false,false,false,false,false,false,false,false,false,false,false,false]) (more:=1) ?_ ?_ ?_ ?_ ?_ ?_ ?_);injections AV F Q m M;exists (L8 (N':=["-0","-1","-2","-3","-4","-5","-6","-7","-8","-9","-10","-11","-12","-13","-14","-15","-16","_law_row","_law_place"]) (keep:=[false,false,false,false,false,false,false,false,false,false,false,false,false,false,false,false,false,true]) (more:=1) ?_ ?_ ?_ ?_ ?_ ?_ ?_);injections AV F Q Bw B6 Ak B3 B r S J6 Bf c FW c T G Br E An i h W p U G Z8 W p An G D b S J6 I C B6 w B6 T G Br E An i h W U Y0 K0 e B3 z An Ae b E M8 I Bc Bl g g x P H O d j B6 I Ba Aj E M8 Bf c n g x P H O d j B9 Aj S J6 I H Ab O H Ab F H Ab F B9 Bh i K0;exists (NV (kc:=20) (N':=["-0","-1","-2","-3","-4","-5","-6","-7","-8","-9","-10","-11","-12","-13","_law_one","_law_other","-16"]) (keep:=[false,false,false,false,false,false,false,false,false,false,false,false,false,false,true,true,false]) ?_ ?_ ?_ ?_ ?_ ?_ ?_ ?_ ?_ ?_ ?_ ?_ ?_ ?_ ?_ ?_ ?_ ?_ ?_);injections An o A G K5 D b D1 O6 J6 Bf T G B6 T G B6 T D2 Br E M8 I x P B9 Bw B6 FL U B9 i K0;exists (NV (kc:=20) (N':=["-0","-1","-2","-3","-4","-5","-6","-7","-8","-9","-10","_law_thing","-12","-13","-14","-15","-16"]) (keep:=[false,false,false,false,false,false,false,false,false,false,false,true,false,false,false,false,false]) ?_ ?_ ?_ ?_ ?_ ?_ ?_ ?_ ?_ ?_ ?_ ?_ ?_ ?_ ?_ ?_ ?_ ?_ ?_);injections U o G Ae b D M0)
end
def rW:D->Bool
 |.int _=>true
 |_=>false
theorem PY(d:D):Ad [.dat d]=some (.d (.bl (rW d)),[.dat d]):=by cases d<;>rfl
def qU(d:D)(n:Int):Bool:=match d with
 |.tup es=>(es.length:Int)==n&&es.all rW
 |_=>false
theorem iK(d:D)(n:Int)(hn:n≤1000):BE [.dat d,.dat (.int n)]=some (.d (.bl (qU d n)),[.dat d,.dat (.int n)]):=by
 cases d with
 |tup es=>
  by_cases h:(es.length:Int)=n
  ·have t:(J9 (G9 (mT (pE "tuple" (A0 0)))) (mT (B5 (i9 true) (d5 E6 (B0 (A0 0) B4)) (A0 1)))) [.dat (.tup es),.dat (.int n)]=some (false,[.dat (.tup es),.dat (.int n)]):=by
    show some (!((es.length:Int)==n),_)=_;rw[h];simp
   obtain⟨e',h1,w,rfl⟩:=Hr (g:=gN 2) (m:=c9 1 Ad (B7 (A0 2) B8)) (P:=fun e=>∃w,e=[.nil,.nil,w]) (f:=fun d=>.bl (rW d)) (ds:=es) (env:=[.nil,.nil,.nil])
    (fun d _ e ⟨w,he⟩=>by
     subst he;refine⟨[.nil,.nil,.dat d],[.nil,.nil,.dat d],rfl,?_,_,rfl⟩;show((Ad [.dat d]).map fun q=>(q.1,_)).bind sW=_
     rw[PY];rfl) ⟨.nil,rfl⟩
   have hl:es.length≤100000:=by omega
   have c:(D8 (D5 (A0 0)) [false,false] 1 (gN 2) F1 (c9 1 Ad (B7 (A0 2) B8))) [.dat (.tup es),.dat (.int n)]=some (es.map fun d=>.bl (rW d),[.dat (.tup es),.dat (.int n)]):=by
    show(if es.length≤100000 then(N1 _ _ _ es [.nil,.nil,.nil]).bind _ else none)=_
    rw[Qh hl,h1];rfl
   unfold BE k6 KI;show(match C3 _ _ [.dat (.tup es),.dat (.int n)]with|some (.ret d,env)=>_|some (.retL ds,env)=>_|some (.nx,env)=>_|_=>none)=_
   rw[L4 (by rw[Y4 t];rfl)]
   have r:(E1 (d5 AD (B0 (mF (D8 (D5 (A0 0)) [false,false] 1 (gN 2) F1 (c9 1 Ad (B7 (A0 2) B8)))) B4))) [.dat (.tup es),.dat (.int n)]=some (.ret (.bl (es.all rW)),[.dat (.tup es),.dat (.int n)]):=by
    unfold E1 d5 B0 mF;rw[c];show(((U1 (es.map fun d=>.bl (rW d))).map fun k=>D.bl k).map _).map _=_
    rw[CB];rfl
   rw[r];show some (Rr.d (.bl (es.all rW)),_)=_
   simp[qU,h];rfl
  ·have t:(J9 (G9 (mT (pE "tuple" (A0 0)))) (mT (B5 (i9 true) (d5 E6 (B0 (A0 0) B4)) (A0 1)))) [.dat (.tup es),.dat (.int n)]=some (true,[.dat (.tup es),.dat (.int n)]):=by
    show some (!((es.length:Int)==n),_)=_
    simp[h]
   unfold BE k6 KI;show(match C3 _ _ [.dat (.tup es),.dat (.int n)]with|some (.ret d,env)=>_|some (.retL ds,env)=>_|some (.nx,env)=>_|_=>none)=_
   rw[X0 (d:=.bl false) (by rw[Y3 t];rfl)]
   simp[qU,h];rfl
 |_=>rfl
def sY(d:D)(m n:Int):Bool:=match d with
 |.tup es=>(es.length:Int)==m&&es.all fun r=>qU r n
 |_=>false
theorem iL(d:D)(k n:Int)(hk:k≤1000)(hn:n≤1000):EU [.dat d,.dat (.int k),.dat (.int n)]=some (.d (.bl (sY d k n)),[.dat d,.dat (.int k),.dat (.int n)]):=by
 cases d with
 |tup es=>
  by_cases h:(es.length:Int)=k
  ·have t:(J9 (G9 (mT (pE "tuple" (A0 0)))) (mT (B5 (i9 true) (d5 E6 (B0 (A0 0) B4)) (A0 1)))) [.dat (.tup es),.dat (.int k),.dat (.int n)]=some (false,[.dat (.tup es),.dat (.int k),.dat (.int n)]):=by
    show some (!((es.length:Int)==k),_)=_;rw[h];simp
   obtain⟨e',h1,w,rfl⟩:=Hr (g:=gN 3) (m:=c9 2 BE (B7 (A0 3) (B7 (A0 2) B8))) (P:=fun e=>∃w,e=[.nil,.nil,.dat (.int n),w]) (f:=fun d=>.bl (qU d n)) (ds:=es) (env:=[.nil,.nil,.dat (.int n),.nil])
    (fun d _ e ⟨w,he⟩=>by
     subst he;refine⟨[.nil,.nil,.dat (.int n),.dat d],[.nil,.nil,.dat (.int n),.dat d],rfl,?_,_,rfl⟩;show((BE [.dat d,.dat (.int n)]).map fun q=>(q.1,_)).bind sW=_
     rw[iK d n hn];rfl) ⟨.nil,rfl⟩
   have hl:es.length≤100000:=by omega
   have c:(D8 (D5 (A0 0)) [false,false,true] 1 (gN 3) F1 (c9 2 BE (B7 (A0 3) (B7 (A0 2) B8)))) [.dat (.tup es),.dat (.int k),.dat (.int n)]=some (es.map fun d=>.bl (qU d n),[.dat (.tup es),.dat (.int k),.dat (.int n)]):=by
    show(if es.length≤100000 then(N1 _ _ _ es [.nil,.nil,.dat (.int n),.nil]).bind _ else none)=_
    rw[Qh hl,h1];rfl
   refine(J4 (d:=.bl (sY (.tup es) k n)) (env:=[.dat (.tup es),.dat (.int k),.dat (.int n)]) ?_).trans rfl;show ER [.dat (.tup es),.dat (.int k),.dat (.int n)]=_;unfold ER;rw[L4 (by rw[Y4 t];rfl)]
   unfold E1 d5 B0 mF;rw[c];show(((U1 (es.map fun d=>.bl (qU d n))).map fun k=>D.bl k).map _).map _=_
   rw[CB]
   simp[sY,h]
  ·have t:(J9 (G9 (mT (pE "tuple" (A0 0)))) (mT (B5 (i9 true) (d5 E6 (B0 (A0 0) B4)) (A0 1)))) [.dat (.tup es),.dat (.int k),.dat (.int n)]=some (true,[.dat (.tup es),.dat (.int k),.dat (.int n)]):=by
    show some (!((es.length:Int)==k),_)=_
    simp[h]
   refine(J4 (d:=.bl (sY (.tup es) k n)) (env:=[.dat (.tup es),.dat (.int k),.dat (.int n)]) ?_).trans rfl;show ER [.dat (.tup es),.dat (.int k),.dat (.int n)]=_;unfold ER;rw[X0 (d:=.bl false) (by rw[Y3 t];rfl)]
   simp[sY,h]
 |_=>rfl
def rC(d:D)(a b:Int):Bool:=match d with
 |.tup es=>(decide (a≤(es.length:Int))&&decide ((es.length:Int)≤b))&&es.all fun r=>qU r es.length
 |_=>false
theorem iM(d:D)(a b:Int)(hb:b≤1000):DQ [.dat d,.dat (.int a),.dat (.int b)]=some (.d (.bl (rC d a b)),[.dat d,.dat (.int a),.dat (.int b)]):=by
 cases d with
 |tup es=>
  have t:(J9 (G9 (mT (pE "tuple" (A0 0)))) (G9 (mT (R7 oQ oQ (A0 1) (d5 E6 (B0 (A0 0) B4)) (A0 2))))) [.dat (.tup es),.dat (.int a),.dat (.int b)]=some (!(decide (a≤(es.length:Int))&&decide ((es.length:Int)≤b)),[.dat (.tup es),.dat (.int a),.dat (.int b)]):=by
   by_cases h1:a≤(es.length:Int)
   ·have e1:oQ (.int a) (.int es.length)=some (.bl true):=by show some (D.bl (decide _))=_;simp[h1]
    show(((match oQ (.int a) (.int es.length)with|some (.bl true)=>_|some (.bl false)=>_|_=>none:Option (D×b0)).bind vR).map _)=_
    rw[e1,Yc h1];rfl
   ·have e1:oQ (.int a) (.int es.length)=some (.bl false):=by show some (D.bl (decide _))=_;simp[h1]
    show(((match oQ (.int a) (.int es.length)with|some (.bl true)=>_|some (.bl false)=>_|_=>none:Option (D×b0)).bind vR).map _)=_
    rw[e1,Zj h1];rfl
  by_cases h:(decide (a≤(es.length:Int))&&decide ((es.length:Int)≤b))=true
  ·rw[h]at t
   refine(J4 (d:=.bl (rC (.tup es) a b)) (env:=[.dat (.tup es),.dat (.int a),.dat (.int b)]) ?_).trans rfl;show EV [.dat (.tup es),.dat (.int a),.dat (.int b)]=_;unfold EV;rw[L4 (by rw[Y4 t];rfl)]
   have hl:(es.length:Int)≤1000:=by
    rw[Qw,Zw,Zw]at h
    omega
   show(((EU [.dat (.tup es),.dat (.int es.length),.dat (.int es.length)]).map fun q=>(q.1,_)).bind sW).map _=_
   rw[iL _ _ _ hl hl]
   simp[rC,sY,h,sW]
  ·have h':(decide (a≤(es.length:Int))&&decide ((es.length:Int)≤b))=false:=by simpa using h
   rw[h']at t;refine(J4 (d:=.bl (rC (.tup es) a b)) (env:=[.dat (.tup es),.dat (.int a),.dat (.int b)]) ?_).trans rfl;show EV [.dat (.tup es),.dat (.int a),.dat (.int b)]=_;unfold EV;rw[X0 (d:=.bl false) (by rw[Y3 t];rfl)]
   simp[rC,h']
 |_=>rfl
def dR(l:List Int):D:=.tup (l.map .int)
def dT(R:OI):D:=.tup (R.map dR)
def rY:D->Int
 |.int i=>i
 |_=>0
def mX:D->List Int
 |.tup es=>es.map rY
 |.lst es=>es.map rY
 |_=>[]
def rL:D->OI
 |.tup es=>es.map mX
 |_=>[]
theorem iN(h:rW d=true):d=.int (rY d):=by cases d<;>first|rfl|cases h
theorem PZ(h:es.all rW=true):es=(es.map rY).map .int:=by
 induction es with
 |nil=>rfl
 |cons d es ih=>
  rw[Vz,Qw]at h;rw[Qg,Qg,←iN h.1,←ih h.2]
theorem DW{n:Int}(h:qU d n=true):d=dR (mX d)/\((mX d).length:Int)=n:=by
 cases d<;>first|cases h|skip
 rename_i es;simp only[qU,Qw,Yi]at h;refine⟨?_,by simp[mX,h.1]⟩
 show D.tup es=.tup ((es.map rY).map .int);rw[←PZ h.2]
theorem Pa(h:rC d a b=true):d=dT (rL d)/\a≤((rL d).length:Int)/\((rL d).length:Int)≤b/\∀r∈rL d,r.length=(rL d).length:=by
 cases d<;>first|cases h|skip
 rename_i es;simp only[rC,Qw,Zw,Qx]at h;refine⟨?_,by simpa [rL]using h.1.1,by simpa [rL]using h.1.2,fun r hr=>?_⟩
 ·show D.tup es=.tup ((es.map mX).map dR)
  congr 1
  rw[Zz]
  conv=>lhs;rw[←Vm es]
  exact Zc fun x hx=>(DW (h.2 x hx)).1
 ·obtain⟨x,hx,rfl⟩:=Qa.mp hr
  have:=(DW (h.2 x hx)).2;simp only[rL,Qk]
  omega
theorem iO(l:List Int):(l.map D.int).map rY=l:=by rw[Zz];exact Vm l
theorem Pb(l:List Int):mX (dR l)=l:=iO l
theorem En(R:OI):rL (dT R)=R:=by
 show(R.map dR).map mX=R;rw[Zz]
 conv=>rhs;rw[←Vm R]
 exact Zc fun r _=>Pb r
theorem iP(l:List Int):qU (dR l) l.length=true:=by
 simp[qU,dR,rW]
theorem Kk{R:OI}(h1:a≤R.length)(h2:(R.length:Int)≤b)(h:∀r∈R,r.length=R.length):rC (dT R) a b=true:=by
 simp only[rC,dT,Qk,Qw,Zw,Qx];refine⟨⟨h1,h2⟩,fun x hx=>?_⟩
 obtain⟨r,hr,rfl⟩:=Qa.mp hx;have:=iP r;rw[h r hr]at this;exact this
theorem Z3{xs:List α}{x:α}(h:xs[j]? =some x):p8 xs (j:Int)=some x:=by
 have hj:j<xs.length:=(Qp.mp h).1
 unfold p8 tN;rw[Qh (by omega),Qh (by omega)]
 simpa using h
theorem DX(n:Nat):Q7 0 n=(List.range n).map fun(i:Nat)=>D.int i:=by
 unfold Q7;exact Zc fun i _=>by simp
theorem CW{g:OZ}{m:Mo D}{P:b0->Prop}{q:α->D}{f:α->D}{l:List α}(h:∀a∈l,∀e,P e->∃e1 e2,g (q a) e=some e1/\m e1=some (f a,e2)/\P e2)(p:P env):
  ∃env',N1 g F1 m (l.map q) env=some (l.map f,env')/\P env':=by
 induction l generalizing env with
 |nil=>exact⟨env,rfl,p⟩
 |cons a l ih=>
  obtain⟨e1,e2,h1,h2,h3⟩:=h a (by simp) env p
  obtain⟨e3,h4,h5⟩:=ih (fun x hx=>h x (by simp[hx])) h3
  refine⟨e3,?_,h5⟩;rw[Qg,Qg];unfold N1;rw[h1];simp only[Qj,F1,Zn];rw[h2];simp only[Qj];rw[h4];rfl
def flip(n:Nat)(R:OI):OI:=(List.range n).map fun j=>R.map fun r=>r.getD j 0
theorem iQ{R:OI}(h:∀r∈R,r.length=n)(hj:j<n)(hr:r∈R):i8 (dR r) (.int (j:Int))=some (.int (r.getD j 0)):=by
 show p8 (r.map D.int) (j:Int)=_
 apply Z3
 have:=h r hr
 simp[Zk (show j<r.length by omega)]
theorem Pc{R:OI}(hR:R≠[])(h:∀r∈R,r.length=n)(hn:n≤1000)(hl:R.length≤1000):Z0 [.dat (dT R)]=some (.d (dT (flip n R)),[.dat (dT R)]):=by
 obtain⟨r0,R',rfl⟩:∃r0 R',R=r0::R':=by
  cases R with
  |nil=>exact absurd rfl hR
  |cons a b=>exact⟨a,b,rfl⟩
 have h0:r0.length=n:=h r0 (by simp)
 have inner:∀j,j<n->(d5 P8 (B0 (mF (D8 (D5 (A0 0)) [false,true] 1 (gN 2) F1 (B5 i8 (A0 2) (A0 1)))) B4)) [.dat (dT (r0::R')),.dat (.int (j:Int))]=some (dR ((r0::R').map fun r=>r.getD j 0),[.dat (dT (r0::R')),.dat (.int (j:Int))]):=fun j hj=>by
  obtain⟨e',h1,w',rfl⟩:=CW (g:=gN 2) (m:=B5 i8 (A0 2) (A0 1)) (P:=fun e=>∃w,e=[.nil,.dat (.int (j:Int)),w]) (q:=dR) (f:=fun r=>.int (r.getD j 0)) (l:=r0::R') (env:=[.nil,.dat (.int (j:Int)),.nil])
   (fun r hr e ⟨w,he⟩=>by
    subst he;refine⟨[.nil,.dat (.int (j:Int)),.dat (dR r)],[.nil,.dat (.int (j:Int)),.dat (dR r)],rfl,?_,_,rfl⟩;show(i8 (dR r) (.int (j:Int))).map _=_;rw[iQ h hj hr];rfl) ⟨.nil,rfl⟩
  have hl':((r0::R').map dR).length≤100000:=by rw[Qk];omega
  have c:(D8 (D5 (A0 0)) [false,true] 1 (gN 2) F1 (B5 i8 (A0 2) (A0 1))) [.dat (dT (r0::R')),.dat (.int (j:Int))]=some ((r0::R').map fun r=>.int (r.getD j 0),[.dat (dT (r0::R')),.dat (.int (j:Int))]):=by
   show(if((r0::R').map dR).length≤100000 then(N1 _ _ _ ((r0::R').map dR) [.nil,.dat (.int (j:Int)),.nil]).bind _ else none)=_
   rw[Qh hl',h1];rfl
  unfold d5 B0 mF;rw[c];show some (D.tup _,_)=_;unfold dR;rw[Zz];rfl
 obtain⟨e',h1,w,rfl⟩:=CW (g:=gN 1) (m:=d5 P8 (B0 (mF (D8 (D5 (A0 0)) [false,true] 1 (gN 2) F1 (B5 i8 (A0 2) (A0 1)))) B4)) (P:=fun e=>∃w,e=[.dat (dT (r0::R')),w]) (q:=fun(j:Nat)=>D.int j) (f:=fun j=>dR ((r0::R').map fun r=>r.getD j 0)) (l:=List.range n) (env:=[.dat (dT (r0::R')),.nil])
  (fun j hj e ⟨w,he⟩=>by
   subst he;exact⟨_,_,rfl,inner j (Zs.mp hj),_,rfl⟩) ⟨.nil,rfl⟩
 refine(J4 (d:=dT (flip n (r0::R'))) (env:=[.dat (dT (r0::R'))]) ?_).trans rfl;show KJ [.dat (dT (r0::R'))]=_;unfold KJ;have hrg:(N0 (B0 (d5 E6 (B0 (B5 i8 (A0 0) (mC (.int 0))) B4)) B4)) [.dat (dT (r0::R'))]=some (Q7 0 n,[.dat (dT (r0::R'))]):=by
  have e:(B0 (d5 E6 (B0 (B5 i8 (A0 0) (mC (.int 0))) B4)) B4) [.dat (dT (r0::R'))]=some ([.int (n:Int)],[.dat (dT (r0::R'))]):=by
   refine C7 (K3 (C7 (D0 rfl rfl (show i8 (dT (r0::R')) (.int 0)=some (dR r0)from Z3 (xs:=(r0::R').map dR) (j:=0) rfl)) rfl) ?_) rfl
   show some (D.int ((r0.map D.int).length:Nat))=_;rw[Qk,h0]
  have:=Fb e (by omega) (by omega)
  rwa [Jz]at this
 have c:(D8 (N0 (B0 (d5 E6 (B0 (B5 i8 (A0 0) (mC (.int 0))) B4)) B4)) [true] 1 (gN 1) F1 (d5 P8 (B0 (mF (D8 (D5 (A0 0)) [false,true] 1 (gN 2) F1 (B5 i8 (A0 2) (A0 1)))) B4))) [.dat (dT (r0::R'))]=some ((List.range n).map fun j=>dR ((r0::R').map fun r=>r.getD j 0),[.dat (dT (r0::R'))]):=by
  refine Aa (e2:=[.dat (dT (r0::R')),w]) hrg (by rw[DX];simp;omega) ?_ rfl
  rw[DX];exact h1
 refine N9 (K3 (C7 (G8 c) rfl) ?_);show some (D.tup _)=_;unfold dT flip;rw[Zz];rfl
def tt:Int->List Int->Bool
 |s,[]=>s==1
 |s,x::l=>(s+x==0||s+x==1)&&tt (s+x) l
abbrev Z4:Mo Fl:=(C3 (O5 1 AR (A0 2)) (G0 (mT (B5 (r8 true) (A0 1) (D6 (B0 (mC (.int 0)) (B0 (mC (.int 1)) B4))))) (E1 (mC (.bl false))) nD))
theorem iR(L:D)(s x:Int):Z4 [.dat L,.dat (.int s),.dat (.int x)]=some (stop (s+x==0||s+x==1) (.bl false),[.dat L,.dat (.int (s+x)),.dat (.int x)]):=by
 have t:(mT (B5 (r8 true) (A0 1) (D6 (B0 (mC (.int 0)) (B0 (mC (.int 1)) B4))))) [.dat L,.dat (.int (s+x)),.dat (.int x)]=some (!(s+x==0||s+x==1),[.dat L,.dat (.int (s+x)),.dat (.int x)]):=by
  show some (!(List.contains [(0:Int),1] (s+x)),_)=_;rw[Yt,Yt,List.contains_nil,Bool.or_false]
 unfold Z4;rw[L4 (e1:=[.dat L,.dat (.int (s+x)),.dat (.int x)]) rfl];cases hb:(s+x==0||s+x==1)with
 |true=>rw[hb]at t;rw[Y4 t];rfl
 |false=>rw[hb]at t;rw[Y3 t];rfl
theorem Pd(L:D):∀(l:List Int) (s:Int) (w:W),(∃s' w',loop (gN 2) Z4 (l.map .int) [.dat L,.dat (.int s),w]=some (.nx,[.dat L,.dat (.int s'),w'])/\tt s l=(s'==1))\/(tt s l=false/\∃e,loop (gN 2) Z4 (l.map .int) [.dat L,.dat (.int s),w]=some (.ret (.bl false),e)/\e.length=3/\e[0]? =some (.dat L))
 |[],s,w=>.inl ⟨s,w,rfl,rfl⟩
 |x::l,s,w=>by
  have h:=iR L s x
  cases hb:(s+x==0||s+x==1)with
  |true=>
   rw[hb]at h;have e:∀r,loop (gN 2) Z4 ((x::l).map .int) [.dat L,.dat (.int s),w]=r↔loop (gN 2) Z4 (l.map .int) [.dat L,.dat (.int (s+x)),.dat (.int x)]=r:=fun r=>by
    rw[Qg];have:loop (gN 2) Z4 (D.int x::l.map .int) [.dat L,.dat (.int s),w]=loop (gN 2) Z4 (l.map .int) [.dat L,.dat (.int (s+x)),.dat (.int x)]:=by
     show(Z4 [.dat L,.dat (.int s),.dat (.int x)]).bind _=_;rw[h];rfl
    rw[this]
   have et:tt s (x::l)=tt (s+x) l:=by simp[tt,hb]
   rw[et]
   rcases Pd L l (s+x) (.dat (.int x))with⟨s',w',h1,h2⟩|⟨h1,e',h2,h3⟩
   ·exact .inl ⟨s',w',(e _).mpr h1,h2⟩
   ·exact .inr ⟨h1,e',(e _).mpr h2,h3⟩
  |false=>
   rw[hb]at h;refine .inr ⟨by simp[tt,hb],[.dat L,.dat (.int (s+x)),.dat (.int x)],?_,rfl,rfl⟩
   rw[Qg];show(Z4 [.dat L,.dat (.int s),.dat (.int x)]).bind _=_;rw[h];rfl
theorem iS(l:List Int):CO [.dat (dR l)]=some (.d (.bl (tt 0 l)),[.dat (dR l)]):=by
 have hi:(K6 (D5 (A0 0)) (gN 2) Z4) [.dat (dR l),.dat (.int 0),.nil]=loop (gN 2) Z4 (l.map .int) [.dat (dR l),.dat (.int 0),.nil]:=rfl
 rcases Pd (dR l) l 0 .nil with⟨s',w',h1,h2⟩|⟨h1,e',h2,h3,h4⟩
 ·refine(J4 (d:=.bl (tt 0 l)) (env:=[.dat (dR l),.dat (.int s'),w']) ?_).trans rfl
  show EZ [.dat (dR l),.nil,.nil]=_;unfold EZ;rw[L4 (e1:=[.dat (dR l),.dat (.int 0),.nil]) rfl,L4 (hi.trans h1)];show some (Fl.ret (.bl (s'==1)),_)=_;rw[h2]
 ·refine(J4 (d:=.bl (tt 0 l)) (env:=e') ?_).trans ?_
  ·show EZ [.dat (dR l),.nil,.nil]=_
   unfold EZ;rw[L4 (e1:=[.dat (dR l),.dat (.int 0),.nil]) rfl,X0 (hi.trans h2),h1]
  ·match e',h3,h4 with
   |[a,b,c],_,h4=>cases h4;rfl
def pS(d:D):Bool:=rC d 1 6&&(rL d++flip (rL d).length (rL d)).all (tt 0)
theorem Pe{R:OI}:(flip n R).length=n:=by simp[flip]
theorem Pf(d:D):CP [.dat d]=some (.d (.bl (pS d)),[.dat d]):=by
 have t:(G9 (mT (c9 3 DQ (B7 (A0 0) (B7 (mC (.int 1)) (B7 (mC (.int 6)) B8)))))) [.dat d]=some (!rC d 1 6,[.dat d]):=by
  show((((DQ [.dat d,.dat (.int 1),.dat (.int 6)]).map fun q=>(q.1,_)).bind sW).bind vR).map _=_
  rw[iM d 1 6 (by decide)];rfl
 refine(J4 (d:=.bl (pS d)) (env:=[.dat d]) ?_).trans rfl;show KO [.dat d]=_;unfold KO;cases hs:rC d 1 6 with
 |false=>
  rw[hs]at t;rw[X0 (d:=.bl false) (by rw[Y3 t];rfl)]
  simp[pS,hs]
 |true=>
  rw[hs]at t;rw[L4 (by rw[Y4 t];rfl)]
  obtain⟨h1,h2,h3,h4⟩:=Pa hs;generalize rL d=R at h1 h2 h3 h4;subst h1;have fl:Z0 [.dat (dT R)]=some (.d (dT (flip R.length R)),[.dat (dT R)]):=Pc (by intro z;subst z;simp at h2) h4 (by omega) (by omega)
  have it:(D5 (B5 D3 (A0 0) (c9 1 Z0 (B7 (A0 0) B8)))) [.dat (dT R)]=some ((R++flip R.length R).map dR,[.dat (dT R)]):=by
   show(((((Z0 [.dat (dT R)]).map fun q=>(q.1,_)).bind sW).bind fun q=>(D3 (dT R) q.1).map fun d=>(d,q.2)).bind _)=_
   rw[fl];show((D3 (dT R) (dT (flip R.length R))).map fun d=>(d,([.dat (dT R)]:b0))).bind _=_
   have:D3 (dT R) (dT (flip R.length R))=some (.tup ((R++flip R.length R).map dR)):=by
    show(if(R.map dR).length+((flip R.length R).map dR).length≤10000 then _ else none)=_
    rw[Qh (by rw[Qk,Qk,Pe];omega),Zl]
   rw[this];rfl
  obtain⟨e',h5,w,rfl⟩:=CW (g:=gN 1) (m:=c9 1 CO (B7 (A0 1) B8)) (P:=fun e=>∃w,e=[.nil,w]) (q:=dR) (f:=fun r=>.bl (tt 0 r)) (l:=R++flip R.length R) (env:=[.nil,.nil])
   (fun r _ e ⟨w,he⟩=>by
    subst he;refine⟨[.nil,.dat (dR r)],[.nil,.dat (dR r)],rfl,?_,_,rfl⟩;show((CO [.dat (dR r)]).map fun q=>(q.1,_)).bind sW=_
    rw[iS];rfl) ⟨.nil,rfl⟩
  have c:(D8 (D5 (B5 D3 (A0 0) (c9 1 Z0 (B7 (A0 0) B8)))) [false] 1 (gN 1) F1 (c9 1 CO (B7 (A0 1) B8))) [.dat (dT R)]=some ((R++flip R.length R).map fun r=>.bl (tt 0 r),[.dat (dT R)]):=by
   unfold D8;rw[it];show(if((R++flip R.length R).map dR).length≤100000 then(N1 _ _ _ ((R++flip R.length R).map dR) [.nil,.nil]).bind _ else none)=_
   rw[Qh (by rw[Qk,Qt,Pe];omega),h5];rfl
  unfold E1 d5 B0 mF;rw[c];show(((U1 ((R++flip R.length R).map fun r=>.bl (tt 0 r))).map fun k=>D.bl k).map _).map _=_
  rw[CB];simp only[pS,hs,En,Yn];rfl
theorem DY{i j:Int}(h:Br i j=true):K7 (.int i) (.int j)=some (.int (i * j)):=by
 unfold K7 sV HK fI;simp only[h,Zn]
theorem Eo{i j:Int}(h1: -18446744073709551616<i)(h2:i<18446744073709551616):Br i j=true:=by
 unfold Br;rw[show((2:Int)^64)=18446744073709551616 from rfl]
 simp[h1,h2]
theorem iT{i j:Int}(h1: -18446744073709551616<j)(h2:j<18446744073709551616):Br i j=true:=by
 unfold Br;rw[show((2:Int)^64)=18446744073709551616 from rfl]
 simp[h1,h2]
theorem GU:∀l:List Int,U3 (l.map D.int)=l.map PyData.int
 |[]=>rfl
 |x::l=>by show PyData.int x::U3 (l.map D.int)=_;rw[GU l];rfl
theorem DF:∀l:List Int,PyData.canLayAll0 (l.map PyData.int)=true
 |[]=>rfl
 |x::l=>by show(true&&PyData.canLayAll0 (l.map PyData.int))=true;rw[DF l];rfl
theorem Pg:∀l:List Int,PyData.depthAll (l.map PyData.int)=0
 |[]=>rfl
 |x::l=>by show max 0 (PyData.depthAll (l.map PyData.int))=0;rw[Pg l];rfl
theorem Ph:∀l k:List Int,PyData.eqvAll (l.map PyData.int) (k.map PyData.int)=decide (l=k)
 |[],[]=>rfl
 |[],_::_=>rfl
 |_::_,[]=>rfl
 |x::l,y::k=>by
  show((x==y)&&PyData.eqvAll (l.map PyData.int) (k.map PyData.int))=_;rw[Ph l k]
  by_cases h:x=y
  ·subst h;simp
  ·simp[h]
theorem Pj(l:List Int):uY (.lst (l.map D.int))=true:=by
 unfold uY SeqAt.shaped;show(PyData.canLayAll0 (U3 (l.map D.int))&&decide (PyData.depthAll (U3 (l.map D.int))+1≤64))=true;rw[GU,DF,Pg];rfl
theorem iU(l k:List Int):i9 false (.lst (l.map D.int)) (.lst (k.map D.int))=some (.bl (decide (l=k))):=by
 unfold i9;rw[Pj,Pj];show some (D.bl (PyData.eqvAll (U3 (l.map D.int)) (U3 (k.map D.int))))=_;rw[GU,GU,Ph]
theorem Kl{α:Type}{g:OZ}{t:Mo Bool}{m:Mo D}{P:b0->Prop}{q:α->D}{f:α->D}{p:α->Bool}:∀{l:List α}{env:b0},(∀a∈l,∀e,P e->∃e1 e2,g (q a) e=some e1/\t e1=some (p a,e2)/\(p a=true->∃e3,m e2=some (f a,e3)/\P e3)/\(p a=false->P e2))->P env->
  ∃env',N1 g t m (l.map q) env=some ((l.filter p).map f,env')/\P env'
 |[],env,_,h=>⟨env,rfl,h⟩
 |a::l,env,h,hp=>by
  obtain⟨e1,e2,h1,h2,h3,h4⟩:=h a (by simp) env hp
  cases hb:p a with
  |true=>
   obtain⟨e3,h5,h6⟩:=h3 hb;obtain⟨e4,h7,h8⟩:=Kl (l:=l) (fun x hx=>h x (by simp[hx])) h6
   refine⟨e4,?_,h8⟩;rw[Qg,Zu hb,Qg];unfold N1;rw[h1];simp only[Qj];rw[h2,hb];simp only[Qj,Zn];rw[h5];simp only[Qj];rw[h7];rfl
  |false=>
   obtain⟨e4,h7,h8⟩:=Kl (l:=l) (fun x hx=>h x (by simp[hx])) (h4 hb)
   refine⟨e4,?_,h8⟩;rw[Qg,Zf (by simp[hb])]
   unfold N1;rw[h1];simp only[Qj];rw[h2,hb];simp only[Qj,Zx,Yu];exact h7
def tI(d:D)(a b:Int):Bool:=match d with
 |.int i=>decide (a≤i)&&decide (i≤b)
 |_=>false
theorem Pk{i:Int}(h1:ma e=some (.int a,e))(h2:mb e=some (.int i,e))(h3:mc e=some (.int b,e)):R7 oQ oQ ma mb mc e=some (.bl (decide (a≤i)&&decide (i≤b)),e):=by
 unfold R7;rw[h1];show(mb e).bind _=_;rw[h2]
 by_cases h:a≤i
 ·have e1:oQ (.int a) (.int i)=some (.bl true):=by show some (D.bl (decide _))=_;simp[h]
  simp only[Qj,e1];rw[h3];show some (D.bl (decide (i≤b)),e)=_
  simp[h]
 ·have e1:oQ (.int a) (.int i)=some (.bl false):=by show some (D.bl (decide _))=_;simp[h]
  simp only[Qj,e1]
  simp[h]
def rD(l:List Int):Bool:=decide (l.filter (fun x=>!(x==0))=(List.range (l.filter fun x=>!(x==0)).length).map fun(i:Nat)=>1-2 * ((i:Int)%2))&&(((l.filter fun x=>!(x==0)).length:Int)%2==1)
theorem Pm(d:D)(l:List Int)(hd:d.items=some (l.map .int))(hl:l.length≤1000):Be [.dat d]=some (.d (.bl (rD l)),[.dat d]):=by
 obtain⟨e',h1,w,rfl⟩:=Kl (g:=gN 2) (t:=mT (B5 (i9 true) (A0 2) (mC (.int 0)))) (m:=A0 2) (P:=fun e=>∃w,e=[.nil,.nil,w]) (q:=D.int) (f:=D.int) (p:=fun x=>!(x==0)) (l:=l) (env:=[.nil,.nil,.nil])
  (fun x _ e ⟨w,he⟩=>by
   subst he;exact⟨[.nil,.nil,.dat (.int x)],[.nil,.nil,.dat (.int x)],rfl,rfl,fun _=>⟨_,rfl,_,rfl⟩,fun _=>⟨_,rfl⟩⟩) ⟨.nil,rfl⟩
 generalize hs:l.filter (fun x=>!(x==0))=s at h1
 have pW:s.length≤1000:=by rw[←hs];exact Zr (List.length_filter_le _ _) hl
 have c1:(D8 (D5 (A0 0)) [false,false] 1 (gN 2) (mT (B5 (i9 true) (A0 2) (mC (.int 0)))) (A0 2)) [.dat d,.nil]=some (s.map .int,[.dat d,.nil]):=
  Aa (e2:=[.nil,.nil,w]) (Q2 rfl hd) (by rw[Qk];omega) h1 rfl
 obtain⟨e',h2,w2,rfl⟩:=CW (g:=gN 2) (m:=B5 T4 (mC (.int 1)) (B5 K7 (mC (.int 2)) (B5 O1 (A0 2) (mC (.int 2))))) (P:=fun e=>∃w,e=[.nil,.nil,w]) (q:=fun(i:Nat)=>D.int i) (f:=fun i=>.int (1-2 * ((i:Int)%2))) (l:=List.range s.length) (env:=[.nil,.nil,.nil])
  (fun i _ e ⟨w,he⟩=>by
   subst he;refine⟨[.nil,.nil,.dat (.int i)],[.nil,.nil,.dat (.int i)],rfl,?_,_,rfl⟩;refine D0 (b:=.int (2 * ((i:Int)%2))) rfl (D0 rfl (D0 rfl rfl (show O1 (.int i) (.int 2)=some (.int ((i:Int)%2))from rfl)) ?_) rfl
   exact DY (Eo (by decide) (by decide))) ⟨.nil,rfl⟩
 have c2:(D8 (N0 (B0 (d5 E6 (B0 (A0 1) B4)) B4)) [false,false] 1 (gN 2) F1 (B5 T4 (mC (.int 1)) (B5 K7 (mC (.int 2)) (B5 O1 (A0 2) (mC (.int 2)))))) [.dat d,.dat (.lst (s.map .int))]=some (((List.range s.length).map fun(i:Nat)=>1-2 * ((i:Int)%2)).map D.int,[.dat d,.dat (.lst (s.map .int))]):=by
  have r1:(N0 (B0 (d5 E6 (B0 (A0 1) B4)) B4)) [.dat d,.dat (.lst (s.map .int))]=some (Q7 0 s.length,[.dat d,.dat (.lst (s.map .int))]):=by
   have e:(B0 (d5 E6 (B0 (A0 1) B4)) B4) [.dat d,.dat (.lst (s.map .int))]=some ([.int (s.length:Int)],[.dat d,.dat (.lst (s.map .int))]):=by
    refine C7 (K3 (C7 rfl rfl) ?_) rfl;show some (D.int ((s.map D.int).length:Nat))=_;rw[Qk]
   have:=Fb e (by omega) (by omega)
   rwa [Jz]at this
  refine Aa (e2:=[.nil,.nil,w2]) r1 (by rw[DX];simp;omega) ?_ rfl
  rw[DX,Zz];exact h2
 refine(J4 (d:=.bl (rD l)) (env:=[.dat d,.dat (.lst (s.map .int))]) ?_).trans rfl;show Kf [.dat d,.nil]=_;unfold Kf;rw[L4 (ND c1)];show E1 _ [.dat d,.own (s.map .int)]=_;refine N9 ?_
 have a1:(B5 (i9 false) (A0 1) (mF (D8 (N0 (B0 (d5 E6 (B0 (A0 1) B4)) B4)) [false,false] 1 (gN 2) F1 (B5 T4 (mC (.int 1)) (B5 K7 (mC (.int 2)) (B5 O1 (A0 2) (mC (.int 2)))))))) [.dat d,.dat (.lst (s.map .int))]=some (.bl (decide (s=(List.range s.length).map fun(i:Nat)=>1-2 * ((i:Int)%2))),[.dat d,.dat (.lst (s.map .int))]):=
  D0 (e1:=[.dat d,.dat (.lst (s.map .int))]) rfl (G8 c2) (iU _ _)
 have a2:(B5 (i9 false) (B5 O1 (d5 E6 (B0 (A0 1) B4)) (mC (.int 2))) (mC (.int 1))) [.dat d,.own (s.map .int)]=some (.bl ((s.length:Int)%2==1),[.dat d,.dat (.lst (s.map .int))]):=by
  refine D0 (e1:=[.dat d,.dat (.lst (s.map .int))]) (D0 (e1:=[.dat d,.dat (.lst (s.map .int))]) (K3 (C7 rfl rfl) (show E6 [.lst (s.map .int)]=some (.int (s.length:Int))from ?_)) rfl rfl) rfl rfl
  show some (D.int ((s.map D.int).length:Nat))=_;rw[Qk]
 unfold T8;rw[a2];simp only[Qj];unfold rD;rw[hs];cases hb:((s.length:Int)%2==1)with
 |true=>simp only[Bool.and_true];exact a1
 |false=>simp only[Bool.and_false]
def alt:Int->Nat->List Int
 |_,0=>[]
 |s,k+1=>(1-2 * s)::alt (1-s) k
theorem Pn:∀(k j:Nat),(List.range' j k).map (fun(i:Nat)=>1-2 * ((i:Int)%2))=alt ((j:Int)%2) k
 |0,_=>rfl
 |k+1,j=>by
  rw[List.range'_succ,Qg,Pn k (j+1)];show _=(1-2 * ((j:Int)%2))::alt (1-(j:Int)%2) k
  congr 2
  omega
theorem iV(k:Nat):(List.range k).map (fun(i:Nat)=>1-2 * ((i:Int)%2))=alt 0 k:=by
 rw[List.range_eq_range'];exact Pn k 0
def small(x:Int):Bool:=decide (-1≤x)&&decide (x≤1)
theorem iW(l:List Int):∀s:Int,(s=0\/s=1)->tt s l=tt s (l.filter fun x=>!(x==0)):=by
 induction l with
 |nil=>intro s _;rfl
 |cons x l ih=>
  intro s hs
  by_cases hx:x=0
  ·subst hx
   rw[Zf (by simp),←ih s hs]
   rcases hs with rfl|rfl<;>simp[tt]
  ·rw[Zu (by simp[hx])]
   simp only[tt]
   by_cases h:(s+x==0||s+x==1)=true
   ·rw[h,Yn,Yn]
    exact ih (s+x) (by simpa using h)
   ·have h':(s+x==0||s+x==1)=false:=by simpa using h
    rw[h',Ue,Ue]
theorem iX(l:List Int):∀s:Int,(s=0\/s=1)->(∀x∈l,x=1\/x= -1)->tt s l=(decide (l=alt s l.length)&&((l.length:Int)+s)%2==1):=by
 induction l with
 |nil=>intro s hs _;rcases hs with rfl|rfl<;>rfl
 |cons x l ih=>
  intro s hs hx;have hx1:=hx x (by simp)
  have ih':=fun s hs=>ih s hs fun y hy=>hx y (by simp[hy])
  simp only[tt,Qo,alt]
  rcases hs with rfl|rfl
  ·rcases hx1 with rfl|rfl
   ·have:=ih' 1 (.inr rfl)
    show(true&&tt 1 l)=(decide (1::l=(1:Int)::alt 1 l.length)&&((((l.length+1:Nat):Int)+0)%2==1));have e1:decide (1::l=(1:Int)::alt 1 l.length)=decide (l=alt 1 l.length):=by simp
    have e2:((l.length:Int)+1)=(((l.length+1:Nat):Int)+0):=by omega
    rw[Yn,this,e1,e2]
   ·simp[show((0:Int)+ -1==0||(0:Int)+ -1==1)=false from rfl]
  ·rcases hx1 with rfl|rfl
   ·simp[show((1:Int)+1==0||(1:Int)+1==1)=false from rfl]
   ·have:=ih' 0 (.inl rfl)
    show(true&&tt 0 l)=(decide (-1::l=(-1:Int)::alt 0 l.length)&&((((l.length+1:Nat):Int)+1)%2==1));have e1:decide (-1::l=(-1:Int)::alt 0 l.length)=decide (l=alt 0 l.length):=by simp
    have e2:((l.length:Int)+0)%2=(((l.length+1:Nat):Int)+1)%2:=by omega
    rw[Yn,this,e1,e2]
theorem Po(l:List Int)(h:∀x∈l,small x=true):tt 0 l=rD l:=by
 rw[iW l 0 (.inl rfl),iX _ 0 (.inl rfl) (fun x hx=>?_)]
 ·unfold rD
  rw[iV,Int.add_zero]
 ·obtain⟨h1,h2⟩:=Jt.mp hx
  have:=h x h1
  simp[small]at this h2
  omega
theorem Pp(l:List Int):∀s:Int,(s=0\/s=1)->tt s l=true->∀x∈l,small x=true:=by
 induction l with
 |nil=>intro s _ _ x hx;cases hx
 |cons y l ih=>
  intro s hs h x hx;simp only[tt,Qw]at h;have h1:s+y=0\/s+y=1:=by simpa using h.1
  rcases Ql.mp hx with rfl|hx
  ·simp[small];omega
  ·exact ih (s+y) h1 h.2 x hx
theorem iY(l:List Int):tt 0 l=(l.all small&&rD l):=by
 by_cases h:l.all small=true
 ·rw[h,Yn];exact Po l (Qx.mp h)
 ·have h':l.all small=false:=by simpa using h
  rw[h',Ue];cases ht:tt 0 l with
  |false=>rfl
  |true=>exact absurd (Qx.mpr (Pp l 0 (.inl rfl) ht)) h
theorem Pq{i j k:Int}(h:FI i j=true)(e:i^j.toNat=k):R6 (.int i) (.int j)=some (.int k):=by
 show(if FI i j=true then some (D.int (i^j.toNat))else none)=_
 rw[Qh h,e]
theorem Pr:R6 (.int 10) (.int 18)=some (.int 1000000000000000000):=Pq (by rfl') (by rfl')
theorem Km{m:Int}{b:Bool}(ha:0≤a)(h1:1≤m)(h2:m<1073741824):∃v a',K1 [.par [.int a,.bl b],.dat (.int m)]=some (.d (.int v),[.par [.int a',.bl b],.dat (.int m)])/\0≤v/\v<m/\0≤a':=by
 have dm:∀x:Int,O1 (.int x) (.int m)=some (.int (x%m)):=fun x=>by
  show(if decide (0<m)=true then _ else none)=_
  rw[Qh (by simp;omega)]
 have dd:∀x:Int,Dn (.int x) (.int m)=some (.int (x/m)):=fun x=>by
  show(if FH x m=true then _ else none)=_
  rw[Qh (by unfold FH;simp;omega)]
 cases b with
 |true=>
  refine⟨a%m,a/m,?_,Uc _ (by omega),Vw _ (by omega),Int.ediv_nonneg ha (by omega)⟩
  refine(J4 (d:=.int (a%m)) (env:=[.par [.int (a/m),.bl true],.dat (.int m),.nil,.dat (.int (a%m))]) ?_).trans rfl;show Ej [.par [.int a,.bl true],.dat (.int m),.nil,.nil]=_;unfold Ej;have t:(mT (O4 0 (mC (.int 1)))) [.par [.int a,.bl true],.dat (.int m),.nil,.nil]=some (true,[.par [.int a,.bl true],.dat (.int m),.nil,.nil]):=rfl;have s1:(C9 3 (B5 O1 (O4 0 (mC (.int 0))) (A0 1))) [.par [.int a,.bl true],.dat (.int m),.nil,.nil]=some (.nx,[.par [.int a,.bl true],.dat (.int m),.nil,.dat (.int (a%m))]):=V5 (e1:=[.par [.int a,.bl true],.dat (.int m),.nil,.nil]) (D0 rfl rfl (dm a));have s2:(N7 (B5 Dn (O4 0 (mC (.int 0))) (A0 1)) (gS 0 (mC (.int 0)))) [.par [.int a,.bl true],.dat (.int m),.nil,.dat (.int (a%m))]=some (.nx,[.par [.int (a/m),.bl true],.dat (.int m),.nil,.dat (.int (a%m))]):=by
   unfold N7;rw[D0 (c:=.int (a/m)) rfl rfl (dd a)];rfl
  rw[X0 (d:=.int (a%m)) (by rw[Y3 t,L4 s1,L4 s2];rfl)]
 |false=>
  have e1:∀x:Int,K7 (.int x) (.int 48271)=some (.int (x * 48271)):=fun x=>DY (iT (by decide) (by decide))
  have md:∀(x k:Int),0<k->O1 (.int x) (.int k)=some (.int (x%k)):=fun x k hk=>by
   show(if decide (0<k)=true then _ else none)=_
   rw[Qh (by simp;omega)]
  let p:Int:=(a * 48271+29)%2147483647
  have hp:0≤p/\p<2147483647:=⟨Uc _ (by decide),Vw _ (by decide)⟩
  let q:Int:=(p * p+39373 * p+7)%2147483629
  have hq:0≤q/\q<2147483629:=⟨Uc _ (by decide),Vw _ (by decide)⟩
  let r:Int:=(q * q+16807 * q)%2147483587
  have hr:0≤r:=Uc _ (by decide)
  refine⟨r/8%m,p,?_,Uc _ (by omega),Vw _ (by omega),hp.1⟩
  refine(J4 (d:=.int (r/8%m)) (env:=[.par [.int p,.bl false],.dat (.int m),.dat (.int r),.nil]) ?_).trans rfl;show Ej [.par [.int a,.bl false],.dat (.int m),.nil,.nil]=_;unfold Ej;have t:(mT (O4 0 (mC (.int 1)))) [.par [.int a,.bl false],.dat (.int m),.nil,.nil]=some (false,[.par [.int a,.bl false],.dat (.int m),.nil,.nil]):=rfl;have s1:(N7 (B5 O1 (B5 D3 (B5 K7 (O4 0 (mC (.int 0))) (mC (.int 48271))) (mC (.int 29))) (mC (.int 2147483647))) (gS 0 (mC (.int 0)))) [.par [.int a,.bl false],.dat (.int m),.nil,.nil]=some (.nx,[.par [.int p,.bl false],.dat (.int m),.nil,.nil]):=by
   unfold N7;rw[D0 (c:=.int p) (D0 (c:=.int (a * 48271+29)) (D0 rfl rfl (e1 a)) rfl rfl) rfl (md _ _ (by decide))];rfl
  have s2:(C9 2 (B5 O1 (B5 D3 (B5 D3 (B5 K7 (O4 0 (mC (.int 0))) (O4 0 (mC (.int 0)))) (B5 K7 (mC (.int 39373)) (O4 0 (mC (.int 0))))) (mC (.int 7))) (mC (.int 2147483629)))) [.par [.int p,.bl false],.dat (.int m),.nil,.nil]=some (.nx,[.par [.int p,.bl false],.dat (.int m),.dat (.int q),.nil]):=
   V5 (e1:=[.par [.int p,.bl false],.dat (.int m),.nil,.nil]) (D0 (c:=.int q) (D0 (c:=.int (p * p+39373 * p+7)) (D0 (c:=.int (p * p+39373 * p)) (D0 rfl rfl (DY (i:=p) (j:=p) (Eo (by omega) (by omega)))) (D0 rfl rfl (DY (i:=39373) (j:=p) (Eo (by decide) (by decide)))) rfl) rfl rfl) rfl (md _ _ (by decide)))
  have s3:(C9 2 (B5 O1 (B5 D3 (B5 K7 (A0 2) (A0 2)) (B5 K7 (mC (.int 16807)) (A0 2))) (mC (.int 2147483587)))) [.par [.int p,.bl false],.dat (.int m),.dat (.int q),.nil]=some (.nx,[.par [.int p,.bl false],.dat (.int m),.dat (.int r),.nil]):=
   V5 (e1:=[.par [.int p,.bl false],.dat (.int m),.dat (.int q),.nil]) (D0 (c:=.int r) (D0 (c:=.int (q * q+16807 * q)) (D0 rfl rfl (DY (i:=q) (j:=q) (Eo (by omega) (by omega)))) (D0 rfl rfl (DY (i:=16807) (j:=q) (Eo (by decide) (by decide)))) rfl) rfl (md _ _ (by decide)))
  rw[L4 (by rw[Y4 t];rfl),L4 s1,L4 s2,L4 s3]
  exact N9 (D0 (c:=.int (r/8%m)) (D0 (c:=.int (r/8)) rfl rfl rfl) rfl (dm _))
theorem iZ(ns:List Int)(k:Nat)(hk:k<1000):∃c,Eg [.dat (.lst (ns.map .int)),.dat (.int k)]=some (.d (.int c),[.dat (.lst (ns.map .int)),.dat (.int k)]):=by
 have t:(mT (B5 tG (A0 1) (d5 E6 (B0 (A0 0) B4)))) [.dat (.lst (ns.map .int)),.dat (.int k)]=some (decide ((k:Int)<(ns.length:Int)),[.dat (.lst (ns.map .int)),.dat (.int k)]):=by
  show some (decide ((k:Int)<((ns.map D.int).length:Nat)),_)=_;rw[Qk]
 by_cases h:k<ns.length
 ·have hd:decide ((k:Int)<(ns.length:Int))=true:=by simp;omega
  rw[hd]at t;refine⟨ns[k],(J4 (d:=.int ns[k]) (env:=[.dat (.lst (ns.map .int)),.dat (.int k)]) ?_).trans rfl⟩;show Ef [.dat (.lst (ns.map .int)),.dat (.int k)]=_;unfold Ef;rw[X0 (d:=.int ns[k]) (by
   rw[Y3 t];exact N9 (D0 rfl rfl (show p8 (ns.map D.int) (k:Int)=_ from Z3 (by simp[h]))))]
 ·have hd:decide ((k:Int)<(ns.length:Int))=false:=by simp;omega
  rw[hd]at t;refine⟨0,(J4 (d:=.int 0) (env:=[.dat (.lst (ns.map .int)),.dat (.int k)]) ?_).trans rfl⟩;show Ef [.dat (.lst (ns.map .int)),.dat (.int k)]=_;unfold Ef;rw[L4 (by rw[Y4 t];rfl)];rfl
theorem jA(ns:List Int)(k:Nat)(hk:k<1000):∃a b,0≤a/\Ei [.dat (.lst (ns.map .int)),.dat (.int k)]=some (.l [.int a,.bl b],[.dat (.lst (ns.map .int)),.dat (.int k)]):=by
 obtain⟨c,hc⟩:=iZ ns k hk;have s1:(C9 2 (c9 2 Eg (B7 (A0 0) (B7 (A0 1) B8)))) [.dat (.lst (ns.map .int)),.dat (.int k),.nil]=some (.nx,[.dat (.lst (ns.map .int)),.dat (.int k),.dat (.int c)]):=
  V5 (e1:=[.dat (.lst (ns.map .int)),.dat (.int k),.nil]) (R9 (V7 (av:=[.d (.lst (ns.map .int)),.d (.int k)]) rfl rfl rfl hc))
 have t:(mT (B5 uU (A0 2) (B5 R6 (mC (.int 10)) (mC (.int 18))))) [.dat (.lst (ns.map .int)),.dat (.int k),.dat (.int c)]=some (decide (1000000000000000000≤c),[.dat (.lst (ns.map .int)),.dat (.int k),.dat (.int c)]):=by
  refine N4 (D0 (b:=.int 1000000000000000000) rfl ?_ rfl);exact D0 rfl rfl Pr
 by_cases h:1000000000000000000≤c
 ·rw[Yc h]at t
  refine⟨c-1000000000000000000,true,by omega,(Hs (d:=[.int (c-1000000000000000000),.bl true]) (env:=[.dat (.lst (ns.map .int)),.dat (.int k),.dat (.int c)]) ?_).trans rfl⟩
  show Eh [.dat (.lst (ns.map .int)),.dat (.int k),.nil]=_;unfold Eh;rw[L4 s1];have r:(Am (F6 (B0 (B5 T4 (A0 2) (B5 R6 (mC (.int 10)) (mC (.int 18)))) (B0 (mC (.bl true)) B4)))) [.dat (.lst (ns.map .int)),.dat (.int k),.dat (.int c)]=some (.retL [.int (c-1000000000000000000),.bl true],[.dat (.lst (ns.map .int)),.dat (.int k),.dat (.int c)]):=by
   have b:=D0 (f:=T4) (ma:=A0 2) (mb:=B5 R6 (mC (.int 10)) (mC (.int 18))) (env:=[.dat (.lst (ns.map .int)),.dat (.int k),.dat (.int c)]) (b:=.int 1000000000000000000) (c:=.int (c-1000000000000000000)) rfl (D0 rfl rfl Pr) rfl
   refine NC ?_
   unfold F6;rw[C7 b (C7 rfl rfl)];rfl
  unfold C3;rw[Y3 t,r];rfl
 ·rw[Zj h]at t
  refine⟨c%2147483647,false,Uc _ (by decide),(Hs (d:=[.int (c%2147483647),.bl false]) (env:=[.dat (.lst (ns.map .int)),.dat (.int k),.dat (.int c)]) ?_).trans rfl⟩
  show Eh [.dat (.lst (ns.map .int)),.dat (.int k),.nil]=_;unfold Eh;rw[L4 s1,L4 (by rw[Y4 t];rfl)];rfl
def bits:Nat->OI
 |0=>[[]]
 |n+1=>(bits n).map (fun l=>0::l)++(bits n).map (fun l=>1::l)
def E9(h r:List Int):List Int:=List.zipWith (· + ·) h r
def Ps(h:List Int)(d:D):Bool:=qU d h.length&&(tt 0 (mX d)&&(E9 h (mX d)).all fun x=>x==0||x==1)
def tU(h:List Int):Bool:=match R3 [.dat (dR h)]with
 |some (.l ds,_)=>ds.all (Ps h)&&((h.all fun x=>x==1)||(decide (1≤ds.length)&&decide (ds.length≤1000)))
 |_=>false
theorem jB:(bits 1).all tU=true:=by rfl'
theorem jC:(bits 2).all tU=true:=by rfl'
theorem jD:(bits 3).all tU=true:=by rfl'
theorem jE:(bits 4).all tU=true:=by rfl'
theorem jF:(bits 5).all tU=true:=by rfl'
theorem jG:(bits 6).all tU=true:=by rfl'
structure HB(h:List Int)(n:Nat):Prop where
 len:h.length=n
 bit:∀x∈h,x=0\/x=1
theorem HB.mem:∀{n:Nat}{h:List Int},HB h n->h∈bits n
 |0,h,H=>by
  have:=H.len;cases h with
  |nil=>simp[bits]
  |cons _ _=>simp at this
 |n+1,h,H=>by
  cases h with
  |nil=>have:=H.len;simp at this
  |cons x l=>
   have hl:HB l n:=⟨by have:=H.len;simpa using this,fun y hy=>H.bit y (by simp[hy])⟩
   have:=hl.mem;unfold bits;rw[Yr,Qa,Qa]
   rcases H.bit x (by simp)with rfl|rfl
   ·exact .inl ⟨l,this,rfl⟩
   ·exact .inr ⟨l,this,rfl⟩
theorem jH(h1:1≤n)(h6:n≤6)(H:HB h n):tU h=true:=by
 have hm:=H.mem
 match n,h1,h6 with
 |1,_,_=>exact Qx.mp jB h hm
 |2,_,_=>exact Qx.mp jC h hm
 |3,_,_=>exact Qx.mp jD h hm
 |4,_,_=>exact Qx.mp jE h hm
 |5,_,_=>exact Qx.mp jF h hm
 |6,_,_=>exact Qx.mp jG h hm
structure qI(h r:List Int):Prop where
 len:r.length=h.length
 tt:tt 0 r=true
 bit:∀x∈E9 h r,x=0\/x=1
theorem jI(h1:1≤n)(h6:n≤6)(H:HB h n)(hs:∃x∈h,x≠1):∃(rows:OI) (ws':List W),R3 [.dat (dR h)]=some (.l (rows.map dR),ws')/\1≤rows.length/\rows.length≤1000/\∀r∈rows,qI h r:=by
 have hc:=jH h1 h6 H
 unfold tU at hc;split at hc
 ·rename_i ds ws' e
  rw[Qw]at hc;have hl:1≤ds.length/\ds.length≤1000:=by
   have h2:=hc.2
   rw[Xv]at h2
   rcases h2 with h2|h2
   ·obtain⟨x,hx,hne⟩:=hs
    have:=Qx.mp h2 x hx
    simp at this
    exact absurd this hne
   ·rw[Qw,Zw,Zw]at h2
    exact h2
  have ok:∀d∈ds,d=dR (mX d)/\qI h (mX d):=fun d hd=>by
   have:=Qx.mp hc.1 d hd;unfold Ps at this;rw[Qw,Qw]at this;obtain⟨a1,a2⟩:=DW this.1;exact⟨a1,by omega,this.2.1,fun x hx=>by simpa using Qx.mp this.2.2 x hx⟩
  refine⟨ds.map mX,ws',?_,by rw[Qk];exact hl.1,by rw[Qk];exact hl.2,fun r hr=>?_⟩
  ·rw[e,Zz]
   have:ds.map (dR∘mX)=ds:=by
    conv=>rhs;rw[←Vm ds]
    exact Zc fun d hd=>(ok d hd).1.symm
   rw[this]
  ·obtain⟨d,hd,rfl⟩:=Qa.mp hr
   exact(ok d hd).2
 ·cases hc
theorem Pu(l:List Int):∀s,tt s l=true->s+l.sum=1:=by
 induction l with
 |nil=>intro s h;simpa [tt]using h
 |cons x l ih=>
  intro s h;simp only[tt,Qw]at h;have:=ih (s+x) h.2;simp only[Jw]
  omega
theorem Kn(e:r.length=h.length):(E9 h r).length=h.length:=by simp[E9,e]
theorem Ko:∀{h r:List Int},r.length=h.length->(E9 h r).sum=h.sum+r.sum
 |[],[],_=>rfl
 |x::h,y::r,e=>by
  have:=Ko (h:=h) (r:=r) (by simpa using e)
  simp only[E9,Us,Jw]at this ⊢
  omega
 |[],_::_,e=>by simp at e
 |_::_,[],e=>by simp at e
def run:Int->List Int->Option Int
 |s,[]=>some s
 |s,x::l=>if s+x=0\/s+x=1 then run (s+x) l else none
theorem Pw(l:List Int):∀s,tt s l=(run s l==some 1):=by
 induction l with
 |nil=>intro s;rfl
 |cons x l ih=>
  intro s;simp only[tt,run]
  by_cases h:s+x=0\/s+x=1
  ·rw[Qh h,←ih]
   have:(s+x==0||s+x==1)=true:=by simpa using h
   rw[this,Yn]
  ·rw[Qs h]
   have:(s+x==0||s+x==1)=false:=by simpa using h
   rw[this];rfl
theorem jJ(l:List Int)(x:Int):∀s t,run s l=some t->(t+x=0\/t+x=1)->run s (l++[x])=some (t+x):=by
 induction l with
 |nil=>intro s t h hx;cases h;simp[run,hx]
 |cons y l ih=>
  intro s t h hx;simp only[run,List.cons_append]at h ⊢;split at h
  ·rename_i hy
   rw[Qh hy];exact ih (s+y) t h hx
  ·cases h
theorem Px:∀{h:List Int},(∀x∈h,x=0\/x=1)->h.sum≤h.length/\(h.sum=h.length->∀x∈h,x=1)
 |[],_=>⟨by simp,fun _ x hx=>by cases hx⟩
 |y::h,H=>by
  obtain⟨h1,h2⟩:=Px (h:=h) fun x hx=>H x (by simp[hx])
  have hy:=H y (by simp)
  simp only[Jw,Qo];refine⟨by omega,fun e x hx=>?_⟩
  rcases Ql.mp hx with rfl|hx
  ·omega
  ·exact h2 (by omega) x hx
theorem Kq{g:OZ}{b:Mo Fl}:∀{ds:List D}{P:Nat->b0->Prop}{env:b0},(∀i d e,ds[i]? =some d->P i e->∃e1 e2,g d e=some e1/\b e1=some (.nx,e2)/\P (i+1) e2)->P 0 env->∃env',loop g b ds env=some (.nx,env')/\P ds.length env'
 |[],P,env,_,p=>⟨env,rfl,p⟩
 |d::ds,P,env,h,p=>by
  obtain⟨e1,e2,h1,h2,h3⟩:=h 0 d env rfl p;obtain⟨e3,h4,h5⟩:=Kq (ds:=ds) (P:=fun i e=>P (i+1) e) (fun i x e hi q=>h (i+1) x e (by simpa using hi) q) h3
  refine⟨e3,?_,h5⟩;unfold loop;rw[h1];simp only[Qj];rw[h2];exact h4
theorem Kr(e:r.length=h.length)(hj:j<h.length):(E9 h r).getD j 0=h.getD j 0+r.getD j 0:=by
 have hj2:j<r.length:=by omega
 simp[E9,Jp,Zk hj,Zk hj2]
theorem Py:Q9 (h.map D.int) (r.map D.int)=(h.zip r).map fun p=>.tup [.int p.1,.int p.2]:=by
 unfold Q9;rw[List.zip_map,Zz];rfl
theorem Pz(f:Nat->Nat->Bool):∀k,argBest f k≤k
 |0=>Qm _
 |k+1=>by
  have:=Pz f k;unfold argBest;split<;>omega
theorem jK{l:List Int}(h:1≤l.length):R0 false l∈l:=by
 unfold R0;have hl:=Pz (fun i j=>if false then decide (l.getD i 0>l.getD j 0)else decide (l.getD i 0<l.getD j 0)) (l.length-1)
 rw[List.getD_eq_getElem?_getD,Zk (by omega)]
 exact Ym _
theorem QA{l:List Int}(h:1≤l.length):R1 false [dR l]=some (.int (R0 false l)):=by
 unfold dR;show(i4 (l.map D.int)).bind _=_;rw[AL,Qj,Qs];cases l with
 |nil=>simp at h
 |cons _ _=>simp
theorem jL{l:List Int}(h:1≤l.length):R1 false [.lst (l.map D.int)]=some (.int (R0 false l)):=by
 show(i4 (l.map D.int)).bind _=_;rw[AL,Qj,Qs];cases l with
 |nil=>simp at h
 |cons _ _=>simp
abbrev Ks:Mo Fl:=(C3 (C9 6 (mF (M1 1 R3 (B7 (A0 2) B8)))) (C3 (G0 (mT (B5 (i9 false) (A0 4) (mC (.int 0)))) (C3 (C9 8 (d5 (R1 false) (B0 (mF (D8 (D5 (A0 6)) [false,false,false,false,false,false,false,false,false] 1 (gN 9) F1 (d5 (R1 false) (B0 (A0 9) B4)))) B4))) (O2 6 (D8 (D5 (A0 6)) [false,false,false,false,false,false,false,false,true] 1 (gN 9) (mT (B5 (i9 false) (d5 (R1 false) (B0 (A0 9) B4)) (A0 8))) (A0 9)))) nD) (C3 (C9 7 (B5 i8 (A0 6) (c9 2 K1 (F7 0 (B7 (d5 E6 (B0 (A0 6) B4)) B8))))) (C3 (C9 3 (B5 D3 (A0 3) (D6 (B0 (A0 7) B4)))) (C9 2 (c9 2 R4 (B7 (A0 2) (B7 (A0 7) B8))))))))
abbrev jM:Mo Fl:=(G0 (mT (B5 (i9 false) (A0 4) (mC (.int 0)))) (C3 (C9 8 (d5 (R1 false) (B0 (mF (D8 (D5 (A0 6)) [false,false,false,false,false,false,false,false,false] 1 (gN 9) F1 (d5 (R1 false) (B0 (A0 9) B4)))) B4))) (O2 6 (D8 (D5 (A0 6)) [false,false,false,false,false,false,false,false,true] 1 (gN 9) (mT (B5 (i9 false) (d5 (R1 false) (B0 (A0 9) B4)) (A0 8))) (A0 9)))) nD)
def LW(w:W)(ds:List D):Prop:=w=.dat (.lst ds)\/w=.own ds
theorem jN{b:Bool}{few:Int}(h1:1≤rows.length)(h2:rows.length≤1000)(hr:∀r∈rows,1≤r.length):
  ∃(rows':OI) (w6 x8:W),jM [.par [.int a,.bl b],w1,w2,w3,.dat (.int few),w5,.dat (.lst (rows.map dR)),w7,w8]=some (.nx,[.par [.int a,.bl b],w1,w2,w3,.dat (.int few),w5,w6,w7,x8])/\LW w6 (rows'.map dR)/\1≤rows'.length/\rows'.length≤1000/\∀r∈rows',r∈rows:=by
 by_cases hf:few=0
 ·subst hf
  let most:Int:=R0 false (rows.map (R0 false))
  have hm:most∈rows.map (R0 false):=jK (by simpa using h1)
  obtain⟨r0,hr0,e0⟩:=Qa.mp hm;refine⟨rows.filter fun r=>(R0 false r==most),.own ((rows.filter fun r=>(R0 false r==most)).map dR),.dat (.int most),?_,.inr rfl,?_,?_,fun r hq=>(Jt.mp hq).1⟩
  ·refine DM (e1:=[.par [.int a,.bl b],w1,w2,w3,.dat (.int 0),w5,.dat (.lst (rows.map dR)),w7,w8]) rfl ?_
   have c1:=CM (mi:=D5 (A0 6)) (keep:=[false,false,false,false,false,false,false,false,false]) (m:=d5 (R1 false) (B0 (A0 9) B4)) (env:=[.par [.int a,.bl b],w1,w2,w3,.dat (.int 0),w5,.dat (.lst (rows.map dR)),w7,w8]) (base:=[.nil,.nil,.nil,.nil,.nil,.nil,.nil,.nil,.nil]) (l:=rows) (q:=dR) (f:=fun r=>.int (R0 false r)) (k:=9) rfl (by omega) rfl rfl
    (fun r hq=>K3 (C7 (e1:=[.nil,.nil,.nil,.nil,.nil,.nil,.nil,.nil,.nil,.dat (dR r)]) rfl rfl) (QA (hr r hq))) (fun w=>rfl)
   have s1:(C9 8 (d5 (R1 false) (B0 (mF (D8 (D5 (A0 6)) [false,false,false,false,false,false,false,false,false] 1 (gN 9) F1 (d5 (R1 false) (B0 (A0 9) B4)))) B4))) [.par [.int a,.bl b],w1,w2,w3,.dat (.int 0),w5,.dat (.lst (rows.map dR)),w7,w8]=some (.nx,[.par [.int a,.bl b],w1,w2,w3,.dat (.int 0),w5,.dat (.lst (rows.map dR)),w7,.dat (.int most)]):=by
    refine V5 (e1:=[.par [.int a,.bl b],w1,w2,w3,.dat (.int 0),w5,.dat (.lst (rows.map dR)),w7,w8]) (K3 (C7 (G8 c1) rfl) ?_);have:=jL (l:=rows.map (R0 false)) (by simpa using h1)
    rw[Zz]at this;exact this
   have c2:=Iq (mi:=D5 (A0 6)) (keep:=[false,false,false,false,false,false,false,false,true]) (t:=mT (B5 (i9 false) (d5 (R1 false) (B0 (A0 9) B4)) (A0 8))) (m:=A0 9) (env:=[.par [.int a,.bl b],w1,w2,w3,.dat (.int 0),w5,.dat (.lst (rows.map dR)),w7,.dat (.int most)]) (base:=[.nil,.nil,.nil,.nil,.nil,.nil,.nil,.nil,.dat (.int most)]) (l:=rows) (q:=dR) (f:=dR) (p:=fun r=>(R0 false r==most)) (k:=9) rfl (by omega) rfl rfl
    (fun r hq=>⟨N4 (D0 (a:=.int (R0 false r)) (b:=.int most) (e1:=[.nil,.nil,.nil,.nil,.nil,.nil,.nil,.nil,.dat (.int most),.dat (dR r)]) (K3 (C7 (e1:=[.nil,.nil,.nil,.nil,.nil,.nil,.nil,.nil,.dat (.int most),.dat (dR r)]) rfl rfl) (QA (hr r hq))) rfl rfl),fun _=>rfl⟩) (fun w=>rfl)
   refine E8 s1 ?_
   unfold O2;rw[c2];rfl
  ·have:r0∈rows.filter fun r=>(R0 false r==most):=Jt.mpr ⟨hr0,by simp[e0]⟩
   exact List.length_pos_of_mem this
  ·exact Zr (List.length_filter_le _ _) h2
 ·refine⟨rows,.dat (.lst (rows.map dR)),w8,?_,.inl rfl,h1,h2,fun r hq=>hq⟩
  refine X4 (e1:=[.par [.int a,.bl b],w1,w2,w3,.dat (.int few),w5,.dat (.lst (rows.map dR)),w7,w8]) ?_ rfl;refine N4 (D0 rfl rfl ?_);rw[Fa]
  simp[hf]
theorem jO{w4:W}(h:LW w6 ds):A0 6 [w0,w1,w2,w3,w4,w5,w6,w7,w8]=some (.lst ds,[w0,w1,w2,w3,w4,w5,.dat (.lst ds),w7,w8]):=by
 rcases h with rfl|rfl<;>rfl
theorem GV(hl:r.length=h.length)(h6:h.length≤6):∃ws',R4 [.dat (dR h),.dat (dR r)]=some (.d (dR (E9 h r)),ws'):=by
 have ez:(h.zip r).map (fun p=>D.int (p.1+p.2))=(E9 h r).map D.int:=by
  unfold E9;rw[Vi,List.zip_eq_zipWith,Vi]
 have c:=Ir (mi:=Y2 (B0 (A0 0) (B0 (A0 1) B4))) (keep:=[false,false]) (m:=B5 D3 (A0 2) (A0 3)) (env:=[.dat (dR h),.dat (dR r)]) (base:=[.nil,.nil]) (l:=h.zip r) (q:=fun p=>D.int p.1) (q2:=fun p=>D.int p.2) (f:=fun p=>.int (p.1+p.2)) (k:=2) (by
   show some (Q9 (h.map D.int) (r.map D.int),_)=_;rw[Py]) (by rw[List.length_zip];omega) rfl rfl (fun p _=>rfl) (fun w w2=>rfl)
 rw[ez]at c;refine⟨_,(J4 (d:=dR (E9 h r)) (env:=[.dat (dR h),.dat (dR r)]) ?_).trans rfl⟩;show Kc [.dat (dR h),.dat (dR r)]=_;unfold Kc;exact N9 (K3 (C7 (G8 c) rfl) rfl)
structure wA(b:Bool)(n i:Nat)(few:Int)(e:b0)(a:Int)(h:List Int)(rows:OI)(w5 w6 w7 w8:W):Prop where
 eq:e=[.par [.int a,.bl b],.dat (.int n),.dat (dR h),.dat (dT rows),.dat (.int few),w5,w6,w7,w8]
 a0:0≤a
 hb:HB h n
 len:rows.length=i
 row:∀r∈rows,r.length=n/\tt 0 r=true
 sum:h.sum=i
 col:∀j,j<n->run 0 (rows.map fun r=>r.getD j 0)=some (h.getD j 0)
theorem jP{b:Bool}{few:Int}(h1:1≤n)(h6:n≤6)(hi:i<n)(I:wA b n i few e a h rows w5 w6 w7 w8):
  ∃e2 a' h' rows' x5 x6 x7 x8,Ks e=some (.nx,e2)/\wA b n (i+1) few e2 a' h' rows' x5 x6 x7 x8:=by
 obtain⟨rfl,a0,hb,hlen,hrow,hsum,hcol⟩:=I;have hs:∃x∈h,x≠1:=by
  refine Uj fun hn=>?_
  have hall:∀x∈h,x=1:=fun x hx=>Uj fun z=>hn ⟨x,hx,z⟩
  have:h.sum=h.length:=by
   clear hcol hsum hn hb
   induction h with
   |nil=>rfl
   |cons y h ih=>
    have h1:=hall y (by simp)
    have:=ih fun x hx=>hall x (by simp[hx])
    simp only[Jw,Qo]
    omega
  have:=hb.len
  omega
 obtain⟨lines0,ws',el,l10,l20,lok0⟩:=jI h1 h6 hb hs;have hnl:h.length=n:=hb.len;obtain⟨lines,w6',x8,ef,lw,l1,l2,lsub⟩:=jN (b:=b) (a:=a) (few:=few) (w1:=.dat (.int n)) (w2:=.dat (dR h)) (w3:=.dat (dT rows)) (w5:=w5) (w7:=w7) (w8:=w8) l10 l20 (fun r hq=>by rw[(lok0 r hq).len,hnl];exact h1)
 have lok:∀r∈lines,qI h r:=fun r hq=>lok0 r (lsub r hq)
 obtain⟨v,a',et,v0,v1,a0'⟩:=Km (a:=a) (m:=(lines.length:Int)) (b:=b) a0 (by omega) (by omega)
 have hv:v.toNat<lines.length:=by omega
 have hvv:((v.toNat:Nat):Int)=v:=by omega
 generalize hr:lines[v.toNat]=r;have rok:qI h r:=lok r (by rw[←hr];exact Ym hv)
 have rl:r.length=n:=by rw[rok.len,hb.len]
 obtain⟨wh,eh⟩:=GV (h:=h) (r:=r) rok.len (by omega)
 refine⟨[.par [.int a',.bl b],.dat (.int n),.dat (dR (E9 h r)),.dat (dT (rows++[r])),.dat (.int few),w5,.dat (.lst (lines.map dR)),.dat (dR r),x8],a',E9 h r,rows++[r],w5,.dat (.lst (lines.map dR)),.dat (dR r),x8,?_,rfl,a0',⟨by rw[Kn rok.len];exact hnl,rok.bit⟩,by simp[hlen],?_,?_,?_⟩
 ·have s1:(C9 6 (mF (M1 1 R3 (B7 (A0 2) B8)))) [.par [.int a,.bl b],.dat (.int n),.dat (dR h),.dat (dT rows),.dat (.int few),w5,w6,w7,w8]=some (.nx,[.par [.int a,.bl b],.dat (.int n),.dat (dR h),.dat (dT rows),.dat (.int few),w5,.dat (.lst (lines0.map dR)),w7,w8]):=
   V5 (e1:=[.par [.int a,.bl b],.dat (.int n),.dat (dR h),.dat (dT rows),.dat (.int few),w5,w6,w7,w8]) (G8 (BU (V7 (av:=[.d (dR h)]) rfl rfl rfl el)))
  have tk:(c9 2 K1 (F7 0 (B7 (d5 E6 (B0 (A0 6) B4)) B8))) [.par [.int a,.bl b],.dat (.int n),.dat (dR h),.dat (dT rows),.dat (.int few),w5,.dat (.lst (lines.map dR)),w7,x8]=some (.int v,[.par [.int a',.bl b],.dat (.int n),.dat (dR h),.dat (dT rows),.dat (.int few),w5,.dat (.lst (lines.map dR)),w7,x8]):=by
   refine R9 ((Cu (e1:=[.par [.int a,.bl b],.dat (.int n),.dat (dR h),.dat (dT rows),.dat (.int few),w5,.dat (.lst (lines.map dR)),w7,x8]) (w:=.par [.int a,.bl b]) (av:=[.sl 0,.d (.int (lines.length:Int))]) (i:=0) (c:=[.int a,.bl b]) (c':=[.int a',.bl b]) ?_ rfl rfl rfl rfl et rfl).trans rfl);show some ([Ar.sl 0,Ar.d (.int ((lines.map dR).length:Nat))],_)=_;rw[Qk]
  have s2:(C9 7 (B5 i8 (A0 6) (c9 2 K1 (F7 0 (B7 (d5 E6 (B0 (A0 6) B4)) B8))))) [.par [.int a,.bl b],.dat (.int n),.dat (dR h),.dat (dT rows),.dat (.int few),w5,w6',w7,x8]=some (.nx,[.par [.int a',.bl b],.dat (.int n),.dat (dR h),.dat (dT rows),.dat (.int few),w5,.dat (.lst (lines.map dR)),.dat (dR r),x8]):=by
   refine V5 (e1:=[.par [.int a',.bl b],.dat (.int n),.dat (dR h),.dat (dT rows),.dat (.int few),w5,.dat (.lst (lines.map dR)),w7,x8]) (D0 (jO lw) tk ?_);rw[←hvv];exact Z3 (xs:=lines.map dR) (by rw[Zv,Zk hv,hr];rfl)
  have s4:(C9 3 (B5 D3 (A0 3) (D6 (B0 (A0 7) B4)))) [.par [.int a',.bl b],.dat (.int n),.dat (dR h),.dat (dT rows),.dat (.int few),w5,.dat (.lst (lines.map dR)),.dat (dR r),x8]=some (.nx,[.par [.int a',.bl b],.dat (.int n),.dat (dR h),.dat (dT (rows++[r])),.dat (.int few),w5,.dat (.lst (lines.map dR)),.dat (dR r),x8]):=by
   refine V5 (e1:=[.par [.int a',.bl b],.dat (.int n),.dat (dR h),.dat (dT rows),.dat (.int few),w5,.dat (.lst (lines.map dR)),.dat (dR r),x8]) (D0 rfl rfl ?_);show(if(rows.map dR).length+[dR r].length≤10000 then _ else none)=_
   rw[Qh (by rw[Qk];simp;omega)]
   unfold dT;rw[Zl];rfl
  have s3:(C9 2 (c9 2 R4 (B7 (A0 2) (B7 (A0 7) B8)))) [.par [.int a',.bl b],.dat (.int n),.dat (dR h),.dat (dT (rows++[r])),.dat (.int few),w5,.dat (.lst (lines.map dR)),.dat (dR r),x8]=some (.nx,[.par [.int a',.bl b],.dat (.int n),.dat (dR (E9 h r)),.dat (dT (rows++[r])),.dat (.int few),w5,.dat (.lst (lines.map dR)),.dat (dR r),x8]):=
   V5 (e1:=[.par [.int a',.bl b],.dat (.int n),.dat (dR h),.dat (dT (rows++[r])),.dat (.int few),w5,.dat (.lst (lines.map dR)),.dat (dR r),x8]) (R9 (V7 (av:=[.d (dR h),.d (dR r)]) rfl rfl rfl eh))
  unfold Ks;exact E8 s1 (E8 ef (E8 s2 (E8 s4 s3)))
 ·intro r' hr'
  rcases Yr.mp hr' with z|z
  ·exact hrow r' z
  ·have:r'=r:=by simpa using z
   subst this;exact⟨rl,rok.tt⟩
 ·have:=Pu r 0 rok.tt
  rw[Ko rok.len]
  omega
 ·intro j hj
  rw[Zl,Qg,Vo,Kr rok.len (by omega)]
  refine jJ _ _ 0 _ (hcol j hj) ?_
  rw[←Kr rok.len (by omega)]
  have hjl:j<(E9 h r).length:=by rw[Kn rok.len];omega
  have:(E9 h r).getD j 0=(E9 h r)[j]:=by simp[hjl]
  rw[this];exact rok.bit _ (Ym hjl)
structure Tab(T:OI):Prop where
 lo:1≤T.length
 hi:T.length≤6
 len:∀r∈T,r.length=T.length
 ok:pS (dT T)=true
theorem jQ{b:Bool}(ha:0≤a)(n1:1≤n)(n6:n≤6):∃T a',DU [.par [.int a,.bl b],.dat (.int n)]=some (.d (dT T),[.par [.int a',.bl b],.dat (.int n)])/\0≤a'/\Tab T/\T.length=n:=by
 obtain⟨v,a1,et,v0,v1,a10⟩:=Km (a:=a) (m:=3) (b:=b) ha (by omega) (by omega)
 have s1:(C9 2 (B5 K7 (D6 (B0 (mC (.int 0)) B4)) (A0 1))) [.par [.int a,.bl b],.dat (.int n),.nil,.nil,.nil,.nil,.nil,.nil,.nil]=some (.nx,[.par [.int a,.bl b],.dat (.int n),.dat (dR (List.replicate n 0)),.nil,.nil,.nil,.nil,.nil,.nil]):=by
  refine V5 (e1:=[.par [.int a,.bl b],.dat (.int n),.nil,.nil,.nil,.nil,.nil,.nil,.nil]) (D0 rfl rfl ?_);show(if 1≤(n:Int)/\(n:Int)≤1000 then some (D.tup (List.replicate (n:Int).toNat (.int 0)))else none)=_
  rw[Qh (by omega),Jz]
  unfold dR;rw[List.map_replicate]
 have s2:(C9 3 (D6 B4)) [.par [.int a,.bl b],.dat (.int n),.dat (dR (List.replicate n 0)),.nil,.nil,.nil,.nil,.nil,.nil]=some (.nx,[.par [.int a,.bl b],.dat (.int n),.dat (dR (List.replicate n 0)),.dat (dT []),.nil,.nil,.nil,.nil,.nil]):=rfl
 have s3:(C9 4 (c9 2 K1 (F7 0 (B7 (mC (.int 3)) B8)))) [.par [.int a,.bl b],.dat (.int n),.dat (dR (List.replicate n 0)),.dat (dT []),.nil,.nil,.nil,.nil,.nil]=some (.nx,[.par [.int a1,.bl b],.dat (.int n),.dat (dR (List.replicate n 0)),.dat (dT []),.dat (.int v),.nil,.nil,.nil,.nil]):=
  V5 (e1:=[.par [.int a1,.bl b],.dat (.int n),.dat (dR (List.replicate n 0)),.dat (dT []),.nil,.nil,.nil,.nil,.nil]) (R9 ((Cu (e1:=[.par [.int a,.bl b],.dat (.int n),.dat (dR (List.replicate n 0)),.dat (dT []),.nil,.nil,.nil,.nil,.nil]) (w:=.par [.int a,.bl b]) (av:=[.sl 0,.d (.int 3)]) (i:=0) (c:=[.int a,.bl b]) (c':=[.int a1,.bl b]) rfl rfl rfl rfl rfl et rfl).trans rfl))
 have start:wA b n 0 v [.par [.int a1,.bl b],.dat (.int n),.dat (dR (List.replicate n 0)),.dat (dT []),.dat (.int v),.nil,.nil,.nil,.nil] a1 (List.replicate n 0) [] .nil .nil .nil .nil:=by
  refine⟨rfl,a10,⟨by simp,fun x hx=>.inl (List.eq_of_mem_replicate hx)⟩,rfl,fun r hr=>(by cases hr),by simp,fun j hj=>?_⟩
  simp[run,Yo,hj]
 obtain⟨e',h1,a',h',rows',x5,x6,x7,x8,I⟩:=Kq (g:=gN 5) (b:=Ks) (ds:=Q7 0 n) (P:=fun i e=>∃a h rows w5 w6 w7 w8,wA b n i v e a h rows w5 w6 w7 w8) (env:=[.par [.int a1,.bl b],.dat (.int n),.dat (dR (List.replicate n 0)),.dat (dT []),.dat (.int v),.nil,.nil,.nil,.nil])
  (fun i d e hi ⟨a,h,rows,w5,w6,w7,w8,I⟩=>by
   have hil:i<n:=by
    have:=(Qp.mp hi).1;rw[DX]at this
    simpa using this
   obtain⟨rfl,r1,r2,r3,r4,r5,r6⟩:=I;obtain⟨e2,a',h',rows',x5,x6,x7,x8,t1,t2⟩:=jP (b:=b) (few:=v) (w5:=.dat d) (w6:=w6) (w7:=w7) (w8:=w8) n1 n6 hil ⟨rfl,r1,r2,r3,r4,r5,r6⟩;exact⟨_,e2,rfl,t1,a',h',rows',x5,x6,x7,x8,t2⟩) ⟨_,_,_,_,_,_,_,start⟩
 have hlen:(Q7 0 n).length=n:=by rw[DX];simp
 rw[hlen]at I;obtain⟨rfl,r1,r2,r3,r4,r5,r6⟩:=I;have ones:=(Px r2.bit).2 (by rw[r2.len];exact r5)
 have tab:Tab rows':=by
  refine⟨by omega,by omega,fun r hr=>by rw[r3];exact(r4 r hr).1,?_⟩
  unfold pS;rw[Kk (by omega) (by omega) (fun r hr=>by rw[r3];exact(r4 r hr).1),En,Yn,Xy,Qw,Qx,Qx]
  refine⟨fun r hr=>(r4 r hr).2,fun c hc=>?_⟩
  unfold flip at hc;obtain⟨j,hj,rfl⟩:=Qa.mp hc;have hj':j<n:=by rw[r3]at hj;exact Zs.mp hj
  rw[Pw,r6 j hj'];have hjl:j<h'.length:=by rw[r2.len];exact hj'
  have:h'.getD j 0=h'[j]:=by simp[hjl]
  rw[this,ones _ (Ym hjl)];rfl
 refine⟨rows',a',(J4 (d:=dT rows') (env:=[.par [.int a',.bl b],.dat (.int n),.dat (dR h'),.dat (dT rows'),.dat (.int v),x5,x6,x7,x8]) ?_).trans rfl,r1,tab,r3⟩;show Kd [.par [.int a,.bl b],.dat (.int n),.nil,.nil,.nil,.nil,.nil,.nil,.nil]=_;unfold Kd;have rg:=Fb (ms:=B0 (A0 1) B4) (env:=[.par [.int a1,.bl b],.dat (.int n),.dat (dR (List.replicate n 0)),.dat (dT []),.dat (.int v),.nil,.nil,.nil,.nil]) (e1:=[.par [.int a1,.bl b],.dat (.int n),.dat (dR (List.replicate n 0)),.dat (dT []),.dat (.int v),.nil,.nil,.nil,.nil]) (j:=(n:Int)) rfl (by omega) (by omega)
 rw[Jz]at rg;rw[L4 s1,L4 s2,L4 s3,L4 ((V6 rg).trans h1)];rfl
theorem T2{m:Mo D}{as:Mo (List Ar)}{e1 e2:b0}{q:List Ar}(h:m e=some (d,e1))(h2:as e1=some (q,e2)):B7 m as e=some (.d d::q,e2):=by unfold B7;rw[h,Qj,h2];rfl
def Pl(w:W):Prop:=w=.nil\/ ∃d,w=.dat d
def W3(n:Nat)(d:D):Bool:=match d with
 |.tup xs=>(xs.length==n)&&(xs.all (fun x=>tI x (-1) 1)&&rD (mX d))
 |_=>false
theorem Kt{x:D}(h:tI x (-1) 1=true):rW x=true/\small (rY x)=true:=by
 cases x<;>first|cases h|skip
 exact⟨rfl,h⟩
theorem Ep(n:Nat)(d:D):W3 n d=(qU d n&&tt 0 (mX d)):=by
 cases d with
 |tup xs=>
  simp only[W3,qU]
  by_cases hl:xs.length=n
  ·subst hl
   rw[iY];simp only[Vt,Yn,←Bool.and_assoc]
   congr 1
   by_cases h:xs.all (fun x=>tI x (-1) 1)=true
   ·rw[h]
    have h1:=Qx.mp h
    have a1:xs.all rW=true:=Qx.mpr fun x hx=>(Kt (h1 x hx)).1
    have a2:(mX (.tup xs)).all small=true:=Qx.mpr fun y hy=>by
     obtain⟨x,hx,rfl⟩:=Qa.mp hy;exact(Kt (h1 x hx)).2
    rw[a1,a2];rfl
   ·have h':xs.all (fun x=>tI x (-1) 1)=false:=by simpa using h
    rw[h'];cases hw:(xs.all rW&&(mX (.tup xs)).all small)with
    |false=>rfl
    |true=>
     rw[Qw]at hw
     exfalso
     apply h
     refine Qx.mpr fun x hx=>?_
     have b1:=Qx.mp hw.1 x hx
     have b2:=Qx.mp hw.2 (rY x) (Qa.mpr ⟨x,hx,rfl⟩)
     cases x<;>first|exact b2|cases b1
  ·have h1:(xs.length==n)=false:=by simpa using hl
   have h2:((xs.length:Int)==(n:Int))=false:=by
    rw[Uw];omega
   rw[h1,h2];rfl
 |_=>rfl
abbrev GW:Mo D:=T8 (c9 1 El (B7 (A0 2) B8)) (R7 oQ oQ (M5 (mC (.int 1))) (A0 2) (mC (.int 1)))
theorem jR(x:D):GW [.nil,.nil,.dat x]=some (.bl (tI x (-1) 1),[.nil,.nil,.dat x]):=by
 cases x with
 |int i=>
  unfold GW T8;have c:=Pk (e:=[.nil,.nil,.dat (.int i)]) (ma:=M5 (mC (.int 1))) (mb:=A0 2) (mc:=mC (.int 1)) (a:=-1) (i:=i) (b:=1) rfl rfl rfl;exact c
 |_=>rfl
abbrev Er:Mo Fl:=(C3 (G0 (J9 (G9 (mT (pE "tuple" (A0 1)))) (mT (B5 (i9 true) (d5 E6 (B0 (A0 1) B4)) (d5 E6 (B0 (A0 0) B4))))) (E1 (mC (.bl false))) nD) (G0 (J9 (G9 (mT (d5 AD (B0 (mF (D8 (D5 (A0 1)) [false,false] 1 (gN 2) F1 (T8 (c9 1 El (B7 (A0 2) B8)) (R7 oQ oQ (M5 (mC (.int 1))) (A0 2) (mC (.int 1)))))) B4)))) (G9 (mT (c9 1 Be (B7 (A0 1) B8))))) (E1 (mC (.bl false))) nD))
theorem jS(hn:es.length≤6)(d:D):Er [.dat (.tup es),.dat d]=some (stop (W3 es.length d) (.bl false),[.dat (.tup es),.dat d]):=by
 cases d with
 |tup xs=>
  by_cases hl:xs.length=es.length
  ·have t:(J9 (G9 (mT (pE "tuple" (A0 1)))) (mT (B5 (i9 true) (d5 E6 (B0 (A0 1) B4)) (d5 E6 (B0 (A0 0) B4))))) [.dat (.tup es),.dat (.tup xs)]=some (false,[.dat (.tup es),.dat (.tup xs)]):=by
    show some (!((xs.length:Int)==(es.length:Int)),_)=_;rw[hl];simp
   have al:(G9 (mT (d5 AD (B0 (mF (D8 (D5 (A0 1)) [false,false] 1 (gN 2) F1 GW)) B4)))) [.dat (.tup es),.dat (.tup xs)]=some (!xs.all (fun x=>tI x (-1) 1),[.dat (.tup es),.dat (.tup xs)]):=by
    obtain⟨e',h1,w,rfl⟩:=CW (g:=gN 2) (m:=GW) (P:=fun e=>∃w,e=[.nil,.nil,w]) (q:=id) (f:=fun x=>.bl (tI x (-1) 1)) (l:=xs) (env:=[.nil,.nil,.nil])
     (fun x _ e ⟨w,he⟩=>by
      subst he;exact⟨[.nil,.nil,.dat x],[.nil,.nil,.dat x],rfl,jR x,_,rfl⟩) ⟨.nil,rfl⟩
    rw[Vm]at h1;refine Av (N4 (K3 (C7 (G8 (Aa (e2:=[.nil,.nil,w]) (Q2 rfl rfl) (by omega) h1 rfl)) rfl) ?_))
    show(U1 (xs.map fun x=>D.bl (tI x (-1) 1))).map _=_
    rw[YL];rfl
   unfold Er;rw[L4 (by rw[Y4 t];rfl)]
   cases ha:xs.all (fun x=>tI x (-1) 1)with
   |false=>
    rw[ha]at al;rw[Y3 (cZ al)]
    simp[W3,hl,ha,stop,E1,mC]
   |true=>
    rw[ha]at al;have h2:xs=(xs.map rY).map .int:=PZ (Qx.mpr fun x hx=>(Kt (Qx.mp ha x hx)).1)
    have c:(G9 (mT (c9 1 Be (B7 (A0 1) B8)))) [.dat (.tup es),.dat (.tup xs)]=some (!rD (mX (.tup xs)),[.dat (.tup es),.dat (.tup xs)]):=
     Av (N4 (R9 (V7 (av:=[.d (.tup xs)]) rfl rfl rfl (Pm (.tup xs) (xs.map rY) (by show some xs=_;rw[←h2]) (by rw[Qk];omega)))))
    cases hb:rD (mX (.tup xs))with
    |true=>rw[hb]at c;rw[Y4 (DN al c)];simp[W3,hl,ha,hb,stop,nD]
    |false=>rw[hb]at c;rw[Y3 (DN al c)];simp[W3,hl,ha,hb,stop,E1,mC]
  ·have t:(J9 (G9 (mT (pE "tuple" (A0 1)))) (mT (B5 (i9 true) (d5 E6 (B0 (A0 1) B4)) (d5 E6 (B0 (A0 0) B4))))) [.dat (.tup es),.dat (.tup xs)]=some (true,[.dat (.tup es),.dat (.tup xs)]):=by
    show some (!((xs.length:Int)==(es.length:Int)),_)=_;have:((xs.length:Int)==(es.length:Int))=false:=by rw[Uw];omega
    rw[this];rfl
   unfold Er;rw[X0 (d:=.bl false) (by rw[Y3 t];rfl)]
   have:(xs.length==es.length)=false:=by simpa using hl
   simp[W3,this,stop]
 |_=>rfl
theorem jT(hok:es.all (W3 es.length)=true):(flip es.length (es.map mX)).all (tt 0)=(List.range es.length).all fun j=>rD ((es.map mX).map fun r=>r.getD j 0):=by
 unfold flip;rw[List.all_map];have e:∀j∈List.range es.length,((tt 0)∘fun j=>(es.map mX).map fun r=>r.getD j 0) j=rD ((es.map mX).map fun r=>r.getD j 0):=fun j hj=>by
  apply Po
  intro x hx;obtain⟨r,hr,rfl⟩:=Qa.mp hx;obtain⟨d,hd,rfl⟩:=Qa.mp hr;have h1:=Qx.mp hok d hd;rw[Ep,Qw]at h1;have h2:=Pp _ 0 (.inl rfl) h1.2
  by_cases hj':j<(mX d).length
  ·have:(mX d).getD j 0=(mX d)[j]:=by simp[hj']
   rw[this];exact h2 _ (Ym hj')
  ·have:(mX d).getD j 0=0:=by simp[Nat.le_of_not_lt hj']
   rw[this];rfl
 rw[Bool.eq_iff_iff,Qx,Qx];exact⟨fun h j hj=>(e j hj) ▸ h j hj,fun h j hj=>(e j hj).symm ▸ h j hj⟩
theorem jU(es:List D):pS (.tup es)=((decide (1≤(es.length:Int))&&decide ((es.length:Int)≤6))&&(es.all (W3 es.length)&&(List.range es.length).all fun j=>rD ((es.map mX).map fun r=>r.getD j 0))):=by
 unfold pS rC;simp only[Bool.and_assoc]
 congr 1
 congr 1
 have hu:rL (.tup es)=es.map mX:=rfl
 rw[hu,Xy,Qk];cases hk:es.all (W3 es.length)with
 |true=>
  have h1:es.all (fun r=>qU r es.length)=true:=Qx.mpr fun d hd=>by
   have:=Qx.mp hk d hd;rw[Ep,Qw]at this;exact this.1
  have h2:(es.map mX).all (tt 0)=true:=Qx.mpr fun r hr=>by
   obtain⟨d,hd,rfl⟩:=Qa.mp hr;have:=Qx.mp hk d hd;rw[Ep,Qw]at this;exact this.2
  rw[h1,h2,jT hk];rfl
 |false=>
  rw[Ue];cases h1:es.all (fun r=>qU r es.length)with
  |false=>rfl
  |true=>
   have h2:(es.map mX).all (tt 0)=false:=by
    cases h3:(es.map mX).all (tt 0)with
    |false=>rfl
    |true=>
     have:es.all (W3 es.length)=true:=Qx.mpr fun d hd=>by
      rw[Ep,Qw];exact⟨Qx.mp h1 d hd,Qx.mp h3 (mX d) (Qa.mpr ⟨d,hd,rfl⟩)⟩
     rw[hk]at this;cases this
   rw[h2];rfl
theorem QB(d:D):Af [.dat d]=some (.d (.bl (pS d)),[.dat d]):=by
 cases d with
 |tup es=>
  have t:(J9 (G9 (mT (pE "tuple" (A0 0)))) (G9 (mT (R7 oQ oQ (mC (.int 1)) (d5 E6 (B0 (A0 0) B4)) (mC (.int 6)))))) [.dat (.tup es),.nil]=some (!(decide (1≤(es.length:Int))&&decide ((es.length:Int)≤6)),[.dat (.tup es),.nil]):=by
   have c:=Pk (e:=[.dat (.tup es),.nil]) (ma:=mC (.int 1)) (mb:=d5 E6 (B0 (A0 0) B4)) (mc:=mC (.int 6)) (a:=1) (i:=es.length) (b:=6) rfl rfl rfl
   exact DN rfl (Av (N4 c))
  rw[jU];cases hb:(decide (1≤(es.length:Int))&&decide ((es.length:Int)≤6))with
  |false=>
   rw[hb]at t;refine(J4 (d:=.bl false) (env:=[.dat (.tup es),.nil]) ?_).trans rfl;show CV [.dat (.tup es),.nil]=_;unfold CV;rw[X0 (d:=.bl false) (by rw[Y3 t];rfl)]
  |true=>
   rw[hb]at t;have hn:1≤es.length/\es.length≤6:=by
    rw[Qw,Zw,Zw]at hb
    omega
   obtain⟨e',h1,w1,hw,rfl⟩:=NB (g:=gN 1) (b:=Er) (P:=fun e=>∃w1,Pl w1/\e=[.dat (.tup es),w1]) (ok:=W3 es.length) (r:=.bl false) (ds:=es) (env:=[.dat (.tup es),.nil])
    (fun x _ e ⟨w1,_,he⟩=>by
     subst he;exact⟨_,_,rfl,jS hn.2 x,_,.inr ⟨_,rfl⟩,rfl⟩) ⟨_,.inl rfl,rfl⟩
   have fr:(K6 (D5 (A0 0)) (gN 1) Er) [.dat (.tup es),.nil]=some (stop (es.all (W3 es.length)) (.bl false),[.dat (.tup es),w1]):=(V6 (Q2 rfl rfl)).trans h1
   cases hk:es.all (W3 es.length)with
   |false=>
    rw[hk]at fr;refine(J4 (d:=.bl false) (env:=[.dat (.tup es),w1]) ?_).trans rfl;show CV [.dat (.tup es),.nil]=_;unfold CV;rw[L4 (by rw[Y4 t];rfl),X0 (d:=.bl false) fr]
   |true=>
    rw[hk]at fr;have hlen:∀d∈es,d=.tup ((mX d).map .int)/\(mX d).length=es.length:=fun d hd=>by
     have:=Qx.mp hk d hd;rw[Ep,Qw]at this;obtain⟨a1,a2⟩:=DW this.1;exact⟨a1,by omega⟩
    have inner:∀j,j<es.length->(c9 1 Be (B7 (mF (D8 (D5 (A0 0)) [false,false,true] 1 (gN 3) F1 (B5 i8 (A0 3) (A0 2)))) B8)) [.dat (.tup es),w1,.dat (.int (j:Int))]=some (.bl (rD ((es.map mX).map fun r=>r.getD j 0)),[.dat (.tup es),w1,.dat (.int (j:Int))]):=fun j hj=>by
     have c:(D8 (D5 (A0 0)) [false,false,true] 1 (gN 3) F1 (B5 i8 (A0 3) (A0 2))) [.dat (.tup es),w1,.dat (.int (j:Int))]=some (((es.map mX).map fun r=>r.getD j 0).map .int,[.dat (.tup es),w1,.dat (.int (j:Int))]):=by
      rw[Zz,Zz];refine CM (α:=D) (q:=id) (f:=fun d=>.int ((mX d).getD j 0)) (l:=es) (base:=[.nil,.nil,.dat (.int (j:Int))]) (by rw[Vm];exact Q2 rfl rfl) (by omega) rfl rfl (fun d hd=>D0 rfl rfl ?_) (fun w=>?_)
      ·obtain⟨a1,a2⟩:=hlen d hd
       show i8 d _=_;rw[a1,Pb (mX d)|>fun h=>(show mX (.tup ((mX d).map .int))=mX d from h)]
       exact Z3 (by simp[Zk (show j<(mX d).length by omega)])
      ·rcases hw with rfl|⟨d,rfl⟩<;>rfl
     exact K4 (av:=[.d (.lst (((es.map mX).map fun r=>r.getD j 0).map .int))]) (T2 (G8 c) rfl) rfl rfl (Pm _ _ rfl (by simp;omega))
    refine(J4 (d:=.bl ((List.range es.length).all fun j=>rD ((es.map mX).map fun r=>r.getD j 0))) (env:=[.dat (.tup es),w1]) ?_).trans (by simp;rfl)
    show CV [.dat (.tup es),.nil]=_;unfold CV;rw[L4 (by rw[Y4 t];rfl),L4 fr]
    refine N9 (K3 (C7 (G8 (CM (α:=Nat) (q:=fun j=>D.int (j:Int)) (f:=fun j=>.bl (rD ((es.map mX).map fun(r:List Int)=>r.getD j 0))) (l:=List.range es.length) (base:=[.dat (.tup es),w1]) (DL (n:=es.length) rfl rfl (by omega)) (by simp;omega) ?_ rfl (fun j hj=>inner j (Zs.mp hj)) (fun w=>?_))) rfl) ?_)
    ·rcases hw with rfl|⟨d,rfl⟩<;>rfl
    ·rcases hw with rfl|⟨d,rfl⟩<;>rfl
    ·show(U1 _).map _=_
     rw[CB];rfl
 |_=>rfl
def S(g:Nat->Int):Nat->Int
 |0=>0
 |k+1=>S g k+g k
def U(h:OO)(i j:Nat):Int:=(h (i+1) (j+1)-h i (j+1))-(h (i+1) j-h i j)
theorem jV(g:Nat->Int):∀n,S (fun k=>g (k+1)-g k) n=g n-g 0
 |0=>by show(0:Int)=_;omega
 |n+1=>by
  show S (fun k=>g (k+1)-g k) n+(g (n+1)-g n)=_
  rw[jV g n];omega
theorem Es(g:Nat->Int):∀n,S g (n+1)=g 0+S (fun k=>g (k+1)) n
 |0=>by show(0:Int)+g 0=g 0+0;omega
 |n+1=>by
  show S g (n+1)+g (n+1)=g 0+(S (fun k=>g (k+1)) n+g (n+1))
  rw[Es g n];omega
structure m7(n:Nat)(f:OO):Prop where
 row:∀i<n,∀k≤n,S (f i) k=0\/S (f i) k=1
 rowN:∀i<n,S (f i) n=1
 col:∀j<n,∀k≤n,S (fun r=>f r j) k=0\/S (fun r=>f r j) k=1
 colN:∀j<n,S (fun r=>f r j) n=1
structure HtF(n:Nat)(h:OO):Prop where
 r0:∀i≤n,h i 0=0
 d0:∀j≤n,h 0 j=0
 rN:∀i≤n,h i n=i
 dN:∀j≤n,h n j=j
 dd:∀i<n,∀j≤n,h (i+1) j=h i j\/h (i+1) j=h i j+1
 rr:∀i≤n,∀j<n,h i (j+1)=h i j\/h i (j+1)=h i j+1
def mx(x y:Int):Int:=if x≤y then y else x
def tr(n:Nat)(h:OO)(i j:Nat):Int:=(i:Int)+j-n+h (n-i) (n-j)
theorem GX:∀(n:Nat) (g:Nat->Int) (s:Int),tt s ((List.range n).map g)=true↔(∀k<n,s+S g (k+1)=0\/s+S g (k+1)=1)/\s+S g n=1
 |0,g,s=>by
  show(s==1)=true↔_;rw[Yi]
  constructor
  ·intro h;exact⟨fun k hk=>by omega,by show s+0=1;omega⟩
  ·rintro⟨_,h⟩;have:S g 0=0:=rfl;omega
 |n+1,g,s=>by
  rw[Vn,Qg,Zz];show((s+g 0==0||s+g 0==1)&&tt (s+g 0) ((List.range n).map fun k=>g (k+1)))=true↔_
  rw[Qw,Xv,Yi,Yi,GX n (fun k=>g (k+1)) (s+g 0),Es g n]
  constructor
  ·rintro⟨h1,h2,h3⟩
   refine⟨fun k hk=>?_,by omega⟩
   rw[Es g k];cases k with
   |zero=>show s+(g 0+0)=0\/s+(g 0+0)=1;omega
   |succ k=>have:=h2 k (by omega);omega
  ·rintro⟨h1,h2⟩
   refine⟨?_,fun k hk=>?_,by omega⟩
   ·have:=h1 0 (by omega)
    rw[Es g 0]at this;have e:S (fun k=>g (k+1)) 0=0:=rfl
    omega
   ·have:=h1 (k+1) (by omega)
    rw[Es g (k+1)]at this;omega
def gm(n m:Nat)(f:OO):OI:=(List.range n).map fun i=>(List.range m).map (f i)
theorem W4{f:OO}:(gm n m f).length=n:=by simp[gm]
theorem DZ{f:OO}:∀r∈gm n m f,r.length=m:=by
 intro r hr;obtain⟨i,_,rfl⟩:=Qa.mp hr
 simp
theorem jW{f g:OO}(h:gm n m f=gm n m g)(hi:i<n)(hj:j<m):f i j=g i j:=by
 have h1:=Ze (fun R=>(R.getD i []).getD j 0) h
 simpa [gm,hi,hj]using h1
def at2(R:OI)(i j:Nat):Int:=(R.getD i []).getD j 0
theorem GY{R:OI}(h1:R.length=n)(h2:∀r∈R,r.length=n):R=gm n n (at2 R):=by
 subst h1;unfold gm
 apply List.ext_getElem
 ·simp
 ·intro i hi hi'
  have hr:=h2 R[i] (Ym hi)
  rw[List.getElem_map,List.getElem_range]
  apply List.ext_getElem
  ·simp[hr]
  ·intro j hj hj'
   rw[List.getElem_map,List.getElem_range]
   simp[at2,hi,hj]
theorem QC(n m:Nat)(f:OO):flip m (gm n m f)=gm m n (fun i j=>f j i):=by
 unfold flip gm
 apply Zc
 intro j hj;have hj:=Zs.mp hj;rw[Zz]
 apply Zc
 intro i hi
 simp[hj]
theorem Et{f:OO}:pS (dT (gm n n f))=true↔(1≤n/\n≤6)/\m7 n f:=by
 unfold pS;rw[En,W4,QC,Qw,Xy,Qw,Qx,Qx];have row:∀g:OO,(∀x∈gm n n g,tt 0 x=true)↔ ∀i<n,(∀k≤n,S (g i) k=0\/S (g i) k=1)/\S (g i) n=1:=by
  intro g
  constructor
  ·intro h i hi
   have h1:=(GX n (g i) 0).mp (h _ (Qa.mpr ⟨i,Zs.mpr hi,rfl⟩))
   refine⟨fun k hk=>?_,by have:=h1.2;omega⟩
   cases k with
   |zero=>exact .inl rfl
   |succ k=>have:=h1.1 k (by omega);omega
  ·intro h x hx
   obtain⟨i,hi,rfl⟩:=Qa.mp hx;have h1:=h i (Zs.mp hi);refine(GX n (g i) 0).mpr ⟨fun k hk=>?_,by have:=h1.2;omega⟩
   have:=h1.1 (k+1) (by omega);omega
 rw[row,row]
 constructor
 ·rintro⟨h1,h2,h3⟩
  have:=Pa h1;rw[En,W4]at this;exact⟨⟨by omega,by omega⟩,⟨fun i hi=>(h2 i hi).1,fun i hi=>(h2 i hi).2,fun i hi=>(h3 i hi).1,fun i hi=>(h3 i hi).2⟩⟩
 ·rintro⟨⟨h1,h2⟩,T⟩
  refine⟨Kk (by rw[W4];omega) (by rw[W4];omega) (by rw[W4];exact DZ),fun i hi=>⟨T.row i hi,T.rowN i hi⟩,fun i hi=>⟨T.col i hi,T.colN i hi⟩⟩
theorem jX(xs:List α)(x:α):p8 (xs++[x]) (-1)=some x:=by
 unfold p8 tN;rw[Qs (by omega),Qh (by rw[Qt];simp;omega)]
 have:((-1:Int)+((xs++[x]).length:Nat)).toNat=xs.length:=by rw[Qt];simp;omega
 rw[this]
 simp
abbrev rw'(n:Nat)(g:Nat->Int):List Int:=(List.range n).map g
theorem jY{g:Nat->Int}(h:j<n):i8 (dR (rw' n g)) (.int (j:Int))=some (.int (g j)):=by
 show p8 ((rw' n g).map D.int) (j:Int)=_;exact Z3 (by simp[h])
theorem jZ{f:OO}(h:j<n):i8 (dT (gm n m f)) (.int (j:Int))=some (dR (rw' m (f j))):=by
 show p8 ((gm n m f).map dR) (j:Int)=_;exact Z3 (by simp[gm,h])
theorem kA(n:Nat)(g:Nat->Int)(hn:n≤1000):EX [.dat (dR (rw' n g))]=some (.d (dR (rw' (n+1) (S g))),[.dat (dR (rw' n g))]):=by
 generalize hL:dR (rw' n g)=L;have hLi:L.items=some ((rw' n g).map D.int):=by rw[←hL];rfl
 obtain⟨e',h1,w,rfl⟩:=Kq (g:=gN 2) (b:=AU 1 (B5 D3 (O4 1 (M5 (mC (.int 1)))) (A0 2))) (ds:=(rw' n g).map D.int) (P:=fun i e=>∃w,e=[.dat L,.own ((rw' (i+1) (S g)).map D.int),w]) (env:=[.dat L,.own [.int 0],.nil])
  (fun i d e hi ⟨w,he⟩=>by
   subst he;have hil:i<n:=by
    have:=(Qp.mp hi).1
    simpa using this
   have hd:d=.int (g i):=by
    simp[hil]at hi
    exact hi.symm
   subst hd;have ea:(rw' (i+1) (S g)).map D.int=(rw' i (S g)).map D.int++[D.int (S g i)]:=by
    unfold rw';rw[Tw,Zl,Zl];rfl
   have eb:(rw' (i+1+1) (S g)).map D.int=(rw' (i+1) (S g)).map D.int++[D.int (S g i+g i)]:=by
    unfold rw';rw[Tw (n:=i+1),Zl,Zl];rfl
   have ix:(O4 1 (M5 (mC (.int 1)))) [.dat L,.own ((rw' (i+1) (S g)).map D.int),.dat (.int (g i))]=some (.int (S g i),[.dat L,.own ((rw' (i+1) (S g)).map D.int),.dat (.int (g i))]):=by
    show(p8 ((rw' (i+1) (S g)).map D.int) (-1)).map _=_;rw[ea,jX];rfl
   refine⟨[.dat L,.own ((rw' (i+1) (S g)).map D.int),.dat (.int (g i))],[.dat L,.own ((rw' (i+1+1) (S g)).map D.int),.dat (.int (g i))],rfl,?_,_,rfl⟩;unfold AU;show((B5 D3 (O4 1 (M5 (mC (.int 1)))) (A0 2)) [.dat L,.own ((rw' (i+1) (S g)).map D.int),.dat (.int (g i))]).bind _=_;rw[D0 ix (b:=.int (g i)) (e2:=[.dat L,.own ((rw' (i+1) (S g)).map D.int),.dat (.int (g i))]) rfl (c:=.int (S g i+g i)) rfl];show(if((rw' (i+1) (S g)).map D.int).length<100000 then some (Fl.nx,[W.dat L,.own ((rw' (i+1) (S g)).map D.int++[D.int (S g i+g i)]),.dat (.int (g i))])else none)=_
   rw[Qh (by simp;omega),eb]) ⟨.nil,rfl⟩
 have hlen:((rw' n g).map D.int).length=n:=by simp
 rw[hlen]at h1;refine(J4 (d:=dR (rw' (n+1) (S g))) (env:=[.dat L,.dat (.lst ((rw' (n+1) (S g)).map D.int)),w]) ?_).trans rfl;show KM [.dat L,.nil,.nil]=_;unfold KM;rw[L4 (e1:=[.dat L,.own [.int 0],.nil]) rfl,L4 ((V6 (Q2 rfl hLi)).trans h1)]
 rfl
theorem kC{f:Fn}{m':Nat}{h k:OO}(hf:∀i,i<n->f [.dat (dR (rw' m (h i)))]=some (.d (dR (rw' m' (k i))),[.dat (dR (rw' m (h i)))]))(hn:n≤1000):k6 1 (E1 (d5 P8 (B0 (mF (D8 (D5 (A0 0)) [false] 1 (gN 1) F1 (c9 1 f (B7 (A0 1) B8)))) B4))) [.dat (dT (gm n m h))]=some (.d (dT (gm n m' k)),[.dat (dT (gm n m h))]):=by
 obtain⟨e',h1,w,rfl⟩:=CW (g:=gN 1) (m:=c9 1 f (B7 (A0 1) B8)) (P:=fun e=>∃w,e=[.nil,w]) (q:=fun(i:Nat)=>dR (rw' m (h i))) (f:=fun i=>dR (rw' m' (k i))) (l:=List.range n) (env:=[.nil,.nil])
  (fun i hi e ⟨w,he⟩=>by
   subst he;refine⟨[.nil,.dat (dR (rw' m (h i)))],[.nil,.dat (dR (rw' m (h i)))],rfl,R9 (V7 (av:=[.d (dR (rw' m (h i)))]) rfl rfl rfl (hf i (Zs.mp hi))),_,rfl⟩) ⟨.nil,rfl⟩
 have it:(D5 (A0 0)) [.dat (dT (gm n m h))]=some ((List.range n).map fun(i:Nat)=>dR (rw' m (h i)),[.dat (dT (gm n m h))]):=by
  refine Q2 rfl ?_
  show some ((gm n m h).map dR)=_;unfold gm;rw[Zz];rfl
 refine(J4 (d:=dT (gm n m' k)) (env:=[.dat (dT (gm n m h))]) ?_).trans rfl;refine N9 (K3 (C7 (G8 (Aa (e2:=[.nil,w]) it (by simp;omega) h1 rfl)) rfl) ?_)
 show some (D.tup _)=_;unfold dT gm;rw[Zz];rfl
theorem kD(f:OO)(hn:n≤1000)(hm:m≤1000):EY [.dat (dT (gm n m f))]=some (.d (dT (gm n (m+1) fun i=>S (f i))),[.dat (dT (gm n m f))]):=by
 unfold EY Oj;exact kC (f:=EX) (h:=f) (k:=fun i=>S (f i)) (fun i _=>kA m (f i) hm) hn
theorem QD(f:OO)(h1:1≤n)(hn:n≤1000)(hm:m≤1000):Z0 [.dat (dT (gm n m f))]=some (.d (dT (gm m n fun i j=>f j i)),[.dat (dT (gm n m f))]):=by
 have q:=Pc (R:=gm n m f) (n:=m) (by intro z;have:=W4 (n:=n) (m:=m) (f:=f);rw[z]at this;simp at this;omega) DZ hm (by rw[W4];exact hn)
 rw[QC]at q;exact q
theorem c1{f:Fn}{m:Mo D}{r:D}{ws:List W}(h:m env=some (d,env))(hf:f [.dat d]=some (.d r,ws)):c9 1 f (B7 m B8) env=some (r,env):=
 R9 (V7 (av:=[.d d]) (T2 h rfl) rfl rfl hf)
theorem kE(f:OO)(h1:1≤n)(h2:1≤m)(hn:n≤900)(hm:m≤900):CN [.dat (dT (gm n m f))]=some (.d (dT (gm (n+1) m fun i j=>S (fun k=>f k j) i)),[.dat (dT (gm n m f))]):=by
 have q1:=QD f h1 (by omega:n≤1000) (by omega:m≤1000)
 have q2:=kD (fun i j=>f j i) (by omega:m≤1000) (by omega:n≤1000)
 have q3:=QD (fun i=>S ((fun i j=>f j i) i)) h2 (by omega:m≤1000) (by omega:n+1≤1000)
 refine(J4 (d:=dT (gm (n+1) m fun i j=>S (fun k=>f k j) i)) (env:=[.dat (dT (gm n m f))]) ?_).trans rfl
 show KN [.dat (dT (gm n m f))]=_;unfold KN;have p1:=c1 (m:=A0 0) (env:=[.dat (dT (gm n m f))]) rfl q1;exact N9 (c1 (c1 p1 q2) q3)
def m5:Nat->OI
 |0=>[[]]
 |n+1=>(m5 n).map (fun s=>0::s)++(m5 n).map fun s=>1::s
theorem GZ:∀{n:Nat}{s:List Int},s.length=n->(∀x∈s,x=0\/x=1)->s∈m5 n
 |0,[],_,_=>by simp[m5]
 |0,_::_,h,_=>by simp at h
 |n+1,[],h,_=>by simp at h
 |n+1,x::s,h,hx=>by
  have ih:=GZ (n:=n) (s:=s) (by simpa using h) fun y hy=>hx y (Qr _ hy)
  unfold m5;rw[Yr]
  rcases hx x (Zq ..)with rfl|rfl
  ·exact .inl (Qa.mpr ⟨s,ih,rfl⟩)
  ·exact .inr (Qa.mpr ⟨s,ih,rfl⟩)
theorem Ga:∀{n:Nat}{s:List Int},s∈m5 n->s.length=n/\∀x∈s,x=0\/x=1
 |0,s,h=>by
  have:s=[]:=by simpa [m5]using h
  subst this;exact⟨rfl,fun x hx=>nomatch hx⟩
 |n+1,s,h=>by
  unfold m5 at h
  rcases Yr.mp h with h|h
  ·obtain⟨t,ht,rfl⟩:=Qa.mp h
   obtain⟨h1,h2⟩:=Ga ht;exact⟨by simp[h1],fun x hx=>(Ql.mp hx).elim (fun e=>.inl e) (h2 x)⟩
  ·obtain⟨t,ht,rfl⟩:=Qa.mp h
   obtain⟨h1,h2⟩:=Ga ht;exact⟨by simp[h1],fun x hx=>(Ql.mp hx).elim (fun e=>.inr e) (h2 x)⟩
theorem QE:∀n:Nat,(m5 n).length=2^n
 |0=>rfl
 |n+1=>by unfold m5;rw[Qt,Qk,Qk,QE n];omega
def ext(rows:OI)(a:Int):OI:=rows.flatMap fun row=>([-1,0,1].filter fun n=>(a+n==0||a+n==1)&&(row.sum+n==0||row.sum+n==1)).map fun n=>row++[n]
def R(s:List Int):OI:=(s.foldl ext [[]]).filter fun r=>r.sum==1
def zY:List Int:=[7436,429,1287,42,2002,105,203,7,2002,135,300,14,322,23,34,2,1287,105,250,14,300,26,41,3,203,23,41,4,34,5,6,1,429,42,105,7,135,14,23,2,105,14,26,3,23,4,5,1,42,7,14,2,14,3,4,1,7,2,3,1,2,1,1,1]
def idx(s:List Int):Nat:=s.foldl (fun a b=>2 * a+b.toNat) 0
def Wy(s:List Int):Int:=zY.getD (64-2^s.length+idx s) 0
def srt:OI->Bool
 |[]=>true
 |a::l=>l.all (fun b=>HT.lexLt a b)&&srt l
def X5(s:List Int):Bool:=
 ((R s).all fun r=>decide (r.length=s.length)&&decide (r.sum=1)&&(E9 s r).all fun x=>x==0||x==1)&&srt (R s)&&decide ((R s).length≤50)&&(s.contains 0||(R s).isEmpty)
  &&decide (Wy s=if s.contains 0 then((R s).map fun r=>Wy (E9 s r)).sum else 1)&&decide (1≤Wy s)
theorem zZ:(m5 1).all X5=true:=by rfl'
theorem z9:(m5 2).all X5=true:=by rfl'
theorem ck3:(m5 3).all X5=true:=by rfl'
theorem ck4:(m5 4).all X5=true:=by rfl'
theorem ck5:(m5 5).all X5=true:=by rfl'
theorem ck6:(m5 6).all X5=true:=by rfl'
def Eu:List D->Option (List Int)
 |[]=>some []
 |.int i::r=>(Eu r).map (i:: ·)
 |_::_=>none
def Da:List D->Option (OI)
 |[]=>some []
 |.tup x::r=>(Eu x).bind fun a=>(Da r).map (a:: ·)
 |_::_=>none
theorem QF:∀{l:List D}{r:List Int},Eu l=some r->l=r.map .int
 |[],r,h=>by cases h;rfl
 |d::l,r,h=>by
  cases d with
  |int i=>
   obtain⟨a,h1,h2⟩:=Ur.mp (show(Eu l).map (i:: ·)=some r from h)
   rw[←h2,Qg,←QF h1]
  |_=>cases h
theorem Gb:∀{l:List D}{r:OI},Da l=some r->l=r.map dR
 |[],r,h=>by cases h;rfl
 |d::l,r,h=>by
  cases d with
  |tup x=>
   obtain⟨a,h0,h'⟩:=Option.bind_eq_some_iff.mp (show(Eu x).bind (fun a=>(Da l).map (a:: ·))=some r from h)
   obtain⟨b,h1,h2⟩:=Ur.mp h';rw[←h2,Qg,←Gb h1,QF h0];rfl
  |_=>cases h
def Gd(o:Option (Rr×List W)):Option (OI):=match o with
 |some (.l ds,[_])=>Da ds
 |_=>none
theorem QG{o:Option (Rr×List W)}{L:OI}(h:Gd o=some L):∃w,o=some (.l (L.map dR),[w]):=by
 unfold Gd at h;split at h
 ·rename_i ds w
  exact⟨w,by rw[Gb h]⟩
 ·cases h
theorem QH{m:Mo Fl}{r:Rr}{w:W}(h:k6 N m [.dat d]=some (r,[w])):k6 N m [.dat d]=some (r,[.dat d]):=by
 have key:∀env:b0,W9 [.dat d] env=[w]->w=.dat d:=fun env e=>by
  cases env with
  |nil=>cases e
  |cons a as=>
   have e':[Dr (.dat d) a]=[w]:=by
    cases as<;>exact e
   injection e' with e1 _
   rw[←e1];rfl
 suffices hw:w=.dat d by rw[h,hw]
 unfold k6 at h;split at h<;>first|(cases h;done)|(injection h with h;injection h with _ h;exact key _ h)
def Bf(s:List Int):Bool:=Gd (DS [.dat (dR s)])==some (R s)
theorem cp1:(m5 1).all Bf=true:=by rfl'
theorem cp2:(m5 2).all Bf=true:=by rfl'
theorem cp3:(m5 3).all Bf=true:=by rfl'
theorem cp4:(m5 4).all Bf=true:=by rfl'
theorem cp5:(m5 5).all Bf=true:=by rfl'
theorem cp6:(m5 6).all Bf=true:=by rfl'
structure Bt(n:Nat)(s:List Int):Prop where
 lo:1≤n
 hi:n≤6
 mem:s∈m5 n
theorem Bt.all(b:Bt n s):X5 s=true/\Bf s=true:=by
 obtain⟨h1,h6,hm⟩:=b;have:n=1\/n=2\/n=3\/n=4\/n=5\/n=6:=by omega
 rcases this with rfl|rfl|rfl|rfl|rfl|rfl
 ·exact⟨Qx.mp zZ s hm,Qx.mp cp1 s hm⟩
 ·exact⟨Qx.mp z9 s hm,Qx.mp cp2 s hm⟩
 ·exact⟨Qx.mp ck3 s hm,Qx.mp cp3 s hm⟩
 ·exact⟨Qx.mp ck4 s hm,Qx.mp cp4 s hm⟩
 ·exact⟨Qx.mp ck5 s hm,Qx.mp cp5 s hm⟩
 ·exact⟨Qx.mp ck6 s hm,Qx.mp cp6 s hm⟩
theorem Bt.len(b:Bt n s):s.length=n:=(Ga b.mem).1
theorem Bt.bit(b:Bt n s):∀x∈s,x=0\/x=1:=(Ga b.mem).2
theorem Bt.row(b:Bt n s)(hr:r∈R s):r.length=s.length/\r.sum=1/\Bt n (E9 s r):=by
 have h:=b.all.1
 unfold X5 at h;simp only[Qw]at h;have h1:=Qx.mp h.1.1.1.1.1 r hr;rw[Qw,Qw,Zw,Zw]at h1;refine⟨h1.1.1,h1.1.2,b.lo,b.hi,GZ (by rw[Kn h1.1.1,b.len]) fun x hx=>?_⟩
 have:=Qx.mp h1.2 x hx
 simpa using this
theorem Bt.srt(b:Bt n s):srt (R s)=true:=by
 have h:=b.all.1
 unfold X5 at h;simp only[Qw]at h;exact h.1.1.1.1.2
theorem Bt.few(b:Bt n s):(R s).length≤50:=by
 have h:=b.all.1
 unfold X5 at h;simp only[Qw,Zw]at h;exact h.1.1.1.2
theorem Bt.done(b:Bt n s)(h0:s.contains 0=false):R s=[]/\Wy s=1:=by
 have h:=b.all.1
 unfold X5 at h;simp only[Qw,Zw]at h;refine⟨?_,?_⟩
 ·have:=h.1.1.2
  rw[h0,Vc]at this
  simpa using this
 ·have:=h.1.2
  rw[h0]at this
  simpa using this
theorem Bt.sum(b:Bt n s)(h0:s.contains 0=true):Wy s=((R s).map fun r=>Wy (E9 s r)).sum:=by
 have h:=b.all.1
 unfold X5 at h;simp only[Qw,Zw]at h;have:=h.1.2;rw[h0]at this
 simpa using this
theorem Bt.pos(b:Bt n s):1≤Wy s:=by
 have h:=b.all.1
 unfold X5 at h;simp only[Qw,Zw]at h;exact h.2
theorem Bt.zero(b:Bt n s)(hr:r∈R s):s.contains 0=true:=by
 cases h:s.contains 0 with
 |true=>rfl
 |false=>rw[(b.done h).1]at hr;cases hr
theorem Bt.none(b:Bt n s)(h:(n:Int)≤s.sum):s.contains 0=false:=by
 have key:∀l:List Int,(∀x∈l,x=0\/x=1)->l.sum≤l.length/\((l.length:Int)≤l.sum->l.contains 0=false):=by
  intro l
  induction l with
  |nil=>intro _;exact⟨by simp,fun _=>rfl⟩
  |cons x l ih=>
   intro hx;obtain⟨h1,h2⟩:=ih fun y hy=>hx y (Qr _ hy)
   simp only[Jw,Qo,Yt]
   rcases hx x (Zq ..)with rfl|rfl
   ·exact⟨by omega,fun h=>by omega⟩
   ·exact⟨by omega,fun h=>by rw[h2 (by omega)];rfl⟩
 exact(key s b.bit).2 (by rw[b.len];exact h)
theorem Bt.next(b:Bt n s)(hr:r∈R s):(E9 s r).sum=s.sum+1:=by
 obtain⟨h1,h2,_⟩:=b.row hr;rw[Ko h1,h2]
def uP:Int->List Int->List Int->Bool
 |_,[],[]=>true
 |q,a::s,x::t=>(x== -1||x==0||x==1)&&(a+x==0||a+x==1)&&(q+x==0||q+x==1)&&uP (q+x) s t
 |_,_,_=>false
theorem QI:∀(s t:List Int) {rows:OI}{r0:List Int},r0∈rows->uP r0.sum s t=true->r0++t∈s.foldl ext rows
 |[],[],rows,r0,h,_=>by simpa using h
 |[],_::_,_,_,_,h=>by simp[uP]at h
 |_::_,[],_,_,_,h=>by simp[uP]at h
 |a::s,x::t,rows,r0,h,e=>by
  simp only[uP,Qw]at e;obtain⟨⟨⟨e1,e2⟩,e3⟩,e4⟩:=e;have hm:r0++[x]∈ext rows a:=by
   unfold ext;refine List.mem_flatMap.mpr ⟨r0,h,Qa.mpr ⟨x,Jt.mpr ⟨?_,?_⟩,rfl⟩⟩
   ·have:x= -1\/x=0\/x=1:=by simpa [or_assoc]using e1
    rcases this with rfl|rfl|rfl<;>simp
   ·rw[Qw];exact⟨e2,e3⟩
  have:=QI s t (rows:=ext rows a) (r0:=r0++[x]) hm (by
   have:(r0++[x]).sum=r0.sum+x:=by rw[List.sum_append];simp
   rw[this];exact e4)
  rw[Vp]at this;exact this
theorem QJ:∀(s t:List Int) (q:Int),t.length=s.length->(∀x∈s,x=0\/x=1)->tt q t=true->(∀x∈E9 s t,x=0\/x=1)->uP q s t=true
 |[],[],_,_,_,_,_=>rfl
 |[],_::_,_,h,_,_,_=>by simp at h
 |_::_,[],_,h,_,_,_=>by simp at h
 |a::s,x::t,q,hl,hs,ht,ha=>by
  simp only[tt,Qw]at ht;have ih:=QJ s t (q+x) (by simpa using hl) (fun y hy=>hs y (Qr _ hy)) ht.2 fun y hy=>ha y (by
   show y∈List.zipWith _ (a::s) (x::t);rw[Us];exact Qr _ hy)
  have h1:=hs a (Zq ..)
  have h2:=ha (a+x) (by
   show a+x∈List.zipWith _ (a::s) (x::t);rw[Us];exact Zq ..)
  simp only[uP,Qw,Xv,Yi];refine⟨⟨⟨?_,?_⟩,?_⟩,ih⟩
  ·rcases h1 with rfl|rfl<;>omega
  ·exact h2
  ·simpa using ht.1
theorem kF(hl:r.length=s.length)(hs:∀x∈s,x=0\/x=1)(ht:tt 0 r=true)(ha:∀x∈E9 s r,x=0\/x=1):r∈R s:=by
 refine Jt.mpr ⟨?_,?_⟩
 ·have:=QI s r (rows:=[[]]) (r0:=[]) (by simp) (QJ s r 0 hl hs ht ha)
  simpa using this
 ·have:=Pu r 0 ht
  simp;omega
theorem Ge:∀a:List Int,HT.lexLt a a=false
 |[]=>rfl
 |x::a=>by rw[HT.oJ,Qh rfl,Ge a]
theorem QK:∀{a b:List Int},HT.lexLt a b=true->HT.lexLt b a=false
 |[],[],h=>by cases h
 |[],_::_,_=>rfl
 |_::_,[],h=>by cases h
 |x::a,y::b,h=>by
  rw[HT.oJ]at h ⊢
  by_cases e:x=y
  ·subst e
   rw[Qh rfl]at h ⊢;exact QK h
  ·rw[Qs e]at h
   rw[Qs (fun z=>e z.symm)]
   simp at h ⊢;omega
def sm(w:List Int->Int)(l:OI):Int:=(l.map w).sum
theorem Ag(w:List Int->Int)(a:List Int)(l:OI):sm w (a::l)=w a+sm w l:=by simp[sm]
theorem Gf{w:List Int->Int}{p q:List Int->Bool}:∀{l:OI},(∀x∈l,0≤w x)->(∀x∈l,p x=true->q x=true)->sm w (l.filter p)≤sm w (l.filter q)
 |[],_,_=>by simp
 |a::l,hw,h=>by
  have ih:=Gf (l:=l) (fun x hx=>hw x (Qr _ hx)) fun x hx=>h x (Qr _ hx)
  have h0:=hw a (Zq ..)
  have h1:=h a (Zq ..)
  cases hp:p a with
  |true=>rw[Zu hp,Zu (h1 hp),Ag,Ag];omega
  |false=>
   rw[Zf (by simp[hp])]
   cases hq:q a with
   |true=>rw[Zu hq,Ag];omega
   |false=>rw[Zf (by simp[hq])];exact ih
theorem QL{w:List Int->Int}{p q:List Int->Bool}{r:List Int}:∀{l:OI},(∀x∈l,0≤w x)->r∈l->p r=false->q r=true->(∀x∈l,p x=true->q x=true)->sm w (l.filter p)+w r≤sm w (l.filter q)
 |[],_,h,_,_,_=>nomatch h
 |a::l,hw,hr,hp,hq,h=>by
  have hw':∀x∈l,0≤w x:=fun x hx=>hw x (Qr _ hx)
  have h':∀x∈l,p x=true->q x=true:=fun x hx=>h x (Qr _ hx)
  by_cases e:r=a
  ·subst e
   have:=Gf hw' h';rw[Zf (by simp[hp]),Zu hq,Ag];omega
  ·have hr':r∈l:=(Ql.mp hr).elim (fun z=>absurd z e) id
   have ih:=QL hw' hr' hp hq h'
   have h0:=hw a (Zq ..)
   cases hpa:p a with
   |true=>rw[Zu hpa,Zu (h a (Zq ..) hpa),Ag,Ag];omega
   |false=>
    rw[Zf (by simp[hpa])]
    cases hqa:q a with
    |true=>rw[Zu hqa,Ag];omega
    |false=>rw[Zf (by simp[hqa])];exact ih
def pick(w:List Int->Int):OI->Int->Option (List Int×Int)
 |[],_=>none
 |r::l,k=>if k<w r then some (r,k)else pick w l (k-w r)
def nI(r:List Int):List Int->Bool:=fun o=>HT.lexLt o r
theorem QM{a:List Int}(h:∀b∈l,HT.lexLt a b=true):l.filter (nI a)=[]:=by
 rw[List.filter_eq_nil_iff];intro x hx;unfold nI;rw[QK (h x hx)]
 simp
theorem QN{a:List Int}(h:srt (a::l)=true):(∀b∈l,HT.lexLt a b=true)/\srt l=true:=by
 unfold srt at h;rw[Qw,Qx]at h;exact h
theorem QO{w:List Int->Int}{r:List Int}{m:Int}:∀{l:OI},srt l=true->(∀x∈l,0≤w x)->r∈l->0≤m->m<w r->pick w l (sm w (l.filter (nI r))+m)=some (r,m)
 |[],_,_,h,_,_=>nomatch h
 |a::l,hs,hw,hr,m0,m1=>by
  obtain⟨h1,h2⟩:=QN hs;unfold pick
  by_cases e:r=a
  ·subst e
   have:(r::l).filter (nI r)=[]:=by
    rw[Zf (by unfold nI;rw[Ge];simp),QM h1]
   rw[this];show(if 0+m<w r then some (r,0+m)else _)=_
   rw[Int.zero_add,Qh m1]
  ·have hr':r∈l:=(Ql.mp hr).elim (fun z=>absurd z e) id
   have hl:nI r a=true:=h1 r hr'
   have hw':∀x∈l,0≤w x:=fun x hx=>hw x (Qr _ hx)
   have hp:0≤sm w (l.filter (nI r)):=by
    have:=Gf (w:=w) (p:=fun _=>false) (q:=nI r) hw' (fun x _ h=>by cases h)
    have e0:l.filter (fun _=>false)=[]:=by simp
    rw[e0]at this
    simpa [sm]using this
   rw[Zu hl,Ag,Qs (by omega)]
   have:=QO h2 hw' hr' m0 m1;have e2:w a+sm w (l.filter (nI r))+m-w a=sm w (l.filter (nI r))+m:=by omega
   rw[e2];exact this
theorem Ku{w:List Int->Int}:∀{l:OI}{k:Int},srt l=true->0≤k->k<sm w l->∃r m,pick w l k=some (r,m)/\r∈l/\0≤m/\m<w r/\k=sm w (l.filter (nI r))+m
 |[],k,_,h0,h1=>by simp[sm]at h1;omega
 |a::l,k,hs,h0,h1=>by
  obtain⟨s1,s2⟩:=QN hs;unfold pick
  by_cases h:k<w a
  ·refine⟨a,k,Qh h,Zq ..,h0,h,?_⟩
   rw[Zf (by unfold nI;rw[Ge];simp),QM s1]
   simp[sm]
  ·rw[Ag]at h1
   obtain⟨r,m,e,hr,m0,m1,hk⟩:=Ku (w:=w) (l:=l) (k:=k-w a) s2 (by omega) (by omega)
   refine⟨r,m,by rw[Qs h];exact e,Qr _ hr,m0,m1,?_⟩
   rw[Zu (show nI r a=true from s1 r hr),Ag];omega
def tJ:List Int->OI->Prop
 |s,[]=>s.contains 0=false
 |s,r::T=>r∈R s/\tJ (E9 s r) T
def wt(s:List Int)(r:List Int):Int:=Wy (E9 s r)
def num:List Int->OI->Int
 |_,[]=>0
 |s,r::T=>sm (wt s) ((R s).filter (nI r))+num (E9 s r) T
def lay:Nat->List Int->Int->OI
 |0,_,_=>[]
 |k+1,s,m=>if s.contains 0 then match pick (wt s) (R s) m with
  |some (r,m')=>r::lay k (E9 s r) m'
  |none=>[]else[]
theorem Kv(b:Bt n s):∀r∈R s,0≤wt s r:=fun r hr=>by
 have:=(b.row hr).2.2.pos;unfold wt;omega
theorem Kw{n:Nat}:∀{T:OI}{s:List Int},Bt n s->tJ s T->0≤num s T/\num s T<Wy s
 |[],s,b,h=>by
  rw[(b.done h).2];exact⟨by simp[num],by simp[num]⟩
 |r::T,s,b,⟨hr,hp⟩=>by
  obtain⟨_,_,b'⟩:=b.row hr;obtain⟨i1,i2⟩:=Kw b' hp;have h1:=QL (w:=wt s) (p:=nI r) (q:=fun _=>true) (r:=r) (l:=R s) (Kv b) hr (Ge r) rfl fun _ _ _=>rfl
  have h2:=Gf (w:=wt s) (p:=fun _=>false) (q:=nI r) (Kv b) (fun x _ h=>by cases h)
  have e0:(R s).filter (fun _=>false)=[]:=by simp
  rw[e0]at h2;have e1:(R s).filter (fun _=>true)=R s:=by simp
  rw[e1]at h1;have hW:Wy s=sm (wt s) (R s):=b.sum (b.zero hr);have h3:0≤sm (wt s) ((R s).filter (nI r)):=by simpa [sm]using h2
  have h4:wt s r=Wy (E9 s r):=rfl
  show 0≤sm (wt s) ((R s).filter (nI r))+num (E9 s r) T/\_<_
  constructor
  ·omega
  ·show sm (wt s) ((R s).filter (nI r))+num (E9 s r) T<Wy s
   omega
theorem QP{n:Nat}:∀{k:Nat}{T:OI}{s:List Int},Bt n s->tJ s T->T.length≤k->lay k s (num s T)=T
 |0,[],_,_,_,_=>rfl
 |0,_::_,_,_,_,h=>by simp at h
 |k+1,[],s,b,h,_=>by
  unfold lay;rw[show s.contains 0=false from h];rfl
 |k+1,r::T,s,b,⟨hr,hp⟩,hl=>by
  obtain⟨_,_,b'⟩:=b.row hr;obtain⟨i1,i2⟩:=Kw b' hp;unfold lay;rw[b.zero hr];have:=QO (w:=wt s) (r:=r) (m:=num (E9 s r) T) b.srt (Kv b) hr i1 i2;show(match pick (wt s) (R s) (sm (wt s) ((R s).filter (nI r))+num (E9 s r) T)with|some (r,m')=>r::lay k (E9 s r) m'|none=>[])=_
  rw[this];show r::lay k (E9 s r) (num (E9 s r) T)=_;rw[QP b' hp (by simpa using hl)]
theorem QQ{n:Nat}:∀{k:Nat}{s:List Int}{m:Int},Bt n s->(n:Int)≤s.sum+k->0≤m->m<Wy s->tJ s (lay k s m)/\num s (lay k s m)=m/\((lay k s m).length:Int)+s.sum=n
 |0,s,m,b,h,m0,m1=>by
  have h0:=b.none (by omega)
  have hW:=(b.done h0).2
  have hs:s.sum≤n:=by
   have key:∀l:List Int,(∀x∈l,x=0\/x=1)->l.sum≤l.length:=by
    intro l
    induction l with
    |nil=>intro _;simp
    |cons x l ih=>
     intro hx;have:=ih fun y hy=>hx y (Qr _ hy)
     simp only[Jw,Qo]
     rcases hx x (Zq ..)with rfl|rfl<;>omega
   have:=key s b.bit;rw[b.len]at this;exact this
  refine⟨h0,?_,?_⟩
  ·show(0:Int)=m
   omega
  ·show((0:Nat):Int)+s.sum=n
   omega
 |k+1,s,m,b,h,m0,m1=>by
  unfold lay;cases h0:s.contains 0 with
  |false=>
   have hW:=(b.done h0).2
   have hs:(n:Int)=s.sum:=by
    have key:∀l:List Int,(∀x∈l,x=0\/x=1)->l.contains 0=false->l.sum=l.length:=by
     intro l
     induction l with
     |nil=>intro _ _;simp
     |cons x l ih=>
      intro hx hc;rw[Yt,Xu]at hc;have:=ih (fun y hy=>hx y (Qr _ hy)) hc.2
      simp only[Jw,Qo]
      rcases hx x (Zq ..)with rfl|rfl
      ·simp at hc
      ·omega
    have:=key s b.bit h0;rw[b.len]at this;exact this.symm
   refine⟨h0,?_,?_⟩
   ·show(0:Int)=m
    omega
   ·show((0:Nat):Int)+s.sum=n
    omega
  |true=>
   have hW:Wy s=sm (wt s) (R s):=b.sum h0
   obtain⟨r,m',e,hr,h1,h2,h3⟩:=Ku (w:=wt s) (l:=R s) (k:=m) b.srt m0 (by omega)
   obtain⟨_,_,b'⟩:=b.row hr;obtain⟨i1,i2,i3⟩:=QQ (k:=k) (s:=E9 s r) (m:=m') b' (by rw[b.next hr];omega) h1 h2
   have hs:=b.next hr
   simp only[Zn];rw[e];refine⟨⟨hr,i1⟩,?_,?_⟩
   ·show sm (wt s) ((R s).filter (nI r))+num (E9 s r) (lay k (E9 s r) m')=m
    rw[i2];omega
   ·rw[Qo];omega
theorem kG(b:Bt n s):DS [.dat (dR s)]=some (.l ((R s).map dR),[.dat (dR s)]):=by
 have h:=b.all.2
 unfold Bf at h;obtain⟨w,e⟩:=QG (Vq h);exact QH e
theorem QR(b:Bt n s)(hr:r∈R s):BH [.dat (dR s),.dat (dR r)]=some (.d (dR (E9 s r)),[.dat (dR s),.dat (dR r)]):=by
 have ez:(s.zip r).map (fun p=>D.int (p.1+p.2))=(E9 s r).map D.int:=by
  unfold E9;rw[Vi,List.zip_eq_zipWith,Vi]
 have hl:=b.len
 have h6:=b.hi
 have c:=Ir (mi:=Y2 (B0 (A0 0) (B0 (A0 1) B4))) (keep:=[false,false]) (m:=B5 D3 (A0 2) (A0 3)) (env:=[.dat (dR s),.dat (dR r)]) (base:=[.nil,.nil]) (l:=s.zip r) (q:=fun p=>D.int p.1) (q2:=fun p=>D.int p.2) (f:=fun p=>.int (p.1+p.2)) (k:=2) (by
   show some (Q9 (s.map D.int) (r.map D.int),_)=_;rw[Py]) (by rw[List.length_zip];omega) rfl rfl (fun p _=>rfl) (fun w w2=>rfl)
 rw[ez]at c;refine(J4 (d:=dR (E9 s r)) (env:=[.dat (dR s),.dat (dR r)]) ?_).trans rfl;show KS [.dat (dR s),.dat (dR r)]=_;unfold KS;exact N9 (K3 (C7 (G8 c) rfl) rfl)
structure u6(n:Nat)(ks:OI)(vs:List D):Prop where
 nd:ks.Nodup
 sub:∀k∈ks,k∈m5 n
 val:∀k,ks.contains k=true->n5 ks vs k=some (.int (Wy k))
theorem QS:∀{l m:OI},l.Nodup->(∀x∈l,x∈m)->l.length≤m.length
 |[],_,_,_=>by simp
 |a::l,m,hn,h=>by
  rw[Up]at hn;have ha:=h a (Zq ..);have:=QS (l:=l) (m:=m.erase a) hn.2 fun x hx=>(List.mem_erase_of_ne (fun e=>hn.1 (by rw[←e];exact hx))).mpr (h x (Qr _ hx))
  rw[List.length_erase_of_mem ha]at this;have:=List.length_pos_of_mem ha;simp only[Qo];omega
theorem u6.len(h6:n≤6)(h:u6 n ks vs):ks.length<100000:=by
 have:=QS h.nd h.sub;rw[QE]at this;have:2^n≤2^6:=Xw (by decide) h6
 omega
theorem u6.nil(n:Nat):u6 n [] []:=⟨List.nodup_nil,(fun k h=>nomatch h),fun k h=>by simp at h⟩
theorem QT:∀{ks:OI}{vs:List D}{k:List Int}{d:D},ks.length=vs.length->ks.contains k=false->n5 (ks++[k]) (vs++[d]) k=some d
 |[],[],k,d,_,_=>by simp[n5]
 |[],_::_,_,_,h,_=>by simp at h
 |_::_,[],_,_,h,_=>by simp at h
 |a::ks,v::vs,k,d,hl,h=>by
  rw[Yt,Xu]at h;show(if a=k then some v else n5 (ks++[k]) (vs++[d]) k)=_
  rw[Qs (fun z=>by rw[z]at h;simp at h),QT (by simpa using hl) h.2]
theorem Kx:∀{ks:OI}{vs:List D}{k k':List Int}{d x:D},n5 ks vs k'=some x->n5 (ks++[k]) (vs++[d]) k'=some x
 |[],_,_,_,_,_,h=>by simp[n5]at h
 |_::_,[],_,_,_,_,h=>by simp[n5]at h
 |a::ks,v::vs,k,k',d,x,h=>by
  show(if a=k' then some v else n5 (ks++[k]) (vs++[d]) k')=_
  have h':(if a=k' then some v else n5 ks vs k')=some x:=h
  by_cases e:a=k'
  ·rw[Qh e]at h' ⊢;exact h'
  ·rw[Qs e]at h' ⊢;exact Kx h'
def KL(n:Nat)(ks:OI)(vs:List D):Prop:=u6 n ks vs/\ks.length=vs.length
theorem KL.nil(n:Nat):KL n [] []:=⟨u6.nil n,rfl⟩
theorem KL.put(h:KL n ks vs)(hk:k∈m5 n)(hc:ks.contains k=false):KL n (O3 ks k) (P9 ks vs k (.int (Wy k))):=by
 obtain⟨h,hl⟩:=h;unfold O3 P9;rw[hc];simp only[Zx,Yu];have hn:k∉ks:=fun z=>by rw[Yb.mpr z]at hc;cases hc
 refine⟨⟨?_,fun x hx=>?_,fun x hx=>?_⟩,by simp[hl]⟩
 ·rw[List.nodup_append]
  exact⟨h.nd,by simp,fun a ha b hb=>by
   have:b=k:=by simpa using hb
   subst this;exact fun e=>hn (by rw[←e];exact ha)⟩
 ·rcases Yr.mp hx with hx|hx
  ·exact h.sub x hx
  ·have:x=k:=by simpa using hx
   subst this;exact hk
 ·by_cases e:x=k
  ·subst e;exact QT hl hc
  ·refine Kx (h.val x ?_)
   have:x∈ks++[k]:=Yb.mp hx
   rcases Yr.mp this with z|z
   ·exact Yb.mpr z
   ·exact absurd (by simpa using z) e
theorem Bg(s:List Int):W2 (dR s)=some s:=AL s
def u7(s:List Int):List D:=(R s).map fun r=>.tup [dR r,.int (wt s r)]
def xF(n:Nat)(f:Fn)(s:List Int):Prop:=∀ks vs,KL n ks vs->∃ks' vs',f [.dat (dR s),.parD ks vs]=some (.d (.int (Wy s)),[.dat (dR s),.parD ks' vs'])/\KL n ks' vs'
theorem Ky{f:Fn}(b:Bt n s)(hf:∀r∈R s,xF n f (E9 s r))(hk:KL n ks vs):
  ∃ks' vs',Q3 f [.dat (dR s),.parD ks vs]=some (.l (u7 s),[.dat (dR s),.parD ks' vs'])/\KL n ks' vs':=by
 obtain⟨e',h1,ks',vs',w',rfl,hk'⟩:=CW (g:=gN 2) (m:=D6 (B0 (A0 2) (B0 (c9 2 f (B7 (c9 2 BH (B7 (A0 0) (B7 (A0 2) B8))) (F7 1 B8))) B4))) (P:=fun e=>∃ks vs w,e=[.dat (dR s),.parD ks vs,w]/\KL n ks vs) (q:=dR) (f:=fun r=>.tup [dR r,.int (wt s r)]) (l:=R s) (env:=[.dat (dR s),.parD ks vs,.nil])
  (fun r hr e ⟨ks,vs,w,he,hk⟩=>by
   subst he;obtain⟨ks',vs',e1,hk'⟩:=hf r hr ks vs hk;refine⟨[.dat (dR s),.parD ks vs,.dat (dR r)],[.dat (dR s),.parD ks' vs',.dat (dR r)],rfl,?_,_,_,_,rfl,hk'⟩;refine Of (C7 (e1:=[.dat (dR s),.parD ks vs,.dat (dR r)]) rfl (C7 (d:=.int (wt s r)) (e1:=[.dat (dR s),.parD ks' vs',.dat (dR r)]) ?_ rfl)) (by simp)
   refine R9 ((Fc (i:=1) (w:=.parD ks vs) (c:=.d ks vs) (c':=.d ks' vs') (e1:=[.dat (dR s),.parD ks vs,.dat (dR r)]) (av:=[.d (dR (E9 s r)),.sl 1]) ?_ rfl rfl rfl rfl e1 rfl).trans rfl);refine T2 (e1:=[.dat (dR s),.parD ks vs,.dat (dR r)]) (R9 (V7 (av:=[.d (dR s),.d (dR r)]) rfl rfl rfl (QR b hr))) rfl) ⟨_,_,_,rfl,hk⟩
 refine⟨ks',vs',(Hs (d:=u7 s) (env:=[.dat (dR s),.parD ks' vs']) ?_).trans rfl,hk'⟩;show KU f [.dat (dR s),.parD ks vs]=_;unfold KU;refine NC (Aa (e1:=[.dat (dR s),.parD ks vs]) (ds:=(R s).map dR) (e2:=[.dat (dR s),.parD ks' vs',w']) ?_ ?_ h1 rfl)
 ·exact Q2 (G8 (BU (V7 (e1:=[.dat (dR s),.parD ks vs]) (av:=[.d (dR s)]) rfl rfl rfl (kG b)))) rfl
 ·have:=b.few
  rw[Qk];omega
theorem QU:∀{ks:OI}{vs:List D}{k:List Int}{d:D},k∉ks->qK ks vs k d=vs
 |[],_,_,_,_=>rfl
 |_::_,[],_,_,_=>rfl
 |a::ks,v::vs,k,d,h=>by
  show(if a=k then d::qK ks vs k d else v::qK ks vs k d)=_
  rw[Qs (fun z=>h (by rw[z];exact Zq ..)),QU fun z=>h (Qr _ z)]
theorem QV:∀{ks:OI}{vs:List D}{k:List Int}{d:D},ks.length=vs.length->n5 ks vs k=some d->ks.Nodup->qK ks vs k d=vs
 |[],_,_,_,_,h,_=>by simp[n5]at h
 |_::_,[],_,_,_,h,_=>by simp[n5]at h
 |a::ks,v::vs,k,d,hl,h,hn=>by
  rw[Up]at hn;show(if a=k then d::qK ks vs k d else v::qK ks vs k d)=_
  have h':(if a=k then some v else n5 ks vs k)=some d:=h
  by_cases e:a=k
  ·rw[Qh e]at h' ⊢
   cases h';rw[QU (by rw[←e];exact hn.1)]
  ·rw[Qs e]at h' ⊢
   rw[QV (by simpa using hl) h' hn.2]
theorem QW{f:Fn}{ks':OI}{vs':List D}(b:Bt n s)(hk':KL n ks' vs')
  (tst:(mT (B5 (r8 true) (mC (.int 0)) (A0 0))) [.dat (dR s),.parD ks vs]=some (false,[.dat (dR s),.parD ks vs]))
  (tin:(mT (DD true 1 (A0 0))) [.dat (dR s),.parD ks vs]=some (true,[.dat (dR s),.parD ks vs]))
  (cc:(D8 (D5 (mF (M1 2 (Q3 f) (B7 (A0 0) (F7 1 B8))))) [false,false] 2 (gT 2 (l0 (gN 2) (l0 (gN 3) oY))) F1 (A0 3)) [.dat (dR s),.parD ks vs]=some (ds,[.dat (dR s),.parD ks' vs']))
  (sm1:M7 [.lst ds]=some (.int (Wy s)))(hv:n5 (O3 ks' s) (P9 ks' vs' s (.int (Wy s))) s=some (.int (Wy s))):
  BI f [.dat (dR s),.parD ks vs]=some (.ret (.int (Wy s)),[.dat (dR s),.parD (O3 ks' s) (P9 ks' vs' s (.int (Wy s)))]):=by
 unfold BI;refine E8 (e1:=[.dat (dR s),.parD ks vs]) (X4 tst rfl) (E8 (e1:=[.dat (dR s),.parD (O3 ks' s) (P9 ks' vs' s (.int (Wy s)))]) (DM tin ?_) (N9 ?_))
 ·unfold N7
  rw[K3 (C7 (G8 cc) rfl) sm1];show(((W2 (dR s)).bind fun k=>if ks'.length<100000 then some ([W.dat (dR s),W.parD (O3 ks' k) (P9 ks' vs' k (.int (Wy s)))])else none).map fun e=>(Fl.nx,e))=_
  rw[Bg,Qj,Qh (hk'.1.len b.hi)];rfl
 ·show((W2 (dR s)).bind fun k=>(n5 _ _ k).map fun d=>(d,_))=_
  rw[Bg,Qj,hv];rfl
theorem kH:∀{k:Nat}{s:List Int},Bt n s->(n:Int)≤s.sum+k->xF n (M3 (k+1)) s:=by
 intro k
 induction k with
 |zero=>
  intro s b h ks vs hk;have h0:=b.none (by simpa using h)
  refine⟨ks,vs,(J4 (d:=.int (Wy s)) (env:=[.dat (dR s),.parD ks vs]) ?_).trans rfl,hk⟩;show BI (M3 0) [.dat (dR s),.parD ks vs]=_;unfold BI;rw[(b.done h0).2];refine X0 (DM (e1:=[.dat (dR s),.parD ks vs]) (N4 (D0 (a:=.int 0) (b:=dR s) rfl rfl ?_)) rfl);show(i4 (s.map D.int)).map _=_;rw[AL];show some (D.bl (!s.contains 0))=_;rw[h0];rfl
 |succ k ih=>
  intro s b h ks vs hk;have tst:(mT (B5 (r8 true) (mC (.int 0)) (A0 0))) [.dat (dR s),.parD ks vs]=some (!s.contains 0,[.dat (dR s),.parD ks vs]):=by
   refine N4 (D0 (a:=.int 0) (b:=dR s) rfl rfl ?_);show(i4 (s.map D.int)).map _=_;rw[AL];rfl
  cases h0:s.contains 0 with
  |false=>
   refine⟨ks,vs,(J4 (d:=.int (Wy s)) (env:=[.dat (dR s),.parD ks vs]) ?_).trans rfl,hk⟩;show BI (M3 (k+1)) [.dat (dR s),.parD ks vs]=_;unfold BI;rw[(b.done h0).2];rw[h0]at tst;exact X0 (DM (e1:=[.dat (dR s),.parD ks vs]) tst rfl)
  |true=>
   rw[h0]at tst;have tin:(mT (DD true 1 (A0 0))) [.dat (dR s),.parD ks vs]=some (!ks.contains s,[.dat (dR s),.parD ks vs]):=by
    refine N4 ?_
    show((W2 (dR s)).map _)=_;rw[Bg];rfl
   cases hc:ks.contains s with
   |true=>
    rw[hc]at tin;refine⟨ks,vs,(J4 (d:=.int (Wy s)) (env:=[.dat (dR s),.parD ks vs]) ?_).trans rfl,hk⟩;show BI (M3 (k+1)) [.dat (dR s),.parD ks vs]=_;unfold BI;refine E8 (X4 (e1:=[.dat (dR s),.parD ks vs]) tst rfl) (E8 (X4 (e1:=[.dat (dR s),.parD ks vs]) tin rfl) (N9 ?_));show((W2 (dR s)).bind fun k=>(n5 ks vs k).map fun d=>(d,_))=_
    rw[Bg,Qj,hk.1.val s hc];rfl
   |false=>
    rw[hc]at tin;obtain⟨ks',vs',e1,hk'⟩:=Ky (f:=M3 (k+1)) b (fun r hr=>ih (b.row hr).2.2 (by rw[b.next hr];omega)) hk
    have cc:(D8 (D5 (mF (M1 2 (Q3 (M3 (k+1))) (B7 (A0 0) (F7 1 B8))))) [false,false] 2 (gT 2 (l0 (gN 2) (l0 (gN 3) oY))) F1 (A0 3)) [.dat (dR s),.parD ks vs]=some ((R s).map fun r=>.int (wt s r),[.dat (dR s),.parD ks' vs']):=by
     obtain⟨w1,w2,q1⟩:=GI (t:=F1) (m:=A0 3) (base:=[.nil,.nil]) (q:=dR) (q2:=fun r=>D.int (wt s r)) (f:=fun r=>D.int (wt s r)) (p:=fun _=>true) (k:=2) rfl (l:=R s) (fun a _=>⟨rfl,fun _=>rfl⟩) .nil .nil
     rw[Xb.mpr (fun _ _=>rfl)]at q1
     refine Aa (e1:=[.dat (dR s),.parD ks' vs']) (ds:=u7 s) ?_ ?_ q1 rfl
     ·exact Q2 (G8 (BU ((Fc (i:=1) (w:=.parD ks vs) (c:=.d ks vs) (c':=.d ks' vs') (e1:=[.dat (dR s),.parD ks vs]) (av:=[.d (dR s),.sl 1]) rfl rfl rfl rfl rfl e1 rfl).trans rfl))) rfl
     ·have:=b.few
      unfold u7;rw[Qk];omega
    have sm1:M7 [.lst ((R s).map fun r=>D.int (wt s r))]=some (.int (Wy s)):=by
     have e:((R s).map fun r=>D.int (wt s r))=((R s).map (wt s)).map D.int:=by rw[Zz];rfl
     rw[e,GJ,b.sum h0];rfl
    have hb:=b.mem
    by_cases hc2:ks'.contains s=true
    ·have hp:KL n (O3 ks' s) (P9 ks' vs' s (.int (Wy s)))/\n5 (O3 ks' s) (P9 ks' vs' s (.int (Wy s))) s=some (.int (Wy s)):=by
      have:qK ks' vs' s (.int (Wy s))=vs':=QV hk'.2 (hk'.1.val s hc2) hk'.1.nd;unfold O3 P9;rw[hc2];simp only[Zn];rw[this];exact⟨hk',hk'.1.val s hc2⟩
     refine⟨_,_,(J4 (d:=.int (Wy s)) (env:=[.dat (dR s),.parD (O3 ks' s) (P9 ks' vs' s (.int (Wy s)))]) ?_).trans rfl,hp.1⟩;exact QW b hk' tst tin cc sm1 hp.2
    ·have hc3:ks'.contains s=false:=by simpa using hc2
     have hp:=hk'.put hb hc3
     refine⟨_,_,(J4 (d:=.int (Wy s)) (env:=[.dat (dR s),.parD (O3 ks' s) (P9 ks' vs' s (.int (Wy s)))]) ?_).trans rfl,hp⟩;refine QW b hk' tst tin cc sm1 (hp.1.val s ?_);unfold O3;rw[hc3]
     simp
theorem QX{t:Mo Bool}{b:Mo Fl}{e1 e2:b0}(h:t e=some (true,e1))(hb:b e1=some (.nx,e2)):r9 t b (n+1) e=r9 t b n e2:=by
 conv=>lhs;unfold r9
 rw[h,Qj];show(if true=true then _ else _)=_
 rw[Qh rfl,hb];rfl
theorem Kz{t:Mo Bool}{b:Mo Fl}{e1:b0}(h:t e=some (false,e1)):r9 t b (n+1) e=some (.nx,e1):=by
 unfold r9;rw[h,Qj];rfl
def cD(w:List Int->Int)(r:List Int):D:=.tup [dR r,.int (w r)]
theorem QY(h:l[i]? =some r):i8 (.lst (l.map (cD w))) (.int (i:Int))=some (cD w r):=
 Z3 (by rw[Zv,h];rfl)
theorem QZ{w:List Int->Int}:∀{l2 l1:OI}{m m':Int}{r:List Int}{k:Nat},pick w l2 m=some (r,m')->l2.length≤k->
  ∃j:Nat,(l1++l2)[j]? =some r/\r9 ((mT (B5 uU (A0 1) (B5 i8 (B5 i8 (A0 0) (A0 2)) (mC (.int 1)))))) ((C3 (O5 1 T4 (B5 i8 (B5 i8 (A0 0) (A0 2)) (mC (.int 1)))) (O5 2 AR (mC (.int 1))))) k [.dat (.lst ((l1++l2).map (cD w))),.dat (.int m),.dat (.int (l1.length:Int))]=some (.nx,[.dat (.lst ((l1++l2).map (cD w))),.dat (.int m'),.dat (.int (j:Int))])
 |[],l1,m,m',r,k,h,_=>by cases h
 |a::l2,l1,m,m',r,0,h,hk=>by simp at hk
 |a::l2,l1,m,m',r,k+1,h,hk=>by
  have hi:(l1++a::l2)[l1.length]? =some a:=by simp
  have rd:(B5 i8 (B5 i8 (A0 0) (A0 2)) (mC (.int 1))) [.dat (.lst ((l1++a::l2).map (cD w))),.dat (.int m),.dat (.int (l1.length:Int))]=some (.int (w a),[.dat (.lst ((l1++a::l2).map (cD w))),.dat (.int m),.dat (.int (l1.length:Int))]):=
   D0 (e1:=[.dat (.lst ((l1++a::l2).map (cD w))),.dat (.int m),.dat (.int (l1.length:Int))]) (D0 (a:=.lst ((l1++a::l2).map (cD w))) (b:=.int (l1.length:Int)) (c:=cD w a) rfl rfl (QY hi)) rfl rfl
  have ts:((mT (B5 uU (A0 1) (B5 i8 (B5 i8 (A0 0) (A0 2)) (mC (.int 1)))))) [.dat (.lst ((l1++a::l2).map (cD w))),.dat (.int m),.dat (.int (l1.length:Int))]=some (decide (w a≤m),[.dat (.lst ((l1++a::l2).map (cD w))),.dat (.int m),.dat (.int (l1.length:Int))]):=
   N4 (D0 (a:=.int m) (b:=.int (w a)) rfl rd rfl)
  unfold pick at h
  by_cases hm:m<w a
  ·rw[Qh hm]at h
   cases h;refine⟨l1.length,hi,Kz ?_⟩;rw[ts,Zj (by omega)]
  ·rw[Qs hm]at h
   obtain⟨j,h1,h2⟩:=QZ (l2:=l2) (l1:=l1++[a]) (k:=k) h (by simpa using hk)
   have e:l1++[a]++l2=l1++a::l2:=by simp
   rw[e]at h1 h2;refine⟨j,h1,?_⟩;refine(QX (e1:=[.dat (.lst ((l1++a::l2).map (cD w))),.dat (.int m),.dat (.int (l1.length:Int))]) (e2:=[.dat (.lst ((l1++a::l2).map (cD w))),.dat (.int (m-w a)),.dat (.int ((l1++[a]).length:Int))]) ?_ ?_).trans h2
   ·rw[ts,Yc (by omega)]
   ·refine E8 (e1:=[.dat (.lst ((l1++a::l2).map (cD w))),.dat (.int (m-w a)),.dat (.int (l1.length:Int))]) ?_ ?_
    ·show(((B5 i8 (B5 i8 (A0 0) (A0 2)) (mC (.int 1))) [.dat (.lst ((l1++a::l2).map (cD w))),.dat (.int m),.dat (.int (l1.length:Int))]).bind _)=_
     rw[rd];rfl
    ·have:(((l1++[a]).length:Nat):Int)=(l1.length:Int)+1:=by simp
     rw[this];rfl
theorem kI{m m':Int}(h:pick w l m=some (r,m'))(hl:l.length≤50):∃ws,Ed [.dat (.lst (l.map (cD w))),.dat (.int m)]=some (.d (.tup [dR r,.int m']),ws):=by
 obtain⟨j,h1,h2⟩:=QZ (w:=w) (l2:=l) (l1:=[]) (k:=60) h (by omega)
 refine⟨_,J4 (d:=.tup [dR r,.int m']) (env:=[.dat (.lst (l.map (cD w))),.dat (.int m'),.dat (.int (j:Int))]) ?_⟩;show KW [.dat (.lst (l.map (cD w))),.dat (.int m),.nil]=_;unfold KW;refine E8 (e1:=[.dat (.lst (l.map (cD w))),.dat (.int m),.dat (.int 0)]) rfl (E8 h2 (N9 (Of (C7 (e1:=[.dat (.lst (l.map (cD w))),.dat (.int m'),.dat (.int (j:Int))]) ?_ (C7 rfl rfl)) (by simp))))
 exact D0 (D0 (a:=.lst (l.map (cD w))) (b:=.int (j:Int)) (c:=cD w r) rfl rfl (QY h1)) rfl rfl
theorem xG(h:A0 4 env=some (dR s,env)):(mT (B5 (r8 false) (mC (.int 0)) (A0 4))) env=some (s.contains 0,env):=by
 refine N4 (D0 (a:=.int 0) (b:=dR s) rfl h ?_);show(i4 (s.map D.int)).map _=_;rw[AL];rfl
theorem RA(b:Bt n s)(hr:r∈R s):xF n (M3 8) (E9 s r):=by
 have hb:=(b.row hr).2.2
 refine kH (k:=7) hb ?_
 have h6:=b.hi
 have key:∀l:List Int,(∀x∈l,x=0\/x=1)->0≤l.sum:=by
  intro l
  induction l with
  |nil=>intro _;simp
  |cons x l ih=>
   intro hx;have:=ih fun y hy=>hx y (Qr _ hy)
   simp only[Jw]
   rcases hx x (Zq ..)with rfl|rfl<;>omega
 have:=key _ hb.bit
 omega
theorem kJ:∀{k F:Nat}{s:List Int}{m:Int}{ks:OI}{vs:List D}{rows:OI}{w5:W},k<F->Bt n s->(n:Int)≤s.sum+k->0≤m->m<Wy s->KL n ks vs->rows.length+k≤1000->
  ∃m' ks' vs' s' x5,r9 ((mT (B5 (r8 false) (mC (.int 0)) (A0 4)))) ((C3 (N7 (c9 2 Ed (B7 (mF (M1 2 (Q3 (M3 8)) (B7 (A0 4) (F7 2 B8)))) (B7 (A0 1) B8))) (gT 2 (l0 (gN 5) (l0 (gN 1) oY)))) (C3 (AU 3 (A0 5)) (C9 4 (c9 2 BH (B7 (A0 4) (B7 (A0 5) B8))))))) F [w0,.dat (.int m),.parD ks vs,.own (rows.map dR),.dat (dR s),w5]=some (.nx,[w0,.dat (.int m'),.parD ks' vs',.own ((rows++lay k s m).map dR),.dat (dR s'),x5])/\KL n ks' vs':=by
 intro k
 induction k with
 |zero=>
  intro F s m ks vs rows w5 hF b h m0 m1 hk hr;obtain⟨F,rfl⟩:∃F',F=F'+1:=⟨F-1,by omega⟩
  have h0:=b.none (by simpa using h)
  refine⟨m,ks,vs,s,w5,Kz (e1:=[w0,.dat (.int m),.parD ks vs,.own ((rows++lay 0 s m).map dR),.dat (dR s),w5]) ?_,hk⟩;have:rows++lay 0 s m=rows:=by show rows++[]=rows;simp
  rw[this,xG (s:=s) rfl,h0]
 |succ k ih=>
  intro F s m ks vs rows w5 hF b h m0 m1 hk hr;obtain⟨F,rfl⟩:∃F',F=F'+1:=⟨F-1,by omega⟩
  unfold lay;cases h0:s.contains 0 with
  |false=>
   refine⟨m,ks,vs,s,w5,Kz (e1:=[w0,.dat (.int m),.parD ks vs,.own ((rows++[]).map dR),.dat (dR s),w5]) ?_,hk⟩;rw[Ys,xG (s:=s) rfl,h0]
  |true=>
   have hW:Wy s=sm (wt s) (R s):=b.sum h0
   obtain⟨r,m',e,hr',h1,h2,h3⟩:=Ku (w:=wt s) (l:=R s) (k:=m) b.srt m0 (by omega)
   obtain⟨_,_,b'⟩:=b.row hr';obtain⟨ks1,vs1,e1,hk1⟩:=Ky (f:=M3 8) b (fun r hr=>RA b hr) hk
   obtain⟨wc,e2⟩:=kI e b.few;obtain⟨mz,ks2,vs2,s2,x5,i1,i2⟩:=ih (F:=F) (s:=E9 s r) (m:=m') (ks:=ks1) (vs:=vs1) (rows:=rows++[r]) (w5:=.dat (dR r)) (by omega) b' (by rw[b.next hr'];omega) h1 h2 hk1 (by simp;omega)
   simp only[Zn];rw[e];have el:rows++[r]++lay k (E9 s r) m'=rows++r::lay k (E9 s r) m':=by simp
   rw[el]at i1;refine⟨mz,ks2,vs2,s2,x5,(QX (e1:=[w0,.dat (.int m),.parD ks vs,.own (rows.map dR),.dat (dR s),w5]) (e2:=[w0,.dat (.int m'),.parD ks1 vs1,.own ((rows++[r]).map dR),.dat (dR (E9 s r)),.dat (dR r)]) ?_ ?_).trans i1,i2⟩
   ·rw[xG (s:=s) rfl,h0]
   ·have q1:(mF (M1 2 (Q3 (M3 8)) (B7 (A0 4) (F7 2 B8)))) [w0,.dat (.int m),.parD ks vs,.own (rows.map dR),.dat (dR s),w5]=some (.lst ((R s).map (cD (wt s))),[w0,.dat (.int m),.parD ks1 vs1,.own (rows.map dR),.dat (dR s),w5]):=
     G8 (BU ((Fc (i:=2) (w:=.parD ks vs) (c:=.d ks vs) (c':=.d ks1 vs1) (e1:=[w0,.dat (.int m),.parD ks vs,.own (rows.map dR),.dat (dR s),w5]) (av:=[.d (dR s),.sl 2]) rfl rfl rfl rfl rfl e1 rfl).trans rfl))
    refine E8 (e1:=[w0,.dat (.int m'),.parD ks1 vs1,.own (rows.map dR),.dat (dR s),.dat (dR r)]) ?_ (E8 (e1:=[w0,.dat (.int m'),.parD ks1 vs1,.own ((rows++[r]).map dR),.dat (dR s),.dat (dR r)]) ?_ ?_)
    ·refine dE (a:=dR r) (b:=.int m') (e1:=[w0,.dat (.int m),.parD ks1 vs1,.own (rows.map dR),.dat (dR s),w5]) ?_ rfl
     refine R9 (V7 (e1:=[w0,.dat (.int m),.parD ks1 vs1,.own (rows.map dR),.dat (dR s),w5]) (av:=[.d (.lst ((R s).map (cD (wt s)))),.d (.int m)]) ?_ rfl rfl e2);exact T2 q1 rfl
    ·show(if(rows.map dR).length<100000 then some (Fl.nx,[w0,.dat (.int m'),.parD ks1 vs1,.own (rows.map dR++[dR r]),.dat (dR s),.dat (dR r)])else none)=_
     rw[Qh (by rw[Qk];omega),Zl];rfl
    ·exact V5 (e1:=[w0,.dat (.int m'),.parD ks1 vs1,.own ((rows++[r]).map dR),.dat (dR s),.dat (dR r)]) (R9 (V7 (av:=[.d (dR s),.d (dR r)]) rfl rfl rfl (QR b hr')))
abbrev zs(n:Nat):List Int:=List.replicate n 0
theorem uQ(h1:1≤n)(h6:n≤6):Bt n (zs n):=⟨h1,h6,GZ (by simp) fun x hx=>.inl (List.eq_of_mem_replicate hx)⟩
theorem LA(n:Nat):(zs n).sum=0:=by
 induction n with
 |zero=>rfl
 |succ n ih=>unfold zs at *;rw[Yj,Jw,ih];rfl
theorem kK{m:Int}(h1:1≤n)(h6:n≤6)(m0:0≤m)(m1:m<Wy (zs n))(hk:KL n ks vs):
  ∃ks' vs',DT [.dat (.int (n:Int)),.dat (.int m),.parD ks vs]=some (.d (dT (lay n (zs n) m)),[.dat (.int (n:Int)),.dat (.int m),.parD ks' vs'])/\KL n ks' vs':=by
 obtain⟨m',ks',vs',s',x5,e,hk'⟩:=kJ (w0:=.dat (.int (n:Int))) (k:=n) (F:=60) (rows:=[]) (w5:=.nil) (by omega) (uQ h1 h6) (by rw[LA];omega) m0 m1 hk (by simp;omega)
 refine⟨ks',vs',(J4 (d:=dT (lay n (zs n) m)) (env:=[.dat (.int (n:Int)),.dat (.int m'),.parD ks' vs',.dat (.lst ((lay n (zs n) m).map dR)),.dat (dR s'),x5]) ?_).trans rfl,hk'⟩;show KY [.dat (.int (n:Int)),.dat (.int m),.parD ks vs,.nil,.nil,.nil]=_;unfold KY;refine E8 (e1:=[.dat (.int (n:Int)),.dat (.int m),.parD ks vs,.own [],.nil,.nil]) rfl (E8 (e1:=[.dat (.int (n:Int)),.dat (.int m),.parD ks vs,.own [],.dat (dR (zs n)),.nil]) ?_ (E8 (e1:=[.dat (.int (n:Int)),.dat (.int m'),.parD ks' vs',.own ((lay n (zs n) m).map dR),.dat (dR s'),x5]) e ?_))
 ·refine V5 (e1:=[.dat (.int (n:Int)),.dat (.int m),.parD ks vs,.own [],.nil,.nil]) (D0 rfl rfl ?_)
  show(if 1≤(n:Int)/\(n:Int)≤1000 then some (D.tup (List.replicate (n:Int).toNat (.int 0)))else none)=_
  rw[Qh (by omega),Jz]
  unfold dR;rw[List.map_replicate]
 ·exact N9 (K3 (ds:=[.lst ((lay n (zs n) m).map dR)]) (C7 (e1:=[.dat (.int (n:Int)),.dat (.int m'),.parD ks' vs',.dat (.lst ((lay n (zs n) m).map dR)),.dat (dR s'),x5]) rfl rfl) rfl)
def CT:List Int:=[0,1,2,7,42,429,7436,218348,10850216,911835460,129534272700,31095744852375,12611311859677500,8639383518297652500,9995541355448167482000,19529076234661277104897200,64427185703425689356896743840,358869201916137601447486156417296,3374860639258750562269514491522925456,53580350833984348888878646149709092313244,1436038934715538200913155682637051204376827212,64971294999808427895847904380524143538858551437757,4962007838317808727469503296608693231827094217799731304,639678600348796935600782403668485485893162060205454197694128,139195130590028911121955178430809752278606772281224640157476731328,51125173829571287017224567391919410147905063533336189533617647958933056,31694643543104607480921162707742501609362696928834959986395357757923798445184,33164234712270688420209659351824591989314183382023137257004449888065452053534780352,58570729347335323136023302737708945425317502220277071272415602221462430624119608343237888,174587047432302670618553571492623519395234302099274953709218895672410142725570487269650224035072,878332450140829638256484522632471257632660252323533130626178143135124108228994737708014781199407297536,7457901645375312545846943364460201024500933619811719342594448739658061730204945465190362255297438758806424576,106876183004756345933570420828879852887529017236888227871760355325189568195517154820121130386082846697528094385580032,2584924811318585705108811000877026169148238078203127674146235688840723327580567676824350502889195295300743531850748640388096,105514968848369268246973724672387943867636222367428622522985934275582783567424112810493457065360641332955055745357259203710182364160,7269025684908494972966607377858301476140740706020503261590347784559624280487182910389632836812694072354964404092791444254084395055586707200,845145260448529411554359434697495931449738707640711257439325496122762790256984169864283339380447721270308932303526439461906605795491600686363168000,165835249056605492416355557963377430048594089206805267989348056853584108124875076102203612627802970127613334419432183569347413052441844538867102052696840000,54917427087918674833620357513550306824956863230838706714665928045252082223213227678476898770119404852333495740951741438980024978096980449116662902527610721323280000,30692274628140156272643739291994436534436318668755431714151742175626467541711328060170119488777383578520434893985019199711974799164636299647067459873380483701787779424056000,28948856429239857530293613047238124124975256729044914412911273571417655213538110563183907920433907663685851898406998368604933339609487176747272070136422559854219386121020181952222400]
theorem RB{C:Int->Int->Bool}{g:Int->Int->D}(h:C a b=true):fI C g (.int a) (.int b)=some (g a b):=by
 show(if C a b then some (g a b)else none)=_
 rw[h];rfl
theorem LB(h:DE a b=true):BY (.int a) (.int b)=some (.int (a * b)):=RB h
theorem kL(h:Fz a b=true):Ia (.int a) (.int b)=some (.int (a/b)):=RB h
theorem kM{g:OZ}{b:Mo Fl}{e1 e2:b0}{r:Option (Fl×b0)}(h1:g d e=some e1)(h2:b e1=some (.nx,e2))(h3:loop g b ds e2=r):loop g b (d::ds) e=r:=by
 unfold loop;rw[h1,Qj,h2];exact h3
theorem Gg{f:D->D->Option D}{m:Mo D}{e1 e2:b0}{d0 d':D}(h0:e[i]? =some (.dat d0))(h1:m e=some (d,e1))(h2:f d0 d=some d')(h3:e1.set i (.dat d')=e2):O5 i f m e=some (.nx,e2):=by
 unfold O5;rw[h0];simp only;rw[h1,Qj,h2,←h3];rfl
theorem kN{x:Int}(h1:ma env=some (.int a,env))(h2:mb env=some (.int x,env))(h3:mc env=some (.int b,env))(ha:a≤x)(hb:x≤b):R7 oQ oQ ma mb mc env=some (.bl true,env):=by
 unfold R7;rw[h1,Qj,h2,Qj];have e1:oQ (.int a) (.int x)=some (.bl true):=by show some (D.bl (decide _))=_;simp[ha]
 have e2:oQ (.int x) (.int b)=some (.bl true):=by show some (D.bl (decide _))=_;simp[hb]
 simp only;rw[e1];simp only;rw[h3,Qj,e2];rfl
theorem RC{x:Int}{nm:D}(ha:a≤x)(hb:x≤b):BF [.dat (.int x),.dat (.int a),.dat (.int b),.dat nm]=some (.d .non,[.dat (.int x),.dat (.int a),.dat (.int b),.dat nm]):=by
 have h1:DP [.dat (.int x),.dat (.int a),.dat (.int b)]=some (.d (.bl true),[.dat (.int x),.dat (.int a),.dat (.int b)]):=by
  refine(J4 (d:=.bl true) (env:=[.dat (.int x),.dat (.int a),.dat (.int b)]) ?_).trans rfl;show KH [.dat (.int x),.dat (.int a),.dat (.int b)]=_;unfold KH;refine N9 (Iw (e1:=[.dat (.int x),.dat (.int a),.dat (.int b)]) ?_ (kN rfl rfl rfl ha hb));exact K4 (av:=[.d (.int x)]) rfl rfl rfl (PY (.int x))
 have h2:Ec [.dat (.int x),.dat (.int a),.dat (.int b),.dat nm]=some (.nx,[.dat (.int x),.dat (.int a),.dat (.int b),.dat nm]):=by
  unfold Ec;exact X4 (e1:=[.dat (.int x),.dat (.int a),.dat (.int b),.dat nm]) (Av (b:=true) (N4 (K4 (av:=[.d (.int x),.d (.int a),.d (.int b)]) rfl rfl rfl h1))) rfl
 show k6 4 Ec _=_;unfold k6;show(match Ec [.dat (.int x),.dat (.int a),.dat (.int b),.dat nm]with|some (.ret d,env)=>_|some (.retL ds,env)=>_|some (.nx,env)=>_|_=>none)=_
 rw[h2];rfl
theorem kO{a:Nat}(h:a<n):up a n=a::up (a+1) n:=by
 unfold up;have:n-a=(n-(a+1))+1:=by omega
 rw[this,Vn,Qg,Zz,Nat.add_zero]
 congr 1
 refine Zc fun x _=>?_
 show a+(x+1)=a+1+x
 omega
theorem RD{g:OZ}{b:Mo Fl}{n:Nat}{P:Nat->b0->Prop}:∀(k a:Nat),k=n-a->a≤n->(∀i,a≤i->i<n->∀e,P i e->∃e1 e2,g (qN i) e=some e1/\b e1=some (.nx,e2)/\P (i+1) e2)->∀{env:b0},P a env->∃env',loop g b ((up a n).map qN) env=some (.nx,env')/\P n env'
 |0,a,hk,ha,h,env,p=>by
  have:a=n:=by omega
  subst this;have:up a a=[]:=by unfold up;simp
  rw[this];exact⟨env,rfl,p⟩
 |k+1,a,hk,ha,h,env,p=>by
  have hl:a<n:=by omega
  obtain⟨e1,e2,h1,h2,h3⟩:=h a (Qm _) hl env p;obtain⟨e',h4,h5⟩:=RD k (a+1) (by omega) (by omega) (fun i hi=>h i (by omega)) h3
  refine⟨e',?_,h5⟩;rw[kO hl,Qg];exact kM h1 h2 h4
def fc(n:Nat):Int:=Nat.rec 1 (fun k a=>a * ((k:Int)+1)) n
theorem LC{g:Nat->Int}(h0:∀k,1≤g k):∀{i n:Nat},i≤n->1≤(Nat.rec 1 (fun k a=>a * g k) i:Int)/\(Nat.rec 1 (fun k a=>a * g k) i:Int)≤Nat.rec 1 (fun k a=>a * g k) n:=by
 have pos:∀i:Nat,1≤(Nat.rec 1 (fun k a=>a * g k) i:Int):=by
  intro i
  induction i with
  |zero=>exact Int.le_refl 1
  |succ i ih=>
   show(1:Int)≤(Nat.rec 1 (fun k a=>a * g k) i:Int) * g i
   have:=Int.mul_le_mul ih (h0 i) (by decide) (by omega)
   omega
 intro i n
 induction n with
 |zero=>
  intro h;have:i=0:=by omega
  subst this;exact⟨pos 0,Int.le_refl _⟩
 |succ n ih=>
  intro h
  by_cases e:i=n+1
  ·subst e;exact⟨pos (n+1),Int.le_refl _⟩
  ·refine⟨pos i,Int.le_trans (ih (by omega)).2 ?_⟩
   show(Nat.rec 1 (fun k a=>a * g k) n:Int)≤(Nat.rec 1 (fun k a=>a * g k) n:Int) * g n
   have:=Int.mul_le_mul_of_nonneg_left (h0 n) (show(0:Int)≤Nat.rec 1 (fun k a=>a * g k) n by have:=pos n;omega)
   omega
theorem Gh(h1:1≤a)(h2:a≤b)(h:Builtin.Int.intBits b≤N):Builtin.Int.intBits a≤N:=by
 unfold Builtin.Int.intBits at h ⊢;have ha:(a==0)=false:=by simp;omega
 have hb:(b==0)=false:=by simp;omega
 rw[ha];rw[hb]at h;simp only[Zx,Yu]at h ⊢;have h3:a.natAbs≤b.natAbs:=by omega
 have:a.natAbs.log2≤b.natAbs.log2:=(Nat.le_log2 (by omega)).mpr (Zr (Nat.log2_self_le (by omega)) h3)
 omega
theorem Gi(h:i≤n):1≤fc i/\fc i≤fc n:=LC (g:=fun k=>(k:Int)+1) (fun k=>by omega) h
theorem kP:Builtin.Int.intBits (fc 121)≤60000:=by rfl'
theorem LD(h:n≤121):Builtin.Int.intBits (fc n)≤60000:=Gh (Gi h).1 (Gi h).2 kP
theorem LF(h1:Builtin.Int.intBits a≤60000)(h2:Builtin.Int.intBits b≤60000):DE a b=true:=by unfold DE;rw[Yc h1,Yc h2];rfl
theorem RE(hz:z=(n:Int))(h1:1≤n)(hn:n≤120):∃ws,BG [.dat (.int z)]=some (.d (.int (fc n)),ws):=by
 subst hz;obtain⟨e',e,x2,he⟩:=RD (g:=gN 2) (b:=O5 1 BY (A0 2)) (n:=n+1) (P:=fun i e=>∃w2,e=[.dat (.int (n:Int)),.dat (.int (fc (i-1))),w2]) (n+1-2) 2 rfl (by omega) (fun i h2 hi e ⟨w2,he⟩=>by
  subst he;obtain⟨k,rfl⟩:∃k,i=k+1:=⟨i-1,by omega⟩
  have hm:DE (fc k) ((k:Int)+1)=true:=LF (LD (by omega)) (Gh (b:=200) (by omega) (by omega) (by rfl'))
  refine⟨[.dat (.int (n:Int)),.dat (.int (fc k)),.dat (.int ((k+1:Nat):Int))],[.dat (.int (n:Int)),.dat (.int (fc k * ((k:Int)+1))),.dat (.int ((k+1:Nat):Int))],rfl,?_,_,rfl⟩;exact Gg (d:=.int ((k:Int)+1)) rfl rfl (LB hm) rfl) (env:=[.dat (.int (n:Int)),.dat (.int 1),.nil]) ⟨_,rfl⟩
 subst he;refine⟨_,J4 (d:=.int (fc n)) (env:=[.dat (.int (n:Int)),.dat (.int (fc n)),x2]) ?_⟩;show KQ [.dat (.int (n:Int)),.nil,.nil]=_;unfold KQ;refine E8 (e1:=[.dat (.int (n:Int)),.dat (.int 1),.nil]) rfl (E8 ((V6 (dI (a:=2) (n:=n+1) (i:=2) (j:=(n:Int)+1) rfl rfl rfl (by omega) (by omega) (by omega))).trans e) rfl)
def tp(n:Nat):Int:=Nat.rec 1 (fun k a=>a * fc (3 * k+1)) n
def bo(m n:Nat):Int:=Nat.rec 1 (fun k a=>a * fc (m+k)) n
def vL(n:Nat):Bool:=decide (Builtin.Int.intBits (bo n n)≤60000)&&Fz (tp n) (bo n n)&&decide (tp n/bo n n=CT.getD n 0)
theorem kQ:Builtin.Int.intBits (tp 40)≤60000:=by rfl'
theorem kR(h:n≤40):Builtin.Int.intBits (tp n)≤60000:=by
 have:=LC (g:=fun k=>fc (3 * k+1)) (fun k=>(Gi (Qm _)).1) h
 exact Gh this.1 this.2 kQ
theorem kT(h:i≤n)(hb:Builtin.Int.intBits (bo n n)≤60000):Builtin.Int.intBits (bo n i)≤60000:=by
 have:=LC (g:=fun k=>fc (n+k)) (fun k=>(Gi (Qm _)).1) h
 exact Gh this.1 this.2 hb
theorem kU:(up 1 21).all vL=true:=by rfl'
theorem kW:(up 21 31).all vL=true:=by rfl'
theorem kX:(up 31 41).all vL=true:=by rfl'
theorem kY(h1:1≤n)(h2:n≤40):vL n=true:=by
 by_cases b:n<21
 ·exact Qx.mp kU n (Iy.mpr ⟨by omega,by omega⟩)
 by_cases c:n<31
 ·exact Qx.mp kW n (Iy.mpr ⟨by omega,by omega⟩)
 ·exact Qx.mp kX n (Iy.mpr ⟨by omega,by omega⟩)
theorem RF(hz:z=(n:Int))(h1:1≤n)(h2:n≤40):∃ws,CS [.dat (.int z)]=some (.d (.int (CT.getD n 0)),ws):=by
 subst hz;have hc:=kY h1 h2;unfold vL at hc;rw[Qw,Qw,Zw,Zw]at hc;obtain⟨⟨c1,c2⟩,c3⟩:=hc;obtain⟨e',e,x3,he⟩:=Iv (g:=gN 3) (b:=(C3 (O5 1 BY (c9 1 BG (B7 (B5 D3 (B5 K7 (mC (.int 3)) (A0 3)) (mC (.int 1))) B8))) (O5 2 BY (c9 1 BG (B7 (B5 D3 (A0 0) (A0 3)) B8))))) (n:=n) (fun i e=>∃w3,e=[.dat (.int (n:Int)),.dat (.int (tp i)),.dat (.int (bo n i)),w3]) (fun i hi e ⟨w3,he⟩=>by
  subst he;obtain⟨ws1,f1⟩:=RE (n:=3 * i+1) (z:=3 * (i:Int)+1) (by omega) (by omega) (by omega)
  obtain⟨vD,f2⟩:=RE (n:=n+i) (z:=(n:Int)+(i:Int)) (by omega) (by omega) (by omega)
  refine⟨[.dat (.int (n:Int)),.dat (.int (tp i)),.dat (.int (bo n i)),.dat (.int (i:Int))],[.dat (.int (n:Int)),.dat (.int (tp i * fc (3 * i+1))),.dat (.int (bo n i * fc (n+i))),.dat (.int (i:Int))],rfl,?_,_,rfl⟩;have a1:K7 (.int 3) (.int (i:Int))=some (.int (3 * (i:Int))):=rfl;refine E8 (e1:=[.dat (.int (n:Int)),.dat (.int (tp i * fc (3 * i+1))),.dat (.int (bo n i)),.dat (.int (i:Int))]) ?_ ?_
  ·have c:(c9 1 BG (B7 (B5 D3 (B5 K7 (mC (.int 3)) (A0 3)) (mC (.int 1))) B8)) [.dat (.int (n:Int)),.dat (.int (tp i)),.dat (.int (bo n i)),.dat (.int (i:Int))]=some (.int (fc (3 * i+1)),[.dat (.int (n:Int)),.dat (.int (tp i)),.dat (.int (bo n i)),.dat (.int (i:Int))]):=
    K4 (av:=[.d (.int (3 * (i:Int)+1))]) (T2 (e1:=[.dat (.int (n:Int)),.dat (.int (tp i)),.dat (.int (bo n i)),.dat (.int (i:Int))]) (D0 (e1:=[.dat (.int (n:Int)),.dat (.int (tp i)),.dat (.int (bo n i)),.dat (.int (i:Int))]) (D0 rfl rfl a1) rfl rfl) rfl) rfl rfl f1
   exact Gg rfl c (LB (LF (kR (by omega)) (LD (by omega)))) rfl
  ·have c:(c9 1 BG (B7 (B5 D3 (A0 0) (A0 3)) B8)) [.dat (.int (n:Int)),.dat (.int (tp i * fc (3 * i+1))),.dat (.int (bo n i)),.dat (.int (i:Int))]=some (.int (fc (n+i)),[.dat (.int (n:Int)),.dat (.int (tp i * fc (3 * i+1))),.dat (.int (bo n i)),.dat (.int (i:Int))]):=
    K4 (av:=[.d (.int ((n:Int)+(i:Int)))]) rfl rfl rfl f2
   exact Gg rfl c (LB (LF (kT (by omega) c1) (LD (by omega)))) rfl) (env:=[.dat (.int (n:Int)),.dat (.int 1),.dat (.int 1),.nil]) ⟨_,rfl⟩
 subst he;refine⟨_,J4 (d:=.int (CT.getD n 0)) (env:=[.dat (.int (n:Int)),.dat (.int (tp n)),.dat (.int (bo n n)),x3]) ?_⟩;show KR [.dat (.int (n:Int)),.nil,.nil,.nil]=_;unfold KR;refine E8 (e1:=[.dat (.int (n:Int)),.dat (.int 1),.nil,.nil]) rfl (E8 (e1:=[.dat (.int (n:Int)),.dat (.int 1),.dat (.int 1),.nil]) rfl (E8 ((V6 (DL (n:=n) (j:=(n:Int)) rfl rfl (by omega))).trans e) (N9 (D0 rfl rfl ?_))))
 rw[←c3];exact kL c2
def mfR(n k:Nat):Int:=Nat.rec (CT.getD (n-1) 0) (fun k a=>a * ((n:Int)-(k+1)) * ((n:Int)+(k+1)-1)/(((k:Int)+1) * (2 * (n:Int)-(k+1)-1))) k
def mf(n c:Nat):Int:=if n=1 then 1 else mfR n (c-1)
def fl(n:Nat):List Int:=(up 1 (n+1)).map (mf n)
theorem RG{α:Type}(a b:α->Int):∀l:List α,List.zipWith (· + ·) (l.map a) (l.map b)=l.map fun x=>a x+b x
 |[]=>rfl
 |x::l=>by rw[Qg,Qg,Us,RG a b l,Qg]
abbrev cS(f:OO)(i j:Nat):Int:=S (fun k=>f k j) i
def sI(n:Nat)(f:OO)(i:Nat):List Int:=rw' n (cS f i)
def rF(n:Nat)(f:OO)(i:Nat):OI:=(List.range (n-i)).map fun k=>rw' n (f (i+k))
theorem wB(n:Nat)(f:OO):sI n f 0=zs n:=by
 show(List.range n).map (fun _=>(0:Int))=List.replicate n 0
 rw[List.map_const',List.length_range]
theorem LG(n:Nat)(f:OO)(i:Nat):E9 (sI n f i) (rw' n (f i))=sI n f (i+1):=RG _ _ _
theorem RH(f:OO)(h:i<n):rF n f i=rw' n (f i)::rF n f (i+1):=by
 unfold rF;have:n-i=(n-(i+1))+1:=by omega
 rw[this,Vn,Qg,Zz]
 congr 1
 refine Zc fun k _=>?_
 show rw' n (f (i+(k+1)))=rw' n (f (i+1+k));rw[show i+(k+1)=i+1+k by omega]
theorem wD(n:Nat)(f:OO):rF n f 0=gm n n f:=by
 unfold rF gm;rw[Nat.sub_zero];exact Zc fun k _=>by rw[Nat.zero_add]
theorem m7.bt{f:OO}(h1:1≤n)(h6:n≤6)(F:m7 n f)(hi:i≤n):Bt n (sI n f i):=by
 refine⟨h1,h6,GZ (by unfold sI;simp) fun x hx=>?_⟩
 obtain⟨j,hj,rfl⟩:=Qa.mp hx;exact F.col j (Zs.mp hj) i hi
theorem m7.mem{f:OO}(h1:1≤n)(h6:n≤6)(F:m7 n f)(hi:i<n):rw' n (f i)∈R (sI n f i):=by
 refine kF (by unfold sI;simp) (F.bt h1 h6 (by omega)).bit ?_ ?_
 ·refine(GX n (f i) 0).mpr ⟨fun k hk=>?_,?_⟩
  ·have:=F.row i hi (k+1) (by omega)
   omega
  ·have:=F.rowN i hi
   omega
 ·rw[LG]
  exact(F.bt h1 h6 (by omega)).bit
theorem m7.pth{f:OO}(h1:1≤n)(h6:n≤6)(F:m7 n f):∀(k i:Nat),k=n-i->i≤n->tJ (sI n f i) (rF n f i)
 |0,i,hk,hi=>by
  have:i=n:=by omega
  subst this;have e:rF i f i=[]:=by unfold rF;simp
  rw[e];show(sI i f i).contains 0=false;cases h:(sI i f i).contains 0 with
  |false=>rfl
  |true=>
   obtain⟨j,hj,e⟩:=Qa.mp (Yb.mp h);have h3:cS f i j=1:=F.colN j (Zs.mp hj)
   omega
 |k+1,i,hk,hi=>by
  have hl:i<n:=by omega
  rw[RH f hl];refine⟨F.mem h1 h6 hl,?_⟩;rw[LG];exact F.pth h1 h6 k (i+1) (by omega) (by omega)
theorem RI:∀(l m x:List D),l.length=m.length->Q9 (l++x) m=Q9 l m
 |[],[],x,_=>by unfold Q9;simp
 |[],_::_,_,h=>by simp at h
 |_::_,[],_,h=>by simp at h
 |a::l,b::m,x,h=>by
  have:=RI l m x (by simpa using h)
  unfold Q9 at this ⊢;rw[List.cons_append,Js,Qg,this];rfl
theorem RJ(a b:List Int):AI (dR a) (dR b)=some (.bl (HT.lexLt a b)):=by
 have e:Fy (dR a) (dR b)=some (.bl (HT.lexLt a b)):=by
  show((i4 (a.map D.int)).bind fun ns=>(i4 (b.map D.int)).map fun ms=>D.bl (HT.lexLt ns ms))=_
  rw[AL,AL];rfl
 show sV tG (sV Fy IY) (dR a) (dR b)=_;have e0:tG (dR a) (dR b)=none:=rfl;unfold sV;rw[e0];simp only;rw[e]
theorem kZ{T:D}(b:Bt n s)(hk:KL n ks vs):
  ∃ks' vs',((O5 2 AR (d5 M7 (B0 (mF (D8 (D5 (mF (M1 2 (Q3 (M3 8)) (B7 (A0 3) (F7 1 B8))))) [false,false,false,false,true] 2 (gT 2 (l0 (gN 5) (l0 (gN 6) oY))) (mT (B5 AI (A0 5) (A0 4))) (A0 6))) B4)))) [.dat T,.ownD ks vs,.dat (.int acc),.dat (dR s),.dat (dR r)]=some (.nx,[.dat T,.ownD ks' vs',.dat (.int (acc+sm (wt s) ((R s).filter (nI r)))),.dat (dR s),.dat (dR r)])/\KL n ks' vs':=by
 obtain⟨ks',vs',e1,hk'⟩:=Ky (f:=M3 8) b (fun r hr=>RA b hr) hk
 refine⟨ks',vs',?_,hk'⟩;obtain⟨w1,w2,q1⟩:=GI (t:=mT (B5 AI (A0 5) (A0 4))) (m:=A0 6) (base:=[.nil,.nil,.nil,.nil,.dat (dR r)]) (q:=dR) (q2:=fun r=>D.int (wt s r)) (f:=fun r=>D.int (wt s r)) (p:=nI r) (k:=5) rfl (l:=R s) (fun a _=>⟨N4 (D0 (a:=dR a) (b:=dR r) rfl rfl (RJ a r)),fun _=>rfl⟩) .nil .nil
 have cc:=Aa (mi:=D5 (mF (M1 2 (Q3 (M3 8)) (B7 (A0 3) (F7 1 B8))))) (keep:=[false,false,false,false,true]) (more:=2) (env:=[.dat T,.ownD ks vs,.dat (.int acc),.dat (dR s),.dat (dR r)]) (e1:=[.dat T,.ownD ks' vs',.dat (.int acc),.dat (dR s),.dat (dR r)]) (e3:=[.dat T,.ownD ks' vs',.dat (.int acc),.dat (dR s),.dat (dR r)]) (ds:=u7 s)
  (Q2 (G8 (BU ((Fc (i:=1) (w:=.ownD ks vs) (c:=.d ks vs) (c':=.d ks' vs') (e1:=[.dat T,.ownD ks vs,.dat (.int acc),.dat (dR s),.dat (dR r)]) (av:=[.d (dR s),.sl 1]) rfl rfl rfl rfl rfl e1 rfl).trans rfl))) rfl)
  (by have:=b.few;unfold u7;rw[Qk];omega) q1 rfl
 have hs:M7 [.lst (((R s).filter (nI r)).map fun r=>D.int (wt s r))]=some (.int (sm (wt s) ((R s).filter (nI r)))):=by
  have e:(((R s).filter (nI r)).map fun r=>D.int (wt s r))=(((R s).filter (nI r)).map (wt s)).map D.int:=by rw[Zz];rfl
  rw[e,GJ];rfl
 exact Gg rfl (K3 (C7 (G8 cc) rfl) hs) rfl rfl
theorem RK{f:OO}(h1:1≤n)(h6:n≤6)(F:m7 n f):Ae [.dat (dT (gm n n f))]=some (.d (.int (num (zs n) (gm n n f))),[.dat (dT (gm n n f))]):=by
 have hz:Q9 ((List.range (n+1)).map fun i=>dR (sI n f i)) ((List.range n).map fun i=>dR (rw' n (f i)))=(List.range n).map fun i=>.tup [dR (sI n f i),dR (rw' n (f i))]:=by
  rw[Tw,Zl,RI _ _ _ (by simp),Og]
 obtain⟨e',e,ks',vs',w3,w4,he,hk'⟩:=Iu (g:=gT 2 (l0 (gN 3) (l0 (gN 4) oY))) (b:=(O5 2 AR (d5 M7 (B0 (mF (D8 (D5 (mF (M1 2 (Q3 (M3 8)) (B7 (A0 3) (F7 1 B8))))) [false,false,false,false,true] 2 (gT 2 (l0 (gN 5) (l0 (gN 6) oY))) (mT (B5 AI (A0 5) (A0 4))) (A0 6))) B4)))) (ds:=(List.range n).map fun i=>.tup [dR (sI n f i),dR (rw' n (f i))]) (P:=fun i e=>∃ks vs w3 w4,e=[.dat (dT (gm n n f)),.ownD ks vs,.dat (.int (num (zs n) (gm n n f)-num (sI n f i) (rF n f i))),w3,w4]/\KL n ks vs) (env:=[.dat (dT (gm n n f)),.ownD [] [],.dat (.int 0),.nil,.nil])
  (fun i d e hi ⟨ks,vs,w3,w4,he,hk⟩=>by
   subst he;have hil:i<n:=by
    have:=(Qp.mp hi).1
    simpa using this
   rw[Zv,List.getElem?_range hil]at hi;cases hi;obtain⟨ks',vs',e1,hk'⟩:=kZ (s:=sI n f i) (r:=rw' n (f i)) (T:=dT (gm n n f)) (acc:=num (zs n) (gm n n f)-num (sI n f i) (rF n f i)) (F.bt h1 h6 (by omega)) hk
   refine⟨_,_,rfl,e1,ks',vs',.dat (dR (sI n f i)),.dat (dR (rw' n (f i))),?_,hk'⟩;have:num (zs n) (gm n n f)-num (sI n f i) (rF n f i)+sm (wt (sI n f i)) ((R (sI n f i)).filter (nI (rw' n (f i))))=num (zs n) (gm n n f)-num (sI n f (i+1)) (rF n f (i+1)):=by
    rw[RH f hil];show _-(sm (wt (sI n f i)) ((R (sI n f i)).filter (nI (rw' n (f i))))+num (E9 (sI n f i) (rw' n (f i))) (rF n f (i+1)))+_=_;rw[LG];omega
   rw[this]) ⟨[],[],.nil,.nil,by rw[wB,wD,Int.sub_self],KL.nil n⟩
 have hlen:((List.range n).map fun i=>D.tup [dR (sI n f i),dR (rw' n (f i))]).length=n:=by simp
 rw[hlen]at he;have hN:num (sI n f n) (rF n f n)=0:=by
  have:rF n f n=[]:=by unfold rF;simp
  rw[this];rfl
 rw[hN,Int.sub_zero]at he;subst he;have hT:pS (dT (gm n n f))=true:=Et.mpr ⟨⟨h1,h6⟩,F⟩;have hm:DR [.dat (dT (gm n n f))]=some (.d .non,[.dat (dT (gm n n f))]):=by
  have h2:Ea [.dat (dT (gm n n f))]=some (.nx,[.dat (dT (gm n n f))]):=by
   unfold Ea;exact X4 (e1:=[.dat (dT (gm n n f))]) (Av (b:=true) (N4 (K4 (av:=[.d (dT (gm n n f))]) rfl rfl rfl (by rw[←hT];exact Pf _)))) rfl
  show k6 1 Ea _=_;unfold k6;show(match Ea [.dat (dT (gm n n f))]with|some (.ret d,env)=>_|some (.retL ds,env)=>_|some (.nx,env)=>_|_=>none)=_
  rw[h2];rfl
 refine(J4 (d:=.int (num (zs n) (gm n n f))) (env:=[.dat (dT (gm n n f)),.ownD ks' vs',.dat (.int (num (zs n) (gm n n f))),w3,w4]) ?_).trans rfl;show KZ [.dat (dT (gm n n f)),.nil,.nil,.nil,.nil]=_;unfold KZ;refine E8 (e1:=[.dat (dT (gm n n f)),.nil,.nil,.nil,.nil]) (Fd (K4 (av:=[.d (dT (gm n n f))]) rfl rfl rfl hm)) (E8 (e1:=[.dat (dT (gm n n f)),.ownD [] [],.nil,.nil,.nil]) rfl (E8 (e1:=[.dat (dT (gm n n f)),.ownD [] [],.dat (.int 0),.nil,.nil]) rfl (E8 ((V6 ?_).trans e) rfl)));have sd:=kE (n:=n) (m:=n) f h1 h1 (by omega) (by omega)
 have cz:(B0 (c9 1 CN (B7 (A0 0) B8)) (B0 (A0 0) B4)) [.dat (dT (gm n n f)),.ownD [] [],.dat (.int 0),.nil,.nil]=some ([dT (gm (n+1) n fun i j=>S (fun k=>f k j) i),dT (gm n n f)],[.dat (dT (gm n n f)),.ownD [] [],.dat (.int 0),.nil,.nil]):=
  C7 (e1:=[.dat (dT (gm n n f)),.ownD [] [],.dat (.int 0),.nil,.nil]) (K4 (av:=[.d (dT (gm n n f))]) rfl rfl rfl sd) (C7 (d:=dT (gm n n f)) rfl rfl)
 unfold Y2;rw[cz,Qj];show some (Q9 ((gm (n+1) n fun i j=>S (fun k=>f k j) i).map dR) ((gm n n f).map dR),_)=_
 unfold gm;rw[Zz,Zz];exact Ze (fun l=>some (l,_)) hz
theorem xH(h1:1≤n)(h6:n≤6):Wy (zs n)=CT.getD n 0:=by
 have:n=1\/n=2\/n=3\/n=4\/n=5\/n=6:=by omega
 rcases this with rfl|rfl|rfl|rfl|rfl|rfl<;>rfl'
theorem RL{m:Int}(h1:1≤n)(h6:n≤6)(m0:0≤m)(m1:m<Wy (zs n)):∃ws,Z1 [.dat (.int (n:Int)),.dat (.int m)]=some (.d (dT (lay n (zs n) m)),ws):=by
 obtain⟨ks',vs',e,_⟩:=kK h1 h6 m0 m1 (KL.nil n);obtain⟨wc,ec⟩:=RF (n:=n) (z:=(n:Int)) rfl h1 (by omega)
 have hw:=xH h1 h6
 refine⟨_,J4 (d:=dT (lay n (zs n) m)) (env:=[.dat (.int (n:Int)),.dat (.int m)]) ?_⟩;show Kb [.dat (.int (n:Int)),.dat (.int m)]=_;unfold Kb;refine E8 (e1:=[.dat (.int (n:Int)),.dat (.int m)]) (Fd (K4 (av:=[.d (.int (n:Int)),.d (.int 1),.d (.int 6),.d (.str "side")]) rfl rfl rfl (RC (by omega) (by omega)))) (E8 (e1:=[.dat (.int (n:Int)),.dat (.int m)]) (Fd (K4 (av:=[.d (.int m),.d (.int 0),.d (.int (CT.getD n 0-1)),.d (.str "number")]) ?_ rfl rfl (RC (by omega) (by omega)))) (N9 ?_))
 ·exact T2 (e1:=[.dat (.int (n:Int)),.dat (.int m)]) rfl (T2 (e1:=[.dat (.int (n:Int)),.dat (.int m)]) rfl (T2 (e1:=[.dat (.int (n:Int)),.dat (.int m)]) (D0 (e1:=[.dat (.int (n:Int)),.dat (.int m)]) (K4 (av:=[.d (.int (n:Int))]) rfl rfl rfl ec) rfl rfl) rfl))
 ·unfold IQ IP
  show((if 2+1=3 then(DT [.dat (.int (n:Int)),.dat (.int m),.parD [] []]).map fun q=>(q.1,[W.dat (.int (n:Int)),W.dat (.int m)])else none).bind sW)=_
  rw[Qh rfl,e];rfl
theorem ct1:(m5 1).all (fun s=>(R s).all (tt 0))=true:=by rfl'
theorem ct2:(m5 2).all (fun s=>(R s).all (tt 0))=true:=by rfl'
theorem ct3:(m5 3).all (fun s=>(R s).all (tt 0))=true:=by rfl'
theorem ct4:(m5 4).all (fun s=>(R s).all (tt 0))=true:=by rfl'
theorem ct5:(m5 5).all (fun s=>(R s).all (tt 0))=true:=by rfl'
theorem ct6:(m5 6).all (fun s=>(R s).all (tt 0))=true:=by rfl'
theorem Bt.turn(b:Bt n s)(hr:r∈R s):tt 0 r=true:=by
 obtain⟨h1,h6,hm⟩:=b;have:n=1\/n=2\/n=3\/n=4\/n=5\/n=6:=by omega
 rcases this with rfl|rfl|rfl|rfl|rfl|rfl
 ·exact Qx.mp (Qx.mp ct1 s hm) r hr
 ·exact Qx.mp (Qx.mp ct2 s hm) r hr
 ·exact Qx.mp (Qx.mp ct3 s hm) r hr
 ·exact Qx.mp (Qx.mp ct4 s hm) r hr
 ·exact Qx.mp (Qx.mp ct5 s hm) r hr
 ·exact Qx.mp (Qx.mp ct6 s hm) r hr
theorem RM{n:Nat}:∀{T:OI}{s:List Int},Bt n s->tJ s T->∀r∈T,r.length=n/\tt 0 r=true
 |[],_,_,_,r,h=>nomatch h
 |r0::T,s,b,⟨hr,hp⟩,r,h=>by
  rcases Ql.mp h with rfl|h
  ·exact⟨by rw[(b.row hr).1,b.len],b.turn hr⟩
  ·exact RM (b.row hr).2.2 hp r h
theorem RN{n j:Nat}(hj:j<n):∀{T:OI}{s:List Int},Bt n s->tJ s T->run (s.getD j 0) (T.map fun r=>r.getD j 0)=some 1
 |[],s,b,h=>by
  have hl:=b.len
  have hjl:j<s.length:=by omega
  have e:s.getD j 0=s[j]:=by simp[hjl]
  have hm:s[j]∈s:=Ym hjl
  show some (s.getD j 0)=some 1;rw[e]
  rcases b.bit _ hm with z|z
  ·rw[z]at hm
   have h':s.contains 0=false:=h
   rw[Yb.mpr hm]at h';cases h'
  ·rw[z]
 |r::T,s,b,⟨hr,hp⟩=>by
  obtain⟨h1,h2,b'⟩:=b.row hr;have ih:=RN hj b' hp;have hl:=b.len;have hg:=Kr (h:=s) (r:=r) (j:=j) h1 (by omega)
  rw[Qg];show(if s.getD j 0+r.getD j 0=0\/s.getD j 0+r.getD j 0=1 then run (s.getD j 0+r.getD j 0) (T.map fun r=>r.getD j 0)else none)=_
  rw[←hg,Qh ?_,ih];have hjl:j<(E9 s r).length:=by rw[b'.len];exact hj
  have e:(E9 s r).getD j 0=(E9 s r)[j]:=by simp[hjl]
  rw[e];exact b'.bit _ (Ym hjl)
theorem lA(h1:1≤n)(h6:n≤6)(hp:tJ (zs n) T)(hl:T.length=n):∃f,T=gm n n f/\m7 n f:=by
 have b:=uQ h1 h6
 have hr:=RM b hp
 have e:=GY (n:=n) hl (fun r h=>(hr r h).1)
 refine⟨at2 T,e,?_⟩;have ok:pS (dT T)=true:=by
  unfold pS;rw[Kk (by omega) (by omega) (fun r h=>by rw[hl];exact(hr r h).1),En,Yn,Xy,Qw,Qx,Qx]
  refine⟨fun r h=>(hr r h).2,fun c hc=>?_⟩
  unfold flip at hc;obtain⟨j,hj,rfl⟩:=Qa.mp hc;have hj':j<n:=by rw[hl]at hj;exact Zs.mp hj
  have:=RN hj' b hp;have e0:(zs n).getD j 0=0:=by unfold zs;simp[Yo,hj']
  rw[e0]at this;rw[Pw,this];rfl
 rw[e]at ok;exact(Et.mp ok).2
theorem RO{m:Int}(h1:1≤n)(h6:n≤6)(m0:0≤m)(m1:m<Wy (zs n)):∃f,lay n (zs n) m=gm n n f/\m7 n f/\num (zs n) (gm n n f)=m:=by
 obtain⟨p1,p2,p3⟩:=QQ (k:=n) (s:=zs n) (m:=m) (uQ h1 h6) (by rw[LA];omega) m0 m1
 rw[LA]at p3;obtain⟨f,e,F⟩:=lA h1 h6 p1 (by omega)
 exact⟨f,e,F,by rw[←e];exact p2⟩
theorem back{f:OO}(h1:1≤n)(h6:n≤6)(F:m7 n f):lay n (zs n) (num (zs n) (gm n n f))=gm n n f:=by
 have p:=F.pth h1 h6 n 0 rfl (by omega)
 rw[wB,wD]at p;exact QP (uQ h1 h6) p (by rw[W4];omega)
theorem lC{f:OO}(h1:1≤n)(h6:n≤6)(F:m7 n f):0≤num (zs n) (gm n n f)/\num (zs n) (gm n n f)<Wy (zs n):=by
 have p:=F.pth h1 h6 n 0 rfl (by omega)
 rw[wB,wD]at p;exact Kw (uQ h1 h6) p
def NN(n:Nat):Nat:=(CT.getD n 0).toNat
abbrev tD(n m:Nat):D:=dT (lay n (zs n) (m:Int))
theorem lD(h1:1≤n)(h4:n≤4):((NN n:Nat):Int)=Wy (zs n)/\NN n≤42:=by
 rw[xH h1 (by omega)]
 have:n=1\/n=2\/n=3\/n=4:=by omega
 rcases this with rfl|rfl|rfl|rfl<;>rfl'
theorem cell{c:Nat}(h1:1≤n)(h4:n≤4)(hm:m<NN n)(hi:i<n)(hc:c<n):∃r,i8 (tD n m) (.int (i:Int))=some r/\i8 r (.int (c:Int))=some (.int (at2 (lay n (zs n) (m:Int)) i c)):=by
 obtain⟨hW,_⟩:=lD h1 h4;obtain⟨f,e,F,_⟩:=RO (n:=n) (m:=(m:Int)) h1 (by omega) (by omega) (by omega)
 refine⟨dR (rw' n (f i)),?_,?_⟩
 ·show i8 (dT (lay n (zs n) (m:Int))) _=_
  rw[e];exact jZ hi
 ·rw[jY hc,e]
  have:gm n n (at2 (gm n n f))=gm n n f:=(GY W4 DZ).symm;rw[jW this hi hc]
theorem Tab.fn(t:Tab T)(hn:T.length=n):∃f,T=gm n n f/\m7 n f:=by
 have e:=GY (n:=n) hn (by rw[←hn];exact t.len)
 refine⟨at2 T,e,?_⟩;have:=t.ok;rw[e]at this;exact(Et.mp this).2
def Bi(s:List Int):Bool:=Gd (R3 [.dat (dR s)])==some (R s)
theorem cl1:(m5 1).all Bi=true:=by rfl'
theorem rX:(m5 2).all Bi=true:=by rfl'
theorem cl3:(m5 3).all Bi=true:=by rfl'
theorem cl4:(m5 4).all Bi=true:=by rfl'
theorem cl5:(m5 5).all Bi=true:=by rfl'
theorem cl6:(m5 6).all Bi=true:=by rfl'
theorem RP(b:Bt n s):R3 [.dat (dR s)]=some (.l ((R s).map dR),[.dat (dR s)]):=by
 have h:Bi s=true:=by
  obtain⟨h1,h6,hm⟩:=b
  rcases(by omega:n=1\/n=2\/n=3\/n=4\/n=5\/n=6)with rfl|rfl|rfl|rfl|rfl|rfl
  ·exact Qx.mp cl1 s hm
  ·exact Qx.mp rX s hm
  ·exact Qx.mp cl3 s hm
  ·exact Qx.mp cl4 s hm
  ·exact Qx.mp cl5 s hm
  ·exact Qx.mp cl6 s hm
 unfold Bi at h;obtain⟨w,e⟩:=QG (Vq h);exact QH e
abbrev eT:Mo Bool:=mT (B5 zC (A0 3) (mC (.int 0)))
abbrev eB:Mo Fl:=Cm 2 3 (B0 (A0 3) (B0 (B5 O1 (A0 2) (A0 3)) B4))
def nQ:Nat->OI
 |0=>[[]]
 |k+1=>(nQ k).map (fun s=>s++[0])++(nQ k).map fun s=>s++[1]
def sl(n:Nat):OI:=(List.range (n+1)).reverse.flatMap fun(k:Nat)=>(nQ n).filter fun s=>s.sum==(k:Int)
def CY(n:Nat):Bool:=(CL ((nQ n).map dR)).bind Da==some (sl n)
theorem co1:CY 1=true:=by rfl'
theorem co2:CY 2=true:=by rfl'
theorem co3:CY 3=true:=by rfl'
theorem co4:CY 4=true:=by rfl'
theorem co5:CY 5=true:=by rfl'
def Z6:List Int:=[6,5,5,4,5,4,4,3,5,4,4,3,4,3,3,2,5,4,4,3,4,3,3,2,4,3,3,2,3,2,2,1,5,4,4,3,4,3,3,2,4,3,3,2,3,2,2,1,4,3,3,2,3,2,2,1,3,2,2,1,2,1,1,0]
def P6:List Nat:=[63,31,47,55,59,61,62,15,23,27,29,30,39,43,45,46,51,53,54,57,58,60,7,11,13,14,19,21,22,25,26,28,35,37,38,41,42,44,49,50,52,56,3,5,6,9,10,12,17,18,20,24,33,34,36,40,48,1,2,4,8,16,32,0]
theorem z6:((nQ 6).map List.sum).reverse=Z6:=by rfl'
theorem s6:((GH 64 fun i j=>decide (Z6.getD i 0<Z6.getD j 0)).map (·.toList)==some P6)=true:=by rfl'
theorem p6:(((P6.mapM fun i=>((nQ 6).map dR).reverse[i]?).map List.reverse).bind Da==some (sl 6))=true:=by rfl'
theorem l6:(nQ 6).length=64:=by rfl'
theorem RQ:∀R:OI,oE (R.map dR)=some R
 |[]=>rfl
 |r::R=>by
  show(i4 (r.map D.int)).bind (fun a=>(oE (R.map dR)).map fun l=>a::l)=_
  rw[AL,Qj,RQ R]
  rfl
theorem lE(h1:1≤n)(h6:n≤6):CL ((nQ n).map dR)=some ((sl n).map dR):=by
 have key:∀n,CY n=true->CL ((nQ n).map dR)=some ((sl n).map dR):=fun n h=>by
  unfold CY at h;obtain⟨ds,e1,e2⟩:=C6 (Vq h);rw[e1,Gb e2]
 rcases(by omega:n=1\/n=2\/n=3\/n=4\/n=5\/n=6)with rfl|rfl|rfl|rfl|rfl|rfl
 ·exact key 1 co1
 ·exact key 2 co2
 ·exact key 3 co3
 ·exact key 4 co4
 ·exact key 5 co5
 ·obtain⟨p,e1,e2⟩:=Ur.mp (Vq s6)
  obtain⟨ds,e3,e4⟩:=C6 (Vq p6);unfold CL;rw[RQ,Qj,l6,Qh (by decide),z6,e1,Qj,e2,Qh (by decide),e3,Gb e4]
def wF(n:Nat):OI->OI->Bool
 |_,[]=>true
 |pre,h::r=>!pre.contains h&&(m5 n).contains h&&((R h).all fun q=>pre.contains (E9 h q))&&wF n (pre++[h]) r
def Bj(n:Nat):Bool:=wF n [] (sl n)&&(m5 n).all fun s=>(sl n).contains s
theorem cn1:Bj 1=true:=by rfl'
theorem cn2:Bj 2=true:=by rfl'
theorem cn3:Bj 3=true:=by rfl'
theorem cn4:Bj 4=true:=by rfl'
theorem cn5:Bj 5=true:=by rfl'
theorem cn6:Bj 6=true:=by rfl'
theorem lF(h1:1≤n)(h6:n≤6):Bj n=true:=by
 rcases(by omega:n=1\/n=2\/n=3\/n=4\/n=5\/n=6)with rfl|rfl|rfl|rfl|rfl|rfl
 ·exact cn1
 ·exact cn2
 ·exact cn3
 ·exact cn4
 ·exact cn5
 ·exact cn6
theorem RS:∀{ks:OI}{vs:List D}{k:List Int}{x d:D},ks.length=vs.length->k∉ks->qK (ks++[k]) (vs++[x]) k d=vs++[d]
 |[],[],k,x,d,_,_=>by
  show(if k=k then d::qK [] [] k d else _)=_
  rw[Qh rfl]
  rfl
 |[],_::_,_,_,_,h,_=>by simp at h
 |_::_,[],_,_,_,h,_=>by simp at h
 |a::ks,v::vs,k,x,d,hl,h=>by
  show(if a=k then d::qK (ks++[k]) (vs++[x]) k d else v::qK (ks++[k]) (vs++[x]) k d)=_
  rw[Qs (fun z=>h (by rw[z];exact Zq ..)),RS (by simpa using hl) fun z=>h (Qr _ z)]
  rfl
theorem RT:∀{l:List Int},(∀x∈l,x=0\/x=1)->l.contains 0=false->l.sum=l.length
 |[],_,_=>rfl
 |x::l,h,hc=>by
  rw[Yt,Xu]at hc;have h1:=RT (fun y hy=>h y (Qr _ hy)) hc.2
  have h2:x=1:=(h x Zq).resolve_left fun z=>by rw[z]at hc;simp at hc
  rw[Jw,h1,h2,Qo]
  omega
abbrev kB:Mo Fl:=(C3 (N7 (d5 U2 (B0 (B5 (i9 false) (d5 M7 (B0 (A0 4) B4)) (A0 0)) B4)) (tS 3 (A0 4))) (G0 (mT (B5 tG (d5 M7 (B0 (A0 4) B4)) (A0 0))) (N7 (d5 M7 (B0 (mF (D8 (D5 (mF (M1 1 R3 (B7 (A0 4) B8)))) [false,false,false,true,true] 1 (gN 5) F1 (Fp 3 (c9 2 R4 (B7 (A0 4) (B7 (A0 5) B8)))))) B4)) (tS 3 (A0 4))) nD))
theorem RU(h:List Int):M7 [dR h]=some (.int h.sum):=by
 show(i4 (h.map D.int)).map _=_;rw[AL]
 rfl
theorem lG(hk:KL n ks vs)(hc:ks.contains k=true):n5 (ks++[h]) (vs++[d]) k=some (.int (Wy k)):=Kx (hk.1.val k hc)
theorem lI(b:Bt n h)(hk:KL n ks vs)(hn:ks.contains h=false)(hr:∀r∈R h,ks.contains (E9 h r)=true):
  kB [.dat (.int (n:Int)),w1,w2,.ownD ks vs,.dat (dR h)]=some (.nx,[.dat (.int (n:Int)),w1,w2,.ownD (ks++[h]) (vs++[.int (Wy h)]),.dat (dR h)]):=by
 have hlen:=hk.1.len b.hi
 have hnm:h∉ks:=fun z=>by rw[Yb.mpr z]at hn;cases hn
 have hlen2:(ks++[h]).length<100000:=by
  have:=(hk.put b.mem hn).1.len b.hi;unfold O3 at this;rw[hn]at this;exact this
 have hc2:(ks++[h]).contains h=true:=Yb.mpr (by simp)
 have st1:∀(m:Mo D) (d:D),m [.dat (.int (n:Int)),w1,w2,.ownD ks vs,.dat (dR h)]=some (d,[.dat (.int (n:Int)),w1,w2,.ownD ks vs,.dat (dR h)])->N7 m (tS 3 (A0 4)) [.dat (.int (n:Int)),w1,w2,.ownD ks vs,.dat (dR h)]=some (.nx,[.dat (.int (n:Int)),w1,w2,.ownD (ks++[h]) (vs++[d]),.dat (dR h)]):=fun m d e=>by
  unfold N7;rw[e];show(((W2 (dR h)).bind fun k=>if ks.length<100000 then some ([W.dat (.int (n:Int)),w1,w2,W.ownD (O3 ks k) (P9 ks vs k d),W.dat (dR h)])else none).map fun e=>(Fl.nx,e))=_
  rw[Bg,Qj,Qh hlen];unfold O3 P9;rw[hn]
  rfl
 have st2:∀(m:Mo D) (x d:D),m [.dat (.int (n:Int)),w1,w2,.ownD (ks++[h]) (vs++[x]),.dat (dR h)]=some (d,[.dat (.int (n:Int)),w1,w2,.ownD (ks++[h]) (vs++[x]),.dat (dR h)])->N7 m (tS 3 (A0 4)) [.dat (.int (n:Int)),w1,w2,.ownD (ks++[h]) (vs++[x]),.dat (dR h)]=some (.nx,[.dat (.int (n:Int)),w1,w2,.ownD (ks++[h]) (vs++[d]),.dat (dR h)]):=fun m x d e=>by
  unfold N7;rw[e];show(((W2 (dR h)).bind fun k=>if(ks++[h]).length<100000 then some ([W.dat (.int (n:Int)),w1,w2,W.ownD (O3 (ks++[h]) k) (P9 (ks++[h]) (vs++[x]) k d),W.dat (dR h)])else none).map fun e=>(Fl.nx,e))=_
  rw[Bg,Qj,Qh hlen2];unfold O3 P9;rw[hc2];simp only[Zn];rw[RS hk.2 hnm]
  rfl
 have hlt:∀vs',mT (B5 tG (d5 M7 (B0 (A0 4) B4)) (A0 0)) [.dat (.int (n:Int)),w1,w2,.ownD (ks++[h]) vs',.dat (dR h)]=some (decide (h.sum<(n:Int)),[.dat (.int (n:Int)),w1,w2,.ownD (ks++[h]) vs',.dat (dR h)]):=fun vs'=>N4 (D0 (K3 (C7 rfl rfl) (RU h)) rfl rfl)
 have hfirst:d5 U2 (B0 (B5 (i9 false) (d5 M7 (B0 (A0 4) B4)) (A0 0)) B4) [.dat (.int (n:Int)),w1,w2,.ownD ks vs,.dat (dR h)]=some (.int (if(h.sum==(n:Int))=true then 1 else 0),[.dat (.int (n:Int)),w1,w2,.ownD ks vs,.dat (dR h)]):=
  K3 (C7 (D0 (K3 (C7 rfl rfl) (RU h)) rfl rfl) rfl) rfl
 refine E8 (st1 _ _ hfirst) ?_
 cases h0:h.contains 0 with
 |true=>
  have hl:h.sum<(n:Int):=by
   rcases Int.lt_or_le h.sum n with z|z
   ·exact z
   ·rw[b.none z]at h0;cases h0
  refine DM ((hlt _).trans (by rw[Yc hl])) (st2 _ _ _ ?_)
  refine K3 (C7 (G8 (CM (α:=List Int) (l:=R h) (q:=dR) (f:=fun r=>.int (wt h r)) (base:=[.nil,.nil,.nil,.ownD (ks++[h]) (vs++[.int (if(h.sum==(n:Int))=true then 1 else 0)]),.dat (dR h)]) (Q2 (G8 (BU (V7 (av:=[.d (dR h)]) rfl rfl rfl (RP b)))) rfl) (by have:=b.few;omega) rfl rfl (fun r hr'=>?_) (fun _=>rfl))) rfl) ?_
  ·obtain⟨ws',eh⟩:=GV (h:=h) (r:=r) (b.row hr').1 (by rw[b.len];exact b.hi)
   have c:=K4 (n:=2) (as:=B7 (A0 4) (B7 (A0 5) B8)) (env:=[.nil,.nil,.nil,.ownD (ks++[h]) (vs++[.int (if(h.sum==(n:Int))=true then 1 else 0)]),.dat (dR h),.dat (dR r)]) (e1:=[.nil,.nil,.nil,.ownD (ks++[h]) (vs++[.int (if(h.sum==(n:Int))=true then 1 else 0)]),.dat (dR h),.dat (dR r)]) (av:=[.d (dR h),.d (dR r)]) rfl rfl rfl eh
   show(c9 2 R4 _ _).bind _=_;rw[show([.nil,.nil,.nil,.ownD (ks++[h]) (vs++[.int (if(h.sum==(n:Int))=true then 1 else 0)]),.dat (dR h)]++[.dat (dR r)]:b0)=[.nil,.nil,.nil,.ownD (ks++[h]) (vs++[.int (if(h.sum==(n:Int))=true then 1 else 0)]),.dat (dR h),.dat (dR r)]from rfl,c,Qj]
   show((W2 (dR (E9 h r))).bind fun k=>(n5 (ks++[h]) (vs++[.int (if(h.sum==(n:Int))=true then 1 else 0)]) k).map fun d=>(d,_))=_
   rw[Bg,Qj,lG hk (hr r hr')]
   rfl
  ·have e:((R h).map fun r=>D.int (wt h r))=((R h).map (wt h)).map D.int:=by rw[Zz];rfl
   rw[e,GJ,b.sum h0];rfl
 |false=>
  have hs:=RT b.bit h0
  rw[b.len]at hs;refine X4 ((hlt _).trans (by rw[Zj (by omega)])) ?_
  rw[(b.done h0).2,hs]
  simp
  rfl
theorem RV{n:Nat}(h1:1≤n)(h6:n≤6){w1 w2:W}:∀(l pre:OI) (vs:List D) (w4:W),KL n pre vs->wF n pre l=true->∃vs' w4',loop (gN 4) kB (l.map dR) [.dat (.int (n:Int)),w1,w2,.ownD pre vs,w4]=some (.nx,[.dat (.int (n:Int)),w1,w2,.ownD (pre++l) vs',w4'])/\KL n (pre++l) vs'
 |[],pre,vs,w4,hk,_=>⟨vs,w4,by rw[Ys];rfl,by rw[Ys];exact hk⟩
 |h::l,pre,vs,w4,hk,hx=>by
  have hx':(!pre.contains h&&(m5 n).contains h&&((R h).all fun q=>pre.contains (E9 h q))&&wF n (pre++[h]) l)=true:=hx
  rw[Qw,Qw,Qw]at hx';obtain⟨⟨⟨x1,x2⟩,x3⟩,x4⟩:=hx';have hn:pre.contains h=false:=by simpa using x1
  have b:Bt n h:=⟨h1,h6,Yb.mp x2⟩
  have hp:=hk.put b.mem hn
  unfold O3 P9 at hp;rw[hn]at hp;simp only[Zx,Yu]at hp;obtain⟨vs',w4',e,hk'⟩:=RV h1 h6 l (pre++[h]) (vs++[.int (Wy h)]) (.dat (dR h)) hp x4;have t:=lI (w1:=w1) (w2:=w2) b hk hn fun r hr=>Qx.mp x3 r hr
  have ea:pre++[h]++l=pre++h::l:=by simp
  rw[ea]at e hk';refine⟨vs',w4',?_,hk'⟩;rw[Qg];unfold loop;show(some [W.dat (.int (n:Int)),w1,w2,.ownD pre vs,.dat (dR h)]).bind _=_;rw[Qj,t,Qj];exact e
theorem RW:∀n,(nQ n).length=2^n
 |0=>rfl
 |n+1=>by
  show((nQ n).map _++(nQ n).map _).length=_;rw[Qt,Qk,Qk,RW n,Nat.pow_succ];omega
theorem LH:∀n,∀s∈nQ n,s.length=n
 |0,s,h=>by
  have:s=[]:=by simpa [nQ]using h
  rw[this];rfl
 |n+1,s,h=>by
  rcases Yr.mp (show s∈(nQ n).map (fun s=>s++[0])++(nQ n).map (fun s=>s++[1])from h)with h|h
  ·obtain⟨t,ht,rfl⟩:=Qa.mp h
   rw[Qt,LH n t ht];rfl
  ·obtain⟨t,ht,rfl⟩:=Qa.mp h
   rw[Qt,LH n t ht];rfl
abbrev lB:Mo Fl:=(C9 1 (mF (Q8 (mF (D8 (D5 (A0 1)) [false,false,false,false,false] 1 (gN 5) F1 (B5 D3 (A0 5) (D6 (B0 (mC (.int 0)) B4))))) (mF (D8 (D5 (A0 1)) [false,false,false,false,false] 1 (gN 5) F1 (B5 D3 (A0 5) (D6 (B0 (mC (.int 1)) B4))))))))
theorem lJ{x:Int}(h:s.length≤1000):D3 (dR s) (.tup [.int x])=some (dR (s++[x])):=by
 have e:dR (s++[x])=.tup (s.map D.int++[.int x]):=by show D.tup _=_;rw[Zl];rfl
 rw[e];show(if(s.map D.int).length+[D.int x].length≤10000 then some (D.tup (s.map D.int++[.int x]))else none)=_
 rw[Qh (by rw[Qk];simp;omega)]
theorem lK{n:Nat}(hi:i<6):lB [w0,.dat (.lst ((nQ i).map dR)),w2,.nil,.nil]=some (.nx,[w0,.dat (.lst ((nQ (i+1)).map dR)),w2,.nil,.nil]):=by
 have hl:=RW i
 have h64:2^i≤32:=Xw (by decide) (show i≤5 by omega)
 have c:∀x:Int,D8 (D5 (A0 1)) [false,false,false,false,false] 1 (gN 5) F1 (B5 D3 (A0 5) (D6 (B0 (mC (.int x)) B4))) [w0,.dat (.lst ((nQ i).map dR)),w2,.nil,.nil]=some ((nQ i).map fun s=>dR (s++[x]),[w0,.dat (.lst ((nQ i).map dR)),w2,.nil,.nil]):=fun x=>
  CM (α:=List Int) (l:=nQ i) (q:=dR) (f:=fun s=>dR (s++[x])) (base:=[.nil,.nil,.nil,.nil,.nil]) (Q2 rfl rfl) (by omega) rfl rfl (fun s hs=>D0 rfl rfl (lJ (by rw[LH i s hs];omega))) (fun _=>rfl)
 refine N6 (d:=.lst ((nQ (i+1)).map dR)) (e1:=[w0,.dat (.lst ((nQ i).map dR)),w2,.nil,.nil]) (G8 ?_) rfl;unfold Q8;rw[G8 (c 0),Qj,G8 (c 1),Qj];show(if((nQ i).map fun s=>dR (s++[0])).length+((nQ i).map fun s=>dR (s++[1])).length≤10000 then some (((nQ i).map fun s=>dR (s++[0]))++((nQ i).map fun s=>dR (s++[1])),_)else none)=_
 rw[Qh (by rw[Qk,Qk];omega)]
 show some (_,_)=some (((nQ i).map (fun s=>s++[0])++(nQ i).map fun s=>s++[1]).map dR,_)
 rw[Zl,Zz,Zz]
 rfl
theorem lL(h1:1≤n)(h6:n≤6):∃vs ws,Ek [.dat (.int (n:Int))]=some (.d (.dct (sl n) vs),ws)/\∀s∈m5 n,n5 (sl n) vs s=some (.int (Wy s)):=by
 have hN:=lF h1 h6
 unfold Bj at hN;rw[Qw]at hN;obtain⟨w2,hloop⟩:∃w2,loop (gN 2) lB ((List.range n).map fun(i:Nat)=>D.int (i:Int)) [.dat (.int (n:Int)),.dat (.lst [dR []]),.nil,.nil,.nil]=some (.nx,[.dat (.int (n:Int)),.dat (.lst ((nQ n).map dR)),w2,.nil,.nil]):=by
  obtain⟨e,he,w2,rfl⟩:=Iv (g:=gN 2) (b:=lB) (n:=n) (fun i e=>∃w2,e=[.dat (.int (n:Int)),.dat (.lst ((nQ i).map dR)),w2,.nil,.nil]) (env:=[.dat (.int (n:Int)),.dat (.lst [dR []]),.nil,.nil,.nil]) (fun i hi e ⟨w2,he⟩=>by
   subst he;exact⟨_,_,rfl,lK (n:=n) (by omega),_,rfl⟩) ⟨_,rfl⟩
  exact⟨w2,he⟩
 obtain⟨vs,w4,hk,hKL⟩:=RV h1 h6 (w1:=.dat (.lst ((nQ n).map dR))) (w2:=w2) (sl n) [] [] .nil (KL.nil n) hN.1;rw[Xx]at hk hKL;refine⟨vs,_,GK (env:=[.dat (.int (n:Int)),.dat (.lst ((nQ n).map dR)),w2,.dat (.dct (sl n) vs),w4]) ?_ rfl,fun s hs=>hKL.1.val s (Qx.mp hN.2 s hs)⟩
 show Ke [.dat (.int (n:Int)),.nil,.nil,.nil,.nil]=_;unfold Ke;refine E8 (N6 (d:=.lst [dR []]) (e1:=[.dat (.int (n:Int)),.nil,.nil,.nil,.nil]) (e2:=[.dat (.int (n:Int)),.dat (.lst [dR []]),.nil,.nil,.nil]) rfl rfl) ?_
 refine E8 ((V6 (DL (n:=n) rfl rfl (by omega))).trans hloop) ?_
 refine E8 (e1:=[.dat (.int (n:Int)),.dat (.lst ((nQ n).map dR)),w2,.ownD [] [],.nil]) rfl ?_
 have hs:D5 (mF (Ip (A0 1))) [.dat (.int (n:Int)),.dat (.lst ((nQ n).map dR)),w2,.ownD [] [],.nil]=some ((sl n).map dR,[.dat (.int (n:Int)),.dat (.lst ((nQ n).map dR)),w2,.ownD [] [],.nil]):=by
  refine Q2 (ds:=(sl n).map dR) (G8 (ds:=(sl n).map dR) ?_) rfl;show(CL ((nQ n).map dR)).map _=_;rw[lE h1 h6]
  rfl
 refine E8 ((V6 hs).trans hk) ?_
 exact N9 rfl
theorem AM{w:W}{k:Int}{b:Bool}{M:Mo D}(hw:e[i]? =some w)(hm:w.mutL=some [.int a,.bl b])(hM:M e=some (.int k,e))(ha:0≤a)(h1:1≤k)(h2:k<1073741824):
  ∃v a',c9 2 K1 (F7 i (B7 M B8)) e=some (.int v,e.set i (w.put [.int a',.bl b]))/\0≤v/\v<k/\0≤a':=by
 obtain⟨v,a',et,v0,v1,a0⟩:=Km (a:=a) (m:=k) (b:=b) ha h1 h2;refine⟨v,a',R9 (Cu (av:=[.sl i,.d (.int k)]) (c:=[.int a,.bl b]) ?_ rfl rfl hw hm et rfl),v0,v1,a0⟩;unfold F7;rw[hw];simp only[Qj];have hm':∃m,w.mut=some m:=by
  cases w<;>first|cases hm;done|exact⟨_,rfl⟩
 obtain⟨m,hm'⟩:=hm';rw[hm'];simp only[Qj];rw[T2 hM rfl];rfl
theorem CZ(h0:0≤v)(h1:v<ds.length):∃d,d∈ds/\i8 (.lst ds) (.int v)=some d:=by
 have hv:v.toNat<ds.length:=by omega
 refine⟨ds[v.toNat],Ym hv,?_⟩;have:((v.toNat:Nat):Int)=v:=by omega
 have h:=Z3 (Zk hv)
 rw[this]at h;exact h
theorem RX{L:List Int}(h0:0≤v)(h1:v<L.length):∃j,j∈L/\i8 (.lst (L.map .int)) (.int v)=some (.int j):=by
 obtain⟨d,hd,e⟩:=CZ (ds:=L.map .int) h0 (by rw[Qk];exact h1)
 obtain⟨j,hj,rfl⟩:=Qa.mp hd;exact⟨j,hj,e⟩
theorem RY(xs:List D)(lo hi:Option Int):(AE xs lo hi).length≤xs.length:=by
 unfold AE;rw[Jy,Tz];omega
theorem W5{m:Mo D}{ml mh:Mo (Option Int)}{lo hi:Option Int}(h:m e=some (.tup xs,e))(h1:ml e=some (lo,e))(h2:mh e=some (hi,e)):oC m ml mh e=some (.tup (AE xs lo hi),e):=by
 unfold oC;rw[h];simp only[Qj];rw[h1];simp only[Qj];rw[h2];rfl
theorem U9{ms:Mo (List D)}{e1:b0}(h:ms e=some (ds,e1))(hl:ds.length≤1000):F6 ms e=some (ds,e1):=by
 unfold F6;rw[h];exact Qh hl
theorem Gj{e1 e2:b0}{ys:List D}(h1:ma e=some (.lst xs,e1))(h2:mb e1=some (.lst ys,e2))(hl:xs.length+ys.length≤10000):Q8 ma mb e=some (xs++ys,e2):=by
 unfold Q8;rw[h1];simp only[Qj];rw[h2];exact Qh hl
theorem Gk:R6 (.int 10) (.int 29)=some (.int 100000000000000000000000000000):=Pq (by rfl') (by rfl')
theorem RZ{R:OI}{b:Bool}(h1:1≤n)(h6:n≤6)(hl:R.length=n)(hr:∀r∈R,r.length=n)(ha:0≤a):∃d a',BJ [.par [.int a,.bl b],.dat (dT R)]=some (.d d,[.par [.int a',.bl b],.dat (dT R)])/\0≤a':=by
 obtain⟨v1,a1,t1,p1,q1,a10⟩:=AM (i:=0) (e:=[.par [.int a,.bl b],.dat (dT R),.nil,.nil,.nil,.nil,.nil,.nil,.nil,.nil]) (w:=.par [.int a,.bl b]) (k:=(n:Int)) (M:=d5 E6 (B0 (A0 1) B4)) rfl rfl (by show some (D.int ((R.map dR).length:Nat),_)=_;rw[Qk,hl]) ha (by omega) (by omega)
 change c9 2 _ _ _=some (_,[.par [.int a1,.bl b],.dat (dT R),.nil,.nil,.nil,.nil,.nil,.nil,.nil,.nil])at t1;obtain⟨v2,a2,t2,p2,q2,a20⟩:=AM (i:=0) (e:=[.par [.int a1,.bl b],.dat (dT R),.nil,.nil,.nil,.nil,.nil,.nil,.nil,.nil]) (w:=.par [.int a1,.bl b]) (k:=(n:Int)) (M:=d5 E6 (B0 (A0 1) B4)) rfl rfl (by show some (D.int ((R.map dR).length:Nat),_)=_;rw[Qk,hl]) a10 (by omega) (by omega)
 change c9 2 _ _ _=some (_,[.par [.int a2,.bl b],.dat (dT R),.nil,.nil,.nil,.nil,.nil,.nil,.nil,.nil])at t2;have s1:(Cm 8 9 (B0 (c9 2 K1 (F7 0 (B7 (d5 E6 (B0 (A0 1) B4)) B8))) (B0 (c9 2 K1 (F7 0 (B7 (d5 E6 (B0 (A0 1) B4)) B8))) B4))) [.par [.int a,.bl b],.dat (dT R),.nil,.nil,.nil,.nil,.nil,.nil,.nil,.nil]=some (.nx,[.par [.int a2,.bl b],.dat (dT R),.nil,.nil,.nil,.nil,.nil,.nil,.dat (.int v1),.dat (.int v2)]):=dG (e1:=[.par [.int a2,.bl b],.dat (dT R),.nil,.nil,.nil,.nil,.nil,.nil,.nil,.nil]) (C7 t1 (C7 t2 rfl)) rfl;have hv1:v1.toNat<R.length:=by omega
 have hv1':((v1.toNat:Nat):Int)=v1:=by omega
 generalize hrr:R[v1.toNat]=r;have hrl:r.length=n:=by rw[←hrr];exact hr _ (Ym hv1)
 have ixr:i8 (dT R) (.int v1)=some (dR r):=by
  rw[←hv1'];exact Z3 (xs:=R.map dR) (by rw[Zv,Zk hv1,hrr];rfl)
 have s2':(C9 2 (B5 i8 (A0 1) (A0 8))) [.par [.int a2,.bl b],.dat (dT R),.nil,.nil,.nil,.nil,.nil,.nil,.dat (.int v1),.dat (.int v2)]=some (.nx,[.par [.int a2,.bl b],.dat (dT R),.dat (dR r),.nil,.nil,.nil,.nil,.nil,.dat (.int v1),.dat (.int v2)]):=N6 (e1:=[.par [.int a2,.bl b],.dat (dT R),.nil,.nil,.nil,.nil,.nil,.nil,.dat (.int v1),.dat (.int v2)]) (D0 rfl rfl ixr) rfl
 obtain⟨v3,a3,t3,p3,q3,a30⟩:=AM (i:=0) (e:=[.par [.int a2,.bl b],.dat (dT R),.dat (dR r),.nil,.nil,.nil,.nil,.nil,.dat (.int v1),.dat (.int v2)]) (w:=.par [.int a2,.bl b]) (k:=12) (M:=mC (.int 12)) rfl rfl rfl a20 (by omega) (by omega)
 change c9 2 _ _ _=some (_,[.par [.int a3,.bl b],.dat (dT R),.dat (dR r),.nil,.nil,.nil,.nil,.nil,.dat (.int v1),.dat (.int v2)])at t3;have hv2:v2.toNat<r.length:=by omega
 have hv2':((v2.toNat:Nat):Int)=v2:=by omega
 obtain⟨xk,ixk⟩:∃x,i8 (dR r) (.int v2)=some (.int x):=by
  rw[←hv2'];exact⟨_,Z3 (xs:=r.map D.int) (by rw[Zv,Zk hv2];rfl)⟩
 obtain⟨odd,_,hodd⟩:=CZ (ds:=[.int 0,.int 1,.int (-1),.int 2,.int (-2),.bl true,.bl false,.non,.str "1",.tup [.int 1],.int 100000000000000000000000000000,.int (-xk)]) p3 q3;have ng:M5 (B5 i8 (A0 2) (A0 9)) [.par [.int a2,.bl b],.dat (dT R),.dat (dR r),.nil,.nil,.nil,.nil,.nil,.dat (.int v1),.dat (.int v2)]=some (.int (-xk),[.par [.int a2,.bl b],.dat (dT R),.dat (dR r),.nil,.nil,.nil,.nil,.nil,.dat (.int v1),.dat (.int v2)]):=by
  unfold M5;rw[D0 (e1:=[.par [.int a2,.bl b],.dat (dT R),.dat (dR r),.nil,.nil,.nil,.nil,.nil,.dat (.int v1),.dat (.int v2)]) (e2:=[.par [.int a2,.bl b],.dat (dT R),.dat (dR r),.nil,.nil,.nil,.nil,.nil,.dat (.int v1),.dat (.int v2)]) rfl rfl ixk]
  rfl
 have s3':(C9 3 (B5 i8 (mF (F6 (B0 (mC (.int 0)) (B0 (mC (.int 1)) (B0 (M5 (mC (.int 1))) (B0 (mC (.int 2)) (B0 (M5 (mC (.int 2))) (B0 (mC (.bl true)) (B0 (mC (.bl false)) (B0 (mC .non) (B0 (mC (.str "1")) (B0 (D6 (B0 (mC (.int 1)) B4)) (B0 (B5 R6 (mC (.int 10)) (mC (.int 29))) (B0 (M5 (B5 i8 (A0 2) (A0 9))) B4)))))))))))))) (c9 2 K1 (F7 0 (B7 (mC (.int 12)) B8))))) [.par [.int a2,.bl b],.dat (dT R),.dat (dR r),.nil,.nil,.nil,.nil,.nil,.dat (.int v1),.dat (.int v2)]=some (.nx,[.par [.int a3,.bl b],.dat (dT R),.dat (dR r),.dat odd,.nil,.nil,.nil,.nil,.dat (.int v1),.dat (.int v2)]):=N6 (e1:=[.par [.int a3,.bl b],.dat (dT R),.dat (dR r),.nil,.nil,.nil,.nil,.nil,.dat (.int v1),.dat (.int v2)]) (D0 (G8 (U9 (C7 rfl (C7 rfl (C7 rfl (C7 rfl (C7 rfl (C7 rfl (C7 rfl (C7 rfl (C7 rfl (C7 rfl (C7 (D0 rfl rfl Gk) (C7 ng rfl)))))))))))) (by simp))) t3 hodd) rfl
 have cl:∀lo hi,(AE (r.map D.int) lo hi).length≤6:=fun lo hi=>Zr (RY _ _ _) (by rw[Qk];omega)
 have rX:∀lo hi,(AE (R.map dR) lo hi).length≤6:=fun lo hi=>Zr (RY _ _ _) (by rw[Qk];omega)
 obtain⟨rw4,hrw4,s4'⟩:∃rw4:List D,rw4.length=4/\(C9 4 (mF (F6 (B0 (B5 D3 (B5 D3 (oC (A0 2) K8 (K9 (A0 9))) (D6 (B0 (A0 3) B4))) (oC (A0 2) (K9 (B5 D3 (A0 9) (mC (.int 1)))) K8)) (B0 (B5 D3 (B5 D3 (oC (A0 2) K8 (K9 (A0 9))) (D6 (B0 (A0 3) B4))) (oC (A0 2) (K9 (A0 9)) K8)) (B0 (B5 D3 (oC (A0 2) K8 (K9 (A0 9))) (oC (A0 2) (K9 (B5 D3 (A0 9) (mC (.int 1)))) K8)) (B0 (mF (uV Dq (B0 (A0 2) B4))) B4))))))) [.par [.int a3,.bl b],.dat (dT R),.dat (dR r),.dat odd,.nil,.nil,.nil,.nil,.dat (.int v1),.dat (.int v2)]=some (.nx,[.par [.int a3,.bl b],.dat (dT R),.dat (dR r),.dat odd,.dat (.lst rw4),.nil,.nil,.nil,.dat (.int v1),.dat (.int v2)]):=by
  refine⟨[_,_,_,_],?_,N6 (e1:=[.par [.int a3,.bl b],.dat (dT R),.dat (dR r),.dat odd,.nil,.nil,.nil,.nil,.dat (.int v1),.dat (.int v2)]) (G8 (U9 (C7
   (D0 (D0 (W5 rfl rfl rfl) rfl (Y9 ?_)) (W5 rfl rfl rfl) (Y9 ?_)) (C7
   (D0 (D0 (W5 rfl rfl rfl) rfl (Y9 ?_)) (W5 rfl rfl rfl) (Y9 ?_)) (C7
   (D0 (W5 rfl rfl rfl) (W5 rfl rfl rfl) (Y9 ?_)) (C7 rfl rfl)))) (by simp))) rfl⟩
  ·rfl
  ·have:=cl none (some v2);simp;omega
  ·have:=cl none (some v2);have:=cl (some (v2+1)) none;simp;omega
  ·have:=cl none (some v2);simp;omega
  ·have:=cl none (some v2);have:=cl (some v2) none;simp;omega
  ·have:=cl none (some v2);have:=cl (some (v2+1)) none;omega
 obtain⟨v4,a4,t4,p4,q4,a40⟩:=AM (i:=0) (e:=[.par [.int a3,.bl b],.dat (dT R),.dat (dR r),.dat odd,.dat (.lst rw4),.nil,.nil,.nil,.dat (.int v1),.dat (.int v2)]) (w:=.par [.int a3,.bl b]) (k:=10) (M:=mC (.int 10)) rfl rfl rfl a30 (by omega) (by omega)
 change c9 2 _ _ _=some (_,[.par [.int a4,.bl b],.dat (dT R),.dat (dR r),.dat odd,.dat (.lst rw4),.nil,.nil,.nil,.dat (.int v1),.dat (.int v2)])at t4;obtain⟨j4,hj4,ej4⟩:=RX (L:=[0,0,0,0,0,1,2,3,4,5]) p4 q4;obtain⟨one,_,hone⟩:=CZ (ds:=rw4++[dR r.reverse,.non]) (v:=j4) (by simp at hj4;omega) (by simp at hj4;simp[hrw4];omega)
 have rv:Au (A0 2) [.par [.int a3,.bl b],.dat (dT R),.dat (dR r),.dat odd,.dat (.lst rw4),.nil,.nil,.nil,.dat (.int v1),.dat (.int v2)]=some (dR r.reverse,[.par [.int a3,.bl b],.dat (dT R),.dat (dR r),.dat odd,.dat (.lst rw4),.nil,.nil,.nil,.dat (.int v1),.dat (.int v2)]):=by
  show some (D.tup (r.map D.int).reverse,_)=_;rw[←List.map_reverse]
  rfl
 have s5:(C9 5 (B5 i8 (mF (Q8 (A0 4) (mF (F6 (B0 (Au (A0 2)) (B0 (mC .non) B4)))))) (B5 i8 (mF (F6 (B0 (mC (.int 0)) (B0 (mC (.int 0)) (B0 (mC (.int 0)) (B0 (mC (.int 0)) (B0 (mC (.int 0)) (B0 (mC (.int 1)) (B0 (mC (.int 2)) (B0 (mC (.int 3)) (B0 (mC (.int 4)) (B0 (mC (.int 5)) B4)))))))))))) (c9 2 K1 (F7 0 (B7 (mC (.int 10)) B8)))))) [.par [.int a3,.bl b],.dat (dT R),.dat (dR r),.dat odd,.dat (.lst rw4),.nil,.nil,.nil,.dat (.int v1),.dat (.int v2)]=some (.nx,[.par [.int a4,.bl b],.dat (dT R),.dat (dR r),.dat odd,.dat (.lst rw4),.dat one,.nil,.nil,.dat (.int v1),.dat (.int v2)]):=N6 (e1:=[.par [.int a4,.bl b],.dat (dT R),.dat (dR r),.dat odd,.dat (.lst rw4),.nil,.nil,.nil,.dat (.int v1),.dat (.int v2)]) (D0 (G8 (Gj (e1:=[.par [.int a3,.bl b],.dat (dT R),.dat (dR r),.dat odd,.dat (.lst rw4),.nil,.nil,.nil,.dat (.int v1),.dat (.int v2)]) (e2:=[.par [.int a3,.bl b],.dat (dT R),.dat (dR r),.dat odd,.dat (.lst rw4),.nil,.nil,.nil,.dat (.int v1),.dat (.int v2)]) rfl (G8 (U9 (C7 rv (C7 rfl rfl)) (by simp))) (by simp[hrw4]))) (D0 rfl t4 ej4) hone) rfl
 obtain⟨v5,a5,t5,p5,q5,a50⟩:=AM (i:=0) (e:=[.par [.int a4,.bl b],.dat (dT R),.dat (dR r),.dat odd,.dat (.lst rw4),.dat one,.nil,.nil,.dat (.int v1),.dat (.int v2)]) (w:=.par [.int a4,.bl b]) (k:=(n:Int)) (M:=d5 E6 (B0 (A0 1) B4)) rfl rfl (by show some (D.int ((R.map dR).length:Nat),_)=_;rw[Qk,hl]) a40 (by omega) (by omega)
 change c9 2 _ _ _=some (_,[.par [.int a5,.bl b],.dat (dT R),.dat (dR r),.dat odd,.dat (.lst rw4),.dat one,.nil,.nil,.dat (.int v1),.dat (.int v2)])at t5;have hv5:v5.toNat<R.length:=by omega
 have hv5':((v5.toNat:Nat):Int)=v5:=by omega
 obtain⟨oth,hoth⟩:∃oth,i8 (dT R) (.int v5)=some oth:=by
  rw[←hv5'];exact⟨_,Z3 (xs:=R.map dR) (by rw[Zv,Zk hv5];rfl)⟩
 have s6:(C9 6 (B5 i8 (A0 1) (c9 2 K1 (F7 0 (B7 (d5 E6 (B0 (A0 1) B4)) B8))))) [.par [.int a4,.bl b],.dat (dT R),.dat (dR r),.dat odd,.dat (.lst rw4),.dat one,.nil,.nil,.dat (.int v1),.dat (.int v2)]=some (.nx,[.par [.int a5,.bl b],.dat (dT R),.dat (dR r),.dat odd,.dat (.lst rw4),.dat one,.dat oth,.nil,.dat (.int v1),.dat (.int v2)]):=N6 (e1:=[.par [.int a5,.bl b],.dat (dT R),.dat (dR r),.dat odd,.dat (.lst rw4),.dat one,.nil,.nil,.dat (.int v1),.dat (.int v2)]) (D0 rfl t5 hoth) rfl
 obtain⟨s2,hs2,s7⟩:∃s2:List D,s2.length=2/\(C9 7 (mF (F6 (B0 (B5 D3 (B5 D3 (oC (A0 1) K8 (K9 (A0 8))) (D6 (B0 (A0 5) B4))) (oC (A0 1) (K9 (B5 D3 (A0 8) (mC (.int 1)))) K8)) (B0 (B5 D3 (B5 D3 (oC (A0 1) K8 (K9 (A0 8))) (D6 (B0 (A0 6) B4))) (oC (A0 1) (K9 (B5 D3 (A0 8) (mC (.int 1)))) K8)) B4))))) [.par [.int a5,.bl b],.dat (dT R),.dat (dR r),.dat odd,.dat (.lst rw4),.dat one,.dat oth,.nil,.dat (.int v1),.dat (.int v2)]=some (.nx,[.par [.int a5,.bl b],.dat (dT R),.dat (dR r),.dat odd,.dat (.lst rw4),.dat one,.dat oth,.dat (.lst s2),.dat (.int v1),.dat (.int v2)]):=by
  refine⟨[_,_],?_,N6 (e1:=[.par [.int a5,.bl b],.dat (dT R),.dat (dR r),.dat odd,.dat (.lst rw4),.dat one,.dat oth,.nil,.dat (.int v1),.dat (.int v2)]) (G8 (U9 (C7
   (D0 (D0 (W5 rfl rfl rfl) rfl (Y9 ?_)) (W5 rfl rfl rfl) (Y9 ?_)) (C7
   (D0 (D0 (W5 rfl rfl rfl) rfl (Y9 ?_)) (W5 rfl rfl rfl) (Y9 ?_)) rfl)) (by simp))) rfl⟩
  ·rfl
  ·have:=rX none (some v1);simp;omega
  ·have:=rX none (some v1);have:=rX (some (v1+1)) none;simp;omega
  ·have:=rX none (some v1);simp;omega
  ·have:=rX none (some v1);have:=rX (some (v1+1)) none;simp;omega
 obtain⟨s4,hs4,s8⟩:∃s4:List D,s4.length=4/\(C9 7 (mF (Q8 (A0 7) (mF (F6 (B0 (B5 D3 (oC (A0 1) K8 (K9 (A0 8))) (oC (A0 1) (K9 (B5 D3 (A0 8) (mC (.int 1)))) K8)) (B0 (B5 D3 (B5 D3 (oC (A0 1) K8 (K9 (A0 8))) (D6 (B0 (A0 2) B4))) (oC (A0 1) (K9 (A0 8)) K8)) (B0 (mF (uV Dq (B0 (A0 1) B4))) (B0 (Au (A0 1)) B4))))))))) [.par [.int a5,.bl b],.dat (dT R),.dat (dR r),.dat odd,.dat (.lst rw4),.dat one,.dat oth,.dat (.lst s2),.dat (.int v1),.dat (.int v2)]=some (.nx,[.par [.int a5,.bl b],.dat (dT R),.dat (dR r),.dat odd,.dat (.lst rw4),.dat one,.dat oth,.dat (.lst (s2++s4)),.dat (.int v1),.dat (.int v2)]):=by
  refine⟨[_,_,_,_],?_,N6 (e1:=[.par [.int a5,.bl b],.dat (dT R),.dat (dR r),.dat odd,.dat (.lst rw4),.dat one,.dat oth,.dat (.lst s2),.dat (.int v1),.dat (.int v2)]) (G8 (Gj (e1:=[.par [.int a5,.bl b],.dat (dT R),.dat (dR r),.dat odd,.dat (.lst rw4),.dat one,.dat oth,.dat (.lst s2),.dat (.int v1),.dat (.int v2)]) (e2:=[.par [.int a5,.bl b],.dat (dT R),.dat (dR r),.dat odd,.dat (.lst rw4),.dat one,.dat oth,.dat (.lst s2),.dat (.int v1),.dat (.int v2)]) rfl (G8 (U9 (C7
   (D0 (W5 rfl rfl rfl) (W5 rfl rfl rfl) (Y9 ?_)) (C7
   (D0 (D0 (W5 rfl rfl rfl) rfl (Y9 ?_)) (W5 rfl rfl rfl) (Y9 ?_)) (C7 rfl (C7 rfl rfl)))) (by simp))) (by simp[hs2]))) rfl⟩
  ·rfl
  ·have:=rX none (some v1);have:=rX (some (v1+1)) none;omega
  ·have:=rX none (some v1);simp;omega
  ·have:=rX none (some v1);have:=rX (some v1) none;simp;omega
 obtain⟨s3,hs3,s9⟩:∃s3:List D,s3.length=3/\(C9 7 (mF (Q8 (A0 7) (mF (F6 (B0 (D6 (B0 (A0 1) B4)) (B0 (mC .non) (B0 (A0 2) B4)))))))) [.par [.int a5,.bl b],.dat (dT R),.dat (dR r),.dat odd,.dat (.lst rw4),.dat one,.dat oth,.dat (.lst (s2++s4)),.dat (.int v1),.dat (.int v2)]=some (.nx,[.par [.int a5,.bl b],.dat (dT R),.dat (dR r),.dat odd,.dat (.lst rw4),.dat one,.dat oth,.dat (.lst (s2++s4++s3)),.dat (.int v1),.dat (.int v2)]):=
  ⟨[_,_,_],rfl,N6 (e1:=[.par [.int a5,.bl b],.dat (dT R),.dat (dR r),.dat odd,.dat (.lst rw4),.dat one,.dat oth,.dat (.lst (s2++s4)),.dat (.int v1),.dat (.int v2)]) (G8 (Gj (e1:=[.par [.int a5,.bl b],.dat (dT R),.dat (dR r),.dat odd,.dat (.lst rw4),.dat one,.dat oth,.dat (.lst (s2++s4)),.dat (.int v1),.dat (.int v2)]) (e2:=[.par [.int a5,.bl b],.dat (dT R),.dat (dR r),.dat odd,.dat (.lst rw4),.dat one,.dat oth,.dat (.lst (s2++s4)),.dat (.int v1),.dat (.int v2)]) rfl (G8 (U9 (C7 rfl (C7 rfl (C7 rfl rfl))) (by simp))) (by simp[hs2,hs4]))) rfl⟩
 obtain⟨v6,a6,t6,p6,q6,a60⟩:=AM (i:=0) (e:=[.par [.int a5,.bl b],.dat (dT R),.dat (dR r),.dat odd,.dat (.lst rw4),.dat one,.dat oth,.dat (.lst (s2++s4++s3)),.dat (.int v1),.dat (.int v2)]) (w:=.par [.int a5,.bl b]) (k:=13) (M:=mC (.int 13)) rfl rfl rfl a50 (by omega) (by omega)
 change c9 2 _ _ _=some (_,[.par [.int a6,.bl b],.dat (dT R),.dat (dR r),.dat odd,.dat (.lst rw4),.dat one,.dat oth,.dat (.lst (s2++s4++s3)),.dat (.int v1),.dat (.int v2)])at t6;obtain⟨j6,hj6,ej6⟩:=RX (L:=[0,0,0,0,1,1,2,3,4,5,6,7,8]) p6 q6;obtain⟨d,_,hd⟩:=CZ (ds:=s2++s4++s3) (v:=j6) (by simp at hj6;omega) (by simp at hj6;simp[hs2,hs4,hs3];omega)
 refine⟨d,a6,GK (env:=[.par [.int a6,.bl b],.dat (dT R),.dat (dR r),.dat odd,.dat (.lst rw4),.dat one,.dat oth,.dat (.lst (s2++s4++s3)),.dat (.int v1),.dat (.int v2)]) ?_ rfl,a60⟩;show Kh [.par [.int a,.bl b],.dat (dT R),.nil,.nil,.nil,.nil,.nil,.nil,.nil,.nil]=_;unfold Kh;exact E8 s1 (E8 s2' (E8 s3' (E8 s4' (E8 s5 (E8 s6 (E8 s7 (E8 s8 (E8 s9 (N9 (D0 rfl (D0 rfl t6 ej6) hd))))))))))
theorem lM{b:Bool}(ha:0≤a):∃d a',DV [.par [.int a,.bl b]]=some (.d d,[.par [.int a',.bl b]])/\0≤a':=by
 obtain⟨v,a1,t,p,q,a10⟩:=AM (i:=0) (e:=[.par [.int a,.bl b],.dat (.lst [.non,.bl true,.bl false,.int (-1),.int 0,.int 1,.str "",.str "+",.tup [],.lst [],.tup [.bl true],.lst [.tup [.int 1]],.emp,.tup [.non],.tup [.tup [.bl true]]])]) (w:=.par [.int a,.bl b]) (k:=20) (M:=mC (.int 20)) rfl rfl rfl ha (by omega) (by omega)
 change c9 2 _ _ _=some (_,[.par [.int a1,.bl b],.dat (.lst [.non,.bl true,.bl false,.int (-1),.int 0,.int 1,.str "",.str "+",.tup [],.lst [],.tup [.bl true],.lst [.tup [.int 1]],.emp,.tup [.non],.tup [.tup [.bl true]]])])at t;obtain⟨d,hd,ed⟩:=CZ (ds:=[.non,.bl true,.bl false,.int (-1),.int 0,.int 1,.str "",.str "+",.tup [],.lst [],.tup [.bl true],.lst [.tup [.int 1]],.emp,.tup [.non],.tup [.tup [.bl true]],.int 100000000000000000000000000000,.tup [.tup []],.tup [.tup [.int 0]],.tup [.tup [.int 1],.tup [.int 1]],.tup [.tup [.tup [.int 1]]]]) p q;refine⟨d,a1,GK (d:=d) (env:=[.par [.int a1,.bl b],.dat (.lst [.non,.bl true,.bl false,.int (-1),.int 0,.int 1,.str "",.str "+",.tup [],.lst [],.tup [.bl true],.lst [.tup [.int 1]],.emp,.tup [.non],.tup [.tup [.bl true]]])]) ?_ rfl,a10⟩;show Kg [.par [.int a,.bl b],.nil]=_;unfold Kg;refine E8 (e1:=[.par [.int a,.bl b],.dat (.lst [.non,.bl true,.bl false,.int (-1),.int 0,.int 1,.str "",.str "+",.tup [],.lst [],.tup [.bl true],.lst [.tup [.int 1]],.emp,.tup [.non],.tup [.tup [.bl true]]])]) rfl (N9 (D0 (G8 (Gj rfl (G8 (U9 (C7 (D0 rfl rfl Gk) (C7 rfl (C7 rfl (C7 rfl (C7 rfl rfl))))) (by simp))) (by simp))) t ed))
theorem lN(h:sY d n n=true):∃f,d=dT (gm n n f):=by
 cases d<;>first|cases h|skip
 rename_i es;simp only[sY,Qw,Yi,Qx]at h;have hl:(es.map mX).length=n:=by
  have:=h.1;rw[Qk]
  omega
 have hr:∀r∈es.map mX,r.length=n:=fun r hr=>by
  obtain⟨e,he,rfl⟩:=Qa.mp hr;have:=(DW (h.2 e he)).2
  omega
 refine⟨at2 (es.map mX),?_⟩;rw[←GY hl hr];show D.tup es=D.tup ((es.map mX).map dR);rw[Zz];refine Ze D.tup ?_
 rw[Zc (f:=dR∘mX) (g:=id) fun e he=>((DW (h.2 e he)).1).symm]
 simp
theorem lO(h:pS d=true):∃n f,1≤n/\n≤6/\m7 n f/\d=dT (gm n n f):=by
 have hs:rC d 1 6=true:=by
  unfold pS at h;rw[Qw]at h;exact h.1
 cases d<;>first|cases hs|skip
 rename_i es;have hg:sY (.tup es) (es.length:Int) es.length=true:=by
  simp only[rC,Qw]at hs;simp only[sY,Vt,Yn];exact hs.2
 obtain⟨f,e⟩:=lN (n:=es.length) hg;have h':=h;rw[e]at h';obtain⟨⟨a,b⟩,c⟩:=Et.mp h';exact⟨_,f,a,b,c,e⟩
theorem Ra(k:Nat)(i:Int):Q1 (k+1) [.dat (.int i),.dat (.int i)]=some (.d (.bl true),[.dat (.int i),.dat (.int i)]):=by
 refine(J4 (d:=.bl true) (env:=[.dat (.int i),.dat (.int i)]) ?_).trans rfl;show Em (Q1 k) [.dat (.int i),.dat (.int i)]=_;unfold Em;refine E8 (X4 rfl rfl) (N9 ?_);have e:(B5 (i9 false) (A0 0) (A0 1)) [.dat (.int i),.dat (.int i)]=some (.bl (i==i),[.dat (.int i),.dat (.int i)]):=rfl;rw[Vt]at e;exact Iw e rfl
theorem Rb{k:Nat}(hl:es.length≤1000)(h:∀x∈es,∃ws,Q1 k [.dat x,.dat x]=some (.d (.bl true),ws)):∃ws,Q1 (k+1) [.dat (.tup es),.dat (.tup es)]=some (.d (.bl true),ws):=by
 refine⟨_,(J4 (d:=.bl true) (env:=[.dat (.tup es),.dat (.tup es)]) ?_)⟩;show Em (Q1 k) [.dat (.tup es),.dat (.tup es)]=_;unfold Em;refine X0 (DM (e1:=[.dat (.tup es),.dat (.tup es)]) rfl (E8 (e1:=[.dat (.tup es),.dat (.tup es)]) (X4 (e1:=[.dat (.tup es),.dat (.tup es)]) rfl rfl) (N9 ?_)));have e1:(B5 (i9 false) (d5 E6 (B0 (A0 0) B4)) (d5 E6 (B0 (A0 1) B4))) [.dat (.tup es),.dat (.tup es)]=some (.bl ((es.length:Int)==(es.length:Int)),[.dat (.tup es),.dat (.tup es)]):=rfl;have c:=Ir (mi:=Y2 (B0 (A0 0) (B0 (A0 1) B4))) (keep:=[false,false]) (m:=c9 2 (Q1 k) (B7 (A0 2) (B7 (A0 3) B8))) (env:=[.dat (.tup es),.dat (.tup es)]) (base:=[.nil,.nil]) (l:=es) (q:=fun p=>p) (q2:=fun p=>p) (f:=fun p=>.bl true) (k:=2) (dD (a:=.tup es) (b:=.tup es) rfl (by show some es=some (es.map fun p=>p);simp) (by show some es=some (es.map fun p=>p);simp)) (by omega) rfl rfl (fun p hp=>by
   obtain⟨ws,q⟩:=h p hp;exact K4 (av:=[.d p,.d p]) rfl rfl rfl q) (fun w w2=>rfl)
 refine(Iw (e1.trans ?_) (K3 (d:=.bl true) (C7 (G8 c) rfl) ?_))
 ·rw[Vt]
 ·show(U1 _).map _=_
  rw[CB]
  simp
theorem lP{k:Nat}(h:r.length≤1000):∃ws,Q1 (k+2) [.dat (dR r),.dat (dR r)]=some (.d (.bl true),ws):=
 Rb (k:=k+1) (by rw[Qk];exact h) fun z hz=>by
  obtain⟨i,_,rfl⟩:=Qa.mp hz;exact⟨_,Ra k i⟩
theorem X6{g:OZ}{b:Mo Fl}{e1 e2:b0}{r:Option (Fl×b0)}(h1:g d e=some e1)(h2:b e1=some (.nx,e2))(h:loop g b ds e2=r):loop g b (d::ds) e=r:=by
 unfold loop;rw[h1,Qj,h2];exact h
theorem Rc(h1:1≤n)(h6:n≤6):K7 (.tup [.int 0]) (.int (n:Int))=some (dR (zs n)):=by
 rcases(by omega:n=1\/n=2\/n=3\/n=4\/n=5\/n=6)with rfl|rfl|rfl|rfl|rfl|rfl<;>rfl
theorem lQ{m:Mo Fl}{e1:b0}{r:Option Str}(h:x e=none)(hm:m e=some (.nx,e1))(hy:y e1=r):T0 x m y e=r:=by
 unfold T0;rw[h];dsimp only;rw[hm];exact hy
theorem LI{m:Mo Fl}{c:Str}(h:x e=some c):T0 x m y e=some c:=by
 unfold T0;rw[h]
theorem lR{t:Mo Bool}{e1:b0}{r:Option Str}(h:t e=some (true,e1))(hx:x e1=r):uI t x y e=r:=by
 unfold uI;rw[h];exact hx
theorem lS{t:Mo Bool}{e1:b0}{r:Option Str}(h:t e=some (false,e1))(hx:y e1=r):uI t x y e=r:=by
 unfold uI;rw[h];exact hx
def Gm(o:Option Str):Bool:=match o with
 |some c=>decide (c="NoNumber")
 |none=>false
theorem Rf{o:Option Str}(h:Gm o=true):o=some ("NoNumber":Str):=by
 unfold Gm at h;split at h
 ·rw[Xi h]
 ·cases h
def Rg(o:Option D)(x:Str):Bool:=match o with
 |some (.str y)=>decide (y=x)
 |_=>false
theorem Rh{x:Str}(h:Rg o x=true):o=some (.str x):=by
 unfold Rg at h;split at h
 ·rw[Xi h]
 ·cases h
def Ri(o:Option D):Bool:=match o with
 |some .non=>true
 |_=>false
theorem lT(h:Ri o=true):o=some .non:=by
 unfold Ri at h;split at h
 ·rfl
 ·cases h
def Rj(o:Option D):Bool:=match o with
 |some (.bl false)=>true
 |_=>false
theorem LJ(h:Rj o=true):o=some (.bl false):=by
 unfold Rj at h;split at h
 ·rfl
 ·cases h
theorem Rk(hv:∀s∈m5 n,n5 ks vs s=some (.int (Wy s)))(b:Bt n s):BA (.dct ks vs) (dR s)=some (.int (Wy s)):=by
 show(W2 (dR s)).bind _=_;rw[Bg,Qj];exact hv s b.mem
abbrev nB:Mo Fl:=(C3 (C9 3 (B5 D3 (A0 3) (d5 M7 (B0 (mF (D8 (D5 (mF (M1 1 R3 (B7 (A0 2) B8)))) [false,true,true,false,true] 1 (gN 5) (mT (B5 AI (A0 5) (A0 4))) (B5 BA (A0 1) (c9 2 R4 (B7 (A0 2) (B7 (A0 5) B8)))))) B4)))) (C9 2 (c9 2 R4 (B7 (A0 2) (B7 (A0 4) B8)))))
theorem lU(hv:∀s∈m5 n,n5 ks vs s=some (.int (Wy s)))(b:Bt n s)(hr:r∈R s):
  nB [w0,.dat (.dct ks vs),.dat (dR s),.dat (.int acc),.dat (dR r)]=some (.nx,[w0,.dat (.dct ks vs),.dat (dR (E9 s r)),.dat (.int (acc+sm (wt s) ((R s).filter (nI r)))),.dat (dR r)]):=by
 have er:=RP b
 obtain⟨hlr,_,_⟩:=b.row hr;have h6:s.length≤6:=by have:=b.len;have:=b.hi;omega
 obtain⟨ws,eh⟩:=GV hlr h6;have hel:∀a∈R s,mT (B5 AI (A0 5) (A0 4)) ([.nil,.dat (.dct ks vs),.dat (dR s),.nil,.dat (dR r)]++[.dat (dR a)])=some (nI r a,[.nil,.dat (.dct ks vs),.dat (dR s),.nil,.dat (dR r)]++[.dat (dR a)])/\(nI r a=true->(B5 BA (A0 1) (c9 2 R4 (B7 (A0 2) (B7 (A0 5) B8)))) ([.nil,.dat (.dct ks vs),.dat (dR s),.nil,.dat (dR r)]++[.dat (dR a)])=some (.int (wt s a),[.nil,.dat (.dct ks vs),.dat (dR s),.nil,.dat (dR r)]++[.dat (dR a)])):=fun a ha=>by
  obtain⟨hla,_,b2⟩:=b.row ha;obtain⟨vD,x9⟩:=GV hla h6;have g2:=Rk hv b2;have hlt:=RJ a r;generalize D.dct ks vs=C at *;generalize dR (E9 s a)=A2 at *;generalize dR s=A at *;generalize dR a=A3 at *;generalize dR r=A4 at *;exact⟨N4 (D0 (a:=A3) (b:=A4) rfl rfl hlt),fun _=>D0 rfl (K4 (av:=[.d A,.d A3]) rfl rfl rfl x9) g2⟩
 have hf:=b.few
 have hi:(D5 (mF (M1 1 R3 (B7 (A0 2) B8)))) [w0,.dat (.dct ks vs),.dat (dR s),.dat (.int acc),.dat (dR r)]=some ((R s).map dR,[w0,.dat (.dct ks vs),.dat (dR s),.dat (.int acc),.dat (dR r)]):=by
  generalize dR s=A at *;exact Q2 (G8 (BU (V7 (av:=[.d A]) rfl rfl rfl er))) rfl
 have cc:=Iq (α:=List Int) (mi:=D5 (mF (M1 1 R3 (B7 (A0 2) B8)))) (keep:=[false,true,true,false,true]) (t:=mT (B5 AI (A0 5) (A0 4))) (m:=B5 BA (A0 1) (c9 2 R4 (B7 (A0 2) (B7 (A0 5) B8)))) (env:=[w0,.dat (.dct ks vs),.dat (dR s),.dat (.int acc),.dat (dR r)]) (base:=[.nil,.dat (.dct ks vs),.dat (dR s),.nil,.dat (dR r)]) (l:=R s) (q:=dR) (f:=fun a=>D.int (wt s a)) (p:=nI r) (k:=5) hi (by omega) rfl rfl hel (fun w=>rfl)
 have hs:M7 [.lst (((R s).filter (nI r)).map fun r=>D.int (wt s r))]=some (.int (sm (wt s) ((R s).filter (nI r)))):=by
  have e:(((R s).filter (nI r)).map fun r=>D.int (wt s r))=(((R s).filter (nI r)).map (wt s)).map D.int:=by rw[Zz];rfl
  rw[e,GJ];rfl
 generalize D.dct ks vs=C at *;generalize dR (E9 s r)=A2 at *;generalize dR s=A at *;generalize dR r=A4 at *;exact E8 (N6 (d:=.int (acc+sm (wt s) ((R s).filter (nI r)))) (e1:=[w0,.dat C,.dat A,.dat (.int acc),.dat A4]) (D0 rfl (K3 (C7 (G8 cc) rfl) hs) rfl) rfl) (N6 (d:=A2) (e1:=[w0,.dat C,.dat A,.dat (.int (acc+sm (wt s) ((R s).filter (nI r)))),.dat A4]) (K4 (av:=[.d A,.d A4]) rfl rfl rfl eh) rfl)
theorem Rl(hv:∀s∈m5 n,n5 ks vs s=some (.int (Wy s))){w0:W}:∀{T:OI}{s:List Int}{acc:Int}{w4:W},Bt n s->tJ s T->∃s' w4',loop (gN 4) nB (T.map dR) [w0,.dat (.dct ks vs),.dat (dR s),.dat (.int acc),w4]=some (.nx,[w0,.dat (.dct ks vs),.dat (dR s'),.dat (.int (acc+num s T)),w4'])
 |[],s,acc,w4,b,_=>⟨s,w4,by rw[show num s []=0 from rfl,Int.add_zero];rfl⟩
 |r::T,s,acc,w4,b,h=>by
  obtain⟨hr,h2⟩:=h;obtain⟨s',w4',q⟩:=Rl hv (w0:=w0) (T:=T) (acc:=acc+sm (wt s) ((R s).filter (nI r))) (w4:=.dat (dR r)) (b.row hr).2.2 h2;refine⟨s',w4',X6 (g:=gN 4) (e1:=[w0,.dat (.dct ks vs),.dat (dR s),.dat (.int acc),.dat (dR r)]) rfl (lU hv b hr) ?_⟩;rw[q];show _=some (Fl.nx,[w0,.dat (.dct ks vs),.dat (dR s'),.dat (.int (acc+(sm (wt s) ((R s).filter (nI r))+num (E9 s r) T))),w4']);rw[Int.add_assoc]
theorem Rm(hv:∀s∈m5 n,n5 ks vs s=some (.int (Wy s))){f:OO}(h1:1≤n)(h6:n≤6)(F:m7 n f):∃ws,BK [.dat (dT (gm n n f)),.dat (.dct ks vs)]=some (.d (.int (num (zs n) (gm n n f))),ws):=by
 have hp:=F.pth h1 h6 n 0 (by omega) (by omega)
 rw[wB,wD]at hp;obtain⟨s',w4',q⟩:=Rl hv (w0:=.dat (dT (gm n n f))) (T:=gm n n f) (acc:=0) (w4:=.nil) (uQ h1 h6) hp;rw[Int.zero_add]at q;have hz:=Rc h1 h6;have hl:E6 [dT (gm n n f)]=some (.int (n:Int)):=by
  show some (D.int (((gm n n f).map dR).length:Nat))=_;rw[Qk,W4]
 have hit:(dT (gm n n f)).items=some ((gm n n f).map dR):=rfl
 generalize D.dct ks vs=C at *;generalize dT (gm n n f)=A at *;refine⟨_,GK (env:=[.dat A,.dat C,.dat (dR s'),.dat (.int (num (zs n) (gm n n f))),w4']) ?_ rfl⟩;show Kj [.dat A,.dat C,.nil,.nil,.nil]=_;unfold Kj;refine E8 (N6 (d:=dR (zs n)) (e1:=[.dat A,.dat C,.nil,.nil,.nil]) (e2:=[.dat A,.dat C,.dat (dR (zs n)),.nil,.nil]) (D0 rfl (K3 (C7 rfl rfl) hl) hz) rfl) ?_
 refine E8 (e1:=[.dat A,.dat C,.dat (dR (zs n)),.dat (.int 0),.nil]) rfl ?_
 exact E8 ((V6 (Q2 rfl hit)).trans q) (N9 rfl)
def fD:OO:=fun i j=>if i=j then 1 else 0
def fA(n:Nat):OO:=fun i j=>fD (n-1-i) j
theorem lV(h1:1≤n)(h6:n≤6):m7 n fD:=by
 rcases(by omega:n=1\/n=2\/n=3\/n=4\/n=5\/n=6)with rfl|rfl|rfl|rfl|rfl|rfl<;>exact⟨by decide,by decide,by decide,by decide⟩
theorem lW(h1:1≤n)(h6:n≤6):m7 n (fA n):=by
 rcases(by omega:n=1\/n=2\/n=3\/n=4\/n=5\/n=6)with rfl|rfl|rfl|rfl|rfl|rfl<;>exact⟨by decide,by decide,by decide,by decide⟩
theorem lX(h1:1≤n)(h6:n≤6):(gm n n fD).reverse=gm n n (fA n):=by
 rcases(by omega:n=1\/n=2\/n=3\/n=4\/n=5\/n=6)with rfl|rfl|rfl|rfl|rfl|rfl<;>decide
theorem lY{R:OI}(hl:R.length≤1000)(hr:∀r∈R,r.length≤1000):∃ws,Q1 6 [.dat (dT R),.dat (dT R)]=some (.d (.bl true),ws):=
 Rb (k:=5) (by rw[Qk];exact hl) fun x hx=>by
  obtain⟨r,h,rfl⟩:=Qa.mp hx;exact lP (k:=3) (hr r h)
theorem lZ:i9 true (.str "table") (.str "table")=some (.bl false):=LJ (by rfl')
theorem mB:i9 true (.str "number") (.str "number")=some (.bl false):=LJ (by rfl')
theorem mD:i9 true .non .non=some (.bl false):=LJ (by rfl')
theorem mE:Z2 (some ("NoTable":Str))=some (.str "table"):=Rh (by rfl')
theorem mG:Z2 (some ("NoNumber":Str))=some (.str "number"):=Rh (by rfl')
theorem mH:Z2 none=some .non:=lT (by rfl')
theorem LK{m:Mo Fl}(hx:∀e,x e=none)(hy:∀e,y e=none)(e:b0):T0 x m y e=none:=by
 unfold T0;rw[hx];dsimp only;split
 ·exact hy _
 ·rfl
theorem mI{m:Mo Fl}(hx:x e=none)(hy:∀e,y e=none):T0 x m y e=none:=by
 unfold T0;rw[hx];dsimp only;split
 ·exact hy _
 ·rfl
theorem gmt(d:D):Eb [.dat d]=if pS d then none else some ("NoTable":Str):=by
 have h:=Pf d
 have e3:(G9 (mT (c9 1 CP (B7 (A0 0) B8)))) [.dat d]=some (!pS d,[.dat d]):=Av (N4 (K4 (av:=[.d d]) rfl rfl rfl h))
 show KP [.dat d]=_;unfold KP;cases ht:pS d with
 |true=>rw[ht]at e3;exact lS e3 rfl
 |false=>rw[ht]at e3;exact lR e3 rfl
theorem xI(d:D):CU [.dat d]=if pS d then none else some ("NoTable":Str):=by
 have hg:=gmt d
 show Ka [.dat d,.nil,.nil,.nil,.nil]=_;unfold Ka;cases ht:pS d with
 |false=>
  rw[ht]at hg;exact LI (Bc (av:=[.d d]) rfl rfl rfl hg)
 |true=>
  rw[ht]at hg;have hx:(V8 1 Eb (B7 (A0 0) B8)) [.dat d,.nil,.nil,.nil,.nil]=none:=Bc (av:=[.d d]) rfl rfl rfl hg;exact mI hx (LK (x:=rV) (fun _=>rfl) (LK (x:=rV) (fun _=>rfl) (LK (x:=rV) (y:=rV) (fun _=>rfl) (fun _=>rfl))))
abbrev uR:List D:=[.int 0,.int 7,.int (-1),.bl true,.bl false,.non,.str "2",.tup [.int 2],.int 100000000000000000000000000000,.lst [.int 1]]
theorem mJ:(uR.all fun o=>Gm (CQ [.dat o,.dat (.int 1),.dat (.int 6),.dat (.str "side")]))=true:=by rfl'
abbrev uS(n:Nat):List D:=[.int (Wy (zs n)),.int (-1),.bl true,.non,.str "0",.tup [.int 0],.int 100000000000000000000000000000]
theorem mK:∀n,n<7->((uS n).all fun o=>Gm (CQ [.dat o,.dat (.int 0),.dat (.int (Wy (zs n)-1)),.dat (.str "number")]))=true:=by rfl'
theorem Rn{o:D}(h:o∈uR):Bd [.dat o,.dat d]=some ("NoNumber":Str):=by
 have q:=Rf (Qx.mp mJ o h)
 show Ee [.dat o,.dat d]=_;unfold Ee;exact LI (Bc (av:=[.d o,.d (.int 1),.d (.int 6),.d (.str "side")]) rfl rfl rfl q)
theorem mbw(h1:1≤n)(h6:n≤6):BF [.dat (.int (n:Int)),.dat (.int 1),.dat (.int 6),.dat (.str "side")]=some (.d .non,[.dat (.int (n:Int)),.dat (.int 1),.dat (.int 6),.dat (.str "side")]):=by
 rcases(by omega:n=1\/n=2\/n=3\/n=4\/n=5\/n=6)with rfl|rfl|rfl|rfl|rfl|rfl<;>rfl
theorem xJ(h1:1≤n)(h6:n≤6):CQ [.dat (.int (n:Int)),.dat (.int 1),.dat (.int 6),.dat (.str "side")]=none:=by
 rcases(by omega:n=1\/n=2\/n=3\/n=4\/n=5\/n=6)with rfl|rfl|rfl|rfl|rfl|rfl<;>rfl
theorem mL(h1:1≤n)(h6:n≤6)(h:d∈uS n):Bd [.dat (.int (n:Int)),.dat d]=some ("NoNumber":Str):=by
 have q:=Rf (Qx.mp (mK n (by omega)) d h)
 obtain⟨wc,ec⟩:=RF (n:=n) (z:=(n:Int)) rfl h1 (by omega)
 rw[←xH h1 h6]at ec;show Ee [.dat (.int (n:Int)),.dat d]=_;unfold Ee;refine lQ (e1:=[.dat (.int (n:Int)),.dat d]) (Bc (av:=[.d (.int (n:Int)),.d (.int 1),.d (.int 6),.d (.str "side")]) rfl rfl rfl (xJ h1 h6)) (Fd (K4 (av:=[.d (.int (n:Int)),.d (.int 1),.d (.int 6),.d (.str "side")]) rfl rfl rfl (mbw h1 h6))) (LI (Bc (av:=[.d d,.d (.int 0),.d (.int (Wy (zs n)-1)),.d (.str "number")]) (e1:=[.dat (.int (n:Int)),.dat d]) ?_ rfl rfl q));exact T2 (e1:=[.dat (.int (n:Int)),.dat d]) rfl (T2 (e1:=[.dat (.int (n:Int)),.dat d]) rfl (T2 (e1:=[.dat (.int (n:Int)),.dat d]) (D0 (e1:=[.dat (.int (n:Int)),.dat d]) (K4 (av:=[.d (.int (n:Int))]) rfl rfl rfl ec) rfl rfl) rfl))
abbrev fr(w0 w1 w2 w3 w4 w5 w6 w7 w8 w9 w10 w11 w12 w13 w14 w15 w16:W):b0:=[w0,w1,w2,w3,w4,w5,w6,w7,w8,w9,w10,w11,w12,w13,w14,w15,w16]
section
variable{w4 w9 w10 w11 w12 w13 w14 w15 w16:W}
abbrev b4:Mo Fl:=(C3 (C9 16 (B5 i8 (mF (F6 (B0 (mC .non) (B0 (mC (.str "table")) B4)))) (d5 U2 (B0 (AS (c9 1 Af (B7 (A0 11) B8))) B4)))) (G0 (mT (B5 (i9 true) (Y6 xN [false,false,false,false,false,false,false,false,false,false,false,true,false,false,false,false,false] (c9 1 Ae (B7 (A0 11) B8)) (V8 1 CU (B7 (A0 11) B8)) Z2) (A0 16))) (E1 (mC (.bl false))) nD))
abbrev rfN:Mo D:=Y6 xN [false,false,false,false,false,false,false,false,false,false,false,true,false,false,false,false,false] (c9 1 Ae (B7 (A0 11) B8)) (V8 1 CU (B7 (A0 11) B8)) Z2
theorem LL(d:D):∃x16,b4 (fr w0 w1 w2 w3 w4 w5 w6 w7 w8 w9 w10 (.dat d) w12 w13 w14 w15 w16)=some (.nx,fr w0 w1 w2 w3 w4 w5 w6 w7 w8 w9 w10 (.dat d) w12 w13 w14 w15 x16):=by
 have ht:=QB d
 have hg:=xI d
 obtain⟨wd,hs,hw,hr⟩:∃wd,(C9 16 (B5 i8 (mF (F6 (B0 (mC .non) (B0 (mC (.str "table")) B4)))) (d5 U2 (B0 (AS (c9 1 Af (B7 (A0 11) B8))) B4)))) (fr w0 w1 w2 w3 w4 w5 w6 w7 w8 w9 w10 (.dat d) w12 w13 w14 w15 w16)=some (.nx,fr w0 w1 w2 w3 w4 w5 w6 w7 w8 w9 w10 (.dat d) w12 w13 w14 w15 (.dat wd))/\i9 true wd wd=some (.bl false)/\rfN (fr w0 w1 w2 w3 w4 w5 w6 w7 w8 w9 w10 (.dat d) w12 w13 w14 w15 (.dat wd))=some (wd,fr w0 w1 w2 w3 w4 w5 w6 w7 w8 w9 w10 (.dat d) w12 w13 w14 w15 (.dat wd)):=by
  cases hT:pS d with
  |true=>
   rw[hT]at ht hg;refine⟨.non,N6 (e1:=fr w0 w1 w2 w3 w4 w5 w6 w7 w8 w9 w10 (.dat d) w12 w13 w14 w15 w16) (d:=.non) (D0 (G8 (U9 (C7 rfl (C7 rfl rfl)) (by simp))) (K3 (d:=.int 0) (C7 (Oh (b:=true) (K4 (av:=[.d d]) rfl rfl rfl ht)) rfl) rfl) rfl) rfl,mD,?_⟩
   obtain⟨m,g,a1,a2,G,rfl⟩:=lO hT;have en:=RK a1 a2 G;generalize dT (gm m m g)=A at *;exact dA (lw:=[.nil,.nil,.nil,.nil,.nil,.nil,.nil,.nil,.nil,.nil,.nil,.dat A,.nil,.nil,.nil,.nil,.nil]) rfl (Bc (av:=[.d A]) rfl rfl rfl hg) (K4 (av:=[.d A]) rfl rfl rfl en) mH
  |false=>
   rw[hT]at ht hg;exact⟨.str "table",N6 (e1:=fr w0 w1 w2 w3 w4 w5 w6 w7 w8 w9 w10 (.dat d) w12 w13 w14 w15 w16) (d:=.str "table") (D0 (G8 (U9 (C7 rfl (C7 rfl rfl)) (by simp))) (K3 (d:=.int 1) (C7 (Oh (b:=false) (K4 (av:=[.d d]) rfl rfl rfl ht)) rfl) rfl) rfl) rfl,lZ,Oe (lw:=[.nil,.nil,.nil,.nil,.nil,.nil,.nil,.nil,.nil,.nil,.nil,.dat d,.nil,.nil,.nil,.nil,.nil]) rfl (Bc (av:=[.d d]) rfl rfl rfl hg) (by rfl') mE⟩
 exact⟨_,E8 hs (X4 (N4 (D0 hr rfl hw)) rfl)⟩
abbrev b3:Mo Fl:=(G0 (mT (B5 (i9 true) (Y6 xN [false,false,false,false,false,false,false,false,false,false,false,false,false,false,true,true,false] (c9 2 Z1 (B7 (A0 14) (B7 (A0 15) B8))) (V8 2 Bd (B7 (A0 14) (B7 (A0 15) B8))) Z2) (mC (.str "number")))) (E1 (mC (.bl false))) nD)
theorem LM{o x:D}(h:Bd [.dat o,.dat x]=some ("NoNumber":Str)):b3 (fr w0 w1 w2 w3 w4 w5 w6 w7 w8 w9 w10 w11 w12 w13 (.dat o) (.dat x) w16)=some (.nx,fr w0 w1 w2 w3 w4 w5 w6 w7 w8 w9 w10 w11 w12 w13 (.dat o) (.dat x) w16):=
 X4 (N4 (D0 (Oe (lw:=[.nil,.nil,.nil,.nil,.nil,.nil,.nil,.nil,.nil,.nil,.nil,.nil,.nil,.nil,.dat o,.dat x,.nil]) rfl (Bc (av:=[.d o,.d x]) rfl rfl rfl h) (by rfl') mG) rfl mB)) rfl
abbrev b2:Mo Fl:=(C3 (C9 13 (c9 2 Z1 (B7 (A0 3) (B7 (A0 8) B8)))) (G0 (J9 (G9 (mT (c9 1 Af (B7 (A0 13) B8)))) (J9 (mT (B5 (i9 true) (d5 E6 (B0 (A0 13) B4)) (A0 3))) (mT (B5 (i9 true) (c9 2 BK (B7 (A0 13) (B7 (A0 4) B8))) (A0 8))))) (E1 (mC (.bl false))) nD))
theorem LN(hv:∀s∈m5 n,n5 ks vs s=some (.int (Wy s)))(h1:1≤n)(h6:n≤6){m:Int}(m0:0≤m)(m1:m<Wy (zs n)):∃x13,b2 (fr w0 w1 w2 (.dat (.int (n:Int))) (.dat (.dct ks vs)) w5 w6 w7 (.dat (.int m)) w9 w10 w11 w12 w13 w14 w15 w16)=some (.nx,fr w0 w1 w2 (.dat (.int (n:Int))) (.dat (.dct ks vs)) w5 w6 w7 (.dat (.int m)) w9 w10 w11 w12 x13 w14 w15 w16):=by
 obtain⟨wE,eE⟩:=RL h1 h6 m0 m1;obtain⟨h,eh,H,nh⟩:=RO h1 h6 m0 m1;rw[eh]at eE;have ht:=QB (dT (gm n n h));rw[Et.mpr ⟨⟨h1,h6⟩,H⟩]at ht;obtain⟨wn,en⟩:=Rm hv h1 h6 H;rw[nh]at en;have hl:E6 [dT (gm n n h)]=some (.int (n:Int)):=by
  show some (D.int (((gm n n h).map dR).length:Nat))=_;rw[Qk,W4]
 have q1:i9 true (.int (n:Int)) (.int (n:Int))=some (.bl false):=by rw[Fa];simp
 have q2:i9 true (.int m) (.int m)=some (.bl false):=by rw[Fa];simp
 generalize dT (gm n n h)=A at *;generalize D.dct ks vs=C at *;refine⟨.dat A,E8 (N6 (e1:=fr w0 w1 w2 (.dat (.int (n:Int))) (.dat C) w5 w6 w7 (.dat (.int m)) w9 w10 w11 w12 w13 w14 w15 w16) (d:=A) (K4 (av:=[.d (.int (n:Int)),.d (.int m)]) rfl rfl rfl eE) rfl) ?_⟩;exact X4 (DN (Av (b:=true) (N4 (K4 (av:=[.d A]) rfl rfl rfl ht))) (DN (N4 (D0 (K3 (C7 rfl rfl) hl) rfl q1)) (N4 (D0 (K4 (av:=[.d A,.d C]) rfl rfl rfl en) rfl q2)))) rfl
abbrev b1:Mo Fl:=(C3 (C9 12 (c9 2 BK (B7 (A0 7) (B7 (A0 4) B8)))) (G0 (J9 (G9 (mT (c9 2 (Q1 6) (B7 (c9 1 Ae (B7 (A0 7) B8)) (B7 (A0 12) B8))))) (G9 (mT (c9 2 (Q1 6) (B7 (c9 2 Z1 (B7 (A0 3) (B7 (A0 12) B8))) (B7 (A0 7) B8)))))) (E1 (mC (.bl false))) nD))
theorem LO(hv:∀s∈m5 n,n5 ks vs s=some (.int (Wy s)))(h1:1≤n)(h6:n≤6){f:OO}(F:m7 n f):∃x12,b1 (fr w0 w1 w2 (.dat (.int (n:Int))) (.dat (.dct ks vs)) w5 w6 (.dat (dT (gm n n f))) w8 w9 w10 w11 w12 w13 w14 w15 w16)=some (.nx,fr w0 w1 w2 (.dat (.int (n:Int))) (.dat (.dct ks vs)) w5 w6 (.dat (dT (gm n n f))) w8 w9 w10 w11 x12 w13 w14 w15 w16):=by
 obtain⟨wn,en⟩:=Rm hv h1 h6 F;have nf:=RK h1 h6 F;obtain⟨f0,f1⟩:=lC h1 h6 F;obtain⟨wC,eC⟩:=RL h1 h6 f0 f1;rw[back h1 h6 F]at eC;have si:=Ra 5 (num (zs n) (gm n n f));obtain⟨wt,st⟩:=lY (R:=gm n n f) (by rw[W4];omega) (fun r hr=>by rw[DZ r hr];omega)
 generalize num (zs n) (gm n n f)=xf at *;generalize dT (gm n n f)=A at *;generalize D.dct ks vs=C at *;refine⟨.dat (.int xf),E8 (N6 (e1:=fr w0 w1 w2 (.dat (.int (n:Int))) (.dat C) w5 w6 (.dat A) w8 w9 w10 w11 w12 w13 w14 w15 w16) (d:=.int xf) (K4 (av:=[.d A,.d C]) rfl rfl rfl en) rfl) ?_⟩;exact X4 (DN (Av (b:=true) (N4 (K4 (av:=[.d (.int xf),.d (.int xf)]) (T2 (K4 (av:=[.d A]) rfl rfl rfl nf) (T2 rfl rfl)) rfl rfl si))) (Av (b:=true) (N4 (K4 (av:=[.d A,.d A]) (T2 (K4 (av:=[.d (.int (n:Int)),.d (.int xf)]) rfl rfl rfl eC) (T2 rfl rfl)) rfl rfl st)))) rfl
theorem mM(h1:1≤n)(h6:n≤6):((C9 6 (d5 P8 (B0 (mF (D8 (N0 (B0 (A0 3) B4)) [false,false,false,true,false,false,false,false,false,false,false,false,false,false,false,false,false] 1 (gN 17) F1 (d5 P8 (B0 (mF (D8 (N0 (B0 (A0 3) B4)) [false,false,false,false,false,false,false,false,false,false,false,false,false,false,false,false,false,true] 1 (gN 18) F1 (d5 U2 (B0 (B5 (i9 false) (A0 17) (A0 18)) B4)))) B4)))) B4)))) (fr w0 w1 w2 (.dat (.int (n:Int))) w4 w5 w6 w7 w8 w9 w10 w11 w12 w13 w14 w15 w16)=some (.nx,fr w0 w1 w2 (.dat (.int (n:Int))) w4 w5 (.dat (dT (gm n n fD))) w7 w8 w9 w10 w11 w12 w13 w14 w15 w16):=by
 have hel:∀i∈List.range n,∀j∈List.range n,(d5 U2 (B0 (B5 (i9 false) (A0 17) (A0 18)) B4)) ([.nil,.nil,.nil,.nil,.nil,.nil,.nil,.nil,.nil,.nil,.nil,.nil,.nil,.nil,.nil,.nil,.nil,.dat (.int ((i:Nat):Int))]++[.dat (.int ((j:Nat):Int))])=some (.int (fD i j),[.nil,.nil,.nil,.nil,.nil,.nil,.nil,.nil,.nil,.nil,.nil,.nil,.nil,.nil,.nil,.nil,.nil,.dat (.int ((i:Nat):Int))]++[.dat (.int ((j:Nat):Int))]):=fun i _ j _=>by
  refine K3 (C7 (D0 (a:=.int (i:Int)) (b:=.int (j:Int)) rfl rfl (Fa false _ _)) rfl) ?_
  show some (D.int (if((i:Int)==(j:Int))=true then 1 else 0))=_
  unfold fD
  by_cases h:i=j
  ·subst h;simp
  ·rw[Qs h,Qs (by rw[Yi];omega)]
 have hin:∀i∈List.range n,(d5 P8 (B0 (mF (D8 (N0 (B0 (A0 3) B4)) [false,false,false,false,false,false,false,false,false,false,false,false,false,false,false,false,false,true] 1 (gN 18) F1 (d5 U2 (B0 (B5 (i9 false) (A0 17) (A0 18)) B4)))) B4)) ([.nil,.nil,.nil,.dat (.int (n:Int)),.nil,.nil,.nil,.nil,.nil,.nil,.nil,.nil,.nil,.nil,.nil,.nil,.nil]++[.dat (.int ((i:Nat):Int))])=some (dR (rw' n (fD i)),[.nil,.nil,.nil,.dat (.int (n:Int)),.nil,.nil,.nil,.nil,.nil,.nil,.nil,.nil,.nil,.nil,.nil,.nil,.nil]++[.dat (.int ((i:Nat):Int))]):=fun i hi=>
  K3 (C7 (G8 (CM (α:=Nat) (l:=List.range n) (q:=fun j=>.int (j:Int)) (f:=fun j=>.int (fD i j)) (base:=[.nil,.nil,.nil,.nil,.nil,.nil,.nil,.nil,.nil,.nil,.nil,.nil,.nil,.nil,.nil,.nil,.nil,.dat (.int ((i:Nat):Int))]) (k:=18) (DL (n:=n) rfl rfl (by omega)) (by simp;omega) rfl rfl (hel i hi) (fun w=>rfl))) rfl) (by show some (D.tup _)=_;unfold dR rw';rw[Zz];rfl)
 refine N6 (d:=dT (gm n n fD)) (e1:=fr w0 w1 w2 (.dat (.int (n:Int))) w4 w5 w6 w7 w8 w9 w10 w11 w12 w13 w14 w15 w16) (K3 (C7 (G8 (CM (α:=Nat) (l:=List.range n) (q:=fun j=>.int (j:Int)) (f:=fun i=>dR (rw' n (fD i))) (base:=[.nil,.nil,.nil,.dat (.int (n:Int)),.nil,.nil,.nil,.nil,.nil,.nil,.nil,.nil,.nil,.nil,.nil,.nil,.nil]) (k:=17) (DL (n:=n) rfl rfl (by omega)) (by simp;omega) rfl rfl hin (fun w=>rfl))) rfl) ?_) rfl
 show some (D.tup _)=_;unfold dT gm;rw[Zz]
 rfl
end
abbrev lw:Mo Fl:=(C3 (O2 2 (M1 2 Ei (B7 (A0 0) (B7 (A0 1) B8)))) (C3 (C9 3 (B5 D3 (mC (.int 1)) (c9 2 K1 (F7 2 (B7 (mC (.int 6)) B8))))) (C3 (C9 4 (c9 1 Ek (B7 (A0 3) B8))) (C3 (C9 5 (B5 BA (A0 4) (B5 K7 (D6 (B0 (mC (.int 0)) B4)) (A0 3)))) (C3 (C9 6 (d5 P8 (B0 (mF (D8 (N0 (B0 (A0 3) B4)) [false,false,false,true,false,false,false,false,false,false,false,false,false,false,false,false,false] 1 (gN 17) F1 (d5 P8 (B0 (mF (D8 (N0 (B0 (A0 3) B4)) [false,false,false,false,false,false,false,false,false,false,false,false,false,false,false,false,false,true] 1 (gN 18) F1 (d5 U2 (B0 (B5 (i9 false) (A0 17) (A0 18)) B4)))) B4)))) B4))) (C3 (K6 (D5 (mF (F6 (B0 (A0 6) (B0 (Au (A0 6)) (B0 (c9 2 DU (F7 2 (B7 (A0 3) B8))) B4)))))) (gN 7) (C3 (C9 12 (c9 2 BK (B7 (A0 7) (B7 (A0 4) B8)))) (G0 (J9 (G9 (mT (c9 2 (Q1 6) (B7 (c9 1 Ae (B7 (A0 7) B8)) (B7 (A0 12) B8))))) (G9 (mT (c9 2 (Q1 6) (B7 (c9 2 Z1 (B7 (A0 3) (B7 (A0 12) B8))) (B7 (A0 7) B8)))))) (E1 (mC (.bl false))) nD))) (C3 (K6 (D5 (mF (F6 (B0 (mC (.int 0)) (B0 (B5 T4 (A0 5) (mC (.int 1))) (B0 (c9 2 K1 (F7 2 (B7 (A0 5) B8))) B4)))))) (gN 8) (C3 (C9 13 (c9 2 Z1 (B7 (A0 3) (B7 (A0 8) B8)))) (G0 (J9 (G9 (mT (c9 1 Af (B7 (A0 13) B8)))) (J9 (mT (B5 (i9 true) (d5 E6 (B0 (A0 13) B4)) (A0 3))) (mT (B5 (i9 true) (c9 2 BK (B7 (A0 13) (B7 (A0 4) B8))) (A0 8))))) (E1 (mC (.bl false))) nD))) (C3 (C9 9 (B5 i8 (mF (F6 (B0 (mC (.int 0)) (B0 (mC (.int 7)) (B0 (M5 (mC (.int 1))) (B0 (mC (.bl true)) (B0 (mC (.bl false)) (B0 (mC .non) (B0 (mC (.str "2")) (B0 (D6 (B0 (mC (.int 2)) B4)) (B0 (B5 R6 (mC (.int 10)) (mC (.int 29))) (B0 (mF (F6 (B0 (mC (.int 1)) B4))) B4)))))))))))) (c9 2 K1 (F7 2 (B7 (mC (.int 10)) B8))))) (C3 (C9 10 (B5 i8 (mF (F6 (B0 (A0 5) (B0 (M5 (mC (.int 1))) (B0 (mC (.bl true)) (B0 (mC .non) (B0 (mC (.str "0")) (B0 (D6 (B0 (mC (.int 0)) B4)) (B0 (B5 R6 (mC (.int 10)) (mC (.int 29))) B4))))))))) (c9 2 K1 (F7 2 (B7 (mC (.int 7)) B8))))) (C3 (K6 (D5 (mF (F6 (B0 (D6 (B0 (A0 9) (B0 (mC (.int 0)) B4))) (B0 (D6 (B0 (A0 3) (B0 (A0 10) B4))) (B0 (D6 (B0 (A0 9) (B0 (A0 10) B4))) B4)))))) (gT 2 (l0 (gN 14) (l0 (gN 15) oY))) (G0 (mT (B5 (i9 true) (Y6 xN [false,false,false,false,false,false,false,false,false,false,false,false,false,false,true,true,false] (c9 2 Z1 (B7 (A0 14) (B7 (A0 15) B8))) (V8 2 Bd (B7 (A0 14) (B7 (A0 15) B8))) Z2) (mC (.str "number")))) (E1 (mC (.bl false))) nD)) (K6 (D5 (mF (F6 (B0 (c9 2 BJ (F7 2 (B7 (A0 7) B8))) (B0 (c9 2 BJ (F7 2 (B7 (A0 7) B8))) (B0 (c9 1 DV (F7 2 B8)) B4)))))) (gN 11) (C3 (C9 16 (B5 i8 (mF (F6 (B0 (mC .non) (B0 (mC (.str "table")) B4)))) (d5 U2 (B0 (AS (c9 1 Af (B7 (A0 11) B8))) B4)))) (G0 (mT (B5 (i9 true) (Y6 xN [false,false,false,false,false,false,false,false,false,false,false,true,false,false,false,false,false] (c9 1 Ae (B7 (A0 11) B8)) (V8 1 CU (B7 (A0 11) B8)) Z2) (A0 16))) (E1 (mC (.bl false))) nD)))))))))))))
theorem mO(h1:1≤n)(h6:n≤6):1≤Wy (zs n)/\Wy (zs n)<1073741824:=by
 rcases(by omega:n=1\/n=2\/n=3\/n=4\/n=5\/n=6)with rfl|rfl|rfl|rfl|rfl|rfl<;>rfl'
theorem mP(ns:List Int)(k:Nat)(hk:k<1000)(w2 w3 w4 w5 w6 w7 w8 w9 w10 w11 w12 w13 w14 w15 w16:W):∃ws':List W,ws'.length=16/\lw (fr (.dat (.lst (ns.map .int))) (.dat (.int k)) w2 w3 w4 w5 w6 w7 w8 w9 w10 w11 w12 w13 w14 w15 w16)=some (.nx,.dat (.lst (ns.map .int))::ws'):=by
 obtain⟨a,b,a0,est⟩:=jA ns k hk;generalize D.lst (ns.map .int)=Z at *;obtain⟨v,a1,et,v0,v1,a10⟩:=AM (i:=2) (e:=fr (.dat Z) (.dat (.int k)) (.own [.int a,.bl b]) w3 w4 w5 w6 w7 w8 w9 w10 w11 w12 w13 w14 w15 w16) (w:=.own [.int a,.bl b]) (a:=a) (k:=6) (b:=b) (M:=mC (.int 6)) rfl rfl rfl a0 (by decide) (by decide)
 obtain⟨n,hn⟩:∃n:Nat,(1:Int)+v=(n:Int):=⟨(1+v).toNat,by omega⟩
 have h1:1≤n:=by omega
 have h6:n≤6:=by omega
 obtain⟨vs,wsC,eC,hv⟩:=lL h1 h6;obtain⟨T,a2,eT,a20,t1,l1⟩:=jQ (a:=a1) (b:=b) a10 h1 h6;obtain⟨f,rfl,F⟩:=t1.fn l1;have hz:=Rc h1 h6;have hW:=Rk hv (uQ h1 h6);obtain⟨hWp,hWl⟩:=mO h1 h6;have hpl:=mM (n:=n) (w0:=.dat Z) (w1:=.dat (.int k)) (w2:=.own [.int a1,.bl b]) (w4:=.dat (.dct (sl n) vs)) (w5:=.dat (.int (Wy (zs n)))) (w6:=w6) (w7:=w7) (w8:=w8) (w9:=w9) (w10:=w10) (w11:=w11) (w12:=w12) (w13:=w13) (w14:=w14) (w15:=w15) (w16:=w16) h1 h6;obtain⟨x1,q1⟩:=LO (w0:=.dat Z) (w1:=.dat (.int k)) (w2:=.own [.int a2,.bl b]) (w5:=.dat (.int (Wy (zs n)))) (w6:=.dat (dT (gm n n fD))) (w8:=w8) (w9:=w9) (w10:=w10) (w11:=w11) (w12:=w12) (w13:=w13) (w14:=w14) (w15:=w15) (w16:=w16) hv h1 h6 (lV h1 h6);obtain⟨x2,q2⟩:=LO (w0:=.dat Z) (w1:=.dat (.int k)) (w2:=.own [.int a2,.bl b]) (w5:=.dat (.int (Wy (zs n)))) (w6:=.dat (dT (gm n n fD))) (w8:=w8) (w9:=w9) (w10:=w10) (w11:=w11) (w12:=x1) (w13:=w13) (w14:=w14) (w15:=w15) (w16:=w16) hv h1 h6 (lW h1 h6);obtain⟨x3,q3⟩:=LO (w0:=.dat Z) (w1:=.dat (.int k)) (w2:=.own [.int a2,.bl b]) (w5:=.dat (.int (Wy (zs n)))) (w6:=.dat (dT (gm n n fD))) (w8:=w8) (w9:=w9) (w10:=w10) (w11:=w11) (w12:=x2) (w13:=w13) (w14:=w14) (w15:=w15) (w16:=w16) hv h1 h6 F;have hrev:Au (A0 6) (fr (.dat Z) (.dat (.int k)) (.own [.int a1,.bl b]) (.dat (.int (n:Int))) (.dat (.dct (sl n) vs)) (.dat (.int (Wy (zs n)))) (.dat (dT (gm n n fD))) w7 w8 w9 w10 w11 w12 w13 w14 w15 w16)=some (dT (gm n n (fA n)),fr (.dat Z) (.dat (.int k)) (.own [.int a1,.bl b]) (.dat (.int (n:Int))) (.dat (.dct (sl n) vs)) (.dat (.int (Wy (zs n)))) (.dat (dT (gm n n fD))) w7 w8 w9 w10 w11 w12 w13 w14 w15 w16):=by
  show some (D.tup ((gm n n fD).map dR).reverse,_)=_;rw[←List.map_reverse,lX h1 h6]
  rfl
 have loop1:loop (gN 7) b1 [dT (gm n n fD),dT (gm n n (fA n)),dT (gm n n f)] (fr (.dat Z) (.dat (.int k)) (.own [.int a2,.bl b]) (.dat (.int (n:Int))) (.dat (.dct (sl n) vs)) (.dat (.int (Wy (zs n)))) (.dat (dT (gm n n fD))) w7 w8 w9 w10 w11 w12 w13 w14 w15 w16)=some (.nx,fr (.dat Z) (.dat (.int k)) (.own [.int a2,.bl b]) (.dat (.int (n:Int))) (.dat (.dct (sl n) vs)) (.dat (.int (Wy (zs n)))) (.dat (dT (gm n n fD))) (.dat (dT (gm n n f))) w8 w9 w10 w11 x3 w13 w14 w15 w16):=X6 rfl q1 (X6 rfl q2 (X6 rfl q3 rfl))
 obtain⟨v3,a3,et3,v30,v31,a30⟩:=AM (i:=2) (e:=fr (.dat Z) (.dat (.int k)) (.own [.int a2,.bl b]) (.dat (.int (n:Int))) (.dat (.dct (sl n) vs)) (.dat (.int (Wy (zs n)))) (.dat (dT (gm n n fD))) (.dat (dT (gm n n f))) w8 w9 w10 w11 x3 w13 w14 w15 w16) (w:=.own [.int a2,.bl b]) (a:=a2) (k:=Wy (zs n)) (b:=b) (M:=A0 5) rfl rfl rfl a20 hWp hWl;obtain⟨y1,r1⟩:=LN (w0:=.dat Z) (w1:=.dat (.int k)) (w2:=.own [.int a3,.bl b]) (w5:=.dat (.int (Wy (zs n)))) (w6:=.dat (dT (gm n n fD))) (w7:=.dat (dT (gm n n f))) (w9:=w9) (w10:=w10) (w11:=w11) (w12:=x3) (w13:=w13) (w14:=w14) (w15:=w15) (w16:=w16) hv h1 h6 (m:=0) (by omega) (by omega)
 obtain⟨y2,r2⟩:=LN (w0:=.dat Z) (w1:=.dat (.int k)) (w2:=.own [.int a3,.bl b]) (w5:=.dat (.int (Wy (zs n)))) (w6:=.dat (dT (gm n n fD))) (w7:=.dat (dT (gm n n f))) (w9:=w9) (w10:=w10) (w11:=w11) (w12:=x3) (w13:=y1) (w14:=w14) (w15:=w15) (w16:=w16) hv h1 h6 (m:=Wy (zs n)-1) (by omega) (by omega)
 obtain⟨y3,r3⟩:=LN (w0:=.dat Z) (w1:=.dat (.int k)) (w2:=.own [.int a3,.bl b]) (w5:=.dat (.int (Wy (zs n)))) (w6:=.dat (dT (gm n n fD))) (w7:=.dat (dT (gm n n f))) (w9:=w9) (w10:=w10) (w11:=w11) (w12:=x3) (w13:=y2) (w14:=w14) (w15:=w15) (w16:=w16) hv h1 h6 (m:=v3) (by omega) (by omega)
 have loop2:loop (gN 8) b2 [.int 0,.int (Wy (zs n)-1),.int v3] (fr (.dat Z) (.dat (.int k)) (.own [.int a3,.bl b]) (.dat (.int (n:Int))) (.dat (.dct (sl n) vs)) (.dat (.int (Wy (zs n)))) (.dat (dT (gm n n fD))) (.dat (dT (gm n n f))) w8 w9 w10 w11 x3 w13 w14 w15 w16)=some (.nx,fr (.dat Z) (.dat (.int k)) (.own [.int a3,.bl b]) (.dat (.int (n:Int))) (.dat (.dct (sl n) vs)) (.dat (.int (Wy (zs n)))) (.dat (dT (gm n n fD))) (.dat (dT (gm n n f))) (.dat (.int v3)) w9 w10 w11 x3 y3 w14 w15 w16):=X6 rfl r1 (X6 rfl r2 (X6 rfl r3 rfl))
 obtain⟨v4,a4,et4,v40,v41,a40⟩:=AM (i:=2) (e:=fr (.dat Z) (.dat (.int k)) (.own [.int a3,.bl b]) (.dat (.int (n:Int))) (.dat (.dct (sl n) vs)) (.dat (.int (Wy (zs n)))) (.dat (dT (gm n n fD))) (.dat (dT (gm n n f))) (.dat (.int v3)) w9 w10 w11 x3 y3 w14 w15 w16) (w:=.own [.int a3,.bl b]) (a:=a3) (k:=10) (b:=b) (M:=mC (.int 10)) rfl rfl rfl a30 (by decide) (by decide)
 obtain⟨o,ho,eo⟩:=CZ (ds:=uR) v40 v41;obtain⟨v5,a5,et5,v50,v51,a50⟩:=AM (i:=2) (e:=fr (.dat Z) (.dat (.int k)) (.own [.int a4,.bl b]) (.dat (.int (n:Int))) (.dat (.dct (sl n) vs)) (.dat (.int (Wy (zs n)))) (.dat (dT (gm n n fD))) (.dat (dT (gm n n f))) (.dat (.int v3)) (.dat o) w10 w11 x3 y3 w14 w15 w16) (w:=.own [.int a4,.bl b]) (a:=a4) (k:=7) (b:=b) (M:=mC (.int 7)) rfl rfl rfl a40 (by decide) (by decide)
 obtain⟨e,he,ee⟩:=CZ (ds:=uS n) v50 v51;have loop3:loop (gT 2 (l0 (gN 14) (l0 (gN 15) oY))) b3 [.tup [o,.int 0],.tup [.int (n:Int),e],.tup [o,e]] (fr (.dat Z) (.dat (.int k)) (.own [.int a5,.bl b]) (.dat (.int (n:Int))) (.dat (.dct (sl n) vs)) (.dat (.int (Wy (zs n)))) (.dat (dT (gm n n fD))) (.dat (dT (gm n n f))) (.dat (.int v3)) (.dat o) (.dat e) w11 x3 y3 w14 w15 w16)=some (.nx,fr (.dat Z) (.dat (.int k)) (.own [.int a5,.bl b]) (.dat (.int (n:Int))) (.dat (.dct (sl n) vs)) (.dat (.int (Wy (zs n)))) (.dat (dT (gm n n fD))) (.dat (dT (gm n n f))) (.dat (.int v3)) (.dat o) (.dat e) w11 x3 y3 (.dat o) (.dat e) w16):=X6 rfl (LM (Rn ho)) (X6 rfl (LM (mL h1 h6 he)) (X6 rfl (LM (Rn ho)) rfl));obtain⟨d1,a6,eb1,a60⟩:=RZ (a:=a5) (b:=b) h1 h6 (W4 (n:=n) (m:=n) (f:=f)) DZ a50;obtain⟨d2,a7,eb2,a70⟩:=RZ (a:=a6) (b:=b) h1 h6 (W4 (n:=n) (m:=n) (f:=f)) DZ a60;obtain⟨d3,a8,eb3,a80⟩:=lM (a:=a7) (b:=b) a70;obtain⟨z1,u1⟩:=LL (w0:=.dat Z) (w1:=.dat (.int k)) (w2:=.own [.int a8,.bl b]) (w3:=.dat (.int (n:Int))) (w4:=.dat (.dct (sl n) vs)) (w5:=.dat (.int (Wy (zs n)))) (w6:=.dat (dT (gm n n fD))) (w7:=.dat (dT (gm n n f))) (w8:=.dat (.int v3)) (w9:=.dat o) (w10:=.dat e) (w12:=x3) (w13:=y3) (w14:=.dat o) (w15:=.dat e) (w16:=w16) d1;obtain⟨z2,u2⟩:=LL (w0:=.dat Z) (w1:=.dat (.int k)) (w2:=.own [.int a8,.bl b]) (w3:=.dat (.int (n:Int))) (w4:=.dat (.dct (sl n) vs)) (w5:=.dat (.int (Wy (zs n)))) (w6:=.dat (dT (gm n n fD))) (w7:=.dat (dT (gm n n f))) (w8:=.dat (.int v3)) (w9:=.dat o) (w10:=.dat e) (w12:=x3) (w13:=y3) (w14:=.dat o) (w15:=.dat e) (w16:=z1) d2;obtain⟨z3,u3⟩:=LL (w0:=.dat Z) (w1:=.dat (.int k)) (w2:=.own [.int a8,.bl b]) (w3:=.dat (.int (n:Int))) (w4:=.dat (.dct (sl n) vs)) (w5:=.dat (.int (Wy (zs n)))) (w6:=.dat (dT (gm n n fD))) (w7:=.dat (dT (gm n n f))) (w8:=.dat (.int v3)) (w9:=.dat o) (w10:=.dat e) (w12:=x3) (w13:=y3) (w14:=.dat o) (w15:=.dat e) (w16:=z2) d3;have loop4:loop (gN 11) b4 [d1,d2,d3] (fr (.dat Z) (.dat (.int k)) (.own [.int a8,.bl b]) (.dat (.int (n:Int))) (.dat (.dct (sl n) vs)) (.dat (.int (Wy (zs n)))) (.dat (dT (gm n n fD))) (.dat (dT (gm n n f))) (.dat (.int v3)) (.dat o) (.dat e) w11 x3 y3 (.dat o) (.dat e) w16)=some (.nx,fr (.dat Z) (.dat (.int k)) (.own [.int a8,.bl b]) (.dat (.int (n:Int))) (.dat (.dct (sl n) vs)) (.dat (.int (Wy (zs n)))) (.dat (dT (gm n n fD))) (.dat (dT (gm n n f))) (.dat (.int v3)) (.dat o) (.dat e) (.dat d3) x3 y3 (.dat o) (.dat e) z3):=X6 rfl u1 (X6 rfl u2 (X6 rfl u3 rfl));refine⟨[.dat (.int k),.own [.int a8,.bl b],.dat (.int (n:Int)),.dat (.dct (sl n) vs),.dat (.int (Wy (zs n))),.dat (dT (gm n n fD)),.dat (dT (gm n n f)),.dat (.int v3),.dat o,.dat e,.dat d3,x3,y3,.dat o,.dat e,z3],rfl,?_⟩;change i8 (.lst [.int (Wy (zs n)),.int (-1),.bl true,.non,.str "0",.tup [.int 0],.int 100000000000000000000000000000]) (.int v5)=some e at ee;generalize D.dct (sl n) vs=C at *;generalize dT (gm n n fD)=TD at *;generalize dT (gm n n (fA n))=TA at *;generalize dT (gm n n f)=TF at *;generalize hWW:Wy (zs n)=WW at *;refine E8 (dF (e1:=fr (.dat Z) (.dat (.int k)) w2 w3 w4 w5 w6 w7 w8 w9 w10 w11 w12 w13 w14 w15 w16) (e2:=fr (.dat Z) (.dat (.int k)) (.own [.int a,.bl b]) w3 w4 w5 w6 w7 w8 w9 w10 w11 w12 w13 w14 w15 w16) (BU (V7 (av:=[.d Z,.d (.int k)]) rfl rfl rfl est)) rfl) ?_
 refine E8 (e1:=fr (.dat Z) (.dat (.int k)) (.own [.int a1,.bl b]) (.dat (.int (n:Int))) w4 w5 w6 w7 w8 w9 w10 w11 w12 w13 w14 w15 w16) (N6 (d:=.int (n:Int)) (D0 (e1:=fr (.dat Z) (.dat (.int k)) (.own [.int a,.bl b]) w3 w4 w5 w6 w7 w8 w9 w10 w11 w12 w13 w14 w15 w16) rfl et (by show some (D.int (1+v))=_;rw[hn])) rfl) ?_
 refine E8 (e1:=fr (.dat Z) (.dat (.int k)) (.own [.int a1,.bl b]) (.dat (.int (n:Int))) (.dat C) w5 w6 w7 w8 w9 w10 w11 w12 w13 w14 w15 w16) (N6 (e1:=fr (.dat Z) (.dat (.int k)) (.own [.int a1,.bl b]) (.dat (.int (n:Int))) w4 w5 w6 w7 w8 w9 w10 w11 w12 w13 w14 w15 w16) (d:=C) (K4 (av:=[.d (.int (n:Int))]) rfl rfl rfl eC) rfl) ?_
 refine E8 (e1:=fr (.dat Z) (.dat (.int k)) (.own [.int a1,.bl b]) (.dat (.int (n:Int))) (.dat C) (.dat (.int WW)) w6 w7 w8 w9 w10 w11 w12 w13 w14 w15 w16) (N6 (e1:=fr (.dat Z) (.dat (.int k)) (.own [.int a1,.bl b]) (.dat (.int (n:Int))) (.dat C) w5 w6 w7 w8 w9 w10 w11 w12 w13 w14 w15 w16) (d:=.int WW) (D0 rfl (D0 rfl rfl hz) hW) rfl) ?_
 refine E8 hpl ?_
 have tcall:(c9 2 DU (F7 2 (B7 (A0 3) B8))) (fr (.dat Z) (.dat (.int k)) (.own [.int a1,.bl b]) (.dat (.int (n:Int))) (.dat C) (.dat (.int WW)) (.dat TD) w7 w8 w9 w10 w11 w12 w13 w14 w15 w16)=some (TF,fr (.dat Z) (.dat (.int k)) (.own [.int a2,.bl b]) (.dat (.int (n:Int))) (.dat C) (.dat (.int WW)) (.dat TD) w7 w8 w9 w10 w11 w12 w13 w14 w15 w16):=
  R9 ((Cu (e1:=fr (.dat Z) (.dat (.int k)) (.own [.int a1,.bl b]) (.dat (.int (n:Int))) (.dat C) (.dat (.int WW)) (.dat TD) w7 w8 w9 w10 w11 w12 w13 w14 w15 w16) (w:=.own [.int a1,.bl b]) (av:=[.sl 2,.d (.int (n:Int))]) (i:=2) (c:=[.int a1,.bl b]) (c':=[.int a2,.bl b]) rfl rfl rfl rfl rfl eT rfl).trans rfl)
 refine E8 ((V6 (Q2 (G8 (U9 (C7 (d:=TD) rfl (C7 hrev (C7 tcall rfl))) (by simp))) rfl)).trans loop1) ?_
 refine E8 ((V6 (Q2 (G8 (U9 (C7 rfl (C7 (d:=.int (WW-1)) (D0 rfl rfl rfl) (C7 et3 rfl))) (by simp))) rfl)).trans loop2) ?_
 refine E8 (e1:=fr (.dat Z) (.dat (.int k)) (.own [.int a4,.bl b]) (.dat (.int (n:Int))) (.dat C) (.dat (.int WW)) (.dat TD) (.dat TF) (.dat (.int v3)) (.dat o) w10 w11 x3 y3 w14 w15 w16) (N6 (e1:=fr (.dat Z) (.dat (.int k)) (.own [.int a4,.bl b]) (.dat (.int (n:Int))) (.dat C) (.dat (.int WW)) (.dat TD) (.dat TF) (.dat (.int v3)) w9 w10 w11 x3 y3 w14 w15 w16) (d:=o) (D0 (G8 (U9 (C7 rfl (C7 rfl (C7 rfl (C7 rfl (C7 rfl (C7 rfl (C7 rfl (C7 rfl (C7 (D0 rfl rfl Gk) (C7 rfl rfl)))))))))) (by simp))) et4 eo) rfl) ?_
 refine E8 (e1:=fr (.dat Z) (.dat (.int k)) (.own [.int a5,.bl b]) (.dat (.int (n:Int))) (.dat C) (.dat (.int WW)) (.dat TD) (.dat TF) (.dat (.int v3)) (.dat o) (.dat e) w11 x3 y3 w14 w15 w16) (N6 (e1:=fr (.dat Z) (.dat (.int k)) (.own [.int a5,.bl b]) (.dat (.int (n:Int))) (.dat C) (.dat (.int WW)) (.dat TD) (.dat TF) (.dat (.int v3)) (.dat o) w10 w11 x3 y3 w14 w15 w16) (d:=e) (D0 (G8 (U9 (C7 rfl (C7 rfl (C7 rfl (C7 rfl (C7 rfl (C7 rfl (C7 (D0 rfl rfl Gk) rfl))))))) (by simp))) et5 ee) rfl) ?_
 refine E8 ((V6 (Q2 (G8 (U9 (C7 rfl (C7 rfl (C7 rfl rfl))) (by simp))) rfl)).trans loop3) ?_
 have call2:∀(p q:Int) (r:D),BJ [.par [.int p,.bl b],.dat TF]=some (.d r,[.par [.int q,.bl b],.dat TF])->(c9 2 BJ (F7 2 (B7 (A0 7) B8))) (fr (.dat Z) (.dat (.int k)) (.own [.int p,.bl b]) (.dat (.int (n:Int))) (.dat C) (.dat (.int WW)) (.dat TD) (.dat TF) (.dat (.int v3)) (.dat o) (.dat e) w11 x3 y3 (.dat o) (.dat e) w16)=some (r,fr (.dat Z) (.dat (.int k)) (.own [.int q,.bl b]) (.dat (.int (n:Int))) (.dat C) (.dat (.int WW)) (.dat TD) (.dat TF) (.dat (.int v3)) (.dat o) (.dat e) w11 x3 y3 (.dat o) (.dat e) w16):=fun p q r h=>
  R9 ((Cu (e1:=fr (.dat Z) (.dat (.int k)) (.own [.int p,.bl b]) (.dat (.int (n:Int))) (.dat C) (.dat (.int WW)) (.dat TD) (.dat TF) (.dat (.int v3)) (.dat o) (.dat e) w11 x3 y3 (.dat o) (.dat e) w16) (w:=.own [.int p,.bl b]) (av:=[.sl 2,.d TF]) (i:=2) (c:=[.int p,.bl b]) (c':=[.int q,.bl b]) rfl rfl rfl rfl rfl h rfl).trans rfl)
 have call3:(c9 1 DV (F7 2 B8)) (fr (.dat Z) (.dat (.int k)) (.own [.int a7,.bl b]) (.dat (.int (n:Int))) (.dat C) (.dat (.int WW)) (.dat TD) (.dat TF) (.dat (.int v3)) (.dat o) (.dat e) w11 x3 y3 (.dat o) (.dat e) w16)=some (d3,fr (.dat Z) (.dat (.int k)) (.own [.int a8,.bl b]) (.dat (.int (n:Int))) (.dat C) (.dat (.int WW)) (.dat TD) (.dat TF) (.dat (.int v3)) (.dat o) (.dat e) w11 x3 y3 (.dat o) (.dat e) w16):=
  R9 ((Cu (e1:=fr (.dat Z) (.dat (.int k)) (.own [.int a7,.bl b]) (.dat (.int (n:Int))) (.dat C) (.dat (.int WW)) (.dat TD) (.dat TF) (.dat (.int v3)) (.dat o) (.dat e) w11 x3 y3 (.dat o) (.dat e) w16) (w:=.own [.int a7,.bl b]) (av:=[.sl 2]) (i:=2) (c:=[.int a7,.bl b]) (c':=[.int a8,.bl b]) rfl rfl rfl rfl rfl eb3 rfl).trans rfl)
 exact(V6 (Q2 (G8 (U9 (C7 (call2 _ _ _ eb1) (C7 (call2 _ _ _ eb2) (C7 call3 rfl))) (by simp))) rfl)).trans loop4
theorem mQ:∀ns:List Int,ns.length≤63->∃ws',GS [.dat (.lst (ns.map D.int))]=some (.d (.bl true),ws'):=by
 intro ns hns;refine dB (C:=6) (N:=15) (by decide) (by decide) (fun k hk ws hw=>?_) fun ws hw=>?_
 ·match ws,hw with
  |[w2,w3,w4,w5,w6,w7,w8,w9,w10,w11,w12,w13,w14,w15,w16],_=>exact mP ns k hk w2 w3 w4 w5 w6 w7 w8 w9 w10 w11 w12 w13 w14 w15 w16
 ·exact⟨_,rfl⟩
end K43
namespace K43
open L2 L2.Mir PySem
abbrev tK:Value:=.str "turnsigns.grids" 415
abbrev xK:Value:=.str "turnsigns.tables" 482
abbrev sS:Value:=.str "turnsigns.counts" 508
abbrev qX:Value:=.str "law_turnsigns_k43_tables_by_number" 598
theorem mR{P:Program}(w:World)(mg:OU)(fa:Addr)(h:Heap)(X:(hK w.params).In h)(G:h.Ns mainGlobals mg)(hfa:mg "law"=some (.ref fa)):
 ∃fd:FuncData,(∀(s:Shared) (v:Value),BindsTo s fd ⟨[v],[]⟩ [("_law_script",v)])/\PySem.W.noTabs (hK w.params)=true/\(∀p∈[413],∃c,PySem.W.codeHdIn (hK w.params) c p=true)/\∀base:Heap,(hK w.params).In base->base.Ns mainGlobals mg->Ax mg base->d9 P w (hK w.params) mg base j7 23 fa fd ["_law_script"] (uL (hK w.params) [413] 1 GS):=by
 obtain⟨A1,A2,A3,A4,A5,A6,A7,A8,A9,A10,A11,A12,A13,A14,A15,A16,A17,A18,A19,A20,A21,A22,A23,A24,A25,A26,A27,A28,A29,A30,A31,A32,A33,A34,A35,A36,A37,A38,A39⟩:g9 (hK w.params) "is_whole" Iz 190 tK 189/\g9 (hK w.params) "is_within" JA 197 tK 196/\g9 (hK w.params) "is_row" JB 202 tK 201/\g9 (hK w.params) "is_grid" JC 207 tK 206/\g9 (hK w.params) "is_square" JD 214 tK 213/\g9 (hK w.params) "flipped" JE 219 tK 218/\g9 (hK w.params) "running_sums" JF 226 tK 225/\g9 (hK w.params) "sums_across" JG 231 tK 230/\g9 (hK w.params) "sums_down" JH 238 tK 237/\g9 (hK w.params) "takes_turns" JI 245 xK 244/\g9 (hK w.params) "is_table" JJ 250 xK 249/\g9 (hK w.params) "must_be_table" GL 257 xK 256/\g9 (hK w.params) "must_be_within" GN 264 sS 263/\g9 (hK w.params) "factorial" JK 271 sS 270/\g9 (hK w.params) "counted" JL 278 sS 277/\g9 (hK w.params) "rows_on" JM 283 sS 282/\g9 (hK w.params) "added" JN 288 sS 287/\g9 (hK w.params) "choices_on" GO 293 sS 292/\g9 (hK w.params) "ways_on" JO 298 sS 297/\g9 (hK w.params) "chosen" JP 305 sS 304/\g9 (hK w.params) "laid" JQ 312 sS 311/\g9 (hK w.params) "number_of" GP 317 sS 316/\g9 (hK w.params) "table_at" GQ 324 sS 323/\g9 (hK w.params) "_law_cell_at" JR 331 qX 330/\g9 (hK w.params) "_law_state" JS 338 qX 337/\g9 (hK w.params) "_law_take" JT 345 qX 344/\g9 (hK w.params) "_law_rows" JU 350 qX 349/\g9 (hK w.params) "_law_held" JV 355 qX 354/\g9 (hK w.params) "_law_table" JW 360 qX 359/\g9 (hK w.params) "_law_counts" JX 365 qX 364/\g9 (hK w.params) "_law_whole" JY 372 qX 371/\g9 (hK w.params) "_law_turns" JZ 377 qX 376/\g9 (hK w.params) "_law_is_table" KA 382 qX 381/\g9 (hK w.params) "_law_odd" KB 389 qX 388/\g9 (hK w.params) "_law_bent" KC 396 qX 395/\g9 (hK w.params) "_law_same" KD 401 qX 400/\g9 (hK w.params) "_law_refused" KE 406 qX 405/\g9 (hK w.params) "_law_number" KG 411 qX 410/\g9 (hK w.params) "law" DO 416 qX 415:=by refine⟨?_,?_,?_,?_,?_,?_,?_,?_,?_,?_,?_,?_,?_,?_,?_,?_,?_,?_,?_,?_,?_,?_,?_,?_,?_,?_,?_,?_,?_,?_,?_,?_,?_,?_,?_,?_,?_,?_,?_⟩<;>constructor<;>kernel_rfl
 have e:=hfa.symm.trans (Xd X G A39.a)
 cases e;have T:Txt (hK w.params) mg:=⟨by kernel_rfl,Zh X G (by kernel_rfl),Zh X G (by kernel_rfl),Zh X G (by kernel_rfl),Zh X G (by kernel_rfl),Zh X G (by kernel_rfl),Zh X G (by kernel_rfl),Zh X G (by kernel_rfl),Zh X G (by kernel_rfl),Zh X G (by kernel_rfl),Zh X G (by kernel_rfl),Zh X G (by kernel_rfl),Zh X G (by kernel_rfl),Zh X G (by kernel_rfl),Zh X G (by kernel_rfl),⟨484,Xd X G (by kernel_rfl)⟩⟩
 have b1:=A1.f.binds (ps:=["thing"]) fun _ _ _ _ _ _=>pY fun _=>rfl
 have b2:=A2.f.binds (ps:=["thing","least","greatest"]) fun _ _ _ _ _ _=>vZ fun _ _ _=>rfl
 have b3:=A3.f.binds (ps:=["thing","width"]) fun _ _ _ _ _ _=>rK fun _ _=>rfl
 have b4:=A4.f.binds (ps:=["thing","many","width"]) fun _ _ _ _ _ _=>vZ fun _ _ _=>rfl
 have b5:=A5.f.binds (ps:=["thing","least","greatest"]) fun _ _ _ _ _ _=>vZ fun _ _ _=>rfl
 have b6:=A6.f.binds (ps:=["grid"]) fun _ _ _ _ _ _=>pY fun _=>rfl
 have b7:=A7.f.binds (ps:=["row"]) fun _ _ _ _ _ _=>pY fun _=>rfl
 have b8:=A8.f.binds (ps:=["grid"]) fun _ _ _ _ _ _=>pY fun _=>rfl
 have b9:=A9.f.binds (ps:=["grid"]) fun _ _ _ _ _ _=>pY fun _=>rfl
 have b10:=A10.f.binds (ps:=["line"]) fun _ _ _ _ _ _=>pY fun _=>rfl
 have b11:=A11.f.binds (ps:=["thing"]) fun _ _ _ _ _ _=>pY fun _=>rfl
 have b12:=A12.f.binds (ps:=["thing"]) fun _ _ _ _ _ _=>pY fun _=>rfl
 have b13:=A13.f.binds (ps:=["thing","least","greatest","name"]) fun _ _ _ _ _ _=>zM fun _ _ _ _=>rfl
 have b14:=A14.f.binds (ps:=["number"]) fun _ _ _ _ _ _=>pY fun _=>rfl
 have b15:=A15.f.binds (ps:=["side"]) fun _ _ _ _ _ _=>pY fun _=>rfl
 have b16:=A16.f.binds (ps:=["sums"]) fun _ _ _ _ _ _=>pY fun _=>rfl
 have b17:=A17.f.binds (ps:=["sums","row"]) fun _ _ _ _ _ _=>rK fun _ _=>rfl
 have b18:=A18.f.binds (ps:=["sums","known"]) fun _ _ _ _ _ _=>rK fun _ _=>rfl
 have b19:=A19.f.binds (ps:=["sums","known"]) fun _ _ _ _ _ _=>rK fun _ _=>rfl
 have b20:=A20.f.binds (ps:=["choices","number"]) fun _ _ _ _ _ _=>rK fun _ _=>rfl
 have b21:=A21.f.binds (ps:=["side","number","known"]) fun _ _ _ _ _ _=>vZ fun _ _ _=>rfl
 have b22:=A22.f.binds (ps:=["table"]) fun _ _ _ _ _ _=>pY fun _=>rfl
 have b23:=A23.f.binds (ps:=["side","number"]) fun _ _ _ _ _ _=>rK fun _ _=>rfl
 have b24:=A24.f.binds (ps:=["_law_script","_law_k"]) fun _ _ _ _ _ _=>rK fun _ _=>rfl
 have b25:=A25.f.binds (ps:=["_law_script","_law_k"]) fun _ _ _ _ _ _=>rK fun _ _=>rfl
 have b26:=A26.f.binds (ps:=["_law_state_here","_law_many"]) fun _ _ _ _ _ _=>rK fun _ _=>rfl
 have b27:=A27.f.binds (ps:=["_law_held_here"]) fun _ _ _ _ _ _=>pY fun _=>rfl
 have b28:=A28.f.binds (ps:=["_law_held_here","_law_row"]) fun _ _ _ _ _ _=>rK fun _ _=>rfl
 have b29:=A29.f.binds (ps:=["_law_state_here","_law_side"]) fun _ _ _ _ _ _=>rK fun _ _=>rfl
 have b30:=A30.f.binds (ps:=["_law_side"]) fun _ _ _ _ _ _=>pY fun _=>rfl
 have b31:=A31.f.binds (ps:=["_law_thing"]) fun _ _ _ _ _ _=>pY fun _=>rfl
 have b32:=A32.f.binds (ps:=["_law_row"]) fun _ _ _ _ _ _=>pY fun _=>rfl
 have b33:=A33.f.binds (ps:=["_law_thing"]) fun _ _ _ _ _ _=>pY fun _=>rfl
 have b34:=A34.f.binds (ps:=["_law_state_here"]) fun _ _ _ _ _ _=>pY fun _=>rfl
 have b35:=A35.f.binds (ps:=["_law_state_here","_law_table_here"]) fun _ _ _ _ _ _=>rK fun _ _=>rfl
 have b36:=A36.f.binds (ps:=["_law_found","_law_due"]) fun _ _ _ _ _ _=>rK fun _ _=>rfl
 have b37:=A37.f.binds (ps:=["_law_call"]) fun _ _ _ _ _ _=>pY fun _=>rfl
 have b38:=A38.f.binds (ps:=["_law_table_here","_law_ways"]) fun _ _ _ _ _ _=>rK fun _ _=>rfl
 have b39:=A39.f.binds (ps:=["_law_script"]) fun _ _ _ _ _ _=>pY fun _=>rfl
 have tc_law:Fi (hK w.params) (.ref 415) 413=true:=by kernel_rfl
 refine⟨PySem.W.fnOf "law" "law" (Bp DO) (X8 DO) (E5 DO) .none .none .none (.str "law_turnsigns_k43_tables_by_number" 598) none (.ref 415) .none,fun s v=>.of_eq rfl,by kernel_rfl,fun p hp=>?_,fun base _ _ hBm=>?_⟩
 ·obtain rfl:=List.mem_singleton.mp hp
  obtain⟨c,_,hc⟩:=NX tc_law;exact⟨c,hc⟩
 have nN:=dM P w base (dP A1.f T ) A1 X G b1
 have m8:=dM P w base (dS A2.f T nN) A2 X G b2
 have qS:=dM P w base (dW A3.f T nN) A3 X G b3
 have pZ:=dM P w base (dZ A4.f T qS) A4 X G b4
 have o5:=dM P w base (eD A5.f T pZ) A5 X G b5
 have n8:=dM P w base (eG A6.f T ) A6 X G b6
 have nV:=dM P w base (eI A7.f T ) A7 X G b7
 have oF:=dM P w base (eK A8.f T nV) A8 X G b8
 have nA:=dM P w base (eM A9.f T n8 oF) A9 X G b9
 have oG:=dM P w base (eO A10.f T ) A10 X G b10
 have nO:=dM P w base (eQ A11.f T o5 oG n8) A11 X G b11
 have j1:=dM P w base (eR A12.f T nO) A12 X G b12
 have nH:=dX P w base (eU A12.f T nO ) A12 X G b12
 have j0:=dM P w base (eV A13.f T m8) A13 X G b13
 have nC:=dX P w base (eX A13.f T m8 ) A13 X G b13
 have o6:=dM P w base (eY A14.f T ) A14 X G b14
 have oA:=dM P w base (eZ A15.f T o6) A15 X G b15
 have mZ:=dM P w base (fC A16.f T ) A16 X G b16
 have m9:=dM P w base (fF A17.f T ) A17 X G b17
 have n9:Def P w (hK w.params) mg base "ways_on" 17 2 (M3 8):=⟨_,_,_,Ow A19.f A18.f T mZ m9 (A19.g X G) A19.k b19 (A18.g X G) A18.k b18 8,rfl,A19.g X G,A19.k,b19⟩
 have i7:Def P w (hK w.params) mg base "choices_on" 18 2 (Q3 (M3 8)):=⟨_,_,_,Ov A18.f T mZ m9 (by decide) n9,rfl,A18.g X G,A18.k,b18⟩
 have qT:=dM P w base (fL A20.f T ) A20 X G b20
 have qH:=dM P w base (fM A21.f T qT m9 i7) A21 X G b21
 have o8:=dM P w base (fO A22.f T j1 nA i7) A22 X G b22
 have oX:=dX P w base (fQ A22.f T j1 nA i7 nH) A22 X G b22
 have pN:=dM P w base (fR A23.f T j0 qH oA) A23 X G b23
 have o9:=dX P w base (fS A23.f T j0 qH oA nC) A23 X G b23
 have nW:=dM P w base (fU A24.f T ) A24 X G b24
 have oV:=dM P w base (fV A25.f T nW) A25 X G b25
 have i5:=dM P w base (fW A26.f T ) A26 X G b26
 have j3:=dM P w base (fZ A27.f T ) A27 X G b27
 have j5:=dM P w base (gC A28.f T ) A28 X G b28
 have oW:=dM P w base (gG A29.f T i5 j3 j5) A29 X G b29
 have oH:=dM P w base (gK A30.f T j5 j3) A30 X G b30
 have oU:=dM P w base (gO A31.f T ) A31 X G b31
 have oT:=dM P w base (gR A32.f T ) A32 X G b32
 have nP:=dM P w base (gY A33.f T oT oU) A33 X G b33
 have pO:=dM P w base (gZ A34.f T i5) A34 X G b34
 have o7:=dM P w base (hG A35.f T i5) A35 X G b35
 have nX:Def P w (hK w.params) mg base "_law_same" 7 2 (Q1 6):=⟨_,_,_,PR A36.f T (A36.g X G) A36.k b36 6,rfl,A36.g X G,A36.k,b36⟩
 have nY:=iE (P:=P) (w:=w) (mg:=mg) (base:=base) A37.f T (A37.g X G) b37
 have oI:=dM P w base (iG A38.f T j5 j3) A38 X G b38
 exact iJ A39.f rfl T (aL tc_law A39.c (by kernel_rfl) hBm) oV oH i5 oW oI pN o7 pO nY nX nP o8 o9 oX
end K43
theorem PySem.Challenge.cw_turnsigns_k43_tables_by_number_holds : PySem.Challenge.rw_turnsigns_k43_tables_by_number.Holds :=
 K43.SL (L2.Mir.aJ (l:=PySem.Challenge.rw_turnsigns_k43_tables_by_number) (k:=23) (x := "_law_script") (fn:=K43.GS) rfl rfl ⟨rfl,by decide,by decide⟩ (fun w h Y=>⟨PySem.W.km_in_of Y,PySem.W.km_tabs_of Y⟩) K43.mR K43.mQ)
