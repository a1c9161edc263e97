import PyProof.Rows.All
import Wide.All
import OpenK.AllK
import Wide.FinOn
import Lean
import PyProof.EqAt
import PyProof.EqKinds
import PyProof.TupleCall
import PySem.Challenge.RW_turnsigns_k53_whole_turned
set_option Elab.async false
set_option linter.all false
set_option maxRecDepth 100000
set_option maxHeartbeats 0
abbrev Qq:=@PySem.wpAny_bind
abbrev Qz:=PySem.W.Frag
abbrev Qj:=@PySem.wpAny_pure
abbrev Qx:=@PySem.Heap.get?_push_of_some
abbrev Qk:=@List.length_map
abbrev Qv:=@Option.bind_some
abbrev Qw:=@PySem.Heap.lt_size
abbrev Qy:=@List.mem_range
abbrev Qu:=@Nat.le_refl
abbrev Qp:=@if_neg
abbrev Qb:=@List.all_eq_true
abbrev Qg:=@List.mem_cons
abbrev Qh:=@Bool.false_eq_true
abbrev Qm:=@List.getElem?_eq_some_iff
abbrev Qn:=@List.mem_map
abbrev Qc:=@if_pos
abbrev Ql:=@PySem.Heap.get?_push_size
abbrev Qd:=@Bool.and_eq_true
abbrev Qr:=@List.size_toArray
abbrev Qs:=@List.getElem?_set_ne
abbrev Qi:=@List.getElem?_eq_getElem
abbrev Qt:=@List.mem_cons_of_mem
abbrev Qa:=@Nat.lt_of_lt_of_le
abbrev Qe:=@decide_eq_false
abbrev Qo:=@List.mem_cons_self
abbrev Zq:=@Nat.ne_of_lt
abbrev Zz:=@List.map_cons
abbrev Zj:=@List.length_cons
abbrev Zx:=@List.map_map
abbrev Zk:=@List.getElem?_map
abbrev Zv:=@if_false
abbrev Zw:=@PySem.W.kia_one
abbrev Zy:=@Bool.false_ne_true
abbrev Zu:=@PySem.W.mg_none_of
abbrev Zp:=@List.getD_eq_getElem?_getD
abbrev Zb:=@List.mem_append_right
abbrev Zg:=@List.not_mem_nil
abbrev Zf:=@PySem.wpAny_seqItems
abbrev Zh:=@PySem.mem_of_lookup
abbrev Zm:=@List.replicate_succ
abbrev Zn:=@List.map_congr_left
abbrev Zc:=@Option.some.injEq
abbrev Zl:=@Ne.symm
abbrev Zd:=@Classical.byContradiction
abbrev Zr:=@List.length_append
abbrev Zs:=@PySem.Heap.size_push
abbrev Zi:=@decide_eq_true_eq
abbrev Zt:=@decide_eq_true
abbrev Za:=@Option.some.inj
abbrev Ze:=@PySem.wpAny_loadPart'
abbrev Zo:=@List.length_set
abbrev Yq:=@PySem.wpAny_truthy_bool
abbrev Yz:=@PySem.wpAny_holding
abbrev Yj:=@Nat.le_trans
abbrev Yx:=@PySem.boot_len
abbrev Yk:=@PySem.wpAny_field
abbrev Yv:=@if_true
abbrev Yw:=@PySem.wpAny_mono
abbrev Yy:=@congrArg
abbrev Yu:=@PySem.wpAny_forIn_list
abbrev Yp:=@Nat.lt_irrefl
abbrev Yb:=@Bool.not_true
abbrev Yg:=@PySem.F.plain_min_loop
abbrev Yh:=@PySem.wpAny_newObj_type
abbrev Ym:=@Option.isSome_iff_exists
abbrev Yn:=@PySem.W.mg_of
abbrev Yc:=@PySem.W.Fast.te14364793385576792824
abbrev Yl:=@Int.toNat_natCast
abbrev Yd:=@PySem.PassesOwn.never
abbrev Yr:=@List.getElem?_set_self
abbrev Ys:=@Nat.lt_or_ge
abbrev Yi:=@PySem.wpAny_call_entry
abbrev Yt:=@PySem.F.slot_tuple_iterator_next
abbrev Ye:=@List.getElem_mem
abbrev Yo:=@List.length_replicate
abbrev Jq:=@List.pairwise_cons
abbrev Jz:=@List.getElem?_append_left
abbrev Jj:=@List.mem_of_getElem?
abbrev Jx:=@List.map_append
abbrev Jk:=@List.flatten_cons
abbrev Jv:=@Nat.lt_succ_of_lt
abbrev Jw:=@PySem.wpAny_callSpecial?_slot
abbrev Jy:=@PySem.F.slot_tuple_hash
abbrev Ju:=@List.filterMap_cons
abbrev Jp:=@List.getElem_map
abbrev Jb:=@PySem.sizeLine_eq
abbrev Jg:=@Nat.zero_le
abbrev Jf:=@PySem.SeqAt.canLay_of_shaped
abbrev Jh:=@List.mem_filterMap
abbrev Jm:=@Nat.le_of_lt
abbrev Jn:=@PySem.wpAny_setField_rec
abbrev Jc:=@Array.forIn_toList
abbrev Jl:=@PyProof.Rows.F.plain_set_update_loop
abbrev Jd:=@List.mem_append
abbrev Jr:=@PySem.Heap.get?_update_self
abbrev Js:=@List.getElem?_zipWith
abbrev Ji:=@PySem.codeAny_builtin
abbrev Jt:=@Int.emod_nonneg
abbrev Ja:=@congrFun
abbrev Je:=@Prod.ext
abbrev Jo:=@PySem.wpAny_pyIter_list
abbrev Uq:=@Nat.le_of_succ_le
abbrev Uz:=@PySem.Around.under_plainId
abbrev Uj:=@List.mem_iff_getElem
abbrev Ux:=@LawfulBEq.eq_of_beq
abbrev Uk:=@or_false
abbrev Uv:=@List.length_zipWith
abbrev Uw:=@List.append_nil
abbrev Uy:=@PySem.wpAny_Call_Name_kw
abbrev Uu:=@List.nodup_cons
abbrev Up:=@List.zip_cons_cons
abbrev Ub:=@List.length_nil
abbrev Ug:=@PySem.wpAny_specialOf
abbrev Uh:=@PySem.wpAny_ite_false
abbrev Um:=@Nat.not_lt_zero
abbrev Uc:=@Int.emod_lt_of_pos
abbrev Ul:=@PySem.W.cellsFrom_some
abbrev Ud:=@PySem.wpAny_setState_of
abbrev Ur:=@PySem.F.slot_zip_next
abbrev Us:=@Nat.succ_pos
abbrev Ui:=@PySem.F.slot_tuple_eq
abbrev Ut:=@PyProof.Rows.callWith_type1
abbrev Ua:=@List.ext_getElem
abbrev Ue:=@PySem.wpAny_letGo
abbrev Uo:=@PySem.Heap.SameBut.update
abbrev Vq:=@PySem.wpAny_passesOwn
abbrev Vz:=@PySem.F.args_tuple_add_2
abbrev Vj:=@PyProof.Rows.F.entry_set_update_loop
abbrev Vx:=@PySem.call_meets
abbrev Vk:=@List.getElem?_replicate
abbrev Vv:=@PySem.F.entry_tuple_add
abbrev Vw:=@PySem.W.kitx_dict
abbrev Vy:=@PySem.F.args_tuple_iterator_next_1
abbrev Vu:=@Nat.le_of_lt_succ
abbrev Vp:=@PySem.Heap.get?_update_other
abbrev Vb:=@PySem.F.slot_tuple_add
abbrev Vg:=@PySem.F.entry_tuple_iterator_next
abbrev Vf:=@List.take_of_length_le
abbrev Vh:=@PySem.F.entry_min_loop
abbrev Vm:=@Option.map_eq_some_iff
abbrev Vn:=@PySem.plainId_quiet
abbrev Vc:=@List.map_drop
abbrev Vl:=@Bool.true_and
abbrev Vd:=@beq_self_eq_true
abbrev Vr:=@PySem.F.slot_tuple_mul
abbrev Vs:=@PySem.wpAny_isInstance
abbrev Vi:=@Nat.le_add_right
abbrev Vt:=@Array.getElem?_toList
abbrev Va:=@List.getElem?_eq_none
abbrev Ve:=@PySem.isSubtype_tuple_tuple
abbrev Vo:=@PyProof.Rows.slot_tuple_getitem
abbrev Xq:=@PySem.wpAny_rule
abbrev Xz:=@PySem.codeAny_mono
abbrev Xj:=@List.nil_append
abbrev Xx:=@PySem.F.slot_int_rmul
abbrev Xk:=@PySem.pushCells_keeps
abbrev Xv:=@PySem.wpAny_updateSeq_pair
abbrev Xw:=@PySem.codeAny_call_builtin
abbrev Xy:=@beq_iff_eq
abbrev Xu:=@Array.length_toList
abbrev Xp:=@PySem.Heap.get?_update_ne
abbrev Xb:=@PySem.wpAny_tryCatch
abbrev Xg:=@Bool.not_false
abbrev Xf:=@PySem.SeqAt.EqAt.int_int
abbrev Xh:=@PySem.wpAny_pyIter_tuple
abbrev Xm:=@List.contains_cons
abbrev Xn:=@PySem.wpAny_tupleItemsOf
abbrev Xc:=@PySem.wpAny_standAt
abbrev Xl:=@List.all_cons
abbrev Xd:=@PySem.wpAny_onRaise
abbrev Xr:=@List.map_take
abbrev Xs:=@Nat.add_assoc
abbrev Xi:=@List.sum_cons
abbrev Xa:=@PySem.W.kitx_list
abbrev Xe:=@List.reverse_cons
abbrev Xo:=@List.append_assoc
abbrev Tq:=@of_decide_eq_true
abbrev Tz:=@List.pairwise_map
abbrev Tj:=@PySem.typeIs_int
abbrev Tx:=@Nat.mod_lt
abbrev Tv:=@Nat.ne_of_gt
abbrev Tw:=@Nat.lt_trans
abbrev Tu:=@List.any_eq_true
abbrev Tp:=@Option.map_some
abbrev Tg:=@List.of_mem_zip
abbrev Tf:=@Bool.or_eq_true
abbrev Th:=@List.all_append
abbrev Tn:=@List.map_id
abbrev OO:=Nat->Nat->Int
abbrev OI:=List (List Int)
abbrev OU:=PySem.Str->Option PySem.Value
abbrev OE:=PySem.Value->PySem.Shared->Prop
abbrev OA:=PySem.Addr->Prop
abbrev OX:=List (PySem.Addr×PySem.Obj)
namespace HG
open PySem PySem.W PySem.Calls PyProof.Rows
noncomputable def hnth {α:Type}(l:List α) (i:Nat) (d:α):α:=@List.rec α (fun _=>Nat->α) (fun _=>d) (fun a _ ih i=>@Nat.rec (fun _=>α) a (fun j _=>ih j) i) l i
def hsN(s:Stmt):Str:=match s with
 |.FunctionDef n ..=>n
 |.ClassDef n ..=>n
 |_=>Str.empty
def hsA(s:Stmt):Arguments:=match s with
 |.FunctionDef _ a ..=>a
 |_=>default
def hsB(s:Stmt):List Stmt:=match s with
 |.FunctionDef _ _ b ..=>b
 |.ClassDef _ _ _ b ..=>b
 |_=>[]
def hsS(s:Stmt):Scope:=match s with
 |.FunctionDef _ _ _ _ _ _ c ..=>c
 |_=>default
def hsP(s:Stmt):Pos:=match s with
 |.FunctionDef _ _ _ _ _ _ _ _ _ p=>p
 |_=>⟨0,0,0,0⟩
def hdep{α:Sort u}(_:α):Bool:=true
def hE(P:Params)(x:Str)(t:Tok)(v:Value):DictEntry:=⟨PyData.keyHash P x,.str x t,v⟩
def hZ:Obj:=⟨.type "tuple",none,.seq ⟨[]⟩ 0,⟨[]⟩⟩
def hU(l:List Value):Obj:=⟨.type "tuple",none,.seq ⟨l⟩ 0,⟨[]⟩⟩
def hN:Obj:=⟨.none,none,.fields ⟨[]⟩,⟨[]⟩⟩
def hC(n:Str)(t t2:Nat)(ln na fl:Int)(a:Addr)(g:Bool)(b:Addr)(v1 v2 v3 v4:Value):Obj:=
 ⟨.type "code",none,.fields ⟨[.str n t,.str n (Nat.add t 1),.str "/claim/cut.py" (Nat.add t 2),.int ln 0,.int na 0,.int 0 0,.int 0 0,.int fl 0,.ref a,.bool g,.int 181 0,.ref b,v1,v2,v3,v4,.int (Int.ofNat t2) 0,.int ln 0,.str "/claim/cut.py" (Nat.add t2 1)]⟩,⟨[]⟩⟩
def hX(s:Stmt)(q:Str)(g:Addr)(cl:List (Str×Addr))(d k dc m:Value)(an:Option Addr)(c ct:Value)(b:Addr):FuncData:=
 ⟨hsN s,q,hsA s,.stmts (hsB s),hsS s,g,cl,d,k,dc,m,an,c,ct,b⟩
def hR(s:Stmt):Obj:=⟨.none,none,.func (hX s (hsN s) 0 [] .none .none .none .none none .none .none 0),⟨[]⟩⟩
def hF(s:Stmt)(m c:Value):Obj:=⟨.type "function",none,.func (hX s (hsN s) 3 [] .none .none .none m none c .none 0),⟨[]⟩⟩
def hD5(s:Stmt)(a t:Nat)(ln na:Int)(m:Value):List Obj:=[hZ,hN,hR s,hC (hsN s) t (Nat.add t 3) ln na 3 a true (Nat.add a 1) .none .none .none (.ref (Nat.add a 2)),hF s m (.ref (Nat.add a 3))]
noncomputable def hvs (l:List Str) (t:Nat):List Value:=@List.rec Str (fun _=>Nat->List Value) (fun _=>[]) (fun x _ ih t=>.str x t::ih (Nat.succ t)) l t
noncomputable def hD7 (s:Stmt) (a t:Nat) (ln na:Int) (m:Value) (l:List Str):List Obj:=[hZ,hN,hU (hvs l (Nat.add t 3)),hZ,hR s,hC (hsN s) t (Nat.add (Nat.add t 3) l.length) ln na 3 a true (Nat.add a 1) .none (.ref (Nat.add a 2)) (.ref (Nat.add a 3)) (.ref (Nat.add a 4)),hF s m (.ref (Nat.add a 5))]
def hCl(P:Params)(s:Stmt)(a t:Nat)(ln:Int)(m:Value):List Obj:=
 [⟨.type "builtin_function_or_method",none,.fields ⟨[.builtin "type.__prepare__",.type "type"]⟩,⟨[]⟩⟩,
  ⟨.type "dict",none,.dict ⟨[hE P "__module__" (Nat.add t 7) m,hE P "__qualname__" (Nat.add t 9) (.str (hsN s) (Nat.add t 8)),hE P "__firstlineno__" (Nat.add t 11) (.int ln (Nat.add t 10)),hE P "__static_attributes__" (Nat.add t 12) (.ref (Nat.add a 6))]⟩ 4,⟨[]⟩⟩,
  hZ,hN,hC (hsN s) (Nat.add t 2) (Nat.add t 5) ln 0 0 (Nat.add a 2) false (Nat.add a 3) .none .none .none .none,
  ⟨.type "frame",none,.plain,⟨[some (.ref (Nat.add a 4)),some (.ref 3),some (.ref (Nat.add a 1)),none,some m,none,some (.ref 0)]⟩⟩,hZ,
  ⟨.type "dict",none,.dict ⟨[hE P "__module__" (Nat.add t 7) m,hE P "__firstlineno__" (Nat.add t 11) (.int ln (Nat.add t 10)),hE P "__static_attributes__" (Nat.add t 12) (.ref (Nat.add a 6)),hE P "__doc__" (Nat.add t 13) .none]⟩ 2,⟨[]⟩⟩,
  ⟨.type "type",none,.cls ⟨hsN s,[.ref 24],[.ref (Nat.add a 8),.ref 24,.type "ValueError",.type "Exception",.type "BaseException",.type "object"],Nat.add a 7,hsN s,true,[],[],false,none,false⟩,⟨[some (.ref (Nat.sub a 1)),none,some (.str (hsN s) t),some (.str (hsN s) (Nat.add t 8)),some (.builtin "ValueError.__new__"),some (.bool true)]⟩⟩,
  ⟨.type "super",none,.fields ⟨[.ref (Nat.add a 8),.ref (Nat.add a 8),.ref (Nat.add a 8)]⟩,⟨[]⟩⟩,
  ⟨.type "builtin_function_or_method",none,.fields ⟨[.builtin "object.__init_subclass__",.ref (Nat.add a 8)]⟩,⟨[]⟩⟩]
noncomputable def hfd (l:List (Nat×List Obj)) (b:Nat):Obj:=@List.rec (Nat×List Obj) (fun _=>Nat->Obj) (fun _=>hZ) (fun x _ ih b=>@Bool.rec (fun _=>Obj) (ih (Nat.sub b x.1)) (hnth x.2 b hZ) (Nat.blt b x.1)) l b
def hL3(l:List (Int×Addr)):List Value:=l.flatMap fun x=>[.int x.1 0,.int 0 0,.ref x.2]
noncomputable def hmk (f:Nat->Obj) (n:Nat) (fuel:Nat):Nat->Nat->BT:=
 @Nat.rec (fun _=>Nat->Nat->BT) (fun _ _=>.nil) (fun _ ih a b=>@Bool.rec (fun _=>BT) .nil (.node (f b) (ih (Nat.mul 2 a) (Nat.add a b)) (ih (Nat.mul 2 a) (Nat.add (Nat.mul 2 a) b))) (Nat.blt b n)) fuel
def hEnv(p:Program)(c:Value)(f:Addr):Env:={scope:=p.main.scope,locals:=mainNs,globals:=mainNs,cells:=[],code:=c,frame:=some f}
def hVw(p:Program)(l:List Nat):Program:={p with main:={p.main with body:=l.map fun i=>p.main.body.getD i (.Pass ⟨0,0,0,0⟩)}}
abbrev hSt(tr:Nat->Params->BT)(k n t:Nat)(w:World)(os:OsState):SharedT:=⟨tr k w.params,n,{},⟨[]⟩,{},t,os⟩
abbrev hCd(p:Program)(ev:Env):Code:=.body (behindTheImports p) ev
def hPre(m0:Nat)(ann:Option Value)(n n0 t0:Nat)(q q0:Pos)(tg:(String->Option Builtin)->Program->World->Nat->Option Value->Nat->Shared->Thread->Option (Shared×Thread))(dn:(String->Option Builtin)->Code->Sem Fin)(tb:String->Option Builtin)(p:Program)(tr:Nat->Params->BT)(ev:Env):Prop:=
 ∀w:World,(fun os=>tg tb p w m0 ann n ⟨boot_heap w.params,⟨[]⟩,boot_drawn,boot_toks,os⟩ (topStub p))=fun os=>some ((hSt tr 0 n0 t0 w os).abs,Thread.mk (dn tb (hCd p ev)) (hCd p ev) q0 [topFrame q])
def hBlk(m0:Nat)(ann:Option Value)(n n0 t0:Nat)(q q0 q1:Pos)(sr:(String->Option Builtin)->Program->World->Nat->Option Value->Nat->Nat->Shared->Thread->Option (Flow×Shared×Code×Pos))(tb:String->Option Builtin)(p:Program)(tr:Nat->Params->BT)(ev:Env):Prop:=
 ∀w:World,(fun os=>sr tb p w m0 ann 1 n (hSt tr 0 n0 t0 w os).abs (blockOf (behindTheImports p) ev (hCd p ev) q0 [topFrame q]))=fun os=>some (.next,(hSt tr 0 n0 t0 w os).abs,hCd p ev,q1)
def hPc(m0:Nat)(ann:Option Value)(n i j k n0 t0 n1 t1:Nat)(q q0 q1:Pos)(sr:(String->Option Builtin)->Program->World->Nat->Option Value->Nat->Nat->SharedT->Thread->Option (Flow×SharedT×Code×Pos))(tb:String->Option Builtin)(p:Program)(tr:Nat->Params->BT)(ev:Env):Prop:=
 ∀w:World,(fun os=>sr tb p w m0 ann 1 n (hSt tr k n0 t0 w os) (piecesOf (((behindTheImports p).drop i).take j) ev (hCd p ev) q0 [topFrame q]))=fun os=>some (.next,hSt tr (Nat.succ k) n1 t1 w os,hCd p ev,q1)
def hFin(m0:Nat)(ann:Option Value)(n k n0 t0:Nat)(q q0:Pos)(sr:(String->Option Builtin)->Program->World->Nat->Option Value->Nat->Shared->Thread->Option Shared)(tb:String->Option Builtin)(p:Program)(tr:Nat->Params->BT)(ev:Env):Prop:=
 ∀w:World,(fun os=>sr tb p w m0 ann n (hSt tr k n0 t0 w os).abs (Thread.mk (doneF .next) (hCd p ev) q0 [topFrame q]))=fun os=>some (hSt tr k n0 t0 w os).abs
variable{m0:Nat}{ann:Option Value}{q q0 q1:Pos}{tb:String->Option Builtin}{p:Program}{tr:Nat->Params->BT}{ev:Env}{n N i j k n0 t0 n1 t1:Nat}{r:Shared}
theorem hgo(h:hPre m0 ann n n0 t0 q q0 topGo denote tb p tr ev)(w:World)(os:OsState)(g:topRun tb p w m0 ann N (hSt tr 0 n0 t0 w os).abs (Thread.mk (denote tb (hCd p ev)) (hCd p ev) q0 [topFrame q])=some r):
  topRun tb p w m0 ann (Nat.add n N) ⟨boot_heap w.params,⟨[]⟩,boot_drawn,boot_toks,os⟩ (topStub p)=some r:=go_top (Ja (h w) os) g
theorem hblkk(h:hBlk m0 ann n n0 t0 q q0 q1 segRun tb p tr ev)(w:World)(os:OsState)(g:topRun tb p w m0 ann N (hSt tr 0 n0 t0 w os).abs (restOf ((behindTheImports p).drop 0) ev (hCd p ev) q1 [topFrame q])=some r):
  topRun tb p w m0 ann (Nat.add n N) (hSt tr 0 n0 t0 w os).abs (Thread.mk (denote tb (hCd p ev)) (hCd p ev) q0 [topFrame q])=some r:=piece_block (Ja (h w) os) g
theorem hpcs(h:hPc m0 ann n i j k n0 t0 n1 t1 q q0 q1 segRunT tb p tr ev)(w:World)(os:OsState)(g:topRun tb p w m0 ann N (hSt tr (Nat.succ k) n1 t1 w os).abs (restOf ((behindTheImports p).drop (Nat.add i j)) ev (hCd p ev) q1 [topFrame q])=some r):
  topRun tb p w m0 ann (Nat.add n N) (hSt tr k n0 t0 w os).abs (restOf ((behindTheImports p).drop i) ev (hCd p ev) q0 [topFrame q])=some r:=by
 have a:=piece_app (segRun_of (Ja (h w) os)) g
 have e:((behindTheImports p).drop i).take j++(behindTheImports p).drop (Nat.add i j)=(behindTheImports p).drop i:=by
  have:=List.take_append_drop j ((behindTheImports p).drop i);rw[List.drop_drop]at this;exact this
 rw[e]at a;exact a
theorem hfin'(e:(behindTheImports p).drop i=[])(h:hFin m0 ann n k n0 t0 q q0 topRun tb p tr ev)(w:World)(os:OsState):
  topRun tb p w m0 ann n (hSt tr k n0 t0 w os).abs (restOf ((behindTheImports p).drop i) ev (hCd p ev) q0 [topFrame q])=some (hSt tr k n0 t0 w os).abs:=by
 rw[e];exact Ja (h w) os
abbrev hSh(H:Params->Heap)(t:Nat)(w:World)(os:OsState):Shared:=⟨H w.params,⟨[]⟩,{},t,os⟩
structure hLk(p v:Program)(H:Params->Heap)(K:Params->Frag)(as ts:List Addr)(t:Nat)(ls:List Str:=[]):Prop where
 l1:∀w:World,(fun os=>staticsOk (PySem.W.Fast.tw5923862056798008813 p.main.body) (boot_heap w.params) (H w.params)&&namesBound p (H w.params)&&gensDone (hSh H t w os)&&laidKept (boot_heap w.params) (H w.params))=fun _=>true
 l2:∀w:World,(fun os=>PySem.W.Fast.tw5160383126252970620 (PySem.W.R.mapR (fun x=>x.name) (PySem.W.Fast.tw3399658132070893891 v)) (PySem.W.Fast.tw5991557255702980513 v) [] (hSh H t w os))=fun _=>expectedOf v
 l3:∀w:World,(H w.params).bltView=bltViewBooted
 l4:∀w:World,(fun os=>PySem.W.Fast.tw10880121769531294198 (H w.params) (PySem.W.Fast.tw821141287760084731 v ls) (PySem.W.R.mapR (fun x=>x.name) (PySem.W.Fast.tw3399658132070893891 v)) (PySem.W.R.mapR (fun x=>x.1) (PySem.W.Fast.tw7409074990110511671 v)) (PySem.W.R.mapR (fun x=>x.name) (PySem.W.Fast.tw13664370479719496447 v (PySem.W.Fast.tw821141287760084731 v ls)))&&PySem.W.Fast.tw14722251495701143533 (H w.params) (PySem.W.Fast.tw5923862056798008813 p.main.body)&&(H w.params).isNs mainGlobals&&(H w.params).isNs builtinsNs&&PySem.W.Fast.tw10994771534591457954 v (H w.params)&&(xlAt v [] (hSh H t w os)&&recOk [] (hSh H t w os))&&(if true then(hSh H t w os).gens.size==0 else !leftWithCleanup (hSh H t w os).gens))=fun _=>true
 l5:∀w:World,(fun os=>PySem.W.Fast.tw479339242167458305 v (hSh H t w os))=fun _=>true
 l6:∀w:World,(fun os=>PySem.W.Fast.tw16090120013241838585 v (PySem.W.Fast.tw3247288618530077131 v) (hSh H t w os))=fun _=>pinGoodD (PySem.W.Fast.tw3247288618530077131 v)
 l7:∀w:World,(fun os=>PySem.W.Fast.tw2386780881361962483 v (PySem.W.Fast.tw821141287760084731 v ls) (hSh H t w os))=fun _=>plainGoodE v (PySem.W.Fast.tw821141287760084731 v ls)
 l8:∀w:World,(fun os=>PySem.W.Fast.tw11698064438423848299 v ls (hSh H t w os))=fun _=>plainGoodD v ls
 l9:∀w:World,(fun os=>PySem.W.Fast.tw7317090234206586261 v (hSh H t w os))=fun _=>wideGood v
 l10:∀w:World,(fun os=>PySem.W.Fast.tw7369524293546568484 v ls (hSh H t w os))=fun _=>clsGoodW v ls
 l11:∀w:World,PySem.W.R.mapR (H w.params).get? as=PySem.W.R.mapR (fun p=>some p.2) (K w.params)
 l12:∀w:World,PySem.W.R.mapR (H w.params).get? ts=PySem.W.R.mapR (fun _=>some (tabObj #[])) ts
def setRow(w:World)(x:String)(b:Bool):World:={w with params:={w.params with followText:=fun s=>bif s==x then b else w.params.followText s}}
theorem setRow_eq(w:World)(x:String):setRow w x (w.params.followText x)=w:=by
 have e:(fun s=>bif s==x then w.params.followText x else w.params.followText s)=w.params.followText:=by
  funext s
  by_cases h:s=x
  ·subst h
   rw[Vd]
   rfl
  ·have:(s==x)=false:=by rw[beq_eq_false_iff_ne];exact h
   rw[this]
   rfl
 unfold setRow;rw[e]
theorem splitW{Pr:World->Prop}(x:String)(h:∀(b:Bool) (w:World),Pr (setRow w x b))(w:World):Pr w:=by
 have:=h (w.params.followText x) w;rwa [setRow_eq]at this
theorem hsize(w:World):((boot_heap w.params).isNs mainGlobals&&(Array.mk []:Array GenState).size==0,(boot_heap w.params).objs.size,(boot_heap w.params).nsMap mainGlobals "__annotations__")=(true,11,some (.ref 6)):=by
 rw[PySem.W.Fast.te8920871248978507458,show("__annotations__":Str)=⟨⟨[95,95,97,110,110,111,116,97,116,105,111,110,115,95,95]⟩⟩from PySem.W.Fast.ofString_ofList ['_','_','a','n','n','o','t','a','t','i','o','n','s','_','_']]
 kernel_rfl
theorem hleft{v:Program}{H:Params->Heap}{K:Params->Frag}{as ts:List Addr}{t M:Nat}(e:∀P,as=(K P).map (·.1))(eo:opening p=plainProg p.main.scope.names)(hf:∀s,fenceModules? p s=some s)(hN:Nat.ble 600 N=true)(le:Nat.ble M N=true)
  (run:∀(w:World) (os:OsState),topRun treeTable p w 11 (some (.ref 6)) M ⟨boot_heap w.params,⟨[]⟩,boot_drawn,boot_toks,os⟩ (topStub p)=some (hSh H t w os)){ls:List Str}(L:hLk p v H K as ts t ls):
  LeftO p v ls (fun s=>xlAt v [] s&&recOk [] s) (Hook.obs (kmHook K as e ts)) (Hook.val (kmHook K as e ts)) N:=by
 refine LeftO.of_pieces (boot_open eo hN hf) hsize run le fun w=>?_
 have q1:=L.l1 w;have q2:=L.l2 w;have q3:=L.l3 w;have q4:=L.l4 w;have q5:=L.l5 w;have q6:=L.l6 w;have q7:=L.l7 w;have q8:=L.l8 w;have q9:=L.l9 w;have q10:=L.l10 w;have q11:=L.l11 w;have q12:=L.l12 w
 simp only[←PySem.W.Fast.te5923862056798008813,←PySem.W.Fast.te5160383126252970620,←PySem.W.R.mapR_eq,←PySem.W.Fast.te3399658132070893891,←PySem.W.Fast.te5991557255702980513,←PySem.W.Fast.te10880121769531294198,←PySem.W.Fast.te821141287760084731,←PySem.W.Fast.te7409074990110511671,←PySem.W.Fast.te13664370479719496447,←PySem.W.Fast.te14722251495701143533,←PySem.W.Fast.te10994771534591457954,←PySem.W.Fast.te479339242167458305,←PySem.W.Fast.te16090120013241838585,←PySem.W.Fast.te3247288618530077131,←PySem.W.Fast.te2386780881361962483,←PySem.W.Fast.te11698064438423848299,←PySem.W.Fast.te7317090234206586261,←PySem.W.Fast.te7369524293546568484]at q1 q2 q4 q5 q6 q7 q8 q9 q10 q11 q12
 funext os
 unfold openSeen openGood;refine Je (Ja q1 os) (Je (Je (Ja q2 os) (Je q3 (Je (Ja q4 os) (Je (Ja q5 os) (Je (Ja q6 os) (Je (Ja q7 os) (Je (Ja q8 os) (Je (Ja q9 os) (Ja q10 os))))))))) (Je q11 q12))
end HG
namespace K53
noncomputable section
open PySem PySem.W PySem.Calls PyProof.Rows HG
def hS(i:Nat):Stmt:=PySem.Challenge.pw_turnsigns_k53_whole_turned.main.body.getD i (.Pass ⟨0,0,0,0⟩)
def hm0:Value:=(.str "turnsigns.errors" 187)
def hm1:Value:=(.str "turnsigns.grids" 239)
def hm2:Value:=(.str "turnsigns.tables" 275)
def hm3:Value:=(.str "turnsigns.turned" 301)
def hm4:Value:=(.str "turnsigns.weights" 418)
def hm5:Value:=(.str "law_turnsigns_k53_whole_turned" 426)
def hc0(P:Params):List (Nat×List Obj):=[(15,[boot_o_0 P,boot_o_1 P,boot_o_2 P,hZ,boot_o_4 P,boot_o_5 P,boot_o_6 P,boot_o_7 P,boot_o_8 P,boot_o_9 P,boot_o_10 P,hZ,hZ,hC "<module>" 182 185 1 0 0 11 false 12 .none .none .none .none,⟨(.type "frame"),none,.plain,⟨[(some (.ref 13)),(some (.ref 3)),(some (.ref 3)),none,(some (.str "__main__" 164)),none,(some (.ref 0))]⟩⟩]),(13,[hU [(.type "ValueError")],⟨(.type "builtin_function_or_method"),none,.fields ⟨[(.builtin "type.__prepare__"),(.type "type")]⟩,⟨[]⟩⟩,⟨(.type "dict"),none,.dict ⟨[hE P "__module__" 196 (.str "turnsigns.errors" 187),hE P "__qualname__" 198 (.str "SignError" 197),hE P "__firstlineno__" 200 (.int 2 199),hE P "__static_attributes__" 201 (.ref 22)]⟩ 4,⟨[]⟩⟩,hZ,hN,hC "SignError" 191 194 2 0 0 18 false 19 .none .none .none .none,⟨(.type "frame"),none,.plain,⟨[(some (.ref 20)),(some (.ref 3)),(some (.ref 17)),none,(some (.str "turnsigns.errors" 187)),none,(some (.ref 0))]⟩⟩,hZ,⟨(.type "dict"),none,.dict ⟨[hE P "__module__" 196 (.str "turnsigns.errors" 187),hE P "__firstlineno__" 200 (.int 2 199),hE P "__static_attributes__" 201 (.ref 22),hE P "__weakref__" 203 (.ref 25),hE P "__doc__" 204 .none]⟩ 3,⟨[]⟩⟩,hZ,⟨(.type "getset_descriptor"),none,.fields ⟨[(.str "__weakref__" 202),(.ref 24),(.builtin "ExceptionGroup.__weakref__"),.none]⟩,⟨[]⟩⟩,⟨(.type "super"),none,.fields ⟨[(.ref 24),(.ref 24),(.ref 24)]⟩,⟨[]⟩⟩,⟨(.type "builtin_function_or_method"),none,.fields ⟨[(.builtin "object.__init_subclass__"),(.ref 24)]⟩,⟨[]⟩⟩]),(1,[hU [.ref 24]]),(11,hCl P (hS 2) 29 207 4 hm0),(1,[hU [.ref 24]]),(11,hCl P (hS 3) 41 223 6 hm0),(7,hD7 (hS 5) 52 241 9 1 hm1 ["thing"]),(5,hD5 (hS 6) 59 248 11 2 hm1),(5,hD5 (hS 7) 64 254 15 3 hm1),(7,hD7 (hS 8) 69 260 19 3 hm1 ["thing","least","greatest"])]
def hc1(P:Params):List (Nat×List Obj):=[(5,hD5 (hS 9) 76 269 23 1 hm1),(7,hD7 (hS 12) 81 279 27 1 hm2 ["line","total","number"]),(5,hD5 (hS 13) 88 288 34 1 hm2),(7,hD7 (hS 14) 93 294 38 1 hm2 ["thing"]),(7,hD7 (hS 16) 100 303 42 1 hm3 ["table"]),(7,hD7 (hS 17) 107 310 44 1 hm3 ["table"]),(7,hD7 (hS 18) 114 317 46 1 hm3 ["table"]),(7,hD7 (hS 19) 121 324 48 1 hm3 ["table"]),(5,hD5 (hS 20) 128 331 50 1 hm3),(7,hD7 (hS 21) 133 337 52 1 hm3 ["table"])]
def hc2(P:Params):List (Nat×List Obj):=[(7,hD7 (hS 22) 140 344 54 1 hm3 ["table"]),(7,hD7 (hS 23) 147 351 56 1 hm3 ["table"]),(1,[⟨(.type "dict"),none,.dict ⟨[hE P "stay" 358 (.ref 106),hE P "left" 359 (.ref 113),hE P "half" 360 (.ref 120),hE P "right" 361 (.ref 127),hE P "upright" 362 (.ref 132),hE P "flat" 363 (.ref 139),hE P "slant" 364 (.ref 146),hE P "other" 365 (.ref 153)]⟩ 8,⟨[]⟩⟩]),(7,hD7 (hS 25) 155 375 59 1 hm3 ["thing"]),(7,hD7 (hS 26) 162 382 61 1 hm3 ["thing"]),(7,hD7 (hS 27) 169 389 64 2 hm3 ["table","turn","deed"]),(7,hD7 (hS 28) 176 398 67 2 hm3 ["table","turn"]),(5,hD5 (hS 29) 183 406 71 1 hm3),(5,hD5 (hS 30) 188 412 74 1 hm3),(5,hD5 (hS 32) 193 420 78 1 hm4)]
def hc3(P:Params):List (Nat×List Obj):=[(7,hD7 (hS 34) 198 428 82 2 hm5 ["_law_script","_law_k"]),(7,hD7 (hS 35) 205 436 86 2 hm5 ["_law_script","_law_k","_law_cell"]),(7,hD7 (hS 36) 212 445 91 2 hm5 ["_law_state_here","_law_many","_law_found","_law_mixed"]),(5,hD5 (hS 37) 219 455 100 1 hm5),(5,hD5 (hS 38) 224 461 110 3 hm5),(7,hD7 (hS 39) 229 467 120 0 hm5 []),(7,hD7 (hS 40) 236 473 122 2 hm5 ["_law_table_here","_law_turns","_law_turn"]),(5,hD5 (hS 41) 243 482 126 1 hm5)]
def hB(P:Params):Nat->Obj:=hfd (hc0 P++hc1 P++hc2 P++hc3 P)
def b2p(P:Params)(v:Value):List DictEntry:=[hE P "__name__" 165 v,hE P "__doc__" 166 .none,hE P "__package__" 167 .none,hE P "__loader__" 168 (.builtin "__main__.__loader__#opaque"),hE P "__spec__" 169 .none,hE P "__annotations__" 170 (.ref 6),hE P "__builtins__" 171 (.ref 4),hE P "__file__" 173 (.str "/claim/cut.py" 172),hE P "__cached__" 174 .none,hE P "SignError" 206 (.ref 24),hE P "NoTable" 222 (.ref 37),hE P "NoTurn" 238 (.ref 49),hE P "is_whole" 247 (.ref 58),hE P "is_row" 253 (.ref 63),hE P "is_grid" 259 (.ref 68),hE P "is_square" 268 (.ref 75)]
def b2q(P:Params)(v:Value):List DictEntry:=[hE P "flipped" 274 (.ref 80),hE P "GREATEST_SIDE" 278 (.int 6 277),hE P "takes_turns" 287 (.ref 87),hE P "is_table" 293 (.ref 92),hE P "must_be_table" 300 (.ref 99),hE P "stayed" 309 (.ref 106),hE P "turned_left" 316 (.ref 113),hE P "turned_half" 323 (.ref 120),hE P "turned_right" 330 (.ref 127),hE P "told_upright" 336 (.ref 132),hE P "told_flat" 343 (.ref 139),hE P "told_slant" 350 (.ref 146),hE P "told_other" 357 (.ref 153),hE P "TURNS" 374 (.ref 154),hE P "is_turn" 381 (.ref 161),hE P "must_be_turn" 388 (.ref 168)]
def b2r(P:Params)(v:Value):List DictEntry:=[hE P "brought" 397 (.ref 175),hE P "turned" 405 (.ref 182),hE P "own_turns" 411 (.ref 187),hE P "least_turned" 417 (.ref 192),hE P "minus_many" 425 (.ref 197),hE P "_law_cell_at" 435 (.ref 204),hE P "_law_state" 444 (.ref 211),hE P "_law_take" 454 (.ref 218),hE P "_law_lines" 460 (.ref 223),hE P "_law_table" 466 (.ref 228),hE P "_law_turn_words" 472 (.ref 235),hE P "_law_along" 481 (.ref 242),hE P "law" 487 (.ref 247)]
def he3(P:Params)(v:Value):List DictEntry:=b2p P v++b2q P v++b2r P v
def ht3(k:Nat):Nat×Nat×Value:=hnth [(9,9,(.str "__main__" 164)),(10,10,(.str "turnsigns.errors" 187)),(11,11,(.str "turnsigns.errors" 187)),(18,18,(.str "turnsigns.tables" 275)),(29,29,(.str "turnsigns.turned" 301)),(38,38,(.str "law_turnsigns_k53_whole_turned" 426)),(45,45,(.str "law_turnsigns_k53_whole_turned" 426))] k (0,0,.none)
def hx3(P:Params)(k:Nat):Obj:=⟨(.type "dict"),none,.dict ⟨(he3 P (ht3 k).2.2).take (ht3 k).1⟩ (ht3 k).2.1,⟨[]⟩⟩
def b2s:List Value:=hL3 [(2,20),(4,33),(6,45),(9,57),(11,62),(15,67),(19,74),(23,79),(27,86),(34,91),(38,98),(42,105),(44,112),(46,119),(48,126),(50,131),(52,138),(54,145),(56,152),(59,160),(61,167),(64,174),(67,181),(71,186),(74,191),(78,196),(82,203),(86,210),(91,217),(100,222),(110,227),(120,234),(122,241),(126,246)]
def b2t(_:Params)(k:Nat):Obj:=⟨.none,none,.fields ⟨b2s.take (hnth [0,3,6,24,57,81,102] k 0)⟩,⟨[]⟩⟩
def b2u:List Value:=[(.ref 37),(.ref 49)]
def b2v(_:Params)(k:Nat):Obj:=⟨(.type "type"),none,.cls ⟨"SignError",[(.type "ValueError")],[(.ref 24),(.type "ValueError"),(.type "Exception"),(.type "BaseException"),(.type "object")],23,"SignError",true,[],b2u.take (hnth [0,0,1,2,2,2,2] k 0),false,none,false⟩,⟨[(some (.ref 15)),none,(some (.str "SignError" 189)),(some (.str "SignError" 197)),(some (.builtin "ValueError.__new__")),(some (.bool true))]⟩⟩
def hO(P:Params)(k b:Nat):Obj:=match Nat.beq b 3 with|true=>hx3 P k|false=>match Nat.beq b 12 with|true=>b2t P k|false=>match Nat.beq b 24 with|true=>b2v P k|false=>hB P b
def hn(k:Nat):Nat:=hnth [15,28,40,81,154,205,248] k 0
noncomputable def hT (k:Nat) (P:Params):BT:=hmk (hO P k) (hn k) 12 1 0
def hV:Env:=hEnv PySem.Challenge.pw_turnsigns_k53_whole_turned (.ref 13) 14
def hQ:Program:=hVw PySem.Challenge.pw_turnsigns_k53_whole_turned [1,2,3,5,6,7,8,9,11,12,13,14,16,17,18,19,20,21,22,23,24,25,26,27,28,29,30,32,34,35,36,37,38,39,40,41]
def hA:List Nat:=[2,3,15,22,23,24,25,28,35,36,37,40,47,48,49,52,54,55,57,58,59,62,63,64,67,68,69,71,72,74,75,76,79,80,81,83,84,86,87,88,91,92,93,95,96,98,99,100,102,103,105,106,107,109,110,112,113,114,116,117,119,120,121,123,124,126,127,128,131,132,133,135,136,138,139,140,142,143,145,146,147,149,150,152,153,154,155,157,158,160,161,162,164,165,167,168,169,171,172,174,175,176,178,179,181,182,183,186,187,188,191,192,193,196,197,198,200,201,203,204,205,207,208,210,211,212,214,215,217,218,219,222,223,224,227,228,229,231,232,234,235,236,238,239,241,242,243,246,247]
def hK(P:Params):Frag:=hA.map fun a=>(a,hO P 6 a)
def hH(P:Params):Heap:=absHeap (hT 6 P) 248 {}
theorem htw:(hdep hT&&hdep hH&&hdep hV&&hdep hQ&&hdep hK&&hdep PySem.Challenge.pw_turnsigns_k53_whole_turned)=true:=by k_qdec
abbrev hpw:=PySem.Challenge.pw_turnsigns_k53_whole_turned
noncomputable abbrev fb:=PySem.W.Fast.tw14364793385576792824
noncomputable abbrev fp:=PySem.W.Fast.tw38911840536658289
noncomputable abbrev ft:=PySem.W.Fast.tw2291029243350352793
noncomputable abbrev fv:=PySem.W.Fast.tw1694637721630283897
theorem b2w:hPre 11 (some (.ref 6)) 12 15 187 ⟨0,0,0,0⟩ ⟨0,0,0,0⟩ PySem.W.Fast.tw15667345088766844465 PySem.W.Fast.tw11892475500146522536 fb fp ft fv:=fun w=>by kernel_rfl
theorem hpre:hPre 11 (some (.ref 6)) 12 15 187 ⟨0,0,0,0⟩ ⟨0,0,0,0⟩ topGo denote treeTable PySem.Challenge.pw_turnsigns_k53_whole_turned hT hV:=by rw[PySem.W.Fast.te15667345088766844465,PySem.W.Fast.te11892475500146522536,Yc,PySem.W.Fast.te38911840536658289,PySem.W.Fast.te2291029243350352793,PySem.W.Fast.te1694637721630283897];exact b2w
theorem b2x:hBlk 11 (some (.ref 6)) 1 15 187 ⟨0,0,0,0⟩ ⟨0,0,0,0⟩ ⟨0,0,0,0⟩ PySem.W.Fast.tw14374325043358763698 fb fp ft fv:=fun w=>by kernel_rfl
theorem hblk:hBlk 11 (some (.ref 6)) 1 15 187 ⟨0,0,0,0⟩ ⟨0,0,0,0⟩ ⟨0,0,0,0⟩ segRun treeTable PySem.Challenge.pw_turnsigns_k53_whole_turned hT hV:=by rw[PySem.W.Fast.te14374325043358763698,Yc,PySem.W.Fast.te38911840536658289,PySem.W.Fast.te2291029243350352793,PySem.W.Fast.te1694637721630283897];exact b2x
theorem hsl{m0:Nat}{ann:Option Value}{n i j k n0 t0 n1 t1:Nat}{q q0 q1:Pos}(h:hPc m0 ann n i j k n0 t0 n1 t1 q q0 q1 PySem.W.Fast.tw10110043849684766642 fb fp ft fv):hPc m0 ann n i j k n0 t0 n1 t1 q q0 q1 segRunT treeTable PySem.Challenge.pw_turnsigns_k53_whole_turned hT hV:=by rw[PySem.W.Fast.te10110043849684766642,Yc,PySem.W.Fast.te38911840536658289,PySem.W.Fast.te2291029243350352793,PySem.W.Fast.te1694637721630283897];exact h
theorem hp0:hPc 11 (some (.ref 6)) 196 0 2 0 15 187 28 207 ⟨0,0,0,0⟩ ⟨0,0,0,0⟩ ⟨2,0,3,8⟩ segRunT treeTable hpw hT hV:=hsl fun w=>by kernel_rfl
theorem hp1:hPc 11 (some (.ref 6)) 214 2 1 1 28 207 40 223 ⟨0,0,0,0⟩ ⟨2,0,3,8⟩ ⟨4,0,5,8⟩ segRunT treeTable hpw hT hV:=hsl fun w=>by kernel_rfl
theorem hp2:hPc 11 (some (.ref 6)) 379 3 9 2 40 223 81 279 ⟨0,0,0,0⟩ ⟨4,0,5,8⟩ ⟨26,0,26,13⟩ segRunT treeTable hpw hT hV:=hsl fun w=>by kernel_rfl
theorem hp3:hPc 11 (some (.ref 6)) 325 12 12 3 81 279 154 358 ⟨0,0,0,0⟩ ⟨26,0,26,13⟩ ⟨56,0,57,41⟩ segRunT treeTable hpw hT hV:=hsl fun w=>by kernel_rfl
theorem hp4:hPc 11 (some (.ref 6)) 384 24 11 4 154 358 205 436 ⟨0,0,0,0⟩ ⟨56,0,57,41⟩ ⟨82,0,85,12⟩ segRunT treeTable hpw hT hV:=hsl (by unfold hPc;refine splitW "special-get-raises" fun b w=>?_;cases b<;>kernel_rfl)
theorem hp5:hPc 11 (some (.ref 6)) 201 35 7 5 205 436 248 488 ⟨0,0,0,0⟩ ⟨82,0,85,12⟩ ⟨126,0,150,15⟩ segRunT treeTable hpw hT hV:=hsl fun w=>by kernel_rfl
theorem b2y:hFin 11 (some (.ref 6)) 2 6 248 488 ⟨0,0,0,0⟩ ⟨126,0,150,15⟩ PySem.W.Fast.tw14082659384304107361 fb fp ft fv:=fun w=>by kernel_rfl
theorem hfin:hFin 11 (some (.ref 6)) 2 6 248 488 ⟨0,0,0,0⟩ ⟨126,0,150,15⟩ topRun treeTable PySem.Challenge.pw_turnsigns_k53_whole_turned hT hV:=by rw[PySem.W.Fast.te14082659384304107361,Yc,PySem.W.Fast.te38911840536658289,PySem.W.Fast.te2291029243350352793,PySem.W.Fast.te1694637721630283897];exact b2y
theorem hrun(w:World)(os:OsState):topRun treeTable PySem.Challenge.pw_turnsigns_k53_whole_turned w 11 (some (.ref 6)) (Nat.add 12 (Nat.add 1 (Nat.add 196 (Nat.add 214 (Nat.add 379 (Nat.add 325 (Nat.add 384 (Nat.add 201 (2))))))))) ⟨boot_heap w.params,⟨[]⟩,boot_drawn,boot_toks,os⟩ (topStub PySem.Challenge.pw_turnsigns_k53_whole_turned)=some (SharedT.abs ⟨hT 6 w.params,248,{},⟨[]⟩,{},488,os⟩):=hgo hpre w os (hblkk hblk w os (hpcs hp0 w os (hpcs hp1 w os (hpcs hp2 w os (hpcs hp3 w os (hpcs hp4 w os (hpcs hp5 w os (hfin' (by kernel_rfl) hfin w os))))))))
theorem b2z:hLk PySem.W.Fast.tw38911840536658289 PySem.W.Fast.tw10729808816212023917 PySem.W.Fast.tw17767238740538137292 PySem.W.Fast.tw2568514572165852694 hA [] 488 ["TURNS"]:=⟨fun _=>by kernel_rfl,fun _=>by kernel_rfl,fun _=>by kernel_rfl,fun _=>by kernel_rfl,fun _=>by kernel_rfl,fun _=>by kernel_rfl,fun _=>by kernel_rfl,fun _=>by kernel_rfl,fun _=>by kernel_rfl,fun _=>by kernel_rfl,fun _=>by kernel_rfl,fun _=>by kernel_rfl⟩
theorem hlk:hLk PySem.Challenge.pw_turnsigns_k53_whole_turned hQ hH hK hA [] 488 ["TURNS"]:=by rw[PySem.W.Fast.te38911840536658289,PySem.W.Fast.te10729808816212023917,PySem.W.Fast.te17767238740538137292,PySem.W.Fast.te2568514572165852694];exact b2z
abbrev hHk:Hook:=kmHook hK hA (fun _=>by kernel_rfl) []
theorem hlf:LeftO PySem.Challenge.pw_turnsigns_k53_whole_turned hQ ["TURNS"] (fun s=>xlAt hQ [] s&&recOk [] s) (Hook.obs hHk) (Hook.val hHk) 3512:=hleft (fun _=>by kernel_rfl) (by kernel_rfl) (fun _=>by kernel_rfl) (by decide) (by decide) hrun hlk
abbrev hDr:DefRec:=⟨"law",hsA (hS 41),hsB (hS 41),hsS (hS 41),hsP (hS 41)⟩
end
end K53
namespace K53
open PySem PySem.W PyProof.Rows
theorem b2A(hc:WalkO hQ ["TURNS"] (XL hQ []) (Hook.says hHk) PySem.Challenge.rw_turnsigns_k53_whole_turned.row.toRowW hDr [] fun f vs=>call f vs):PySem.Challenge.rw_turnsigns_k53_whole_turned.Holds:=by
 o_law
 exact holds_open (Xt:=fun s=>xlAt hQ [] s&&recOk [] s) (Yf:=Hook.obs hHk) (Ya:=Hook.val hHk) (N:=3512) hlf (Hook.of hHk) (Hook.keeps hHk) (fun s e=>xl_of s (Bool.and_eq_true_iff.mp e).1) XL.keeps (by kernel_rfl) (by kernel_rfl) (by kernel_rfl) (fun s e=>recFacts_of (Bool.and_eq_true_iff.mp e).2) rfl (by assumption) (by decide+kernel) ⟨rfl,rfl,rfl,rfl,rfl,by decide+kernel⟩ ⟨[.list []],by decide+kernel,by decide+kernel⟩ hc
end K53
namespace L2
open PySem PySem.Spec PyProof.Rows
abbrev Key:=Sum Int Str
def a1C:Key->Value->Bool
 |.inl k,v=>Value.isInt k v
 |.inr x,v=>Value.isStrOf x v
def b2B(w:World):Key->Int
 |.inl k=>hashInt k
 |.inr x=>hashStr w x
theorem a0w:∀{k:Key}{v:Value},a1C k v=true->(∃i t,k=Sum.inl i/\v=Value.int i t)∨(∃x t,k=Sum.inr x/\v=Value.str x t)
 |.inl i,v,h=>by
  obtain⟨t,e⟩:=Value.isInt_shape (k:=i) (v:=v) h;exact .inl ⟨i,t,rfl,e⟩
 |.inr x,v,h=>by
  obtain⟨t,e⟩:=Value.isStrOf_shape (x:=x) (v:=v) h;exact .inr ⟨x,t,rfl,e⟩
theorem b2C(i:Int)(t:Tok):a1C (.inl i) (.int i t)=true:=by simp[a1C,Value.isInt]
theorem b2D(x:Str)(t:Tok):a1C (.inr x) (.str x t)=true:=by simp[a1C,Value.isStrOf]
theorem b2E(a b:Int):decide ((Sum.inl a:Key)=Sum.inl b)=(a==b):=by
 by_cases e:a=b
 ·subst e;simp
 ·have h:¬ (Sum.inl a:Key)=Sum.inl b:=fun q=>e (Sum.inl.inj q)
  rw[Qe h];exact(beq_eq_false_iff_ne.mpr e).symm
theorem b2F(a b:Str):decide ((Sum.inr a:Key)=Sum.inr b)=decide (a=b):=by
 by_cases e:a=b
 ·subst e;simp
 ·have h:¬ (Sum.inr a:Key)=Sum.inr b:=fun q=>e (Sum.inr.inj q)
  rw[Qe h,Qe e]
theorem b2G(a:Int)(b:Str):decide ((Sum.inl a:Key)=Sum.inr b)=false:=Qe (fun q=>nomatch q)
theorem b2H(a:Str)(b:Int):decide ((Sum.inr a:Key)=Sum.inl b)=false:=Qe (fun q=>nomatch q)
def k4_(prog:Program)(w:World):PySem.KeyKind prog w Key where
 is:=a1C
 hash:=b2B w
 inj:=fun v a b ha hb=>by
  rcases a0w ha with⟨i,t,rfl,rfl⟩|⟨x,t,rfl,rfl⟩
  ·rcases a0w hb with⟨j,u,rfl,e⟩|⟨y,u,rfl,e⟩
   ·injection e with e1 _;rw[e1]
   ·exact nomatch e
  ·rcases a0w hb with⟨j,u,rfl,e⟩|⟨y,u,rfl,e⟩
   ·exact nomatch e
   ·injection e with e1 _;rw[e1]
 byValue:=fun k v h=>by
  rcases a0w h with⟨i,t,rfl,rfl⟩|⟨x,t,rfl,rfl⟩<;>rfl
 pyHash:=fun hv h=>by
  rcases a0w hv with⟨i,t,rfl,rfl⟩|⟨x,t,rfl,rfl⟩
  ·exact wpAny_pyHash_int h
  ·exact wpAny_pyHash_str h
 eqBool:=fun hu hv h=>by
  rcases a0w hu with⟨i,t,rfl,rfl⟩|⟨x,t,rfl,rfl⟩
  ·rcases a0w hv with⟨j,u,rfl,rfl⟩|⟨y,u,rfl,rfl⟩
   ·rw[b2E]at h;exact wpAny_eqBool_int h
   ·rw[b2G]at h;exact SeqAt.EqAt.int_str i t y u _ _ _ _ h
  ·rcases a0w hv with⟨j,u,rfl,rfl⟩|⟨y,u,rfl,rfl⟩
   ·rw[b2H]at h;exact SeqAt.EqAt.str_int x t j u _ _ _ _ h
   ·rw[b2F]at h;exact wpAny_eqBool_str h
 «strs»:=fun k x t v h=>by
  rcases a0w h with⟨i,u,rfl,e⟩|⟨y,u,rfl,e⟩
  ·exact nomatch e
  ·injection e with e1 _
   subst e1;cases v<;>rfl
theorem b2I(prog:Program)(w:World)(i:Int)(t:Tok):(k4_ prog w).is (.inl i) (.int i t)=true:=b2C i t
theorem b2J(prog:Program)(w:World)(x:Str)(t:Tok):(k4_ prog w).is (.inr x) (.str x t)=true:=b2D x t
inductive V where
 |non|bl (b:Bool)|int (i:Int)|str (x:Str)|byt (b:Array UInt8)|flt (b:UInt64)|ref (a:Addr)|ty (n:String)
 deriving DecidableEq
def q7_:V->Value->Prop
 |.non,u=>u=Value.none
 |.bl b,u=>u=Value.bool b
 |.int i,u=>∃t,u=Value.int i t
 |.str x,u=>∃t,u=Value.str x t
 |.byt b,u=>∃t,u=Value.bytes b t
 |.flt b,u=>∃t,u=Value.float b t
 |.ref a,u=>u=Value.ref a
 |.ty n,u=>u=Value.type n
abbrev q0_:List V->List Value->Prop:=Paired q7_
theorem q0_.length{xs:List V}{us:List Value}(r:q0_ xs us):xs.length=us.length:=Paired.length r
theorem q0_.get:∀{xs:List V}{us:List Value}{i:Nat}{x:V},q0_ xs us->xs[i]? =some x->∃u,us[i]? =some u/\q7_ x u
 |_,_,_,_,.nil,e=>by simp at e
 |_,_,0,_,.cons r _,e=>by simp at e;subst e;exact⟨_,rfl,r⟩
 |_,_,i+1,x,.cons _ t,e=>by
  obtain⟨u,h1,h2⟩:=q0_.get (i:=i) (x:=x) t (by simpa using e)
  exact⟨u,by simpa using h1,h2⟩
theorem q0_.set{x:V}{u:Value}(r:q7_ x u):∀{xs:List V}{us:List Value}(i:Nat),q0_ xs us->q0_ (xs.set i x) (us.set i u)
 |_,_,_,.nil=>.nil
 |_,_,0,.cons _ t=>.cons r t
 |_,_,i+1,.cons q t=>.cons q (q0_.set r i t)
theorem q0_.append:∀{xs ys:List V}{us ws:List Value},q0_ xs us->q0_ ys ws->q0_ (xs++ys) (us++ws)
 |_,_,_,_,.nil,s=>s
 |_,_,_,_,.cons r t,s=>.cons r (q0_.append t s)
def a3R:Option V->Option Value->Prop
 |some v,some u=>q7_ v u
 |none,none=>True
 |_,_=>False
def KV{κ:Type}:List (κ×V)->List (κ×Value)->Prop:=Paired fun(p:κ×V) (q:κ×Value)=>p.1=q.1/\q7_ p.2 q.2
def kV:Key->V
 |.inl i=>.int i
 |.inr x=>.str x
inductive HO where
 |lst (xs:List V)
 |tup (xs:List V)
 |dK (kvs:List (Key×V))|dT (C:Addr->List Key->Prop) (kvs:List (List Key×V))
 |set (S:Int->Bool) (n:Nat)
 |ins (C dx:Addr) (fs:List (Str×V))
 |own (x:Addr)
 |xd (fs:List (Str×V))
 |met (f x:Addr)
 |rng (lo hi:Int)
 |frz (o:Obj) (u:HO)
 |tbl (ps:Array Value)
 |ext (φ:Heap->Prop)
abbrev Hp:=Addr->Option HO
def upd(H:Hp)(a:Addr)(o:HO):Hp:=fun b=>if b=a then some o else H b
theorem y3_{H:Hp}{a:Addr}{o:HO}:upd H a o a=some o:=by unfold upd;rw[Qc rfl]
theorem q4_{H:Hp}{a b:Addr}{o:HO}(h:b≠a):upd H a o b=H b:=by unfold upd;rw[Qp h]
theorem a8b{H:Hp}{a:Addr}{o u:HO}:upd (upd H a o) a u=upd H a u:=by
 funext b;unfold upd;split<;>rfl
theorem k8_{H:Hp}{a b:Addr}{o:HO}(h:H a=some o)(h':H b=none):a≠b:=by
 intro e;subst e;rw[h]at h';cases h'
def a0a(h:Heap)(a:Addr)(items:Array Value):Prop:=∃o,h.get? a=some o/\o.cls=.type "tuple"/\o.dict=none/\∃n,o.data=.seq items n
theorem a0a.tup{h:Heap}{a:Addr}{items:Array Value}:a0a h a items->IsTup h a items:=fun⟨o,e,c,_,d⟩=>⟨o,e,c,d⟩
theorem a0a.lt{h:Heap}{a:Addr}{items:Array Value}(p:a0a h a items):a<h.objs.size:=p.tup.lt
theorem a0a.new(h:Heap)(items:Array Value):a0a (h.push {cls:=.type "tuple",data:=.seq items}) h.objs.size items:=⟨_,Ql _ rfl,rfl,rfl,_,rfl⟩
section
variable(P:Program)(w:World)
def k2_(H:Hp)(h:Heap)(a:Addr):HO->Prop
 |.lst xs=>xs.length≤sizeLine/\∃(its:List Value) (n:Nat),q0_ xs its/\h.get? a=some {cls:=.type "list",data:=.seq its.toArray n}
 |.tup xs=>xs.length≤sizeLine/\∃its:List Value,q0_ xs its/\a0a h a its.toArray
 |.dK kvs=>kvs.length≤sizeLine/\(a==sysModules)=false/\∃vs,KV kvs vs/\h.DictOf (k4_ P w) a vs
 |.dT C kvs=>kvs.length≤sizeLine/\(a==sysModules)=false/\∃xs:List (List Key×Addr×Value),
   Paired (fun(p:List Key×V) (q:List Key×Addr×Value)=>p.1=q.1/\(H q.2.1=some (.tup (p.1.map kV))∨C q.2.1 p.1)/\q7_ p.2 q.2.2) kvs xs/\
   ∃o es ep,h.get? a=some o/\o.ExactDict/\o.data=.dict es ep/\es.toList=xs.map (entryOfKey (tupleKind (k4_ P w)))/\(xs.map (·.1)).Nodup
 |.set S n=>h.SetOf (intKind P w) a S n
 |.ins C dx fs=>H dx=some (.own a)/\fs.length≤1000/\dx≠a/\h.get? a=some (PySem.W.instObj C dx)/\
   ∃mA,h.Ns1 dx mA/\(∀f,a3R (fs.lookup f) (mA f))/\PySem.Within mA (fs.map (·.1))
 |.own _=>∃o,h.get? a=some o
 |.xd fs=>∃mA,h.Ns1 a mA/\∀f,a3R (fs.lookup f) (mA f)
 |.rng lo hi=>∃t u v,h.get? a=some {cls:=.type "range",data:=.fields #[.int lo t,.int hi u,.int 1 v]}
 |.frz o u=>h.get? a=some o/\k2_ H h a u
 |.tbl ps=>h.get? a=some {cls:=.none,data:=.fields ps}
 |.met f x=>h.get? a=some (PySem.W.methodObj (.ref f) (.ref x))
 |.ext φ=>φ h/\(∃o,h.get? a=some o)/\∀h1 h2:Heap,φ h1->(∀o,h1.get? a=some o->h2.get? a=some o)->φ h2
def HOk(H:Hp)(h:Heap):Prop:=∀a o,H a=some o->k2_ P w H h a o
end
section
variable{P:Program}{w:World}{H H':Hp}{h h':Heap}{a:Addr}{o:HO}
theorem k2_.lt(x:k2_ P w H h a o):a<h.objs.size:=by
 cases o with
 |lst xs=>obtain⟨_,_,_,_,e⟩:=x;exact Qw e
 |tup xs=>obtain⟨_,_,_,p⟩:=x;exact p.lt
 |dK kvs=>obtain⟨_,_,_,_,o,_,_,e,_⟩:=x;exact Qw e
 |dT C kvs=>obtain⟨_,_,_,_,o,_,_,e,_⟩:=x;exact Qw e
 |set S n=>obtain⟨o,_,_,_,e,_⟩:=x;exact Qw e
 |ins C dx fs=>obtain⟨_,_,_,e,_⟩:=x;exact Qw e
 |own y=>obtain⟨_,e⟩:=x;exact Qw e
 |xd fs=>obtain⟨_,⟨_,_,_,e,_⟩,_⟩:=x;exact Qw e
 |rng lo hi=>obtain⟨_,_,_,e⟩:=x;exact Qw e
 |frz ob u=>obtain⟨e,_⟩:=x;exact Qw e
 |tbl ps=>exact Qw (show h.get? a=some _ from x)
 |met f y=>exact Qw (show h.get? a=some _ from x)
 |ext φ=>obtain⟨_,⟨_,e⟩,_⟩:=x;exact Qw e
theorem Paired.mapP{α β:Type}{F G:α->β->Prop}:∀{l₁:List α}{l₂:List β},Paired F l₁ l₂->(∀a b,F a b->G a b)->Paired G l₁ l₂
 |_,_,.nil,_=>.nil
 |_,_,.cons r t,f=>.cons (f _ _ r) (Paired.mapP t f)
theorem k2_.stay(x:k2_ P w H h a o)(k:∀b u,(b=a∨H b=some (.own a))->h.get? b=some u->h'.get? b=some u)
  (ho:∀b,H b=some (.own a)->H' b=some (.own a))(ht:∀b xs,H b=some (.tup xs)->H' b=some (.tup xs)):k2_ P w H' h' a o:=by
 induction o with
 |lst xs=>obtain⟨z,its,n,r,e⟩:=x;exact⟨z,its,n,r,k _ _ (.inl rfl) e⟩
 |tup xs=>obtain⟨z,its,r,ob,e,c⟩:=x;exact⟨z,its,r,ob,k _ _ (.inl rfl) e,c⟩
 |dK kvs=>obtain⟨z,y,vs,r,ob,es,ep,e,c⟩:=x;exact⟨z,y,vs,r,ob,es,ep,k _ _ (.inl rfl) e,c⟩
 |dT C kvs=>
  obtain⟨z,y,xs,r,ob,es,ep,e,c⟩:=x;exact⟨z,y,xs,Paired.mapP r fun p q z=>⟨z.1,z.2.1.imp (ht _ _) id,z.2.2⟩,ob,es,ep,k _ _ (.inl rfl) e,c⟩
 |set S n=>obtain⟨ob,es,ep,t,e,c⟩:=x;exact⟨ob,es,ep,t,k _ _ (.inl rfl) e,c⟩
 |ins C dx fs=>
  obtain⟨d,z,ne,e,mA,⟨od,es,ep,e2,c⟩,r⟩:=x;exact⟨ho _ d,z,ne,k _ _ (.inl rfl) e,mA,⟨od,es,ep,k _ _ (.inr d) e2,c⟩,r⟩
 |own y=>obtain⟨ob,e⟩:=x;exact⟨ob,k _ _ (.inl rfl) e⟩
 |xd fs=>obtain⟨mA,⟨od,es,ep,e,c⟩,r⟩:=x;exact⟨mA,⟨od,es,ep,k _ _ (.inl rfl) e,c⟩,r⟩
 |rng lo hi=>obtain⟨t,u,v,e⟩:=x;exact⟨t,u,v,k _ _ (.inl rfl) e⟩
 |frz ob u ih=>obtain⟨e,q⟩:=x;exact⟨k _ _ (.inl rfl) e,ih q⟩
 |tbl ps=>
  have e:h.get? a=some {cls:=.none,data:=.fields ps}:=x
  show h'.get? a=some {cls:=.none,data:=.fields ps};exact k a _ (.inl rfl) e
 |met f y=>
  have e:h.get? a=some (PySem.W.methodObj (.ref f) (.ref y)):=x
  show h'.get? a=some (PySem.W.methodObj (.ref f) (.ref y));exact k a _ (.inl rfl) e
 |ext φ=>obtain⟨p,⟨o,e⟩,st⟩:=x;exact⟨st _ _ p fun o q=>k _ _ (.inl rfl) q,⟨o,k _ _ (.inl rfl) e⟩,st⟩
theorem HOk.lt(x:HOk P w H h)(e:H a=some o):a<h.objs.size:=(x a o e).lt
theorem HOk.fresh(x:HOk P w H h)(e:h.objs.size≤a):H a=none:=by
 cases q:H a with
 |none=>rfl
 |some u=>exact absurd (Qa (x.lt q) e) (Yp _)
theorem HOk.kept(x:HOk P w H h)(k:∀b u,h.get? b=some u->h'.get? b=some u):HOk P w H h':=fun a o e=>
 (x a o e).stay (fun b u _ q=>k b u q) (fun _ q=>q) fun _ _ q=>q
theorem HOk.laid(x:HOk P w H h)(k:∀b u,h.get? b=some u->h'.get? b=some u)(hp:h.objs.size≤a)(new:k2_ P w (upd H a o) h' a o):HOk P w (upd H a o) h':=fun b u e=>by
 have hn:=x.fresh hp
 by_cases hb:b=a
 ·subst hb;rw[y3_]at e;cases e;exact new
 ·rw[q4_ hb]at e
  exact(x b u e).stay (fun c v _ q=>k c v q) (fun c q=>by rw[q4_ (k8_ q hn)];exact q) fun c xs q=>by rw[q4_ (k8_ q hn)];exact q
end
def Rd(H:Hp)(a:Addr)(u:HO):Prop:=H a=some u∨ ∃o,H a=some (.frz o u)
theorem Rd.ok{P:Program}{w:World}{H:Hp}{h:Heap}{a:Addr}{u:HO}(r:Rd H a u)(x:HOk P w H h):k2_ P w H h a u:=by
 rcases r with r|⟨o,r⟩
 ·exact x a u r
 ·obtain⟨_,q⟩:=x a _ r
  exact q
def Mut:Option HO->Prop
 |some (.lst _)=>True
 |some (.dK _)=>True
 |some (.dT _ _)=>True
 |some (.set _ _)=>True
 |some (.ins _ _ _)=>True
 |some (.ext _)=>True
 |_=>False
section
variable{P:Program}{w:World}{H:Hp}{h h':Heap}{x e:Addr}{o':HO}
theorem HOk.write(ok:HOk P w H h)(mu:Mut (H x))(he:e=x∨H e=some (.own x))(k:∀b u,b≠e->h.get? b=some u->h'.get? b=some u)(heo:∃u,h'.get? e=some u)
  (new:k2_ P w (upd H x o') h' x o'):HOk P w (upd H x o') h':=fun b u q=>by
 have nown:∀c y,H c=some (.own y)->c≠x:=fun c y r z=>by subst z;rw[r]at mu;exact mu
 have ntup:∀c xs,H c=some (.tup xs)->c≠x:=fun c xs r z=>by subst z;rw[r]at mu;exact mu
 by_cases hb:b=x
 ·subst hb;rw[y3_]at q;cases q;exact new
 ·rw[q4_ hb]at q
  by_cases hbe:b=e
  ·have q':H b=some (.own x):=by
    rcases he with z|z
    ·exact absurd (hbe.trans z) hb
    ·rw[hbe];exact z
   rw[q]at q';cases q';obtain⟨v,hv⟩:=heo;exact⟨v,by rw[hbe];exact hv⟩
  ·refine(ok b u q).stay (fun c v hc r=>k c v ?_ r) (fun c r=>by rw[q4_ (nown c b r)];exact r) fun c xs r=>by rw[q4_ (ntup c xs r)];exact r
   rcases hc with rfl|hc
   ·exact hbe
   ·rintro rfl
    rcases he with z|z
    ·exact nown c b hc z
    ·rw[hc]at z;cases z;exact hb rfl
end
structure Un(fs ex:List Addr)(H H':Hp)(h h':Heap):Prop where
 keep:∀b o,h.get? b=some o->H b=none->b∉fs->b∉ex->h'.get? b=some o
 slot:∀b o,h.get? b=some o->H b=none->b∈fs->b∉ex->∃sl,h'.get? b=some {o with slots:=sl}
 free:∀b o,h.get? b=some o->H b=none->b∉ex->H' b=none
 there:∀b o,h.get? b=some o->b∉ex->∃o',h'.get? b=some o'
 tups:∀b xs,H b=some (.tup xs)->H' b=some (.tup xs)
 frzs:∀b o u,H b=some (.frz o u)->H' b=some (.frz o u)
 tbls:∀b ps,H b=some (.tbl ps)->∃more,H' b=some (.tbl (ps++more))
section
variable{fs fs' ex ex':List Addr}{H H1 H2:Hp}{h h1 h2 h':Heap}{a x e:Addr}{o:HO}
theorem Un.any(u:Un fs ex H H1 h h1){b:Addr}{ob:Obj}(q:h.get? b=some ob)(n:H b=none)(hx:b∉ex):∃sl,h1.get? b=some {ob with slots:=sl}:=by
 by_cases hb:b∈fs
 ·exact u.slot b ob q n hb hx
 ·exact⟨ob.slots,u.keep b ob q n hb hx⟩
theorem Un.kept(k:∀b u,h.get? b=some u->h'.get? b=some u):Un fs ex H H h h':=
 ⟨fun b ob q _ _ _=>k b ob q,fun b ob q _ _ _=>⟨ob.slots,k b ob q⟩,fun _ _ _ n _=>n,fun b ob q _=>⟨ob,k b ob q⟩,fun _ _ q=>q,fun _ _ _ q=>q,fun _ ps q=>⟨#[],by rw[q];simp⟩⟩
theorem Un.refl:Un fs ex H H h h:=Un.kept fun _ _ q=>q
theorem Un.laid(k:∀b u,h.get? b=some u->h'.get? b=some u)(hp:h.objs.size≤a)(hn:H a=none):Un fs ex H (upd H a o) h h' where
 keep:=fun b u q _ _ _=>k b u q
 slot:=fun b u q _ _ _=>⟨u.slots,k b u q⟩
 free:=fun b u q n _=>by rw[q4_ (Zq (Qa (Qw q) hp))];exact n
 there:=fun b u q _=>⟨u,k b u q⟩
 tups:=fun b xs q=>by rw[q4_ (k8_ q hn)];exact q
 frzs:=fun b u xs q=>by rw[q4_ (k8_ q hn)];exact q
 tbls:=fun b ps q=>⟨#[],by rw[q4_ (k8_ q hn),q];simp⟩
theorem Un.write(mu:Mut (H x))(he:e=x∨H e=some (.own x))(k:∀b u,b≠e->h.get? b=some u->h'.get? b=some u)(heo:∃u,h'.get? e=some u):Un fs ex H (upd H x o) h h':=by
 have hx:∀b,H b=none->b≠x:=fun b n z=>by subst z;rw[n]at mu;exact mu
 have hb:∀b,H b=none->b≠e:=fun b n z=>by
  subst z
  rcases he with r|r
  ·exact hx b n r
  ·rw[n]at r;cases r
 have hm:∀b u,H b=some u-> ¬ Mut (some u)->b≠x:=fun b u q nm z=>by subst z;rw[q]at mu;exact nm mu
 refine⟨fun b u q n _ _=>k b u (hb b n) q,fun b u q n _ _=>⟨u.slots,k b u (hb b n) q⟩,fun b u q n _=>by rw[q4_ (hx b n)];exact n,fun b u q _=>?_,
  fun b xs q=>by rw[q4_ (hm b _ q fun z=>z)];exact q,fun b u xs q=>by rw[q4_ (hm b _ q fun z=>z)];exact q,fun b ps q=>⟨#[],by rw[q4_ (hm b _ q fun z=>z),q];simp⟩⟩
 by_cases hbe:b=e
 ·subst hbe;exact heo
 ·exact⟨u,k b u hbe q⟩
end
def trk(h:Heap)(H:Hp):List Addr:=(List.range h.objs.size).filter fun a=>(H a).isSome
def a0L(h:Heap)(H:Hp):Heap:=PySem.W.hideAll h (trk h H)
theorem b2K(h:Heap)(H:Hp):(a0L h H).objs.size=h.objs.size:=PySem.W.hideAll_size _ _
theorem b2L{h:Heap}{H:Hp}{b:Addr}{o:Obj}(e:h.get? b=some o)(n:H b=none):(a0L h H).get? b=some o:=
 PySem.W.hideAll_get _ e fun hm=>by
  have q:(H b).isSome=true:=(List.mem_filter.mp hm).2
  rw[n]at q;simp at q
theorem b2M{h:Heap}{H:Hp}{b:Addr}{o:Obj}(e:(a0L h H).get? b=some o):h.get? b=some o/\H b=none:=by
 have e':h.get? b=some o:=PySem.W.of_hideAll (trk h H) e
 refine⟨e',?_⟩;cases q:H b with
 |none=>rfl
 |some x=>
  have hm:b∈trk h H:=List.mem_filter.mpr ⟨Qy.mpr (Qw e'),by simp[q]⟩
  have z:(a0L h H).get? b=none:=PySem.W.hideAll_none (trk h H) hm
  rw[z]at e;cases e
def a2X(g h:Heap)(L:Addr):OX:=(List.range h.objs.size).filterMap fun a=>if a=L∨(g.get? a).isSome=true then none else(h.get? a).map fun o=>(a,o)
theorem a8c{g h:Heap}{L a:Addr}{o:Obj}(h1:a≠L)(h2:g.get? a=none)(h3:h.get? a=some o):(a,o)∈a2X g h L:=
 Jh.mpr ⟨a,Qy.mpr (Qw h3),by simp[h1,h2,h3]⟩
theorem b2N{g h:Heap}{L:Addr}{p:Addr×Obj}(hp:p∈a2X g h L):p.1≠L/\g.get? p.1=none/\h.get? p.1=some p.2:=by
 obtain⟨b,_,e⟩:=Jh.mp hp;split at e
 ·cases e
 ·rename_i hn
  cases q:h.get? b with
  |none=>rw[q]at e;simp at e
  |some u=>
   rw[q]at e;simp only[Tp,Zc]at e;subst e;refine⟨fun z=>hn (.inl z),?_,q⟩
   show g.get? b=none;cases r:g.get? b with
   |none=>rfl
   |some v=>exact(hn (.inr (by simp[r]))).elim
def rest(g h:Heap)(L d:Addr):OX:=(a2X g h L).filter fun p=>decide (p.1≠d)
theorem a8d{g h:Heap}{L:Addr}:News g L h (a2X g h L):=fun p hp=>let ⟨a,b,c⟩:=b2N hp;⟨c,a,b⟩
structure Mod(K:Qz)(mg:OU)(base:Heap):Prop where
 kin:K.In base
 glob:base.Ns mainGlobals mg
 blt:∃mb,base.Ns builtinsNs mb/\∀x:Str,x≠"__name__"->mb x=bootBuiltins x
 nolimit:base.NoLimit
structure Cx where
 prog:Program
 w:World
 K:Qz
 mg:OU
 base:Heap
 A:Around
 N:List Str
 s₀:Shared
 H₀:Hp
 env:Env
 outer:List Env
 stack:List Env
 ex:List Addr
 fn:Str->Bool
 calm:Bool
 pn:OX
 xe:OE
def frs(l:List Env):List Addr:=l.filterMap (·.frame)
abbrev Cx.fs(X:Cx):List Addr:=frs X.outer
def Vis(sc:Scope)(x:Str):Prop:=sc.names.lookup x=some .local∨sc.names.lookup x=some .cell∨sc.names.lookup x=some .free
def Loc(sc:Scope)(x:Str):Prop:=sc.names.lookup x=some .local∨sc.names.lookup x=some .cell
def b2O(env:Env)(h:Heap)(m:OU)(x:Str)(u:Value):Prop:=
 (env.kindOf x=some .local/\m x=some u)∨((env.kindOf x=some .cell∨env.kindOf x=some .free)/\∃c,env.cells.lookup x=some c/\h.IsCell c (some u))
structure Cx.Ok(X:Cx):Prop where
 mod:Mod X.K X.mg X.base
 kind:X.env.scope.kind=.function
 glob:X.env.globals=mainGlobals
 blt:X.env.builtins=builtinsNs
 above:X.s₀.heap.objs.size≤X.env.locals
 inj:∀x y c,X.env.cells.lookup x=some c->X.env.cells.lookup y=some c->x=y
 has:∀x,(X.env.kindOf x=some .cell∨X.env.kindOf x=some .free)->∃c,X.env.cells.lookup x=some c
 cab:∀x c,X.fn x=true->X.env.cells.lookup x=some c->X.s₀.heap.objs.size≤c
 hd:X.calm=true->X.A.handled=none
 frames:X.A.frames=some X.stack
 stk:X.stack=X.outer∨(X.stack=X.env::X.outer/\X.env.frame=some X.env.locals)
 exf:∀b∈X.ex,b≠X.env.locals/\∀x c,X.env.cells.lookup x=some c->c≠b
 bs:∀b o,X.base.get? b=some o->X.s₀.heap.get? b=some o/\X.H₀ b=none
 bsz:X.base.objs.size≤X.s₀.heap.objs.size
 noex:∀b o,X.base.get? b=some o->b∉X.ex
 exfs:∀b∈X.ex,b∉X.fs
 funs:X.s₀.heap.FunFrames X.base X.outer
 frf:∀b∈X.fs,X.H₀ b=none
structure Inv(X:Cx)(pins:OX)(σ:List (Option V))(H:Hp)(s:Shared):Prop where
 ok:X.Ok
 os:s.os=X.s₀.os
 bare:AllBare s.gens
 base:Un X.fs X.ex X.H₀ H X.s₀.heap s.heap
 loc:∃m,s.heap.Ns X.env.locals m/\∀(i:Nat) (x:Str) (v:V),X.N[i]? =some x->σ[i]? =some (some v)->Vis X.env.scope x->∃u,q7_ v u/\b2O X.env s.heap m x u
 cell:∀x c,X.env.cells.lookup x=some c->∃v,s.heap.IsCell c v
 free:H X.env.locals=none
 freeC:∀x c,X.env.cells.lookup x=some c->H c=none
 pin:∀p∈X.pn++pins,s.heap.get? p.1=some p.2/\H p.1=none/\p.1≠X.env.locals/\p.1∉X.fs/\∀v,p.2.data≠.cell v
 hok:HOk X.prog X.w H s.heap
 len:σ.length=X.N.length
section
variable{X:Cx}{pins:OX}{σ:List (Option V)}{H H':Hp}{s:Shared}{h':Heap}
theorem Cx.Ok.nofr(ok:X.Ok){b:Addr}{o:Obj}(e:X.base.get? b=some o):b∉X.fs:=fun hb=>by
 have:=(ok.funs.mem hb).1;rw[e]at this;cases this
theorem Inv.bs(I:Inv X pins σ H s):∀b o,X.base.get? b=some o->s.heap.get? b=some o/\H b=none:=fun b o e=>
 ⟨I.base.keep b o (I.ok.bs b o e).1 (I.ok.bs b o e).2 (I.ok.nofr e) (I.ok.noex b o e),I.base.free b o (I.ok.bs b o e).1 (I.ok.bs b o e).2 (I.ok.noex b o e)⟩
theorem Inv.bk(I:Inv X pins σ H s):∀b o,X.base.get? b=some o->s.heap.get? b=some o:=fun b o e=>(I.bs b o e).1
theorem Inv.mod(I:Inv X pins σ H s):Mod X.K X.mg X.base:=I.ok.mod
theorem Inv.kIn(I:Inv X pins σ H s):X.K.In s.heap:=I.ok.mod.kin.keeps I.bk
theorem Inv.fr(I:Inv X pins σ H s):∃m,Fr X.base X.env.locals s.heap m:=
 let ⟨m,hn,_⟩:=I.loc
 ⟨m,hn,I.bk,Yj I.ok.bsz I.ok.above⟩
theorem Inv.lt(I:Inv X pins σ H s):X.env.locals<s.heap.objs.size:=let ⟨_,hn,_⟩:=I.loc;hn.lt
theorem Inv.sz(I:Inv X pins σ H s):X.s₀.heap.objs.size≤s.heap.objs.size:=Yj I.ok.above (Jm I.lt)
theorem Inv.nofs(I:Inv X pins σ H s){a:Addr}(h:s.heap.objs.size≤a):a∉X.fs:=fun hb=>by
 obtain⟨_,o,ho,_⟩:=I.ok.funs.mem hb;exact absurd (Qa (Qw ho) (Yj I.sz h)) (Yp _)
theorem Inv.cne(I:Inv X pins σ H s):∀x c,X.env.cells.lookup x=some c->c≠X.env.locals:=fun x c e z=>by
 obtain⟨v,o,ho,hd⟩:=I.cell x c e;obtain⟨m,⟨o',es,ep,ho',hd',_⟩,_⟩:=I.loc;rw[z,ho']at ho;cases ho;rw[hd']at hd;cases hd
theorem Inv.funs(I:Inv X pins σ H s):s.heap.FunFrames X.base X.outer:=by
 have all:∀(l:List Env),(∀b∈frs l,b∈X.fs)->X.s₀.heap.FunFrames X.base l->s.heap.FunFrames X.base l:=by
  intro l
  induction l with
  |nil=>intro _ _;trivial
  |cons env r ih=>
   intro hs hl;obtain⟨hk,⟨L,o,hf,hn,ho,hd⟩,hr⟩:=hl;have hL:L∈X.fs:=hs L (by unfold frs;rw[Ju,hf];exact Qo)
   obtain⟨sl,e⟩:=I.base.slot L o ho (I.ok.frf L hL) hL fun z=>I.ok.exfs L z hL
   exact⟨hk,⟨L,_,hf,hn,e,hd⟩,ih (fun b hb=>hs b (by unfold frs;rw[Ju,hf];exact Qt _ hb)) hr⟩
 exact all X.outer (fun _ hb=>hb) I.ok.funs
theorem Inv.stack(I:Inv X pins σ H s):s.heap.FunFrames X.base X.stack:=by
 rcases I.ok.stk with e|⟨e,hf⟩
 ·rw[e];exact I.funs
 ·rw[e]
  obtain⟨m,hn,_⟩:=I.loc;refine .cons (by rw[I.ok.kind];decide) hf hn ?_ I.funs
  exact Heap.get?_none_of_le (Yj I.ok.bsz I.ok.above)
theorem Inv.stkSub(I:Inv X pins σ H s):∀b∈frs X.stack,b∈X.env.locals::X.fs:=fun b hb=>by
 rcases I.ok.stk with e|⟨e,hf⟩
 ·rw[e]at hb;exact Qt _ hb
 ·rw[e]at hb
  unfold frs at hb;rw[Ju,hf]at hb;exact hb
theorem Inv.stkFree(I:Inv X pins σ H s):∀b∈frs X.stack,H b=none:=fun b hb=>by
 rcases Qg.mp (I.stkSub b hb)with e|hb
 ·rw[e];exact I.free
 ·obtain⟨_,o,ho,_⟩:=I.ok.funs.mem hb
  exact I.base.free b o ho (I.ok.frf b hb) fun z=>I.ok.exfs b z hb
theorem Inv.step{g':Array GenState}{t':Nat}{d':Drawn}{ch:List Addr}(I:Inv X pins σ H s)
  (hch:∀b∈ch,(b∈X.ex∨X.s₀.heap.objs.size≤b)/\b≠X.env.locals/\(∀x c,X.env.cells.lookup x=some c->c≠b)/\∀p∈X.pn++pins,p.1≠b)
  (keep:∀b o,b≠X.env.locals->b∉X.fs->b∉ch->s.heap.get? b=some o->H b=none->h'.get? b=some o)
  (slot:∀b o,b≠X.env.locals->b∈X.fs->b∉ch->s.heap.get? b=some o->H b=none->∃sl,h'.get? b=some {o with slots:=sl})(free:∀b o,b∉ch->s.heap.get? b=some o->H b=none->H' b=none)
  (there:∀b o,b∉ch->s.heap.get? b=some o->∃o',h'.get? b=some o')
  (tups:∀b xs,H b=some (.tup xs)->H' b=some (.tup xs))(frzs:∀b o u,H b=some (.frz o u)->H' b=some (.frz o u))(tbls:∀b ps,H b=some (.tbl ps)->∃more,H' b=some (.tbl (ps++more)))
  (ns:∀m,s.heap.Ns X.env.locals m->h'.Ns X.env.locals m)(hok:HOk X.prog X.w H' h')(hg:AllBare g'):
  Inv X pins σ H' {s with heap:=h',gens:=g',drawn:=d',toks:=t'}:=by
 have neL:∀b o,X.s₀.heap.get? b=some o->b≠X.env.locals:=fun b o e=>Zq (Qa (Qw e) I.ok.above)
 have neC:∀b o,X.s₀.heap.get? b=some o->b∉X.ex->b∉ch:=fun b o e hx hb=>by
  rcases(hch b hb).1 with z|z
  ·exact hx z
  ·exact absurd (Qa (Qw e) z) (Yp _)
 have cellK:∀x c,X.env.cells.lookup x=some c->∀v,s.heap.IsCell c v->h'.IsCell c v:=fun x c e v ⟨o,ho,hd⟩=>by
  have nch:c∉ch:=fun z=>(hch c z).2.2.1 x c e rfl
  by_cases hc:c∈X.fs
  ·obtain⟨sl,q⟩:=slot c o (I.cne x c e) hc nch ho (I.freeC x c e)
   exact⟨_,q,hd⟩
  ·exact⟨o,keep c o (I.cne x c e) hc nch ho (I.freeC x c e),hd⟩
 refine⟨I.ok,I.os,hg,⟨fun b o e n hb hx=>?_,fun b o e n hb hx=>?_,fun b o e n hx=>?_,fun b o e hx=>?_,fun b xs e=>tups b xs (I.base.tups b xs e),fun b o xs e=>frzs b o xs (I.base.frzs b o xs e),fun b ps e=>?_⟩,?_,fun x c e=>?_,?_,fun x c e=>?_,fun p hp=>?_,hok,I.len⟩
 ·exact keep b o (neL b o e) hb (neC b o e hx) (I.base.keep b o e n hb hx) (I.base.free b o e n hx)
 ·obtain⟨sl,e1⟩:=I.base.slot b o e n hb hx
  obtain⟨sl',e2⟩:=slot b _ (neL b o e) hb (neC b o e hx) e1 (I.base.free b o e n hx);exact⟨sl',e2⟩
 ·obtain⟨o',e1⟩:=I.base.there b o e hx
  exact free b o' (neC b o e hx) e1 (I.base.free b o e n hx)
 ·obtain⟨o',e1⟩:=I.base.there b o e hx
  exact there b o' (neC b o e hx) e1
 ·obtain⟨m1,e1⟩:=I.base.tbls b ps e
  obtain⟨m2,e2⟩:=tbls b _ e1;exact⟨m1++m2,by rw[e2,Array.append_assoc]⟩
 ·obtain⟨m,hn,hl⟩:=I.loc
  refine⟨m,ns m hn,fun i x v e1 e2 e3=>?_⟩
  obtain⟨u,r,l⟩:=hl i x v e1 e2 e3;refine⟨u,r,?_⟩
  rcases l with l|⟨k,c,e,z⟩
  ·exact .inl l
  ·exact .inr ⟨k,c,e,cellK x c e _ z⟩
 ·obtain⟨v,z⟩:=I.cell x c e
  exact⟨v,cellK x c e v z⟩
 ·obtain⟨m,⟨o,_,_,ho,_⟩,_⟩:=I.loc
  exact free _ o (fun z=>(hch _ z).2.1 rfl) ho I.free
 ·obtain⟨v,o,ho,hd⟩:=I.cell x c e
  exact free c o (fun z=>(hch c z).2.2.1 x c e rfl) ho (I.freeC x c e)
 ·obtain⟨e,n,ne,nf,d⟩:=I.pin p hp
  have nch:p.1∉ch:=fun z=>(hch p.1 z).2.2.2 p hp rfl
  exact⟨keep p.1 p.2 ne nf nch e n,free p.1 p.2 nch e n,ne,nf,d⟩
theorem Inv.un{t':Nat}(I:Inv X pins σ H s)(u:Un X.fs [] H H' s.heap h')(hok:HOk X.prog X.w H' h'):Inv X pins σ H' {s with heap:=h',toks:=t'}:=by
 obtain⟨m,⟨o,es,ep,ho,r⟩,_⟩:=id I.loc;obtain⟨sl,hL⟩:=u.any ho I.free (by simp)
 exact I.step (g':=s.gens) (d':=s.drawn) (ch:=[]) (fun _ z=>nomatch z) (fun b o _ hb _ e n=>u.keep b o e n hb (by simp)) (fun b o _ hb _ e n=>u.slot b o e n hb (by simp)) (fun b o _ e n=>u.free b o e n (by simp)) (fun b o _ e=>u.there b o e (by simp)) u.tups u.frzs u.tbls (fun m' hm=>by
  obtain⟨o',es',ep',ho',r'⟩:=hm;rw[ho]at ho';cases ho';exact⟨_,es',ep',hL,r'⟩) hok I.bare
theorem Inv.call{g':Array GenState}{t':Nat}{d':Drawn}{ch:List Addr}(I:Inv X pins σ H s)(u:Un (frs X.stack) ch H H' s.heap h')(hok:HOk X.prog X.w H' h')(hg:AllBare g')
  (hch:∀b∈ch,(b∈X.ex∨X.s₀.heap.objs.size≤b)/\b≠X.env.locals/\(∀x c,X.env.cells.lookup x=some c->c≠b)/\∀p∈X.pn++pins,p.1≠b):
  Inv X pins σ H' {s with heap:=h',gens:=g',drawn:=d',toks:=t'}:=by
 obtain⟨m,⟨o,es,ep,ho,r⟩,_⟩:=id I.loc;obtain⟨sl,hL⟩:=u.any ho I.free fun z=>(hch _ z).2.1 rfl
 exact I.step (ch:=ch) hch (fun b o hL hb hc e n=>u.keep b o e n (fun z=>(Qg.mp (I.stkSub b z)).elim hL hb) hc) (fun b o _ _ hc e n=>u.any e n hc) (fun b o hc e n=>u.free b o e n hc) (fun b o hc e=>u.there b o e hc) u.tups u.frzs u.tbls (fun m' hm=>by
  obtain⟨o',es',ep',ho',r'⟩:=hm;rw[ho]at ho';cases ho';exact⟨_,es',ep',hL,r'⟩) hok hg
theorem Inv.turned{t':Nat}{it:Addr}(I:Inv X pins σ H s)(k:∀b o,b≠it->s.heap.get? b=some o->h'.get? b=some o)(hn:H it=none)(hL:it≠X.env.locals)
  (h1:it∈X.ex∨X.s₀.heap.objs.size≤it)(h2:∀x c,X.env.cells.lookup x=some c->c≠it)(h3:∀p∈X.pn++pins,p.1≠it):Inv X pins σ H {s with heap:=h',toks:=t'}:=by
 have nit:∀b u,H b=some u->b≠it:=fun b u e z=>by rw[z,hn]at e;cases e
 refine I.step (g':=s.gens) (d':=s.drawn) (ch:=[it]) (fun b hb=>?_) (fun b o _ _ hc e _=>k b o (fun z=>hc (by simp[z])) e) (fun b o _ _ hc e _=>⟨o.slots,k b o (fun z=>hc (by simp[z])) e⟩) (fun _ _ _ _ n=>n)
  (fun b o hc e=>⟨o,k b o (fun z=>hc (by simp[z])) e⟩) (fun _ _ e=>e) (fun _ _ _ e=>e) (fun b ps e=>⟨#[],by rw[e];simp⟩) (fun m hm=>?_) (fun b u e=>?_) I.bare
 ·have e:b=it:=by simpa using hb
  subst e;exact⟨h1,hL,h2,h3⟩
 ·obtain⟨o,es,ep,ho,r⟩:=hm
  exact⟨o,es,ep,k _ o (Zl hL) ho,r⟩
 ·refine(I.hok b u e).stay (fun c v hc q=>k c v ?_ q) (fun _ q=>q) fun _ _ q=>q
  rcases hc with z|z
  ·rw[z];exact nit b u e
  ·exact nit c _ z
theorem Inv.tok(I:Inv X pins σ H s)(t:Nat):Inv X pins σ H {s with toks:=t}:=I.un (h':=s.heap) (t':=t) Un.refl I.hok
theorem Inv.kept{t':Nat}(I:Inv X pins σ H s)(k:∀b u,s.heap.get? b=some u->h'.get? b=some u):Inv X pins σ H {s with heap:=h',toks:=t'}:=I.un (Un.kept k) (I.hok.kept k)
theorem Inv.laid{a:Addr}{o:HO}{t':Nat}(I:Inv X pins σ H s)(k:∀b u,s.heap.get? b=some u->h'.get? b=some u)(hp:s.heap.objs.size≤a)(new:k2_ X.prog X.w (upd H a o) h' a o):
  Inv X pins σ (upd H a o) {s with heap:=h',toks:=t'}:=I.un (Un.laid k hp (I.hok.fresh hp)) (I.hok.laid k hp new)
theorem Inv.write{x e:Addr}{o:HO}{t':Nat}(I:Inv X pins σ H s)(mu:Mut (H x))(he:e=x∨H e=some (.own x))(k:∀b u,b≠e->s.heap.get? b=some u->h'.get? b=some u)(heo:∃u,h'.get? e=some u)
  (new:k2_ X.prog X.w (upd H x o) h' x o):Inv X pins σ (upd H x o) {s with heap:=h',toks:=t'}:=I.un (Un.write mu he k heo) (I.hok.write mu he k heo new)
theorem Inv.pins_of{pins':OX}(I:Inv X pins σ H s)(h:∀p∈pins',s.heap.get? p.1=some p.2/\H p.1=none/\p.1≠X.env.locals/\p.1∉X.fs/\∀v,p.2.data≠.cell v):Inv X pins' σ H s:=
 ⟨I.ok,I.os,I.bare,I.base,I.loc,I.cell,I.free,I.freeC,fun p hp=>(Jd.mp hp).elim (fun z=>I.pin p (List.mem_append_left _ z)) (h p),I.hok,I.len⟩
theorem a8e{N:List Str}(hN:N.Nodup){i j:Nat}{x:Str}(a:N[i]? =some x)(b:N[j]? =some x):i=j:=by
 obtain⟨h1,e1⟩:=Qm.mp a;obtain⟨h2,e2⟩:=Qm.mp b;exact(List.getElem_inj hN).mp (e1.trans e2.symm)
theorem a8f{M:Model}{A:Around}{E:OE}{i:Nat}{x:Str}{v:V}{u:Value}{Q:Unit->Shared->Prop}(I:Inv X pins σ H s)(hN:X.N.Nodup)(hi:X.N[i]? =some x)(hx:Loc X.env.scope x)(r:q7_ v u)
  (h:∀s',Inv X pins (σ.set i (some v)) H s'->(∃a,Heap.SameBut a s.heap s'.heap/\(a=X.env.locals∨X.env.cells.lookup x=some a))->Q () s')(hf:X.fn x=true∨X.env.scope.names.lookup x=some .local:=by first|exact .inl rfl|exact .inr rfl|assumption):wpAny M A (storeName X.env x u) Q E s:=by
 obtain⟨m,hn,hl⟩:=id I.loc;have hcls:(X.env.scope.kind==.class||(X.env.scope.kind==.module&&X.env.locals !=X.env.globals))=false:=by rw[I.ok.kind];rfl
 have hiσ:i<σ.length:=by rw[I.len];exact(Qm.mp hi).1
 have cne:=I.cne
 have tracked:∀{a:Addr}{h':Heap},(∃o,s.heap.get? a=some o/\H a=none)->Heap.SameBut a s.heap h'->HOk X.prog X.w H h':=fun{a h'} ha hs b ob e=>by
  obtain⟨_,_,hfree⟩:=ha;refine(I.hok b ob e).stay (fun c w' hc q=>(hs.2 c ?_).trans q) (fun _ q=>q) fun _ _ q=>q
  rintro rfl
  rcases hc with rfl|hc
  ·rw[hfree]at e;cases e
  ·rw[hfree]at hc;cases hc
 rcases hx with hk|hk
 ·refine wpAny_storeName_local hk hn (fun h' hn' hs=>?_) hcls
  obtain⟨oL,_,_,hoL,_⟩:=id hn;refine h _ ⟨I.ok,I.os,I.bare,⟨fun b o e n hb hx=>?_,fun b o e n hb hx=>?_,I.base.free,fun b o e hx=>?_,I.base.tups,I.base.frzs,I.base.tbls⟩,⟨_,hn',fun j y v' e1 e2 e3=>?_⟩,fun y c e=>?_,I.free,I.freeC,fun p hp=>?_,tracked ⟨oL,hoL,I.free⟩ hs,by simpa using I.len⟩ ⟨_,hs,.inl rfl⟩
  ·exact(hs.2 b (Zq (Qa (Qw e) I.ok.above))).trans (I.base.keep b o e n hb hx)
  ·obtain⟨sl,e1⟩:=I.base.slot b o e n hb hx
   exact⟨sl,(hs.2 b (Zq (Qa (Qw e) I.ok.above))).trans e1⟩
  ·obtain⟨o',e1⟩:=I.base.there b o e hx
   exact⟨o',(hs.2 b (Zq (Qa (Qw e) I.ok.above))).trans e1⟩
  ·by_cases hj:j=i
   ·subst hj
    rw[hi]at e1;cases e1;rw[Yr hiσ]at e2;cases e2;exact⟨u,r,.inl ⟨hk,by simp⟩⟩
   ·rw[Qs (Zl hj)]at e2
    obtain⟨u',r',q⟩:=hl j y v' e1 e2 e3;refine⟨u',r',?_⟩
    rcases q with⟨k,e⟩|⟨k,c,e,z⟩
    ·refine .inl ⟨k,?_⟩
     have:y≠x:=fun e=>hj (a8e hN e1 (e ▸ hi))
     simp[this,e]
    ·exact .inr ⟨k,c,e,z.sameBut hs (cne y c e)⟩
  ·obtain⟨w',z⟩:=I.cell y c e
   exact⟨w',z.sameBut hs (cne y c e)⟩
  ·obtain⟨e,n,ne,nf,d⟩:=I.pin p hp
   exact⟨(hs.2 p.1 ne).trans e,n,ne,nf,d⟩
 ·have hfn:X.fn x=true:=by
   rcases hf with z|z
   ·exact z
   ·rw[z]at hk;cases hk
  obtain⟨c,hc⟩:=I.ok.has x (.inl hk);obtain⟨w',z⟩:=I.cell x c hc;refine wpAny_storeName_cell I.ok.kind hk hc z (fun h' hc' hs=>?_)
  obtain⟨oc,hoc,hocd⟩:=id z;refine h {s with heap:=h'} ⟨I.ok,I.os,I.bare,⟨fun b o e n hb hx=>?_,fun b o e n hb hx=>?_,I.base.free,fun b o e hx=>?_,I.base.tups,I.base.frzs,I.base.tbls⟩,⟨m,hn.sameBut hs (Zl (cne x c hc)),fun j y v' e1 e2 e3=>?_⟩,fun y c' e=>?_,I.free,I.freeC,fun p hp=>?_,tracked ⟨oc,hoc,I.freeC x c hc⟩ hs,by simpa using I.len⟩ ⟨c,hs,.inr hc⟩
  ·exact(hs.2 b (Zq (Qa (Qw e) (I.ok.cab x c hfn hc)))).trans (I.base.keep b o e n hb hx)
  ·obtain⟨sl,e1⟩:=I.base.slot b o e n hb hx
   exact⟨sl,(hs.2 b (Zq (Qa (Qw e) (I.ok.cab x c hfn hc)))).trans e1⟩
  ·obtain⟨o',e1⟩:=I.base.there b o e hx
   exact⟨o',(hs.2 b (Zq (Qa (Qw e) (I.ok.cab x c hfn hc)))).trans e1⟩
  ·by_cases hj:j=i
   ·subst hj
    rw[hi]at e1;cases e1;rw[Yr hiσ]at e2;cases e2;exact⟨u,r,.inr ⟨.inl hk,c,hc,hc'⟩⟩
   ·rw[Qs (Zl hj)]at e2
    obtain⟨u',r',q⟩:=hl j y v' e1 e2 e3;refine⟨u',r',?_⟩
    rcases q with q|⟨k,c',e,z'⟩
    ·exact .inl q
    ·refine .inr ⟨k,c',e,z'.sameBut hs ?_⟩
     rintro rfl;exact hj (a8e hN e1 (I.ok.inj _ _ _ e hc ▸ hi))
  ·by_cases hcc:c'=c
   ·subst hcc;exact⟨_,hc'⟩
   ·obtain⟨w2,z2⟩:=I.cell y c' e
    exact⟨w2,z2.sameBut hs hcc⟩
  ·obtain⟨e,n,ne,nf,d⟩:=I.pin p hp
   refine⟨(hs.2 p.1 ?_).trans e,n,ne,nf,d⟩;intro q;rw[q,hoc]at e;have q':oc=p.2:=Za e;exact d w' (by rw[←q'];exact hocd)
theorem a2Y{M:Model}{A:Around}{E:OE}{i:Nat}{x:Str}{v:V}{u:Value}{Q:Unit->Shared->Prop}(I:Inv X pins σ H s)(hN:X.N.Nodup)(hi:X.N[i]? =some x)(hx:Loc X.env.scope x)(r:q7_ v u)
  (h:∀s',Inv X pins (σ.set i (some v)) H s'->Q () s')(hf:X.fn x=true∨X.env.scope.names.lookup x=some .local:=by first|exact .inl rfl|exact .inr rfl|assumption):wpAny M A (storeName X.env x u) Q E s:=
 a8f I hN hi hx r (fun s' I' _=>h s' I') hf
theorem Inv.call'{s':Shared}{ch:List Addr}(I:Inv X pins σ H s)(ho:s'.os=s.os)(u:Un (frs X.stack) ch H H' s.heap s'.heap)(hok:HOk X.prog X.w H' s'.heap)(hg:AllBare s'.gens)
  (hch:∀b∈ch,(b∈X.ex∨X.s₀.heap.objs.size≤b)/\b≠X.env.locals/\(∀x c,X.env.cells.lookup x=some c->c≠b)/\∀p∈X.pn++pins,p.1≠b):Inv X pins σ H' s':=by
 obtain⟨h',g',d',t',o'⟩:=s';have e:o'=s.os:=ho;subst e;exact I.call (g':=g') (t':=t') (d':=d') u hok hg hch
end
abbrev XK:=Value->Option Addr->Hp->Prop
abbrev St:=List (Option V)
abbrev VK:=V->Hp->Prop
abbrev TE:=St->Hp->VK->Prop
abbrev TT:=St->Hp->(Bool->Hp->Prop)->Prop
abbrev TA:=St->Hp->(List V->Hp->Prop)->Prop
structure Ends where
 nx:St->Hp->Prop
 rt:VK
 bk:St->Hp->Prop:=fun _ _=>False
 ct:St->Hp->Prop:=fun _ _=>False
abbrev TS:=Ends->St->Hp->Prop
def EP(X:Cx)(pins:OX)(σ:St)(Q:VK)(u:Value)(s':Shared):Prop:=∃v H',Inv X pins σ H' s'/\q7_ v u/\Q v H'
def TP(X:Cx)(pins:OX)(σ:St)(Q:Bool->Hp->Prop)(b:Bool)(s':Shared):Prop:=∃H',Inv X pins σ H' s'/\Q b H'
def AP(X:Cx)(pins:OX)(σ:St)(Q:List V->Hp->Prop)(us:List Value)(s':Shared):Prop:=∃vs H',Inv X pins σ H' s'/\q0_ vs us/\Q vs H'
def SP(X:Cx)(pins:OX)(D:Ends)(f:Flow)(s':Shared):Prop:=
 match f with
 |.next=>∃σ' H',Inv X pins σ' H' s'/\D.nx σ' H'
 |.brk=>∃σ' H',Inv X pins σ' H' s'/\D.bk σ' H'
 |.cont=>∃σ' H',Inv X pins σ' H' s'/\D.ct σ' H'
 |.ret u=>∃v σ' H',Inv X pins σ' H' s'/\q7_ v u/\D.rt v H'
def PE(X:Cx)(e:Expr)(t:TE):Prop:=
 ∀(pins:OX) (s:Shared) (σ:St) (H:Hp) (Q:VK),Inv X pins σ H s->t σ H Q->wpAny (model X.prog X.w) X.A (eval e X.env) (EP X pins σ Q) X.xe s
def PT(X:Cx)(e:Expr)(t:TT):Prop:=
 ∀(pins:OX) (s:Shared) (σ:St) (H:Hp) (Q:Bool->Hp->Prop),Inv X pins σ H s->t σ H Q->wpAny (model X.prog X.w) X.A (isTrue e X.env (eval e X.env)) (TP X pins σ Q) X.xe s
def PW(X:Cx)(e:Expr)(t:TT):Prop:=
 ∀(whole:Sem Value) (pins:OX) (s:Shared) (σ:St) (H:Hp) (Q:Bool->Hp->Prop),Inv X pins σ H s->t σ H Q->wpAny (model X.prog X.w) X.A (isTrue e X.env whole) (TP X pins σ Q) X.xe s
theorem PW.pt{X:Cx}{e:Expr}{t:TT}(h:PW X e t):PT X e t:=h _
def PA(X:Cx)(es:List Expr)(t:TA):Prop:=
 ∀(pos:Pos) (pins:OX) (s:Shared) (σ:St) (H:Hp) (Q:List V->Hp->Prop),Inv X pins σ H s->t σ H Q->wpAny (model X.prog X.w) X.A (spliced (backTo pos (starEach es X.env))) (AP X pins σ Q) X.xe s
def PS(X:Cx)(st:Stmt)(t:TS):Prop:=
 ∀(pins:OX) (s:Shared) (σ:St) (H:Hp) (D:Ends),Inv X pins σ H s->t D σ H->wpAny (model X.prog X.w) X.A (exec st X.env) (SP X pins D) X.xe s
def PSs(X:Cx)(st:List Stmt)(t:TS):Prop:=
 ∀(pins:OX) (s:Shared) (σ:St) (H:Hp) (D:Ends),Inv X pins σ H s->t D σ H->wpAny (model X.prog X.w) X.A (execs st X.env) (SP X pins D) X.xe s
theorem thn{α:Type}{t:Sem α}{Q Q':α->Shared->Prop}{M:Model}{A:Around}{E:OE}{s:Shared}(h:wpAny M A t Q E s)(hQ:∀a s,Q a s->Q' a s):wpAny M A t Q' E s:=Yw h hQ fun _ _ x=>x
section
variable{X:Cx}
theorem bin{a b:Expr}{ta tb:TE}(ha:PE X a ta)(hb:PE X b tb){pins:OX}{s:Shared}{σ:St}{H:Hp}{R:V->V->Hp->Prop}(I:Inv X pins σ H s)(h:ta σ H fun x H1=>tb σ H1 fun y H2=>R x y H2)
  {α:Type}{Q:α->Shared->Prop}{f:Value->Value->Sem α}
  (hf:∀v u s2 x y H2,Inv X pins σ H2 s2->q7_ x v->q7_ y u->R x y H2->wpAny (model X.prog X.w) X.A (f v u) Q X.xe s2):
  wpAny (model X.prog X.w) X.A (eval a X.env) (fun v s₁=>wpAny (model X.prog X.w) X.A (eval b X.env) (fun u s₂=>wpAny (model X.prog X.w) X.A (f v u) Q X.xe s₂) X.xe s₁) X.xe s:=by
 refine thn (ha pins s σ H _ I h) fun v s1 ⟨x,H1,I1,r1,q1⟩=>?_
 refine thn (hb pins s1 σ H1 _ I1 q1) fun u s2 ⟨y,H2,I2,r2,q2⟩=>?_
 exact hf v u s2 x y H2 I2 r1 r2 q2
def a0x(i:Nat):TE:=fun σ H Q=>∃v,σ[i]? =some (some v)/\Q v H
def tC(v:V):TE:=fun _ H Q=>Q v H
theorem b2P{i:Nat}{x:Str}{pos:Pos}(hN:X.N[i]? =some x)(hv:Vis X.env.scope x)(hd:(x==("__debug__":Str))=false:=by decide)(hcd:(x==("__classdict__":Str))=false:=by decide):PE X (.Name x pos) (a0x i):=by
 intro pins s σ H Q I h;obtain⟨v,e,h⟩:=h;obtain⟨m,hn,hl⟩:=I.loc;obtain⟨u,r,l⟩:=hl i x v hN e hv;have fin:EP X pins σ Q u s:=⟨v,H,I,r,h⟩
 rcases l with⟨hk,hm⟩|⟨hk,c,hc,hcell⟩
 ·exact wpAny_Name (wpAny_loadName_local I.ok.kind hk hn hm fin) hd
 ·rcases hk with hk|hk
  ·exact wpAny_Name (wpAny_loadName_cell I.ok.kind hk hc hcell fin) hd
  ·exact wpAny_Name (wpAny_loadName_free I.ok.kind hk hc hcell fin hcd) hd
theorem a5b{i j pos}:PE X (.Constant (.int i) j pos) (tC (.int i)):=fun _ _ _ H _ I h=>wpAny_Constant_int ⟨.int i,H,I.tok _,⟨_,rfl⟩,h⟩
theorem b2Q{b j pos}:PE X (.Constant (.bool b) j pos) (tC (.bl b)):=fun _ _ _ H _ I h=>Constant_bool ⟨.bl b,H,I,rfl,h⟩
theorem b2R{x j pos}:PE X (.Constant (.str x) j pos) (tC (.str x)):=fun _ _ _ H _ I h=>Calls.Constant_str ⟨.str x,H,I.tok _,⟨_,rfl⟩,h⟩
def Gl(X:Cx)(x:Str):Prop:=X.env.kindOf x=some .globalImplicit
theorem a5c{E:OE}{pins:OX}{s:Shared}{σ:St}{H:Hp}{x:Str}{u:Value}{pos:Pos}{Q:OE}(I:Inv X pins σ H s)(hg:Gl X x)(hm:X.mg x=some u)(h:Q u s)
  (hd:(x==("__debug__":Str))=false:=by decide):wpAny (model X.prog X.w) X.A (eval (.Name x pos) X.env) Q E s:=
 Calls.Name_function_global I.ok.kind hg (Calls.loadGlobal_global (by rw[I.ok.glob];exact I.mod.glob.keeps I.bk) hm h) hd
theorem a2Z{E:OE}{pins:OX}{s:Shared}{σ:St}{H:Hp}{x:Str}{u:Value}{pos:Pos}{Q:OE}(I:Inv X pins σ H s)(hg:Gl X x)(hm:X.mg x=none)(hv:bootBuiltins x=some u)(h:Q u s)
  (hn:x≠"__name__":=by decide)(hd:(x==("__debug__":Str))=false:=by decide):wpAny (model X.prog X.w) X.A (eval (.Name x pos) X.env) Q E s:=by
 obtain⟨mb,h1,h2⟩:=I.mod.blt;exact Calls.Name_function_global I.ok.kind hg (Calls.loadGlobal_builtin (by rw[I.ok.glob];exact I.mod.glob.keeps I.bk) hm (by rw[I.ok.blt];exact h1.keeps I.bk) ((h2 x hn).trans hv) h) hd
theorem a3S{x:Str}{v:V}{u:Value}{pos:Pos}(hg:Gl X x)(hm:X.mg x=some u)(r:q7_ v u)(hd:(x==("__debug__":Str))=false:=by decide):PE X (.Name x pos) (tC v):=
 fun _ _ _ H _ I h=>a5c I hg hm ⟨v,H,I,r,h⟩ hd
theorem b2S{x:Str}{v:V}{u:Value}{pos:Pos}(hg:Gl X x)(hm:X.mg x=none)(hv:bootBuiltins x=some u)(r:q7_ v u)(hn:x≠"__name__":=by decide)(hd:(x==("__debug__":Str))=false:=by decide):PE X (.Name x pos) (tC v):=
 fun _ _ _ H _ I h=>a2Z I hg hm hv ⟨v,H,I,r,h⟩ hn hd
variable{a b:Expr}{ta tb:TE}{pos:Pos}
def PC(X:Cx)(op:CmpOp)(a b:Expr)(t:TE):Prop:=
 ∀(pins:OX) (s:Shared) (σ:St) (H:Hp) (Q:VK),Inv X pins σ H s->t σ H Q->
  wpAny (model X.prog X.w) X.A (eval a X.env) (fun v s₁=>wpAny (model X.prog X.w) X.A (eval b X.env) (fun u s₂=>wpAny (model X.prog X.w) X.A (compareOp op v u) (EP X pins σ Q) X.xe s₂) X.xe s₁) X.xe s
theorem nobehind(b:Expr){op:CmpOp}(h:op≠.In)(h2:op≠.NotIn):behindInMarks op b=false:=by
 have e1:(op==CmpOp.In)=false:=by cases op<;>first|rfl|exact absurd rfl h
 have e2:(op==CmpOp.NotIn)=false:=by cases op<;>first|rfl|exact absurd rfl h2
 cases b<;>simp[behindInMarks,e1,e2]
def tB(t:TE):TT:=fun σ H Q=>t σ H fun x H1=>∃c,x=.bl c/\Q c H1
theorem b2T{op:CmpOp}{t:TE}(h:PC X op a b t)(h1:behindInMarks op b=false:=by first|exact nobehind _ (by decide) (by decide)|rfl):PE X (.Compare a [op] [b] pos) t:=fun pins s σ H Q I hw=>wpAny_Compare1 (h pins s σ H Q I hw) h1
theorem c0P{op:CmpOp}{t:TE}(h:PC X op a b t)(h1:behindInMarks op b=false:=by first|exact nobehind _ (by decide) (by decide)|rfl):PT X (.Compare a [op] [b] pos) (tB t):=by
 intro pins s σ H Q I hw;refine wpAny_isTrue_Compare1 (thn (h pins s σ H _ I hw) fun v s1 h1=>thn h1 fun u s2 h2=>thn h2 fun c s3 ⟨x,H1,I1,r1,q1⟩=>?_) h1
 obtain⟨d,rfl,q⟩:=q1;cases r1;exact Yq ⟨H1,I1,q⟩
theorem b2U{e:Expr}{t:TE}(h:PE X e t)(he:∀whole,isTrue e X.env whole=(do let v←whole;standAt e.pos;holding [v] (truthy v)):=by intro _;rfl):PT X e (tB t):=by
 intro pins s σ H Q I hw;refine isTrue_plain (thn (h pins s σ H _ I hw) fun v s1 ⟨x,H1,I1,r1,q1⟩=>?_) (he _)
 obtain⟨d,rfl,q⟩:=q1;cases r1;exact Yq ⟨H1,I1,q⟩
variable{tA tB':TT}{rest:List Expr}
def a8g(t u:TT):TT:=fun σ H Q=>t σ H fun c H1=>if c=true then u σ H1 Q else Q false H1
def tOr(t u:TT):TT:=fun σ H Q=>t σ H fun c H1=>if c=true then Q true H1 else u σ H1 Q
def b2V(t:TT):TT:=fun σ H Q=>t σ H fun c H1=>Q (!c) H1
theorem b2W(ha:PT X a tA):PW X (.BoolOp .And [a] pos) tA:=by
 intro wh pins s σ H Q I h;refine isTrue_and (thn (ha pins s σ H Q I h) fun c s1 e=>?_)
 cases c with
 |true=>exact isTrue_and_nil e
 |false=>exact e
theorem b2X(ha:PT X a tA):PW X (.BoolOp .Or [a] pos) tA:=by
 intro wh pins s σ H Q I h;refine isTrue_or (thn (ha pins s σ H Q I h) fun c s1 e=>?_)
 cases c with
 |false=>exact isTrue_or_nil e
 |true=>exact e
theorem b2Y(ha:PT X a tA)(hb:PW X (.BoolOp .And (b::rest) pos) tB'):PW X (.BoolOp .And (a::b::rest) pos) (a8g tA tB'):=by
 intro wh pins s σ H Q I h;refine isTrue_and (thn (ha pins s σ H _ I h) fun c s1 ⟨H1,I1,q1⟩=>?_)
 cases c with
 |true=>exact hb wh pins s1 σ H1 Q I1 q1
 |false=>exact⟨H1,I1,q1⟩
theorem b2Z(ha:PT X a tA)(hb:PW X (.BoolOp .Or (b::rest) pos) tB'):PW X (.BoolOp .Or (a::b::rest) pos) (tOr tA tB'):=by
 intro wh pins s σ H Q I h;refine isTrue_or (thn (ha pins s σ H _ I h) fun c s1 ⟨H1,I1,q1⟩=>?_)
 cases c with
 |true=>exact⟨H1,I1,q1⟩
 |false=>exact hb wh pins s1 σ H1 Q I1 q1
theorem b3a(ha:PT X a tA):PT X (.UnaryOp .Not a pos) (b2V tA):=by
 intro pins s σ H Q I h;exact isTrue_not (ha pins s σ H (fun c H1=>Q (!c) H1) I h)
def b3b(ta tb:TE):TE:=fun σ H Q=>ta σ H fun x H1=>∃c,x=.bl c/\if c=true then tb σ H1 Q else Q (.bl false) H1
def b3c(ta:TE):TE:=fun σ H Q=>ta σ H fun x H1=>∃c,x=.bl c/\Q (.bl (!c)) H1
theorem b3d{op}{t:TE}(h:PE X a t):PE X (.BoolOp op [a] pos) t:=fun pins s σ H Q I hw=>BoolOp_one (h pins s σ H Q I hw)
theorem b3e(ha:PE X a ta)(hb:PE X (.BoolOp .And (b::rest) pos) tb):PE X (.BoolOp .And (a::b::rest) pos) (b3b ta tb):=by
 intro pins s σ H Q I h;refine BoolOp_and (thn (ha pins s σ H _ I h) fun v s1 ⟨x,H1,I1,r1,q1⟩=>?_)
 obtain⟨c,rfl,q1⟩:=q1;cases r1;refine Yq ?_
 cases c with
 |true=>exact hb pins s1 σ H1 Q I1 q1
 |false=>exact⟨.bl false,H1,I1,rfl,q1⟩
theorem b3f(ha:PE X a ta):PE X (.UnaryOp .Not a pos) (b3c ta):=by
 intro pins s σ H Q I h;refine UnaryOp_ (thn (ha pins s σ H _ I h) fun v s1 ⟨x,H1,I1,r1,q1⟩=>?_)
 obtain⟨c,rfl,q1⟩:=q1;cases r1;exact not_of (Yq ⟨.bl (!c),H1,I1,rfl,q1⟩)
end
def SqL(K:Qz)(H:Hp)(a:Addr)(xs:List V):Prop:=
 Rd H a (.lst xs)∨
  ∃(o:Obj) (its:Array Value) (n:Nat),K.lookup a=some o/\o.cls=.type "list"/\o.dict=none/\o.data=.seq its n/\its.size≤sizeLine/\q0_ xs its.toList
def SqT(K:Qz)(H:Hp)(a:Addr)(xs:List V):Prop:=
 Rd H a (.tup xs)∨
  ∃(o:Obj) (its:Array Value) (n:Nat),K.lookup a=some o/\o.cls=.type "tuple"/\o.dict=none/\o.data=.seq its n/\its.size≤sizeLine/\q0_ xs its.toList
def b3g:Value->Option V
 |.none=>some .non
 |.bool b=>some (.bl b)
 |.int i _=>some (.int i)
 |.str x _=>some (.str x)
 |.bytes b _=>some (.byt b)
 |.float b _=>some (.flt b)
 |.ref a=>some (.ref a)
 |.type n=>some (.ty n)
 |_=>none
theorem q7_.abs{x:V}{u:Value}(r:q7_ x u):b3g u=some x:=by
 cases x with
 |non=>cases r;rfl
 |bl _=>cases r;rfl
 |int _=>obtain⟨t,rfl⟩:=r;rfl
 |str _=>obtain⟨t,rfl⟩:=r;rfl
 |byt _=>obtain⟨t,rfl⟩:=r;rfl
 |flt _=>obtain⟨t,rfl⟩:=r;rfl
 |ref _=>cases r;rfl
 |ty _=>cases r;rfl
theorem q7_.inj{x y:V}{u:Value}(r:q7_ x u)(q:q7_ y u):x=y:=Za (r.abs.symm.trans q.abs)
theorem q0_.inj:∀{xs ys:List V}{us:List Value},q0_ xs us->q0_ ys us->xs=ys
 |_,_,_,.nil,.nil=>rfl
 |_,_,_,.cons r t,.cons r' t'=>by rw[r.inj r',q0_.inj t t']
section
variable{X:Cx}{pins:OX}{σ:St}{H:Hp}{s:Shared}{a:Addr}{xs ys:List V}
theorem Inv.list(I:Inv X pins σ H s)(h:SqL X.K H a xs):∃its:List Value,q0_ xs its/\PlainL s.heap a its.toArray/\xs.length≤sizeLine:=by
 rcases h with h|⟨o,its,n,hk,hc,hd,hs,hz,r⟩
 ·obtain⟨z,its,n,r,e⟩:=h.ok I.hok
  exact⟨its,r,⟨_,n,e,rfl,rfl,rfl⟩,z⟩
 ·refine⟨its.toList,r,⟨o,n,I.kIn a o hk,hc,hd,by simpa using hs⟩,?_⟩
  have e:=r.length
  simp only[Xu]at e
  omega
theorem Inv.tupleD(I:Inv X pins σ H s)(h:SqT X.K H a xs):∃its:List Value,q0_ xs its/\a0a s.heap a its.toArray/\xs.length≤sizeLine:=by
 rcases h with h|⟨o,its,n,hk,hc,hd,hs,hz,r⟩
 ·obtain⟨z,its,r,p⟩:=h.ok I.hok
  exact⟨its,r,p,z⟩
 ·refine⟨its.toList,r,⟨o,I.kIn a o hk,hc,hd,n,by simpa using hs⟩,?_⟩
  have e:=r.length
  simp only[Xu]at e
  omega
theorem Inv.tuple(I:Inv X pins σ H s)(h:SqT X.K H a xs):∃its:List Value,q0_ xs its/\IsTup s.heap a its.toArray/\xs.length≤sizeLine:=
 let ⟨its,r,p,z⟩:=I.tupleD h
 ⟨its,r,p.tup,z⟩
theorem Inv.list_inj(I:Inv X pins σ H s)(h:SqL X.K H a xs)(h':SqL X.K H a ys):xs=ys:=by
 obtain⟨its,r,⟨o,n,e,_,_,d⟩,_⟩:=I.list h;obtain⟨its',r',⟨o',n',e',_,_,d'⟩,_⟩:=I.list h';rw[e]at e';cases e';rw[d]at d';injection d' with d1 _
 have:its=its':=by simpa using Yy Array.toList d1
 subst this;exact r.inj r'
theorem Inv.tuple_inj(I:Inv X pins σ H s)(h:SqT X.K H a xs)(h':SqT X.K H a ys):xs=ys:=by
 obtain⟨its,r,⟨o,e,_,n,d⟩,_⟩:=I.tuple h;obtain⟨its',r',⟨o',e',_,n',d'⟩,_⟩:=I.tuple h';rw[e]at e';cases e';rw[d]at d';injection d' with d1 _
 have:its=its':=by simpa using Yy Array.toList d1
 subst this;exact r.inj r'
end
abbrev Cx.wish(X:Cx)(E:OE):Cx:={X with xe:=E}
abbrev Cx.nox(X:Cx):Cx:=X.wish fun _ _=>False
theorem Cx.Ok.wish{X:Cx}(ok:X.Ok)(E:OE):(X.wish E).Ok:=
 ⟨ok.mod,ok.kind,ok.glob,ok.blt,ok.above,ok.inj,ok.has,ok.cab,ok.hd,ok.frames,ok.stk,ok.exf,ok.bs,ok.bsz,ok.noex,ok.exfs,ok.funs,ok.frf⟩
theorem Cx.Ok.unwish{X:Cx}{E:OE}(ok:(X.wish E).Ok):X.Ok:=
 ⟨ok.mod,ok.kind,ok.glob,ok.blt,ok.above,ok.inj,ok.has,ok.cab,ok.hd,ok.frames,ok.stk,ok.exf,ok.bs,ok.bsz,ok.noex,ok.exfs,ok.funs,ok.frf⟩
section
variable{X:Cx}{pins:OX}{σ:St}{H:Hp}{s:Shared}{E:OE}
theorem Inv.wish(I:Inv X pins σ H s)(E:OE):Inv (X.wish E) pins σ H s:=⟨I.ok.wish E,I.os,I.bare,I.base,I.loc,I.cell,I.free,I.freeC,I.pin,I.hok,I.len⟩
theorem Inv.unwish(I:Inv (X.wish E) pins σ H s):Inv X pins σ H s:=⟨I.ok.unwish,I.os,I.bare,I.base,I.loc,I.cell,I.free,I.freeC,I.pin,I.hok,I.len⟩
theorem SP.unwish{D:Ends}{f:Flow}{s':Shared}(h:SP (X.wish E) pins D f s'):SP X pins D f s':=by
 cases f with
 |next=>obtain⟨σ',H',I,q⟩:=h;exact⟨σ',H',I.unwish,q⟩
 |brk=>obtain⟨σ',H',I,q⟩:=h;exact⟨σ',H',I.unwish,q⟩
 |cont=>obtain⟨σ',H',I,q⟩:=h;exact⟨σ',H',I.unwish,q⟩
 |ret u=>obtain⟨v,σ',H',I,r,q⟩:=h;exact⟨v,σ',H',I.unwish,r,q⟩
theorem PSs.nox{st:List Stmt}{t:TS}(h:PSs X.nox st t):PSs X st t:=fun pins s σ H D I hw=>
 Yw (h pins s σ H D (I.wish _) hw) (fun _ _ q=>q.unwish) fun _ _ z=>False.elim z
end
section
variable{X:Cx}{st:Stmt}{rest:List Stmt}{t u:TS}{e:Expr}{te:TE}{pos:Pos}
def b3h:TS:=fun D σ H=>D.nx σ H
def b3i(t u:TS):TS:=fun D σ H=>t {D with nx:=u D} σ H
theorem b3j:PSs X [] b3h:=fun _ _ σ H _ I h=>wpAny_execs_nil ⟨σ,H,I,h⟩
theorem b3k(h1:PS X st t)(h2:PSs X rest u):PSs X (st::rest) (b3i t u):=by
 intro pins s σ H D I h;refine wpAny_execs_cons (thn (h1 pins s σ H {D with nx:=u D} I h) fun f s1 q=>?_)
 cases f with
 |next=>
  obtain⟨σ',H',I',q⟩:=q;exact h2 pins s1 σ' H' D I' q
 |ret v=>exact q
 |brk=>exact q
 |cont=>exact q
theorem b3l(h1:PS X st t):PSs X [st] t:=by
 intro pins s σ H D I h;refine wpAny_execs_cons (thn (h1 pins s σ H D I h) fun f s1 q=>?_)
 cases f with
 |next=>exact wpAny_execs_nil q
 |ret v=>exact q
 |brk=>exact q
 |cont=>exact q
theorem Inv.quiet{pins:OX}{σ:St}{H:Hp}{s:Shared}(I:Inv X pins σ H s):interactive X.env=false:=by simp[interactive,I.ok.kind]
def b3m(te:TE):TS:=fun D σ H=>te σ H fun _ H1=>D.nx σ H1
theorem a8h(he:PE X e te)(hs:swapsWith e none pos.line X.env=pure false:=by rfl):PS X (.Expr e pos) (b3m te):=by
 intro pins s σ H D I h;exact wpAny_Expr_any (thn (he pins s σ H _ I h) fun v s1 ⟨x,H1,I1,r1,q1⟩=>⟨σ,H1,I1,q1⟩) I.quiet hs
def b3n(te:TE):TS:=fun D σ H=>te σ H D.rt
theorem a8i(he:PE X e te):PS X (.Return (some e) pos) (b3n te):=by
 intro pins s σ H D I h;exact wpAny_Return_some (thn (he pins s σ H _ I h) fun v s1 ⟨x,H1,I1,r1,q1⟩=>⟨x,σ,H1,I1,r1,q1⟩)
def b3o(c:TT)(t u:TS):TS:=fun D σ H=>c σ H fun b H1=>if b=true then t D σ H1 else u D σ H1
theorem b3p{c:Expr}{a b:List Stmt}{tc:TT}(hc:PT X c tc)(ha:PSs X a t)(hb:PSs X b u):PS X (.If c a b pos) (b3o tc t u):=by
 intro pins s σ H D I h;refine wpAny_If (thn (hc pins s σ H _ I h) fun d s1 ⟨H1,I1,q1⟩=>?_)
 cases d with
 |true=>exact ha pins s1 σ H1 D I1 q1
 |false=>exact hb pins s1 σ H1 D I1 q1
def b3q:TS:=fun _ _ _=>False
theorem b3r:PS X st b3q:=fun _ _ _ _ _ _ h=>h.elim
end
abbrev TG:=V->St->Hp->(St->Hp->Prop)->Prop
abbrev TGs:=List V->St->Hp->(St->Hp->Prop)->Prop
def PG(X:Cx)(target:Expr)(t:TG):Prop:=
 ∀(pins:OX) (s:Shared) (σ:St) (H:Hp) (v:V) (u:Value) (Q:St->Hp->Prop),Inv X pins σ H s->q7_ v u->t v σ H Q->
  wpAny (model X.prog X.w) X.A (assign target X.env u) (fun _ s'=>∃σ' H',Inv X pins σ' H' s'/\Q σ' H') X.xe s
def PGs(X:Cx)(ts:List Expr)(t:TGs):Prop:=
 ∀(pins:OX) (s:Shared) (σ:St) (H:Hp) (vs:List V) (us:List Value) (Q:St->Hp->Prop),Inv X pins σ H s->q0_ vs us->t vs σ H Q->
  wpAny (model X.prog X.w) X.A (assignInOrder ((assignEach ts X.env).map (·.2)) us) (fun _ s'=>∃σ' H',Inv X pins σ' H' s'/\Q σ' H') X.xe s
abbrev a5d:=V->V->V->Hp->(Hp->Prop)->Prop
def a8j(X:Cx)(t:a5d):Prop:=
 ∀(pins:OX) (s:Shared) (σ:St) (H:Hp) (o i v:V) (ov iv u:Value) (Q:Hp->Prop),Inv X pins σ H s->q7_ o ov->q7_ i iv->q7_ v u->t o i v H Q->
  wpAny (model X.prog X.w) X.A (setItem ov iv u) (fun _ s'=>∃H',Inv X pins σ H' s'/\Q H') X.xe s
abbrev TIp:=V->V->Hp->VK->Prop
def PIp(X:Cx)(op:Operator)(t:TIp):Prop:=
 ∀(pins:OX) (s:Shared) (σ:St) (H:Hp) (x y:V) (v u:Value) (Q:VK),Inv X pins σ H s->q7_ x v->q7_ y u->t x y H Q->
  wpAny (model X.prog X.w) X.A (inplaceOp op v u) (EP X pins σ Q) X.xe s
section
variable{X:Cx}{pos:Pos}
def a5e(i:Nat):TG:=fun v σ H Q=>Q (σ.set i (some v)) H
theorem b3s{i:Nat}{x:Str}(hN:X.N.Nodup)(hi:X.N[i]? =some x)(hx:Loc X.env.scope x)(hf:X.fn x=true∨X.env.scope.names.lookup x=some .local:=by first|exact .inl rfl|exact .inr rfl|assumption):PG X (.Name x pos) (a5e i):=by
 intro pins s σ H v u Q I r h;exact wpAny_assign_Name (a2Y I hN hi hx r (fun s' I'=>⟨_,H,I',h⟩) hf)
def b3t:TGs:=fun vs σ H Q=>vs=[]/\Q σ H
def b3u(t:TG)(u:TGs):TGs:=fun vs σ H Q=>∃v r,vs=v::r/\t v σ H fun σ' H'=>u r σ' H' Q
theorem b3v:PGs X [] b3t:=by
 intro pins s σ H vs us Q I r h;obtain⟨e,h⟩:=h;subst e;cases r;exact assignInOrder_nil ⟨σ,H,I,h⟩
theorem b3w{e:Expr}{es:List Expr}{t:TG}{u:TGs}(h1:PG X e t)(h2:PGs X es u)
  (hs:(assignEach (e::es) X.env).map (·.2)=assign e X.env::(assignEach es X.env).map (·.2):=by rfl):PGs X (e::es) (b3u t u):=by
 intro pins s σ H vs us Q I r h;obtain⟨v,vr,e1,h⟩:=h;subst e1;cases r with
 |cons r rr=>
  rw[hs];refine assignInOrder_cons (thn (h1 pins s σ H _ _ _ I r h) fun _ s1 ⟨σ1,H1,I1,q1⟩=>?_)
  exact h2 pins s1 σ1 H1 _ _ Q I1 rr q1
def b3x(K:Qz)(n:Nat)(t:TGs):TG:=fun v σ H Q=>∃a xs,v=.ref a/\SqT K H a xs/\xs.length=n/\t xs σ H Q
theorem b3y{es:List Expr}{k:Nat}{t:TGs}{n:Nat}(hc:X.calm=true)(h:PGs X es t)
  (hn:(assignEach es X.env).length=n:=by rfl)(hst:(assignEach es X.env).findIdx? (·.1)=none:=by rfl):PG X (.Tuple es k pos) (b3x X.K n t):=by
 intro pins s σ H v u Q I r hw;obtain⟨a,xs,e1,hq,hl,hw⟩:=hw;subst e1;cases r;obtain⟨its,rv,ht,hz⟩:=I.tuple hq;refine assign_Tuple_tuple (I.ok.hd hc) ht (by simp[hn,←hl,rv.length]) hst fun h' hx=>?_
 have I1:Inv X pins σ H {s with heap:=h'}:=I.kept (t':=s.toks) fun b o e=>hx b o (Zq (Qw e)) e
 exact h pins _ σ H xs _ Q I1 (by simpa using rv) hw
def b3z(to ti:TE)(t:a5d):TG:=fun v σ H Q=>to σ H fun o H1=>ti σ H1 fun i H2=>t o i v H2 fun H3=>Q σ H3
theorem b3A{o i:Expr}{to ti:TE}{t:a5d}(ho:PE X o to)(hi:PE X i ti)(hs:a8j X t)
  (ha:∀v,assign (.Subscript o i pos) X.env v=(do
   let ov←holding [v] (eval o X.env)
   let iv←holding [v,ov] (eval i X.env)
   standAt pos
   holding [v,ov,iv] (setItem ov iv v)
   release [v,ov,iv] []):=by intro _;rfl):PG X (.Subscript o i pos) (b3z to ti t):=by
 intro pins s σ H v u Q I r h;rw[ha];refine Qq (Yz (thn (ho pins s σ H _ I h) fun ov s1 ⟨x,H1,I1,r1,q1⟩=>?_))
 refine Qq (Yz (thn (hi pins s1 σ H1 _ I1 q1) fun iv s2 ⟨y,H2,I2,r2,q2⟩=>?_))
 refine Qq (Xc (Qq (Yz (thn (hs pins s2 σ H2 x y v ov iv u _ I2 r1 r2 r q2) fun _ s3 ⟨H3,I3,q3⟩=>?_))))
 exact wpAny_release ⟨σ,H3,I3,q3⟩
def a5f(te:TE)(g:TG):TS:=fun D σ H=>te σ H fun x H1=>g x σ H1 D.nx
theorem b3B{tg e:Expr}{te:TE}{g:TG}(he:PE X e te)(hg:PG X tg g)(hs:swapsWithSole [tg] e pos.line X.env=pure false:=by rfl)(hw:swappedStores [tg] e X.env=pure none:=by rfl)
  (h1:(assignEach [tg] X.env).map (·.2)=[assign tg X.env]:=by rfl):PS X (.Assign [tg] e pos) (a5f te g):=by
 intro pins s σ H D I h;refine wpAny_Assign_stores (thn (he pins s σ H _ I h) fun v s1 ⟨x,H1,I1,r1,q1⟩=>?_) hs hw
 rw[h1];exact thn (hg pins s1 σ H1 x v _ I1 r1 q1) fun _ s2 q=>q
theorem a8k{i:Nat}{x:Str}{e:Expr}{te:TE}{pos':Pos}(hN:X.N.Nodup)(hi:X.N[i]? =some x)(hx:Loc X.env.scope x)(he:PE X e te)(hs:swapsWith e (some (.Name x pos')) pos.line X.env=pure false:=by rfl)(hf:X.fn x=true∨X.env.scope.names.lookup x=some .local:=by first|exact .inl rfl|exact .inr rfl|assumption):
  PS X (.Assign [.Name x pos'] e pos) (a5f te (a5e i)):=by
 intro pins s σ H D I h;refine wpAny_Assign_Name (thn (he pins s σ H _ I h) fun v s1 ⟨y,H1,I1,r1,q1⟩=>?_) hs
 exact a2Y I1 hN hi hx r1 (fun s2 I2=>⟨_,H1,I2,q1⟩) hf
def b3C(i j:Nat)(ta:TA):TS:=fun D σ H=>ta σ H fun vs H1=>∃v w,vs=[v,w]/\D.nx ((σ.set i (some v)).set j (some w)) H1
theorem b3D{i j:Nat}{x y:Str}{a b:Expr}{ta:TA}{px py pt:Pos}{kt k2 pt2}(hc:X.calm=true)(hN:X.N.Nodup)(hi:X.N[i]? =some x)(hj:X.N[j]? =some y)(hij:i≠j)
  (hx:X.env.scope.names.lookup x=some .local)(hy:X.env.scope.names.lookup y=some .local)(ha:PA X [a,b] ta)
  (hw:swappedStores [.Tuple [.Name x px,.Name y py] kt pt] (.Tuple [a,b] k2 pt2) X.env=pure (some [x,y]))
  (hs:swapsWithSole [.Tuple [.Name x px,.Name y py] kt pt] (.Tuple [a,b] k2 pt2) pos.line X.env=pure false:=by rfl):
  PS X (.Assign [.Tuple [.Name x px,.Name y py] kt pt] (.Tuple [a,b] k2 pt2) pos) (b3C i j ta):=by
 intro pins s σ H D I h;rw[exec_Assign_arm];refine Qq (Xc ?_);rw[hs];refine Qq (Qj ?_);rw[Qp (by decide)]
 refine Qq (Tuple_ (thn (ha _ pins s σ H _ I h) fun us s1 ⟨vs,H1,I1,r1,q1⟩=>?_))
 obtain⟨v,w,e1,q1⟩:=q1;subst e1;obtain⟨u1,u2,rfl,rv,rw'⟩:∃u1 u2,us=[u1,u2]/\q7_ v u1/\q7_ w u2:=by
  cases r1 with
  |cons p q=>
   cases q with
   |cons p' q'=>
    cases q';exact⟨_,_,rfl,p,p'⟩
 refine Yh ?_ (by show 2≤sizeLine;decide)
 have I2:Inv X pins σ H1 {s1 with heap:=s1.heap.push {cls:=.type "tuple",data:=.seq [u1,u2].toArray}}:=I1.kept (t':=s1.toks) fun b o e=>Qx _ e
 rw[hw];refine Qq (Qj ?_);show wpAny (model X.prog X.w) X.A (do rule "assign.swapped-stores";let items←unpackItems (.ref s1.heap.objs.size) 2 none;assignInOrder [fun v=>bindName X.env y v,fun v=>bindName X.env x v] items.reverse;pure Flow.next) _ _ _
 refine Qq (Xq (Qq (unpackItems_tuple (items:=#[u1,u2]) (I.ok.hd hc) (IsTup.new s1.heap _) fun h' hx'=>?_)))
 have I3:=I2.kept (h':=h') (t':=s1.toks) fun b o e=>hx' b o (Zq (Qw e)) e
 show wpAny _ _ (assignInOrder [fun v=>bindName X.env y v,fun v=>bindName X.env x v] [u2,u1]>>=fun _=>pure Flow.next) _ _ _
 refine Qq (assignInOrder_cons (wpAny_bindName (a2Y I3 hN hj (.inl hy) rw' (fun s2 I4=>?_) (.inr hy))))
 refine assignInOrder_cons (wpAny_bindName (a2Y I4 hN hi (.inl hx) rv (fun s3 I5=>assignInOrder_nil (Qj ?_)) (.inr hx)))
 rw[List.set_comm _ _ (Zl hij)]at I5;exact⟨_,H1,I5,q1⟩
def b3E(i:Nat)(te:TE)(ti:TIp):TS:=fun D σ H=>∃x,σ[i]? =some (some x)/\te σ H fun y H1=>ti x y H1 fun z H2=>D.nx (σ.set i (some z)) H2
theorem b3F{i:Nat}{x:Str}{e:Expr}{te:TE}{op:Operator}{ti:TIp}{pos':Pos}(hN:X.N.Nodup)(hi:X.N[i]? =some x)(hx:Loc X.env.scope x)(he:PE X e te)(ho:PIp X op ti)(hf:X.fn x=true∨X.env.scope.names.lookup x=some .local:=by first|exact .inl rfl|exact .inr rfl|assumption):
  PS X (.AugAssign (.Name x pos') op e pos) (b3E i te ti):=by
 intro pins s σ H D I h;obtain⟨v,e1,h⟩:=h;obtain⟨m,hn,hl⟩:=I.loc;have vis:Vis X.env.scope x:=by rcases hx with k|k;exact .inl k;exact .inr (.inl k)
 obtain⟨u,r,l⟩:=hl i x v hi e1 vis;refine wpAny_AugAssign_Name ?_
 have go:wpAny (model X.prog X.w) X.A (eval e X.env) (fun w s₂=>wpAny (model X.prog X.w) X.A (inplaceOp op u w) (fun r s₃=>wpAny (model X.prog X.w) X.A (storeName X.env x r) (fun _=>SP X pins D .next) X.xe s₃) X.xe s₂) X.xe s:=by
  refine thn (he pins s σ H _ I h) fun w s1 ⟨y,H1,I1,r1,q1⟩=>?_
  refine thn (ho pins s1 σ H1 v y u w _ I1 r r1 q1) fun z s2 ⟨zv,H2,I2,r2,q2⟩=>?_
  exact a2Y I2 hN hi hx r2 (fun s3 I3=>⟨_,H2,I3,q2⟩) hf
 rcases l with⟨hk,hm⟩|⟨hk,c,hc,hcell⟩
 ·exact wpAny_loadName_local I.ok.kind hk hn hm go
 ·rcases hk with hk|hk
  ·exact wpAny_loadName_cell I.ok.kind hk hc hcell go
  ·rcases hx with k|k
   ·have:X.env.scope.names.lookup x=some .free:=hk
    rw[k]at this;cases this
   ·have:X.env.scope.names.lookup x=some .free:=hk
    rw[k]at this;cases this
end
section
variable{X:Cx}{pos:Pos}
end
structure It where
 go:Nat->Hp->Prop
 yld:Nat->Hp->V->Hp->Prop
 stop:Nat->Hp->Prop
def u3_(X:Cx)(pins:OX)(H:Hp)(b:Addr):Prop:=
 H b=none/\b≠X.env.locals/\b∉X.fs/\(b∈X.ex∨X.s₀.heap.objs.size≤b)/\(∀x c,X.env.cells.lookup x=some c->c≠b)/\∀p∈X.pn++pins,p.1≠b
theorem Inv.fpOk{X:Cx}{pins:OX}{σ:St}{H H':Hp}{s:Shared}{b:Addr}(I:Inv X pins σ H s)(hb:s.heap.objs.size≤b)(hn:H' b=none):u3_ X pins H' b:=by
 refine⟨hn,Tv (Qa I.lt hb),I.nofs hb,.inr (Yj I.sz hb),fun x c e z=>?_,fun p hp z=>?_⟩
 ·obtain⟨v,q⟩:=I.cell x c e
  exact absurd (Qa q.lt (by rw[z];exact hb)) (Yp _)
 ·exact absurd (Qa (Qw (I.pin p hp).1) (by rw[z];exact hb)) (Yp _)
structure Turn(P:Program)(w:World)(K:Qz)(tg:Expr)(J:It)(fp:List Addr)(it:Addr)(tn:Nat->Heap->Prop):Prop where
 mem:it∈fp
 obj:∀i h,tn i h->∀b∈fp,∃o,h.get? b=some o/\∀v,o.data≠.cell v
 keep:∀i h h',tn i h->(∀b∈fp,∀o,h.get? b=some o->h'.get? b=some o)->tn i h'
 item:∀(X:Cx),X.prog=P->X.w=w->X.K=K->X.calm=true->∀(i:Nat) (pins:OX) (s:Shared) (σ:St) (H:Hp) (E:OE),Inv X pins σ H s->(∀b∈fp,u3_ X pins H b)->tn i s.heap->J.go i H->
  wpAny (model P w) X.A (pyNext (.ref it)) (fun r s1=>∃u,r=some u/\
   wpAny (model P w) X.A (letOwnedTupleGo tg (.ref it) u) (fun _ s2=>∃x H',Inv X pins σ H' s2/\q7_ x u/\J.yld i H x H'/\tn (i+1) s2.heap/\∀b∈fp,H' b=none) E s1) E s
 done:∀(X:Cx),X.prog=P->X.w=w->X.K=K->X.calm=true->∀(i:Nat) (pins:OX) (s:Shared) (σ:St) (H:Hp) (E:OE),Inv X pins σ H s->(∀b∈fp,u3_ X pins H b)->tn i s.heap->J.stop i H->
  wpAny (model P w) X.A (pyNext (.ref it)) (fun r s1=>r=none/\Inv X pins σ H s1) E s
 self:∀(A:Around) (i:Nat) (s:Shared) (Q:OE) (E:OE),tn i s.heap->Q (.ref it) s->wpAny (model P w) A (pyIter (.ref it)) Q E s
abbrev TI:=St->Hp->(It->Hp->Prop)->Prop
def PIE(X:Cx)(pins:OX)(σ:St)(tg:Expr)(R:It->Hp->Prop)(itv:Value)(s2:Shared):Prop:=
 ∃(it:Addr) (fp:List Addr) (tn:Nat->Heap->Prop) (J:It) (H':Hp),itv=.ref it/\Inv X pins σ H' s2/\Turn X.prog X.w X.K tg J fp it tn/\tn 0 s2.heap/\(∀b∈fp,u3_ X pins H' b)/\R J H'
def PI(X:Cx)(tg iter:Expr)(wi:TI):Prop:=
 ∀(pins:OX) (s:Shared) (σ:St) (H:Hp) (R:It->Hp->Prop),Inv X pins σ H s->wi σ H R->
  wpAny (model X.prog X.w) X.A (eval iter X.env) (fun v s1=>wpAny (model X.prog X.w) X.A (pyIter v) (PIE X pins σ tg R) X.xe s1) X.xe s
theorem a3T{M:Model}{A:Around}{E:OE}{s:Shared}{tg:Expr}{it:Addr}{u:Value}{o:Obj}{n:String}{vs:Array Value}{Q:Unit->Shared->Prop}(ho:s.heap.get? it=some o)(hc:o.cls=.type n)(hd:o.data=.fields vs)
    (hn:["enumerate","zip","dict_itemiterator","dict_reverseitemiterator","odict_iterator","itertools.zip_longest","itertools.pairwise"].contains n=false)(hQ:Q () s):wpAny M A (letOwnedTupleGo tg (.ref it) u) Q E s:=by
  unfold letOwnedTupleGo;cases tg<;>first
    |exact Qj hQ
    | (cases u<;>first
        |exact Qj hQ
        | (refine Qq (wpAny_load ho ?_)
           rw[hc,hd];show wpAny M A (if(["enumerate","zip","dict_itemiterator","dict_reverseitemiterator","odict_iterator","itertools.zip_longest","itertools.pairwise"].contains n&&vs[0]? ==some (rawInt _))=true then _ else _) Q E s
           rw[Qp (by intro h;rw[hn,Bool.false_and]at h;cases h)]
           exact Qj hQ))
def Itl(K:Qz)(a:Addr):It:=
 ⟨fun i H=>∃xs x,SqL K H a xs/\xs[i]? =some x,fun i H x H'=>H'=H/\∀xs,SqL K H a xs->xs[i]? =some x,fun i H=>∃xs,SqL K H a xs/\xs.length≤i⟩
def Itt(K:Qz)(a:Addr):It:=
 ⟨fun i H=>∃xs x,SqT K H a xs/\xs[i]? =some x,fun i H x H'=>H'=H/\∀xs,SqT K H a xs->xs[i]? =some x,fun i H=>∃xs,SqT K H a xs/\xs.length≤i⟩
def Itr(lo:Int)(n:Nat):It:=⟨fun i _=>i<n,fun i H x H'=>H'=H/\x=.int (lo+i),fun i _=>n≤i⟩
theorem b3G{P:Program}{w:World}{K:Qz}{tg:Expr}(a it:Addr):Turn P w K tg (Itl K a) [it] it (fun i h=>h.IsListIter it a i)where
 mem:=by simp
 obj:=fun i h st b hb=>by
  have e:b=it:=by simpa using hb
  subst e;obtain⟨o,e,c,d⟩:=st;exact⟨o,e,fun v z=>by rw[d]at z;cases z⟩
 keep:=fun i h h' st k=>st.at fun o e=>k it (by simp) o e
 item:=by
  intro X hP hw hK hc i pins s σ H E I hf st hg;subst hP hw hK;obtain⟨xs,x,hq,hx⟩:=hg;obtain⟨its,rv,p,hz⟩:=I.list hq;obtain⟨u,hu,ru⟩:=rv.get hx;obtain⟨f0,f1,f2,f3,f4,f5⟩:=hf it (by simp)
  refine wpAny_pyNext_list_item st p.isList (x:=u) (by simpa using hu) fun h' st' sb=>?_
  have I1:Inv X pins σ H {s with heap:=h'}:=I.turned (t':=s.toks) (fun b o hb e=>(sb.2 b hb).trans e) f0 f1 f3 f4 f5
  obtain⟨o,e,c,d⟩:=id st';exact⟨u,rfl,a3T (s:={s with heap:=h'}) e c d (by decide) ⟨x,H,I1,ru,⟨rfl,fun ys hy=>by rw[I.list_inj hy hq];exact hx⟩,st',fun b hb=>(hf b hb).1⟩⟩
 done:=by
  intro X hP hw hK hc i pins s σ H E I hf st hg;subst hP hw hK;obtain⟨xs,hq,hx⟩:=hg;obtain⟨its,rv,p,hz⟩:=I.list hq;obtain⟨f0,f1,f2,f3,f4,f5⟩:=hf it (by simp)
  have hl:=rv.length
  exact wpAny_pyNext_list_end (I.ok.hd hc) st p.isList (by simp;omega) fun h' eb=>⟨rfl,I.turned (t':=s.toks) (fun b o hb e=>eb b o hb e) f0 f1 f3 f4 f5⟩
 self:=fun _ _ _ _ _ st h=>wpAny_pyIter_listiter st h
theorem b3H{P:Program}{w:World}{K:Qz}{tg:Expr}(a it:Addr):Turn P w K tg (Itt K a) [it] it (fun i h=>h.IsTupleIter it a i)where
 mem:=by simp
 obj:=fun i h st b hb=>by
  have e:b=it:=by simpa using hb
  subst e;obtain⟨o,e,c,d⟩:=st;exact⟨o,e,fun v z=>by rw[d]at z;cases z⟩
 keep:=fun i h h' st k=>st.at fun o e=>k it (by simp) o e
 item:=by
  intro X hP hw hK hc i pins s σ H E I hf st hg;subst hP hw hK;obtain⟨xs,x,hq,hx⟩:=hg;obtain⟨its,rv,p,hz⟩:=I.tuple hq;obtain⟨u,hu,ru⟩:=rv.get hx;obtain⟨f0,f1,f2,f3,f4,f5⟩:=hf it (by simp)
  refine wpAny_pyNext_tuple_item st (show s.heap.IsTuple a its.toArray from p) (x:=u) (by simpa using hu) fun h' st' sb=>?_
  have I1:Inv X pins σ H {s with heap:=h'}:=I.turned (t':=s.toks) (fun b o hb e=>(sb.2 b hb).trans e) f0 f1 f3 f4 f5
  obtain⟨o,e,c,d⟩:=id st';exact⟨u,rfl,a3T (s:={s with heap:=h'}) e c d (by decide) ⟨x,H,I1,ru,⟨rfl,fun ys hy=>by rw[I.tuple_inj hy hq];exact hx⟩,st',fun b hb=>(hf b hb).1⟩⟩
 done:=by
  intro X hP hw hK hc i pins s σ H E I hf st hg;subst hP hw hK;obtain⟨xs,hq,hx⟩:=hg;obtain⟨its,rv,p,hz⟩:=I.tuple hq;obtain⟨f0,f1,f2,f3,f4,f5⟩:=hf it (by simp)
  have hl:=rv.length
  exact wpAny_pyNext_tuple_end (I.ok.hd hc) st (show s.heap.IsTuple a its.toArray from p) (by simp;omega) fun h' eb=>⟨rfl,I.turned (t':=s.toks) (fun b o hb e=>eb b o hb e) f0 f1 f3 f4 f5⟩
 self:=fun _ _ _ _ _ st h=>wpAny_pyIter_tupleiter st h
theorem b3I{P:Program}{w:World}{K:Qz}{tg:Expr}(it:Addr)(lo:Int)(n:Nat):Turn P w K tg (Itr lo n) [it] it (fun i h=>IsRangeIter h it (lo+(i:Nat) * 1) ((n:Int)-(i:Nat)) 1)where
 mem:=by simp
 obj:=fun i h st b hb=>by
  have e:b=it:=by simpa using hb
  subst e;exact⟨_,st,fun v z=>by
   have z':Data.fields _=Data.cell v:=z
   cases z'⟩
 keep:=fun i h h' st k=>k it (by simp) _ st
 item:=by
  intro X hP hw hK hc i pins s σ H E I hf st hg;subst hP hw hK;obtain⟨f0,f1,f2,f3,f4,f5⟩:=hf it (by simp)
  have W:=Walks.range (prog:=X.prog) (w:=X.w) (I.ok.hd hc) it lo 1 n
  refine W.item i s _ _ hg st fun v h' tk hv st' kk=>?_
  obtain⟨t,rfl⟩:=hv;have I1:Inv X pins σ H {s with heap:=h',toks:=tk}:=I.turned (fun b o hb e=>kk b o (by simpa using hb) e) f0 f1 f3 f4 f5
  refine⟨_,rfl,a3T (s:={s with heap:=h',toks:=tk}) (n:="range_iterator") st' rfl rfl (by decide) ⟨.int (lo+i),H,I1,⟨t,?_⟩,⟨rfl,rfl⟩,st',fun b hb=>(hf b hb).1⟩⟩
  rw[Int.mul_one]
 done:=by
  intro X hP hw hK hc i pins s σ H E I hf st hg;subst hP hw hK;obtain⟨f0,f1,f2,f3,f4,f5⟩:=hf it (by simp)
  exact wpAny_pyNext_range_end (I.ok.hd hc) st (by have:n≤i:=hg;omega) fun h' eb=>⟨rfl,I.turned (t':=s.toks) (fun b o hb e=>eb b o hb e) f0 f1 f3 f4 f5⟩
 self:=fun _ _ _ _ _ st h=>wpAny_pyIter_rangeiter st h
section
variable{X:Cx}{tg:Expr}
theorem b3J{pins:OX}{σ:St}{H:Hp}{s:Shared}{R:It->Hp->Prop}{E:OE}{lo hi:Int}{t u v:Tok}{tk:Nat}(I:Inv X pins σ H s)(h1: -(2^62)≤lo)(h2:lo<2^62)(h3: -(2^62)≤hi)(h4:hi<2^62)
  (q:R (Itr lo (hi-lo).toNat) H):wpAny (model X.prog X.w) X.A (pyIter (.ref s.heap.objs.size)) (PIE X pins σ tg R) E {s with heap:=s.heap.push {cls:=.type "range",data:=.fields #[.int lo t,.int hi u,.int 1 v]},toks:=tk}:=by
 refine wpAny_pyIter_range (IsRange.new ..) (small_one h1 h2 h3 h4) ?_
 have I1:Inv X pins σ H {s with heap:=s.heap.push {cls:=.type "range",data:=.fields #[.int lo t,.int hi u,.int 1 v]},toks:=tk}:=I.kept fun b o e=>Qx _ e
 refine⟨(s.heap.push {cls:=.type "range",data:=.fields #[.int lo t,.int hi u,.int 1 v]}).objs.size,[(s.heap.push {cls:=.type "range",data:=.fields #[.int lo t,.int hi u,.int 1 v]}).objs.size],_,_,H,rfl,
  I1.kept (t':=tk) fun b o e=>Qx _ e,b3I _ lo (hi-lo).toNat,?_,fun b hb=>?_,q⟩
 ·have e1:lo+((0:Nat):Int) * 1=lo:=by simp
  have e2:(((hi-lo).toNat:Nat):Int)-((0:Nat):Int)=Builtin.Range.rangeSize lo hi 1:=by rw[rangeSize_one];split<;>omega
  show IsRangeIter _ _ (lo+((0:Nat):Int) * 1) ((((hi-lo).toNat:Nat):Int)-((0:Nat):Int)) 1;rw[e1,e2];exact Ql _ rfl
 ·have e:b=(s.heap.push {cls:=.type "range",data:=.fields #[.int lo t,.int hi u,.int 1 v]}).objs.size:=by simpa using hb
  subst e;exact I1.fpOk (Qu _) (I1.hok.fresh (Qu _))
def b3K(ta:TA):TI:=fun σ H R=>ta σ H fun vs H1=>∃j:Int,vs=[.int j]/\ -(2^62)≤j/\j<2^62/\R (Itr 0 j.toNat) H1
theorem b3L{a:Expr}{ta:TA}{p pos:Pos}(hg:Gl X "range")(hm:X.mg "range"=none)(ha:PA X [a] ta)(hs:starEach [a] X.env=[(false,eval a X.env)]:=by rfl):PI X tg (.Call (.Name "range" p) [a] [] pos) (b3K ta):=by
 intro pins s σ H R I h;refine Call_ (a2Z I hg hm boot_range (Ut (thn (ha pos pins s σ H _ I h) fun us s1 ⟨vs,H1,I1,r1,q1⟩=>?_) hs rfl))
 obtain⟨j,e,q1,q2,q⟩:=q1;subst e;cases r1 with
 |cons r rr=>
  cases rr;obtain⟨t,rfl⟩:=r;exact call_range_1 (b3J I1 (by omega) (by omega) q1 q2 (by simpa using q))
def b3M(wi:TI)(g:TG)(tb:TS):TS:=fun D σ H=>wi σ H fun J H1=>∃W:Nat->Nat->St->Hp->Prop,(∃m,W 0 m σ H1)/\∀i m σ H,W i m σ H->
 (J.stop i H/\D.nx σ H)∨(J.go i H/\∃N:St->Hp->Prop,(∀σ' H',N σ' H'->∃m',m'<m/\W (i+1) m' σ' H')/\∀x H',J.yld i H x H'->g x σ H' fun σ2 H2=>tb {D with nx:=N,ct:=N,bk:=D.nx} σ2 H2)
def a3a(fp:List Addr)(h:Heap):OX:=fp.filterMap fun b=>(h.get? b).map fun o=>(b,o)
theorem a3U{fp:List Addr}{h:Heap}{b:Addr}{o:Obj}(hb:b∈fp)(e:h.get? b=some o):(b,o)∈a3a fp h:=Jh.mpr ⟨b,hb,by rw[e];rfl⟩
theorem b3N{fp:List Addr}{h:Heap}{p:Addr×Obj}(hp:p∈a3a fp h):p.1∈fp/\h.get? p.1=some p.2:=by
 obtain⟨b,hb,e⟩:=Jh.mp hp;cases q:h.get? b with
 |none=>rw[q]at e;cases e
 |some o=>
  rw[q]at e;have e':(b,o)=p:=Za e;subst e';exact⟨hb,q⟩
theorem Inv.pinned{pins:OX}{σ:St}{H:Hp}{s:Shared}{fp:List Addr}(I:Inv X pins σ H s)(hf:∀b∈fp,u3_ X pins H b)(ho:∀b∈fp,∃o,s.heap.get? b=some o/\∀v,o.data≠.cell v):Inv X (pins++a3a fp s.heap) σ H s:=
 I.pins_of fun p hp=>(Jd.mp hp).elim (fun z=>I.pin p (Zb _ z)) fun z=>by
  obtain⟨hb,e⟩:=b3N z;obtain⟨f0,f1,f2,_⟩:=hf p.1 hb;obtain⟨o,e',d⟩:=ho p.1 hb;rw[e]at e';cases e';exact⟨e,f0,f1,f2,d⟩
theorem Inv.unpinned{pins pl:OX}{σ:St}{H:Hp}{s:Shared}(I:Inv X (pins++pl) σ H s):Inv X pins σ H s:=I.pins_of fun p hp=>I.pin p (Zb _ (List.mem_append_left _ hp))
theorem b3O{iter:Expr}{body:List Stmt}{wi:TI}{g:TG}{tb:TS}{pos:Pos}(hp:PassesOwn (model X.prog X.w) X.A X.env X.xe)(hc:X.calm=true)(hi:PI X tg iter wi)(hg:PG X tg g)(hb:PSs X body tb)
  (hs:∀x,foldedSetIterable iter X.env x=pure x:=by intro _;rfl):PS X (.For tg iter body [] pos) (b3M wi g tb):=by
 intro pins s σ H D I h;refine wpAny_For (thn (hi pins s σ H _ I h) fun v s1 h1=>thn h1 fun itv s2 h2=>?_) hs
 obtain⟨it,fp,tn,J,H2,e,I2,T,st2,f2,W,⟨m0,w0⟩,turn⟩:=h2;subst e;have stat:∀{H':Hp},(∀b∈fp,H' b=none)->∀b∈fp,u3_ X pins H' b:=fun hn b hb=>⟨hn b hb,(f2 b hb).2⟩
 refine codeAny_forLoop_any (fun n s'=>∃i σ' H',Inv X pins σ' H' s'/\tn i s'.heap/\(∀b∈fp,H' b=none)/\W i n σ' H') ?_ m0 ⟨0,σ,H2,I2,st2,fun b hb=>(f2 b hb).1,w0⟩
 rintro n s3 ⟨i,σ3,H3,I3,st3,fr3,w3⟩
 rcases turn i n σ3 H3 w3 with⟨stop,qn⟩|⟨go,N,hN,step⟩
 ·refine Vq hp (thn (T.done X rfl rfl rfl hc i pins s3 σ3 H3 X.xe I3 (stat fr3) st3 stop) fun r s4 ⟨hr,I4⟩=>?_)
  subst hr;exact wpAny_execs_nil ⟨σ3,H3,I4,qn⟩
 ·refine Vq hp (thn (T.item X rfl rfl rfl hc i pins s3 σ3 H3 X.xe I3 (stat fr3) st3 go) fun r s4 ⟨u,hr,h4⟩=>?_)
  subst hr;refine Vq hp (thn h4 fun _ s5 ⟨x,H5,I5,r5,y5,st5,fr5⟩=>?_)
  have I5':=I5.pinned (stat fr5) (T.obj _ _ st5)
  refine Vq hp (thn (hg _ s5 σ3 H5 x u _ I5' r5 (step x H5 y5)) fun _ s6 ⟨σ6,H6,I6,q6⟩=>?_)
  refine Vq hp (thn (hb _ s6 σ6 H6 _ I6 q6) fun f s7 q7=>?_)
  have again:∀{σ7:St}{H7:Hp},Inv X (pins++a3a fp s5.heap) σ7 H7 s7->N σ7 H7->∃m,m<n/\∃i σ' H',Inv X pins σ' H' s7/\tn i s7.heap/\(∀b∈fp,H' b=none)/\W i m σ' H':=fun{σ7 H7} I7 n7=>by
   obtain⟨m',hm,w7⟩:=hN σ7 H7 n7;refine⟨m',hm,i+1,σ7,H7,I7.unpinned,T.keep _ _ _ st5 fun b hb o e=>(I7.pin (b,o) (Zb _ (Zb _ (a3U hb e)))).1,fun b hb=>?_,w7⟩
   obtain⟨o,e,d⟩:=T.obj _ _ st5 b hb;exact(I7.pin (b,o) (Zb _ (Zb _ (a3U hb e)))).2.1
  cases f with
  |next=>obtain⟨σ7,H7,I7,n7⟩:=q7;exact again I7 n7
  |cont=>obtain⟨σ7,H7,I7,n7⟩:=q7;exact again I7 n7
  |brk=>obtain⟨σ7,H7,I7,q7⟩:=q7;exact⟨σ7,H7,I7.unpinned,q7⟩
  |ret v=>obtain⟨x7,σ7,H7,I7,r7,q7⟩:=q7;exact⟨x7,σ7,H7,I7.unpinned,r7,q7⟩
end
abbrev R2:=V->V->Hp->VK->Prop
def OpR(X:Cx)(f:Value->Value->Sem Value)(r:R2):Prop:=
 ∀(pins:OX) (s:Shared) (σ:St) (H:Hp) (x y:V) (v u:Value) (Q:VK),Inv X pins σ H s->q7_ x v->q7_ y u->r x y H Q->
  wpAny (model X.prog X.w) X.A (f v u) (EP X pins σ Q) X.xe s
def UnR(X:Cx)(f:Value->Sem Value)(r:V->Hp->VK->Prop):Prop:=
 ∀(pins:OX) (s:Shared) (σ:St) (H:Hp) (x:V) (v:Value) (Q:VK),Inv X pins σ H s->q7_ x v->r x H Q->
  wpAny (model X.prog X.w) X.A (f v) (EP X pins σ Q) X.xe s
def k5_(X:Cx)(f:Value)(r:List V->Hp->VK->Prop):Prop:=
 ∀(pins:OX) (s:Shared) (σ:St) (H:Hp) (xs:List V) (us:List Value) (Q:VK),Inv X pins σ H s->q0_ xs us->r xs H Q->
  wpAny (model X.prog X.w) X.A (call f us) (EP X pins σ Q) X.xe s
def tOp(r:R2)(ta tb:TE):TE:=fun σ H Q=>ta σ H fun x H1=>tb σ H1 fun y H2=>r x y H2 Q
def tUn(r:V->Hp->VK->Prop)(ta:TE):TE:=fun σ H Q=>ta σ H fun x H1=>r x H1 Q
def rI(C:Int->Int->Prop)(g:Int->Int->V):R2:=fun x y H Q=>∃i j,x=.int i/\y=.int j/\C i j/\Q (g i j) H
def rI0(g:Int->Int->V):R2:=fun x y H Q=>∃i j,x=.int i/\y=.int j/\Q (g i j) H
def rU(g:Int->V):V->Hp->VK->Prop:=fun x H Q=>∃i,x=.int i/\Q (g i) H
section
variable{X:Cx}{a b c:Expr}{ta tb tc:TE}{pos:Pos}
theorem a5g(ha:PE X a ta)(hb:PE X b tb){pins:OX}{s:Shared}{σ:St}{H:Hp}{R:V->V->Hp->Prop}(I:Inv X pins σ H s)
  (h:ta σ H fun x H1=>tb σ H1 fun y H2=>R x y H2){Q:OE}{f:Value->Value->Sem Value}
  (hf:∀v u s2 x y H2,Inv X pins σ H2 s2->q7_ x v->q7_ y u->R x y H2->wpAny (model X.prog X.w) X.A (f v u) Q X.xe s2):
  wpAny (model X.prog X.w) X.A (eval a X.env) (fun v s₁=>wpAny (model X.prog X.w) X.A (eval b X.env) (fun u s₂=>wpAny (model X.prog X.w) X.A (f v u) Q X.xe s₂) X.xe s₁) X.xe s:=by
 refine thn (ha pins s σ H _ I h) fun v s1 ⟨x,H1,I1,r1,q1⟩=>?_
 refine thn (hb pins s1 σ H1 _ I1 q1) fun u s2 ⟨y,H2,I2,r2,q2⟩=>?_
 exact hf v u s2 x y H2 I2 r1 r2 q2
theorem a8l{op:Operator}{r:R2}(ho:OpR X (binaryOp op) r)(ha:PE X a ta)(hb:PE X b tb):PE X (.BinOp a op b pos) (tOp r ta tb):=by
 intro pins s σ H Q I h;exact wpAny_BinOp (a5g ha hb I h fun v u s2 x y H2 I2 rx ry q=>ho pins s2 σ H2 x y v u Q I2 rx ry q)
theorem a8m{op:UnaryOp}{r:V->Hp->VK->Prop}(ho:UnR X (unaryOp op) r)(ha:PE X a ta):PE X (.UnaryOp op a pos) (tUn r ta):=by
 intro pins s σ H Q I h;exact UnaryOp_ (thn (ha pins s σ H _ I h) fun v s1 ⟨x,H1,I1,r1,q1⟩=>ho pins s1 σ H1 x v Q I1 r1 q1)
theorem opI{f:Value->Value->Sem Value}{C:Int->Int->Prop}{g:Int->Int->Int}
  (rule:∀(i j:Int) (t u:Tok) (s:Shared) (Q:OE) (E:OE),C i j->Q (.int (g i j) s.toks) {s with toks:=s.toks+1}->wpAny (model X.prog X.w) X.A (f (.int i t) (.int j u)) Q E s):
  OpR X f (rI C fun i j=>.int (g i j)):=by
 intro pins s σ H x y v u Q I rx ry h;obtain⟨i,j,rfl,rfl,hc,q⟩:=h;obtain⟨t,rfl⟩:=rx;obtain⟨t',rfl⟩:=ry;exact rule i j t t' s _ _ hc ⟨.int (g i j),H,I.tok _,⟨_,rfl⟩,q⟩
theorem a5h{f:Value->Value->Sem Value}{g:Int->Int->Int}
  (rule:∀(i j:Int) (t u:Tok) (s:Shared) (Q:OE) (E:OE),Q (.int (g i j) s.toks) {s with toks:=s.toks+1}->wpAny (model X.prog X.w) X.A (f (.int i t) (.int j u)) Q E s):
  OpR X f (rI0 fun i j=>.int (g i j)):=by
 intro pins s σ H x y v u Q I rx ry h;obtain⟨i,j,rfl,rfl,q⟩:=h;obtain⟨t,rfl⟩:=rx;obtain⟨t',rfl⟩:=ry;exact rule i j t t' s _ _ ⟨.int (g i j),H,I.tok _,⟨_,rfl⟩,q⟩
theorem a5i{f:Value->Value->Sem Value}{g:Int->Int->Bool}
  (rule:∀(i j:Int) (t u:Tok) (s:Shared) (Q:OE) (E:OE),Q (.bool (g i j)) s->wpAny (model X.prog X.w) X.A (f (.int i t) (.int j u)) Q E s):
  OpR X f (rI0 fun i j=>.bl (g i j)):=by
 intro pins s σ H x y v u Q I rx ry h;obtain⟨i,j,rfl,rfl,q⟩:=h;obtain⟨t,rfl⟩:=rx;obtain⟨t',rfl⟩:=ry;exact rule i j t t' s _ _ ⟨.bl (g i j),H,I,rfl,q⟩
def a5j(i j:Int):Prop:=0<j/\j<1073741824
def a5k(i j:Int):Prop:=0≤j/\j≤1000000/\i.natAbs<2^64
def a1D(i j:Int):Prop:=(-(2^64)<i/\i<2^64)∨(-(2^64)<j/\j<2^64)
theorem a1D.ok{i j:Int}(h:a1D i j):IntMulOk i j:=by
 rcases h with⟨h1,h2⟩|⟨h1,h2⟩
 ·exact .of_left (intBits_le_64 h1 h2)
 ·exact .of_right (intBits_le_64 h1 h2)
theorem b3P:OpR X (binaryOp .Add) (rI0 fun i j=>.int (i+j)):=a5h fun _ _ _ _ _ _ _ q=>add_int q
theorem a8n:OpR X (binaryOp .Sub) (rI0 fun i j=>.int (i-j)):=a5h fun _ _ _ _ _ _ _ q=>sub_int q
theorem b3Q:OpR X (binaryOp .Mult) (rI a1D fun i j=>.int (i * j)):=opI fun _ _ _ _ _ _ _ hc q=>mul_int q hc.ok
theorem a8o:OpR X (binaryOp .FloorDiv) (rI a5j fun i j=>.int (i/j)):=opI fun i j _ _ _ _ _ hc q=>by
 have h1:(0:Int)<j:=hc.1
 have h2:j<1073741824:=hc.2
 exact floordiv_int (by omega) (by rw[Int.fdiv_eq_ediv_of_nonneg i (by omega)];exact q) (.inl (PyProof.noPylong_small (by omega)))
theorem a1E:OpR X (binaryOp .Mod) (rI (fun _ j=>0<j) fun i j=>.int (i%j)):=opI fun i j _ _ _ _ _ hc q=>by
 have h1:(0:Int)<j:=hc
 exact mod_int' (by omega) (by rw[Int.fmod_eq_emod_of_nonneg i (by omega)];exact q)
theorem a8p:OpR X (binaryOp .Pow) (rI a5k fun i j=>.int (i^j.toNat)):=opI fun _ _ _ _ _ _ _ hc q=>pow_int_small hc.1 hc.2.1 hc.2.2 q
theorem b3R:OpR X (inplaceOp .Add) (rI0 fun i j=>.int (i+j)):=a5h fun _ _ _ _ _ _ _ q=>iadd_int q
theorem unI{f:Value->Sem Value}{g:Int->Int}
  (rule:∀(i:Int) (t:Tok) (s:Shared) (Q:OE) (E:OE),Q (.int (g i) s.toks) {s with toks:=s.toks+1}->wpAny (model X.prog X.w) X.A (f (.int i t)) Q E s):
  UnR X f (rU fun i=>.int (g i)):=by
 intro pins s σ H x v Q I rx h;obtain⟨i,rfl,q⟩:=h;obtain⟨t,rfl⟩:=rx;exact rule i t s _ _ ⟨.int (g i),H,I.tok _,⟨_,rfl⟩,q⟩
theorem a8q:UnR X (unaryOp .USub) (rU fun i=>.int (-i)):=unI fun _ _ _ _ _ q=>neg_int q
end
section
variable{X:Cx}{a b c:Expr}{ta tb tc:TE}{pos:Pos}
theorem b3S:OpR X (compareOp .Lt) (rI0 fun i j=>.bl (decide (i<j))):=a5i fun _ _ _ _ _ _ _ q=>lt_int q
theorem a2m:OpR X (compareOp .LtE) (rI0 fun i j=>.bl (decide (i≤j))):=a5i fun _ _ _ _ _ _ _ q=>le_int q
theorem b3T:OpR X (compareOp .GtE) (rI0 fun i j=>.bl (decide (j≤i))):=a5i fun _ _ _ _ _ _ _ q=>ge_int q
theorem OpR.or{f:Value->Value->Sem Value}{r r':R2}(h:OpR X f r)(h':OpR X f r'):OpR X f (fun x y H Q=>r x y H Q∨r' x y H Q):=by
 intro pins s σ H x y v u Q I rx ry q
 rcases q with q|q
 ·exact h pins s σ H x y v u Q I rx ry q
 ·exact h' pins s σ H x y v u Q I rx ry q
theorem nomark(b:Expr){op:CmpOp}(h:op≠.In:=by decide)(h2:op≠.NotIn:=by decide):behindInMarks op b=false:=by
 have e1:(op==CmpOp.In)=false:=by cases op<;>first|rfl|exact absurd rfl h
 have e2:(op==CmpOp.NotIn)=false:=by cases op<;>first|rfl|exact absurd rfl h2
 cases b<;>simp[behindInMarks,e1,e2]
theorem b3U{op:CmpOp}{r:R2}(ho:OpR X (compareOp op) r)(ha:PE X a ta)(hb:PE X b tb)(hm:behindInMarks op b=false):PE X (.Compare a [op] [b] pos) (tOp r ta tb):=by
 intro pins s σ H Q I h;exact wpAny_Compare1 (a5g ha hb I h fun v u s2 x y H2 I2 rx ry q=>ho pins s2 σ H2 x y v u Q I2 rx ry q) hm
def a8r(t:TE):TT:=fun σ H Q=>t σ H fun x H'=>∃k,x=.bl k/\Q k H'
theorem b3V{op:CmpOp}{r:R2}(ho:OpR X (compareOp op) r)(ha:PE X a ta)(hb:PE X b tb)(hm:behindInMarks op b=false):PT X (.Compare a [op] [b] pos) (a8r (tOp r ta tb)):=by
 intro pins s σ H Q I h;refine wpAny_isTrue_Compare1 (thn (ha pins s σ H _ I h) fun v s1 ⟨x,H1,I1,r1,q1⟩=>thn (hb pins s1 σ H1 _ I1 q1) fun u s2 ⟨y,H2,I2,r2,q2⟩=>
  thn (ho pins s2 σ H2 x y v u _ I2 r1 r2 q2) fun c s3 ⟨z,H3,I3,r3,k,e,q3⟩=>?_) hm
 subst e;cases r3;exact Yq ⟨H3,I3,q3⟩
def a8s(r r':R2)(ta tb tc:TE):TE:=fun σ H Q=>ta σ H fun x H1=>tb σ H1 fun y H2=>r x y H2 fun z H3=>∃k,z=.bl k/\
 (if k=true then tc σ H3 fun w' H4=>r' y w' H4 Q else Q (.bl false) H3)
theorem b3W{op op':CmpOp}{r r':R2}(ho:OpR X (compareOp op) r)(ho':OpR X (compareOp op') r')(ha:PE X a ta)(hb:PE X b tb)(hc:PE X c tc)
  (hm:lastMarks [op,op'] [b,c]=false:=by with_unfolding_all rfl):PT X (.Compare a [op,op'] [b,c] pos) (a8r (a8s r r' ta tb tc)):=by
 intro pins s σ H Q I h;refine isTrue_chain (thn (ha pins s σ H _ I h) fun v s1 ⟨x,H1,I1,r1,q1⟩=>test_link (thn (hb pins s1 σ H1 _ I1 q1) fun u s2 ⟨y,H2,I2,r2,q2⟩=>
  thn (ho pins s2 σ H2 x y v u _ I2 r1 r2 q2) fun d s3 ⟨z,H3,I3,r3,k,e,q3⟩=>?_)) hm
 subst e;cases r3;refine Yq ?_
 cases k with
 |false=>
  obtain⟨k',e',q'⟩:=q3;cases e';exact ite_ff ⟨H3,I3,q'⟩
 |true=>
  refine ite_tt (test_last (thn (hc pins s3 σ H3 _ I3 q3) fun w' s4 ⟨z',H4,I4,r4,q4⟩=>thn (ho' pins s4 σ H4 y z' u w' _ I4 r2 r4 q4) fun d' s5 ⟨z2,H5,I5,r5,k2,e2,q5⟩=>?_))
  subst e2;cases r5;exact Yq ⟨H5,I5,q5⟩
theorem a3b:(sizeLine:Nat)<2^63:=by rw[Jb];decide
theorem a1h{x:V}{us:List Value}(r:q0_ [x] us):∃u,us=[u]/\q7_ x u:=by
 cases r with
 |cons r1 r2=>cases r2;exact⟨_,rfl,r1⟩
theorem a3V{x y:V}{us:List Value}(r:q0_ [x,y] us):∃u w',us=[u,w']/\q7_ x u/\q7_ y w':=by
 cases r with
 |cons r1 r2=>
  cases r2 with
  |cons r3 r4=>cases r4;exact⟨_,_,rfl,r1,r3⟩
theorem b3X(hc:X.calm=true):k5_ X (.builtin "max") (fun xs H Q=>∃i j,xs=[.int i,.int j]/\Q (.int (if j>i then j else i)) H):=by
 intro pins s σ H xs us Q I r h;obtain⟨i,j,rfl,q⟩:=h;obtain⟨u,w',rfl,⟨t,rfl⟩,⟨t',rfl⟩⟩:=a3V r;refine max_two_ints (I.ok.hd hc) fun h' tk k=>⟨_,H,I.kept k,?_,q⟩
 by_cases hj:j>i
 ·rw[Qc hj,Qc hj];exact⟨_,rfl⟩
 ·rw[Qp hj,Qp hj];exact⟨_,rfl⟩
theorem b3Y(hc:X.calm=true):k5_ X (.builtin "min") (fun xs H Q=>∃i j,xs=[.int i,.int j]/\Q (.int (if j<i then j else i)) H):=by
 intro pins s σ H xs us Q I r h;obtain⟨i,j,rfl,q⟩:=h;obtain⟨u,w',rfl,⟨t,rfl⟩,⟨t',rfl⟩⟩:=a3V r;refine min_two_ints (I.ok.hd hc) fun h' tk k=>⟨_,H,I.kept k,?_,q⟩
 by_cases hj:j<i
 ·rw[Qc hj,Qc hj];exact⟨_,rfl⟩
 ·rw[Qp hj,Qp hj];exact⟨_,rfl⟩
end
structure ObjM(h:Heap)(x dx C:Addr)(mA:OU):Prop where
 obj:h.get? x=some (PySem.W.instObj C dx)
 ns:h.Ns1 dx mA
 ne:dx≠x
theorem b3Z{h:Heap}{dx:Addr}{mA:OU}(n:h.Ns1 dx mA):∃od,h.get? dx=some od/\∀name,PySem.W.lookIn name od=some (mA name):=by
 obtain⟨o,es,ep,ho,hd,hk,_,hm⟩:=n;refine⟨o,ho,fun name=>?_⟩
 have e:=hm name
 unfold nsFind findBy at e;rw[←Array.find?_toList]at e;unfold PySem.W.lookIn;rw[hd];dsimp only;split
 ·rename_i y q
  rw[q]at e;exact Yy some e
 ·rename_i q
  rw[q]at e;have a:es.toList.any (·.refKey)=false:=by
   rw[List.any_eq_false];intro y hy;obtain⟨z,t,hkey⟩:=hk y (Array.mem_toList_iff.mp hy)
   simp[DictEntry.refKey,hkey]
  have a':¬ es.toList.any (·.refKey)=true:=by rw[a];exact Zy
  rw[Qp a'];exact Yy some e
theorem ObjM.look{h:Heap}{x dx C:Addr}{mA:OU}(I:ObjM h x dx C mA):∃od,PySem.W.InstAt h x (PySem.W.instObj C dx) C (some od)/\∀name,PySem.W.lookIn name od=some (mA name):=
 let ⟨od,ho,hl⟩:=b3Z I.ns
 ⟨od,⟨I.obj,rfl,rfl,ho⟩,hl⟩
section
variable{prog:Program}{w:World}{A:Around}{E:OE}{s:Shared}{K:Qz}{x dx C f:Addr}{mA:OU}{name:Str}{v:Value}
end
section
variable{P:Program}{w:World}{H H':Hp}{h h':Heap}{a C dx:Addr}{fs fs':List (Str×V)}
theorem b4a(hok:HOk P w H h)(e:H a=some (.ins C dx fs)):∃mA,ObjM h a dx C mA/\(∀f,a3R (fs.lookup f) (mA f))/\PySem.Within mA (fs.map (·.1))/\fs.length≤1000/\H dx=some (.own a):=by
 obtain⟨d,z,ne,ob,mA,n,r,q⟩:=(show k2_ P w H h a (.ins C dx fs)from hok a _ e)
 exact⟨mA,⟨ob,n,ne⟩,r,q,z,d⟩
end
structure Cls(K:Qz)(C:Addr):Prop where
 pg:PySem.W.plainGet K C Str.empty=true
 hd:PySem.W.hasDictIn K C=true
 po:PySem.W.plainOver K C=true
 sa:PySem.W.findIn K (.ref C) "__setattr__"=some (some (.builtin "object.__setattr__"))
theorem Cls.get{K:Qz}{C:Addr}(c:Cls K C)(f:Str):PySem.W.plainGet K C f=true:=c.pg
structure Con(K:Qz)(C:Addr)(f:Str)(v:V)(u:Value):Prop where
 at_:PySem.W.findIn K (.ref C) f=some (some u)
 rel:q7_ v u
 get:PySem.W.specialIn K u "__get__"=some none
 cp:PySem.W.copiedNames.contains f=false
structure Meth(K:Qz)(C:Addr)(m:Str)(f:Addr):Prop where
 at_:PySem.W.findIn K (.ref C) m=some (some (.ref f))
 fn:PySem.W.isFn K (.ref f)=true
 kp:PySem.W.keepIn K (.ref f)=true
section
variable{X:Cx}{pins:OX}{σ:St}{H:Hp}{s:Shared}{a C dx:Addr}{fs:List (Str×V)}{f:Str}{v:V}{A:Around}{E:OE}
end
section
variable{X:Cx}{o e value:Expr}{f:Str}{pos pos' tpos:Pos}{ta tv:TE}
end
section
variable{X:Cx}{pins:OX}{σ:St}{H:Hp}{s:Shared}{A:Around}{E:OE}{Q:OE}{c:Value}{b:Bool}
inductive TyOf (K:Qz) (H:Hp):V->Value->Prop where
 |non:TyOf K H .non (.type "NoneType")
 |bl (x:Bool):TyOf K H (.bl x) (.type "bool")
 |int (i:Int):TyOf K H (.int i) (.type "int")
 |str (x:Str):TyOf K H (.str x) (.type "str")
 |flt (x:UInt64):TyOf K H (.flt x) (.type "float")
 |lst {a:Addr}{xs:List V}(e:H a=some (.lst xs)):TyOf K H (.ref a) (.type "list")
 |frz {a:Addr}{o:Obj}{xs:List V}(e:H a=some (.frz o (.lst xs))):TyOf K H (.ref a) (.type "list")
 |tup {a:Addr}{xs:List V}(e:H a=some (.tup xs)):TyOf K H (.ref a) (.type "tuple")
 |dK {a:Addr}{kvs:List (Key×V)}(e:H a=some (.dK kvs)):TyOf K H (.ref a) (.type "dict")
 |dT {a:Addr}{C:Addr->List Key->Prop}{kvs:List (List Key×V)}(e:H a=some (.dT C kvs)):TyOf K H (.ref a) (.type "dict")
 |ins {a C dx:Addr}{fs:List (Str×V)}(e:H a=some (.ins C dx fs)) (cl:Cls K C) (ha:PySem.W.findIn K (.ref C) "__class__"=some (some (.builtin "object.__class__")))
   (hn:PySem.W.specialIn K (.builtin "object.__class__") "__get__"=some (some (.builtin "getset_descriptor.__get__"))) (htk:PySem.W.takesIn K (.builtin "object.__class__")=some true)
   (hm:PySem.W.mroIn K C (.type "object")=some true):TyOf K H (.ref a) (.ref C)
theorem a2n{x:V}{u t:Value}(I:Inv X pins σ H s)(rx:q7_ x u)(ty:TyOf X.K H x t)(e:PySem.W.kitOne X.K t c=some b)(h:∀tk,Q (.bool b) {s with toks:=tk}):
  wpAny (model X.prog X.w) A (call (.builtin "isinstance") [u,c]) Q E s:=by
 cases ty with
 |non=>cases (show u=Value.none from rx);exact Zw PySem.W.kitx_none I.kIn True.intro e (fun z=>nomatch z) h
 |bl y=>cases (show u=Value.bool y from rx);exact Zw PySem.W.kitx_bool I.kIn True.intro e (fun z=>nomatch z) h
 |int i=>obtain⟨t,q⟩:=(show∃t,u=Value.int i t from rx);cases q;exact Zw PySem.W.kitx_int I.kIn True.intro e (fun z=>nomatch z) h
 |str y=>obtain⟨t,q⟩:=(show∃t,u=Value.str y t from rx);cases q;exact Zw PySem.W.kitx_str I.kIn True.intro e (fun z=>nomatch z) h
 |flt y=>obtain⟨t,q⟩:=(show∃t,u=Value.float y t from rx);cases q;exact Zw PySem.W.kitx_float I.kIn True.intro e (fun z=>nomatch z) h
 |@lst a xs ea=>
  cases (show u=Value.ref a from rx)
  obtain⟨_,_,n,_,h1⟩:=(show k2_ X.prog X.w H s.heap a (.lst xs)from I.hok a _ ea)
  exact Zw Xa I.kIn ⟨_,h1,rfl⟩ e (fun z=>nomatch z) h
 |@frz a ob xs ea=>
  cases (show u=Value.ref a from rx)
  obtain⟨_,_,_,n,_,h1⟩:=(show k2_ X.prog X.w H s.heap a (.frz ob (.lst xs))from I.hok a _ ea)
  exact Zw Xa I.kIn ⟨_,h1,rfl⟩ e (fun z=>nomatch z) h
 |@tup a xs ea=>
  cases (show u=Value.ref a from rx)
  obtain⟨_,_,_,p⟩:=(show k2_ X.prog X.w H s.heap a (.tup xs)from I.hok a _ ea)
  obtain⟨o,h1,h2,_⟩:=p;exact Zw PySem.W.kitx_tuple I.kIn ⟨o,h1,h2⟩ e (fun z=>nomatch z) h
 |@dK a kvs ea=>
  cases (show u=Value.ref a from rx)
  obtain⟨_,_,vs,_,p⟩:=(show k2_ X.prog X.w H s.heap a (.dK kvs)from I.hok a _ ea)
  obtain⟨o,es,ep,h1,h2,_⟩:=p;exact Zw Vw I.kIn ⟨o,h1,h2.1⟩ e (fun z=>nomatch z) h
 |@dT a C kvs ea=>
  cases (show u=Value.ref a from rx)
  obtain⟨_,_,xs,_,o,es,ep,h1,h2,_⟩:=(show k2_ X.prog X.w H s.heap a (.dT C kvs)from I.hok a _ ea)
  exact Zw Vw I.kIn ⟨o,h1,h2.1⟩ e (fun z=>nomatch z) h
 |@ins a C dx fs ea cl ha hn htk hm=>
  cases (show u=Value.ref a from rx)
  obtain⟨mA,O,_⟩:=b4a I.hok ea;obtain⟨od,J,_⟩:=O.look;exact Zw (PySem.W.kitx_own (cl.get _) cl.hd ha hn htk hm) I.kIn J e (fun z=>nomatch z) h
end
structure Room(k:Nat)(A:Around):Prop where
 hd:A.handled=none
 dp:A.depth+3 * k+5<recursionLimit
 un:A.units+16 * k+200<cLine
theorem Room.mono{j k:Nat}{A:Around}(r:Room k A)(h:j≤k):Room j A:=⟨r.hd,by have:=r.dp;omega,by have:=r.un;omega⟩
theorem Room.deeper{k:Nat}{A:Around}(r:Room (k+1) A)(env:Env):Room k (A.deeper env):=
 ⟨r.hd,by have:=r.dp;show A.depth+1+3 * k+5<_;omega,by have:=r.un;show A.units+3+16 * k+200<_;omega⟩
theorem Room.depth{k:Nat}{A:Around}(r:Room k A):A.depth<recursionLimit:=by have:=r.dp;omega
theorem Room.units{k:Nat}{A:Around}(r:Room k A):A.units+64<cLine:=by have:=r.un;omega
def a8t:TA:=fun _ H Q=>Q [] H
def b4b(ta:TE)(tr:TA):TA:=fun σ H Q=>ta σ H fun x H1=>tr σ H1 fun xs H2=>Q (x::xs) H2
section
variable{X:Cx}{e:Expr}{es:List Expr}{te:TE}{t:TA}{pos:Pos}
theorem a3c:PA X [] a8t:=fun _ _ _ _ H Q I h=>Calls.spliced_nil ⟨[],H,I,.nil,h⟩
theorem a1F(ha:PE X e te)(hr:PA X es t)(hs:starEach (e::es) X.env=(false,eval e X.env)::starEach es X.env:=by rfl):PA X (e::es) (b4b te t):=by
 intro pos pins s σ H Q I h;rw[hs];show wpAny _ _ (spliced ((false,eval e X.env)::backTo pos (starEach es X.env))) _ _ s;refine Calls.spliced_cons (thn (ha pins s σ H _ I h) fun u s1 ⟨x,H1,I1,r1,q1⟩=>?_)
 exact thn (hr pos pins s1 σ H1 _ I1 q1) fun us s2 ⟨xs,H2,I2,r2,q2⟩=>⟨x::xs,H2,I2,.cons r1 r2,q2⟩
def b4c(t:TA):TE:=fun σ H Q=>t σ H fun xs H1=>xs.length≤sizeLine/\∀p,H1 p=none->Q (.ref p) (upd H1 p (.tup xs))
def b4d(t:TA):TE:=fun σ H Q=>t σ H fun xs H1=>xs.length≤sizeLine/\∀p,H1 p=none->Q (.ref p) (upd H1 p (.lst xs))
theorem b4e{x1}(h:PA X es t):PE X (.Tuple es x1 pos) (b4c t):=by
 intro pins s σ H Q I hq;refine wpAny_Tuple_spliced (thn (h pos pins s σ H _ I hq) fun us s1 ⟨xs,H1,I1,r,z,q⟩=>⟨by rw[←r.length];exact z,?_⟩)
 have hf:H1 s1.heap.objs.size=none:=I1.hok.fresh (Qu _)
 refine⟨.ref s1.heap.objs.size,upd H1 s1.heap.objs.size (.tup xs),I1.laid (t':=s1.toks) (fun b u e=>Qx _ e) (Qu _) ?_,rfl,q _ hf⟩
 exact⟨z,us,r,⟨_,Ql _ rfl,rfl,rfl,_,rfl⟩⟩
theorem b4f(h:PA X es t):PE X (.List es pos) (b4d t):=by
 intro pins s σ H Q I hq;refine wpAny_List_spliced (thn (h pos pins s σ H _ I hq) fun us s1 ⟨xs,H1,I1,r,z,q⟩=>⟨by rw[←r.length];exact z,?_⟩)
 have hf:H1 s1.heap.objs.size=none:=I1.hok.fresh (Qu _)
 refine⟨.ref s1.heap.objs.size,upd H1 s1.heap.objs.size (.lst xs),I1.laid (t':=s1.toks) (fun b u e=>Qx _ e) (Qu _) ?_,rfl,q _ hf⟩
 exact⟨z,us,0,r,Ql _ rfl⟩
end
abbrev Sp:=List V->Hp->VK->XK->Prop
abbrev CXT:=List Env->Hp->Shared->XK->OE
structure Env0(P:Program)(w:World)(K:Qz)(mg:OU)(base:Heap)(A:Around)(outer:List Env)(s:Shared)(H:Hp):Prop where
 frames:A.frames=some outer
 mod:Mod K mg base
 bs:∀b o,base.get? b=some o->s.heap.get? b=some o/\H b=none
 bsz:base.objs.size≤s.heap.objs.size
 funs:s.heap.FunFrames base outer
 frf:∀b∈frs outer,H b=none
 hok:HOk P w H s.heap
 bare:AllBare s.gens
def CE(outer:List Env)(P:Program)(w:World)(H:Hp)(s:Shared)(Q:VK)(u:Value)(s':Shared):Prop:=
 ∃v H',s'.os=s.os/\AllBare s'.gens/\Un (frs outer) [] H H' s.heap s'.heap/\HOk P w H' s'.heap/\q7_ v u/\Q v H'
def CR(CX:CXT)(outer:List Env)(P:Program)(w:World)(H:Hp)(s:Shared)(Q:VK)(E:XK)(r:Result)(s':Shared):Prop:=
 match r with
 |.ok (.ret u)=>CE outer P w H s Q u s'
 |.ok _=>False
 |.error e=>CX outer H s E e s'
structure FnOk(P:Program)(w:World)(K:Qz)(mg:OU)(base:Heap)(CX:CXT)(k:Nat)(f:Addr)(fd:FuncData)(ps:List Str)(sp:Sp):Prop where
 len:∀vs H Q E,sp vs H Q E->vs.length=ps.length
 run:∀(A:Around) (outer:List Env) (s:Shared) (H:Hp) (args:Args) (us:List Value) (vs:List V) (Q:VK) (E:XK),Room k A->Env0 P w K mg base A outer s H->BindsTo s fd args (ps.zip us)->q0_ vs us->sp vs H Q E->
  codeAny (model P w) A (.call (.ref f) args) (CR CX outer P w H s Q E) s
section
variable{X:Cx}{pins:OX}{σ:St}{H:Hp}{s s':Shared}
theorem Inv.env0(I:Inv X pins σ H s):Env0 X.prog X.w X.K X.mg X.base X.A X.stack s H:=
 ⟨I.ok.frames,I.ok.mod,I.bs,Yj I.ok.bsz I.sz,I.stack,I.stkFree,I.hok,I.bare⟩
theorem Inv.after{Q:VK}{u:Value}(I:Inv X pins σ H s)(h:CE X.stack X.prog X.w H s Q u s'):EP X pins σ Q u s':=by
 obtain⟨v,H',os,bare,un,hok,r,q⟩:=h;obtain⟨hh,g,d,t,os'⟩:=s';obtain rfl:os'=s.os:=os;exact⟨v,H',I.call (h':=hh) (g':=g) (d':=d) (t':=t) (ch:=[]) un hok bare (fun b z=>absurd z (by simp)),r,q⟩
end
def a3W(sp:Sp)(dvs:List V)(E:XK)(t:TA):TE:=fun σ H Q=>t σ H fun vs H1=>sp (vs++dvs) H1 Q E
def u4_(K:Qz)(fd:FuncData)(ps:List Str)(ds:List Value):Prop:=
 ∀(s:Shared) (us:List Value),K.In s.heap->(us++ds).length=ps.length->BindsTo s fd ⟨us,[]⟩ (ps.zip (us++ds))
theorem u4_.all{K:Qz}{fd:FuncData}{ps:List Str}(h:∀us:List Value,us.length=ps.length->bindArgs fd ⟨us,[]⟩=pure (ps.zip us)):u4_ K fd ps []:=fun s us _ hl=>by
 rw[Uw]at hl ⊢;exact .of_eq (h us hl)
def a2o(CX:CXT)(X:Cx)(E:XK):Prop:=∀(pins:OX) (σ:St) (H:Hp) (s:Shared) (e:Value) (s':Shared),Inv X pins σ H s->CX X.stack H s E e s'->X.xe e s'
section
variable{X:Cx}{CX:CXT}{k:Nat}{f C:Addr}{fd:FuncData}{ps:List Str}{sp:Sp}{dvs:List V}{ds:List Value}{E:XK}{x m:Str}{p pos apos:Pos}{e o:Expr}{es:List Expr}{ta:TE}{t:TA}
theorem a5l{pins:OX}{σ:St}{H:Hp}{s:Shared}{Q:VK}{us:List Value}{vs:List V}(F:FnOk X.prog X.w X.K X.mg X.base CX k f fd ps sp)(hr:Room k X.A)(hb:u4_ X.K fd ps ds)(hd:q0_ dvs ds)(hx:a2o CX X E)
  (I:Inv X pins σ H s)(r:q0_ vs us)(h:sp (vs++dvs) H Q E):wpAny (model X.prog X.w) X.A (call (.ref f) us) (EP X pins σ Q) X.xe s:=by
 have r2:q0_ (vs++dvs) (us++ds):=r.append hd
 have hl:(us++ds).length=ps.length:=by rw[←r2.length];exact F.len _ _ _ _ h
 refine wpAny_call (Xz (F.run X.A X.stack s H ⟨us,[]⟩ (us++ds) (vs++dvs) Q E hr I.env0 (hb s us I.kIn hl) r2 h) fun r s' hq=>?_)
 cases r with
 |error e=>exact hx pins σ H s e s' I hq
 |ok fl=>
  cases fl with
  |ret u=>exact I.after hq
  |next=>exact False.elim hq
  |brk=>exact False.elim hq
  |cont=>exact False.elim hq
theorem a8u(F:FnOk X.prog X.w X.K X.mg X.base CX k f fd ps sp)(hr:Room k X.A)(hg:Gl X x)(hm:X.mg x=some (.ref f))(hk:PySem.W.keepIn X.K (.ref f)=true)(hb:u4_ X.K fd ps ds)(hd:q0_ dvs ds)(hx:a2o CX X E)
  (ha:PA X (e::es) t)(hdb:(x==("__debug__":Str))=false:=by decide)(he:starEach (e::es) X.env=(false,eval e X.env)::starEach es X.env:=by rfl)(hpl:(backTo pos (starEach es X.env)).any (·.1)=false:=by rfl):
  PE X (.Call (.Name x p) (e::es) [] pos) (a3W sp dvs E t):=by
 intro pins s σ H Q I h;refine Uy (a5c I hg hm ?_ hdb);refine PySem.W.callWith_K (h₀:=X.base) I.ok.mod.kin hk (thn (ha pos pins s σ H _ I h) fun us s1 ⟨vs,H1,I1,r,q⟩=>⟨I1.kIn,?_⟩) he hpl
 exact a5l F hr hb hd hx I1 r q
theorem b4g(F:FnOk X.prog X.w X.K X.mg X.base CX k f fd ps sp)(hr:Room k X.A)(hg:Gl X x)(hm:X.mg x=some (.ref f))(hk:PySem.W.keepIn X.K (.ref f)=true)(hb:u4_ X.K fd ps ds)(hd:q0_ dvs ds)(hx:a2o CX X E)
  (hdb:(x==("__debug__":Str))=false:=by decide):PE X (.Call (.Name x p) [] [] pos) (a3W sp dvs E a8t):=by
 intro pins s σ H Q I h;refine Uy (a5c I hg hm ?_ hdb);exact PySem.W.callWith_K0 I.kIn hk (a5l (us:=[]) F hr hb hd hx I .nil h)
structure Mk(K:Qz)(C f:Addr):Prop where
 makes:PySem.W.makesIn K C=true
 init:PySem.W.findIn K (.ref C) "__init__"=some (some (.ref f))
 fn:PySem.W.isFn K (.ref f)=true
 kp:PySem.W.keepIn K (.ref C)=true
end
section
variable{X:Cx}{CX:CXT}{k:Nat}{f C:Addr}{fd:FuncData}{ps ks:List Str}{sp:Sp}{E:XK}{x m:Str}{p pos apos kpos:Pos}{e o:Expr}{es:List Expr}{kws:List Keyword}{te ta:TE}{t tk:TA}{nm:Option Str}
structure KBinds(K:Qz)(fd:FuncData)(ps ks:List Str)(g:List Value->List Value->List Value)(gV:List V->List V->List V):Prop where
 to:∀(s:Shared) (us ws:List Value),K.In s.heap->(g us ws).length=ps.length->BindsTo s fd ⟨us,ks.zip ws⟩ (ps.zip (g us ws))
 rel:∀{vs:List V}{us:List Value}{zs:List V}{ws:List Value},q0_ vs us->q0_ zs ws->q0_ (gV vs zs) (g us ws)
variable{g:List Value->List Value->List Value}{gV:List V->List V->List V}
end
structure FnScope(N P:List Str)(sc:Scope):Prop where
 kind:sc.kind=.function
 co:sc.isCoroutine=false
 gen:sc.isGenerator=false
 nd:N.Nodup
 pre:N.take P.length=P
 par:∀x∈P,sc.names.lookup x=some .local∨sc.names.lookup x=some .cell
 nofree:∀y∈sc.names,y.2≠.free
theorem a8v{kindOf:Str->Option NameKind}{x:Str}:∀{binds:List (Str×Value)}{m:OU},(∀v,(x,v)∉binds)->bindL kindOf binds m x=m x
 |[],_,_=>rfl
 |(n,v)::r,m,h=>by
  unfold bindL;rw[a8v fun w hw=>h w (Qt _ hw)]
  split
  ·have:x≠n:=by rintro rfl;exact h v Qo
   simp[this]
  ·rfl
theorem a8w{kindOf:Str->Option NameKind}{x:Str}:∀{binds:List (Str×Value)}{m:OU},(∀v,(x,v)∉binds)->bindC kindOf binds m x=m x
 |[],_,_=>rfl
 |(n,v)::r,m,h=>by
  unfold bindC;rw[a8w fun w hw=>h w (Qt _ hw)]
  split
  ·rfl
  ·have:x≠n:=by rintro rfl;exact h v Qo
   simp[this]
theorem a8x{kindOf:Str->Option NameKind}{x:Str}{v:Value}:∀{P:List Str}{vs:List Value}{i:Nat}{m:OU},P.Nodup->P[i]? =some x->vs[i]? =some v->kindOf x=some .local->
  bindL kindOf (P.zip vs) m x=some v
 |[],_,_,_,_,h,_,_=>by simp at h
 |_::_,[],_,_,_,_,h,_=>by simp at h
 |p::P,w::vs,0,m,nd,h1,h2,hk=>by
  simp at h1 h2;subst h1;subst h2
  show bindL kindOf ((p,w)::P.zip vs) m p=_;unfold bindL;rw[a8v fun v hv=>(Uu.mp nd).1 (Tg hv).1,Qc hk]
  simp
 |p::P,w::vs,i+1,m,nd,h1,h2,hk=>by
  show bindL kindOf ((p,w)::P.zip vs) m x=_;unfold bindL;exact a8x (i:=i) (Uu.mp nd).2 (by simpa using h1) (by simpa using h2) hk
theorem a8y{kindOf:Str->Option NameKind}{x:Str}{v:Value}:∀{P:List Str}{vs:List Value}{i:Nat}{m:OU},P.Nodup->P[i]? =some x->vs[i]? =some v->kindOf x≠some .local->
  bindC kindOf (P.zip vs) m x=some v
 |[],_,_,_,_,h,_,_=>by simp at h
 |_::_,[],_,_,_,_,h,_=>by simp at h
 |p::P,w::vs,0,m,nd,h1,h2,hk=>by
  simp at h1 h2;subst h1;subst h2
  show bindC kindOf ((p,w)::P.zip vs) m p=_;unfold bindC;rw[a8w fun v hv=>(Uu.mp nd).1 (Tg hv).1,Qp hk]
  simp
 |p::P,w::vs,i+1,m,nd,h1,h2,hk=>by
  show bindC kindOf ((p,w)::P.zip vs) m x=_;unfold bindC;exact a8y (i:=i) (Uu.mp nd).2 (by simpa using h1) (by simpa using h2) hk
def start(N:List Str)(vs:List V):St:=vs.map some++List.replicate (N.length-vs.length) none
def a1G(CX:CXT)(P:Program)(w:World)(K:Qz)(mg:OU)(base:Heap)(N:List Str)(qual:Str)(scope:Scope)(f:Addr)(cd:Value)(A:Around)(outer:List Env)(s:Shared)(H:Hp)(E:XK):Cx where
 prog:=P
 w:=w
 K:=K
 mg:=mg
 base:=base
 A:=A.deeper (envOfC qual scope s.heap.objs.size f cd)
 N:=N
 s₀:=s
 H₀:=H
 env:=envOfC qual scope s.heap.objs.size f cd
 outer:=outer
 stack:=envOfC qual scope s.heap.objs.size f cd::outer
 ex:=[]
 calm:=true
 fn:=fun _=>true
 pn:=[]
 xe:=fun e s'=>wpAny (model P w) (A.deeper (envOfC qual scope s.heap.objs.size f cd)) (leaving (envOfC qual scope s.heap.objs.size f cd) e) (fun _ s''=>CX outer H s E e s'') (fun e' s''=>CX outer H s E e' s'') s'
theorem a8z{sc:Scope}{n:Nat}{x:Str}(h:sc.names.lookup x=some .cell):∃c,(cellsFrom n sc.names []).lookup x=some c:=by
 have q:=Ul sc.names n [] (.inl h)
 exact Ym.mp q
theorem b4h{CX:CXT}{P:Program}{w:World}{K:Qz}{mg:OU}{base:Heap}{N ps:List Str}{qual:Str}{scope:Scope}{f:Addr}{cd:Value}{A:Around}{outer:List Env}{s s1:Shared}{H:Hp}{E:XK}{us:List Value}{vs:List V}
  (S:FnScope N ps scope)(hd:A.handled=none)(e0:Env0 P w K mg base A outer s H)(hl:vs.length=ps.length)(r:q0_ vs us)
  (x:InCallC s s.heap.objs.size (bindL (envOfC qual scope s.heap.objs.size f cd).kindOf (ps.zip us) fun _=>none) (cellsFrom (s.heap.objs.size+1) scope.names []) (bindC (envOfC qual scope s.heap.objs.size f cd).kindOf (ps.zip us) fun _=>none) s1):
  Inv (a1G CX P w K mg base N qual scope f cd A outer s H E) [] (start N vs) H s1:=by
 have hpl:ps.length≤N.length:=by have:=Yy List.length S.pre;rw[List.length_take]at this;omega
 obtain⟨h1,tk,rfl,hk⟩:=x.done;have noA:∀b:Addr,b∉(a1G CX P w K mg base N qual scope f cd A outer s H E).ex:=fun b z=>absurd (show b∈([]:List Addr)from z) (by simp)
 refine⟨⟨e0.mod,S.kind,rfl,rfl,Qu _,fun y z c h1 h2=>?_,fun y hy=>?_,fun y c _ h=>?_,fun _=>hd,Around.frames_deeper e0.frames,.inr ⟨rfl,rfl⟩,fun b z=>absurd z (noA b),e0.bs,e0.bsz,fun b _ _=>noA b,fun b z=>absurd z (noA b),e0.funs,e0.frf⟩,
  rfl,e0.bare,Un.kept hk,⟨_,x.toInCall.ns,fun i y v h1 h2 h3=>?_⟩,fun y c h=>⟨_,x.cell y c h⟩,e0.hok.fresh (Qu _),fun y c h=>?_,fun p hp=>absurd (show p∈([]:OX)from hp) (by simp),e0.hok.kept hk,?_⟩
 ·exact name_of_addr x.apart (Zh h1) (Zh h2)
 ·have hy:scope.names.lookup y=some .cell∨scope.names.lookup y=some .free:=hy
  rcases hy with hy|hy
  ·exact a8z hy
  ·exact absurd rfl (S.nofree _ (Zh hy))
 ·exact Jm (x.above y c (Zh h))
 ·have hi:i<vs.length:=by
   unfold start at h2
   by_cases hi:i<vs.length
   ·exact hi
   ·rw[List.getElem?_append_right (by simpa using hi)]at h2
    rw[Vk]at h2;split at h2<;>cases h2
  have ha:vs[i]? =some v:=by
   unfold start at h2;rw[Jz (by simpa using hi),Zk]at h2
   cases e:vs[i]? with
   |none=>rw[e]at h2;cases h2
   |some a=>rw[e]at h2;cases h2;rfl
  obtain⟨u,hu,rv⟩:=r.get ha;have hp:ps[i]? =some y:=by
   rw[←S.pre,List.getElem?_take_of_lt (by omega)];exact h1
  have ndP:ps.Nodup:=by rw[←S.pre];exact S.nd.sublist (List.take_sublist _ _)
  refine⟨u,rv,?_⟩
  rcases S.par y (Jj hp)with k|k
  ·exact .inl ⟨k,a8x ndP hp hu k⟩
  ·obtain⟨c,e⟩:=a8z (n:=s.heap.objs.size+1) k
   refine .inr ⟨.inl k,c,e,?_⟩;have q:=x.cell y c e;rw[a8y ndP hp hu (by show scope.names.lookup y≠_;rw[k];decide)]at q
   exact q
 ·exact e0.hok.fresh (Jm (x.above y c (Zh h)))
 ·unfold start
  show _=N.length;rw[Zr,Qk,Yo]
  omega
theorem b4i{CX:CXT}{P:Program}{w:World}{K:Qz}{mg:OU}{base:Heap}{k:Nat}{f:Addr}{name qual:Str}{params:Arguments}{body:List Stmt}{scope:Scope}{dV kV doc pm cdv ct oc:Value}{an od:Option Addr}
  {osl:Array (Option Value)}{N ps:List Str}{sp:Sp}(lk:K.lookup f=some ⟨oc,od,.func (PySem.W.fnOf name qual params body scope dV kV doc pm an cdv ct),osl⟩)(hcd:PySem.W.codeIn K cdv qual=true)(S:FnScope N ps scope)
  (len:∀vs H Q E,sp vs H Q E->vs.length=ps.length)
  (hbody:∀(A:Around) (outer:List Env) (s:Shared) (H:Hp) (vs:List V) (Q:VK) (E:XK),Room k (A.deeper (envOfC qual scope s.heap.objs.size f cdv))->sp vs H Q E->
   ∃t,PSs (a1G CX P w K mg base N qual scope f cdv A outer s H E) body t/\t {nx:=fun _ H'=>Q .non H',rt:=Q} (start N vs) H):
  FnOk P w K mg base CX (k+1) f (PySem.W.fnOf name qual params body scope dV kV doc pm an cdv ct) ps sp:=by
 refine⟨len,fun A outer s H args us vs Q E hr e0 hb r hsp=>?_⟩
 have hl:=len _ _ _ _ hsp
 have KX:K.In s.heap:=e0.mod.kin.keeps fun b o e=>(e0.bs b o e).1
 have lim:s.heap.NoLimit:=e0.mod.nolimit.keeps fun b o e=>(e0.bs b o e).1
 have hkind:∀y∈ps.zip us,scope.names.lookup y.1=some .local∨(scope.names.lookup y.1=some .cell/\((cellsFrom (s.heap.objs.size+1) scope.names []).lookup y.1).isSome=true):=fun⟨n,v⟩ hy=>by
  rcases S.par n (Tg hy).1 with q|q
  ·exact .inl q
  ·exact .inr ⟨q,Ul _ _ _ (.inl q)⟩
 refine codeAny_call_function hr.depth (KX _ _ lk) rfl S.co S.gen rfl (PySem.W.codeRec_of KX hcd) (hb _ _ _ _ ?_);refine wpAny_newFunctionEnv_cells S.kind hkind fun env he s1 x=>?_
 subst he;refine⟨lim.keeps x.toInCall.keep,codeAny_func ?_⟩;obtain⟨t,ht,hq⟩:=hbody A outer s H vs Q E (hr.deeper _) hsp;have I:Inv (a1G CX P w K mg base N qual scope f cdv A outer s H E) [] (start N vs) H s1:=b4h S hr.hd e0 hl r x;refine Yw (ht [] s1 (start N vs) H _ I hq) (fun fl s' hs=>?_) fun e s' hs=>hs
 have fin:∀{σ':St}{H':Hp}{v:V}{u:Value},Inv (a1G CX P w K mg base N qual scope f cdv A outer s H E) [] σ' H' s'->q7_ v u->Q v H'->CE outer P w H s Q u s':=
  fun{σ' H' v u} J rv q=>⟨v,H',J.os,J.bare,J.base,J.hok,rv,q⟩
 cases fl with
 |ret u=>
  obtain⟨v,σ',H',J,rv,q⟩:=hs;exact fin J rv q
 |next=>
  obtain⟨σ',H',J,q⟩:=hs;exact fin (v:=V.non) (u:=Value.none) J rfl q
 |brk=>
  obtain⟨_,_,_,q⟩:=hs;exact False.elim q
 |cont=>
  obtain⟨_,_,_,q⟩:=hs;exact False.elim q
section
variable{X:Cx}{x:Str}{p pos:Pos}{e:Expr}{es:List Expr}{t:TA}{id T:String}{r:List V->Hp->VK->Prop}
def tCB(r:List V->Hp->VK->Prop)(t:TA):TE:=fun σ H Q=>t σ H fun vs H1=>r vs H1 Q
theorem a3X(hc:k5_ X (.builtin id) r)(hg:Gl X x)(hm:X.mg x=none)(hv:bootBuiltins x=some (.builtin id))(ha:PA X (e::es) t)(hn:x≠"__name__":=by decide)(hdb:(x==("__debug__":Str))=false:=by decide)
  (he:starEach (e::es) X.env=(false,eval e X.env)::starEach es X.env:=by rfl)(hpl:(backTo pos (starEach es X.env)).any (·.1)=false:=by rfl):PE X (.Call (.Name x p) (e::es) [] pos) (tCB r t):=by
 intro pins s σ H Q I h;refine Uy (a2Z I hg hm hv ?_ hn hdb);exact PyProof.Rows.callWith_builtin1 (thn (ha pos pins s σ H _ I h) fun us s1 ⟨vs,H1,I1,r1,q1⟩=>hc pins s1 σ H1 vs us Q I1 r1 q1) he hpl
theorem a8A(hc:k5_ X (.type T) r)(hg:Gl X x)(hm:X.mg x=none)(hv:bootBuiltins x=some (.type T))(ha:PA X (e::es) t)(hn:x≠"__name__":=by decide)(hdb:(x==("__debug__":Str))=false:=by decide)
  (he:starEach (e::es) X.env=(false,eval e X.env)::starEach es X.env:=by rfl)(hpl:(backTo pos (starEach es X.env)).any (·.1)=false:=by rfl):PE X (.Call (.Name x p) (e::es) [] pos) (tCB r t):=by
 intro pins s σ H Q I h;refine Uy (a2Z I hg hm hv ?_ hn hdb);exact Ut (thn (ha pos pins s σ H _ I h) fun us s1 ⟨vs,H1,I1,r1,q1⟩=>hc pins s1 σ H1 vs us Q I1 r1 q1) he hpl
end
end L2
namespace HT
open PySem PyProof.Rows
def lexLt:List Int->List Int->Bool
 |[],[]=>false
 |[],_::_=>true
 |_::_,[]=>false
 |x::xs,y::ys=>if x=y then lexLt xs ys else decide (x<y)
theorem lexLt_cons(x y:Int)(xs ys:List Int):lexLt (x::xs) (y::ys)=if x=y then lexLt xs ys else decide (x<y):=rfl
theorem lexLt_nil_nil:lexLt [] []=false:=rfl
theorem lexLt_nil_cons(y:Int)(ys:List Int):lexLt [] (y::ys)=true:=rfl
theorem lexLt_cons_nil(x:Int)(xs:List Int):lexLt (x::xs) []=false:=rfl
theorem eqAt_int(A:Around)(s:Shared)(a:Int)(t:Tok)(c:Int)(u:Tok):∃e,SeqAt.EqAt A s (.int a t) (.int c u) e/\(e=true↔a=c):=
 ⟨(a==c),Xf a t c u,by simp⟩
theorem rcLt_int(A:Around)(s:Shared)(a:Int)(t:Tok)(c:Int)(u:Tok)(prog:Program)(w:World)(E:OE)(Q:OE)(h:Q (.bool (decide (a<c))) s):
  wpAny (model prog w) A (richCompare .Lt (.int a t) (.int c u)) Q E s:=
 (PyProof.Rows.lt_int h:wpAny (model prog w) A (compareOp .Lt (.int a t) (.int c u)) Q E s)
section
open PySem.SeqAt
open PySem.AutoSeq1 (wpAny_loadPart')
open PySem.MeetsSeq PySem.MeetsSeq2 PySem.MeetsSeq3
theorem tuple_lt_ints(l b:Addr)(items items2:Array Value)(n n2:Nat)(dd dd2:Option Addr)(sl sl2:Array (Option Value))(ns ms:List Int)(hi:IntsAre items.toList ns)(hj:IntsAre items2.toList ms):
  Meets (Builtin.«tuple.__lt__» ⟨[.ref l,.ref b],[]⟩)
   (fun _ R s=>s.heap.get? l=some {cls:=.type "tuple",dict:=dd,data:=.seq items n,slots:=sl}/\s.heap.get? b=some {cls:=.type "tuple",dict:=dd2,data:=.seq items2 n2,slots:=sl2}/\
    R (.ok (.ret (.bool (lexLt ns ms)))) s):=
 .of_wp fun prog w A R s h=>by
  obtain⟨hp,g,d,tk,os⟩:=s;obtain⟨hl,hb,h⟩:=h;have f2:=AutoSeq1.sub_tuple_tuple;have z1:items.size=ns.length:=by rw[←hi.length];simp
  have z2:items2.size=ms.length:=by rw[←hj.length];simp
  wp_walk using Ze hl,Ze hb,Yu _ (fun rest b s'=>b.1=none/\s'=⟨hp,g,d,tk,os⟩/\∃(vs ws:List Value) (ns' ms':List Int),rest=vs.zip ws/\
   IntsAre vs ns'/\IntsAre ws ms'/\ns'.length+items2.size=ms'.length+items.size/\R (.ok (.ret (.bool (lexLt ns' ms')))) ⟨hp,g,d,tk,os⟩) _
  case turn=>
   rintro⟨y,x⟩ rest b s' ⟨hb',rfl,vs,ws,ns',ms',hz,hvi,hwi,hlen,hR⟩;cases hvi with
   |nil=>rw[List.zip_nil_left]at hz;cases hz
   |cons a t hvi'=>
    cases hwi with
    |nil=>rw[List.zip_nil_right]at hz;cases hz
    |cons c u hwi'=>
     rw[Up]at hz;injection hz with hyx hrest
     injection hyx with hy hx
     subst hy hx;rw[lexLt_cons]at hR;simp only[Zj]at hlen;obtain⟨e,he,hiff⟩:=eqAt_int A.in1 ⟨hp,g,d,tk,os⟩ a t c u;refine Qq (he prog w _ _ ?_);cases e with
     |true=>
      rw[Qc (hiff.mp rfl)]at hR
      wp_walk
      exact⟨rfl,rfl,_,_,_,_,hrest,hvi',hwi',by omega,hR⟩
     |false=>
      rw[Qp (fun q=>absurd (hiff.mpr q) Zy)]at hR
      have hri:=rcLt_int A.in1 ⟨hp,g,d,tk,os⟩ a t c u prog w
      wp_walk using hri
      exact⟨_,rfl,by simpa using hR⟩
  case fin=>
   rintro⟨b1,b2⟩ s' ⟨hb',rfl,vs,ws,ns',ms',hz,hvi,hwi,hlen,hR⟩;simp only at hb';subst hb';have hv:lexLt ns' ms'=decide (items.size<items2.size):=by
    cases hvi with
    |nil=>
     cases hwi with
     |nil=>
      simp only[Ub]at hlen;rw[lexLt_nil_nil];exact(Qe (by omega)).symm
     |cons c u hw=>
      simp only[Ub,Zj]at hlen;rw[lexLt_nil_cons];exact(Zt (by omega)).symm
    |cons a t hv=>
     cases hwi with
     |nil=>
      simp only[Ub,Zj]at hlen;rw[lexLt_cons_nil];exact(Qe (by omega)).symm
     |cons c u hw=>
      rw[Up]at hz;cases hz
   rw[hv]at hR
   wp_walk
   exact⟨_,rfl,by simpa [Builtin.Tuple.tupleCompareSizes]using hR⟩
  case h=>
   exact⟨rfl,rfl,items.toList,items2.toList,ns,ms,rfl,hi,hj,by omega,h⟩
end
section
variable{prog:Program}{w:World}{A:Around}{E:OE}{s:Shared}
theorem lt_tupInts{l b:Addr}{items items2:Array Value}{ns ms:List Int}{Q:OE}(hl:IsTup s.heap l items)(hb:IsTup s.heap b items2)(hi:IntsAre items.toList ns)(hj:IntsAre items2.toList ms)
  (hu:A.units<cLine)(h:Q (.bool (lexLt ns ms)) s):wpAny (model prog w) A (compareOp .Lt (.ref l) (.ref b)) Q E s:=by
 obtain⟨⟨cls,dd,data,sl⟩,ho,hc,n,hd⟩:=id hl;obtain⟨⟨cls2,dd2,data2,sl2⟩,ho2,hc2,n2,hd2⟩:=id hb;simp only at hc hd hc2 hd2;subst hc hd hc2 hd2;exact richCompare_meets_room (op:=.Lt) ⟨_,ho,rfl⟩ ⟨_,ho2,rfl⟩ PySem.F.slot_tuple_lt PySem.F.entry_tuple_lt (PySem.F.args_tuple_lt_2 _ _) (tuple_lt_ints l b items items2 n n2 dd dd2 sl sl2 ns ms hi hj)
  ⟨ho,ho2,show Value.bool (lexLt ns ms)≠Value.notImplemented/\Q (.bool (lexLt ns ms)) s from⟨(fun x=>nomatch x),h⟩⟩ hu
def sIx(n d:Nat):Option Int->Nat
 |none=>d
 |some v=>if v<0 then(v+(n:Int)).toNat else min v.toNat n
end
end HT
namespace L2
open PySem PySem.Spec PyProof.Rows
abbrev TO:=St->Hp->(Option Int->Hp->Prop)->Prop
theorem a3Y{ns:List Int}:∀{us:List Value},q0_ (ns.map V.int) us->IntsAre us ns:=by
 induction ns with
 |nil=>intro us r;rw[List.map_nil]at r;cases r;exact .nil
 |cons n ns ih=>
  intro us r;rw[Zz]at r;cases r with
  |cons r1 r2=>
   obtain⟨t,e⟩:=r1;subst e;exact .cons n t (ih r2)
section
variable{X:Cx}{e:Expr}{te:TE}{lo hi:Option Expr}{tl th:TO}{pos p2:Pos}
theorem q0_.nil_iff{xs:List V}{us:List Value}(r:q0_ xs us):us=[]↔xs=[]:=by
 cases r with
 |nil=>simp
 |cons _ _=>simp
end
def ixN(n:Nat)(i:Int):Option Nat:=if 0≤i then(if i<n then some i.toNat else none)else if-(n:Int)≤i then some (i+n).toNat else none
def atI{α:Type}(xs:List α)(i:Int):Option α:=(ixN xs.length i).bind fun j=>xs[j]?
theorem a8B{n:Nat}{i:Int}{j:Nat}(h:ixN n i=some j):seqIndex? i n=some j/\j<n/\ -(n:Int)≤i/\i<n:=by
 unfold ixN at h
 by_cases h0:0≤i
 ·rw[Qc h0]at h
  by_cases h1:i<n
  ·rw[Qc h1]at h
   have e:i.toNat=j:=Za h
   exact⟨by rw[seqIndex_of h0 h1,e],by omega,by omega,h1⟩
  ·rw[Qp h1]at h;cases h
 ·rw[Qp h0]at h
  by_cases h1: -(n:Int)≤i
  ·rw[Qc h1]at h
   have e:(i+n).toNat=j:=Za h
   exact⟨by rw[seqIndex_neg (by omega) h1,e],by omega,h1,by omega⟩
  ·rw[Qp h1]at h;cases h
theorem a5m{α:Type}{xs:List α}{i:Int}{v:α}(h:atI xs i=some v):∃j,seqIndex? i xs.length=some j/\xs[j]? =some v/\j<xs.length/\ -(xs.length:Int)≤i/\i<xs.length:=by
 unfold atI at h;cases e:ixN xs.length i with
 |none=>rw[e]at h;cases h
 |some j=>
  rw[e]at h;obtain⟨h1,h2,h3,h4⟩:=a8B e;exact⟨j,h1,h,h2,h3,h4⟩
theorem a2p{α:Type}{xs:List α}{j:Nat}{v:α}(h:xs[j]? =some v):atI xs (j:Int)=some v:=by
 have hj:j<xs.length:=(Qm.mp h).1
 have e:ixN xs.length (j:Int)=some j:=by
  unfold ixN;rw[Qc (by omega),Qc (by omega)];simp
 unfold atI;rw[e];exact h
def a3Z(b:Expr):Prop:=∀o i,subscripted b false o i=operate [o,i] (getItem o i)
def IxR(X:Cx)(r:R2):Prop:=
 ∀(value slice:Expr) (pins:OX) (s:Shared) (σ:St) (H:Hp) (x y:V) (v u:Value) (Q:VK),Inv X pins σ H s->q7_ x v->q7_ y u->r x y H Q->
  subscripted slice false v u=operate [v,u] (getItem v u)->wpAny (model X.prog X.w) X.A (subscriptTail value slice v u) (EP X pins σ Q) X.xe s
def MtR(X:Cx)(id:String)(r:V->List V->Hp->VK->Prop):Prop:=
 ∀(pins:OX) (s:Shared) (σ:St) (H:Hp) (x:V) (xs:List V) (v:Value) (us:List Value) (Q:VK),Inv X pins σ H s->q7_ x v->q0_ xs us->r x xs H Q->
  wpAny (model X.prog X.w) X.A (call (.builtin id) (v::us)) (EP X pins σ Q) X.xe s
section
variable{X:Cx}{a b:Expr}{ta tb:TE}{pos:Pos}
theorem IxR.or{r r':R2}(h:IxR X r)(h':IxR X r'):IxR X (fun x y H Q=>r x y H Q∨r' x y H Q):=by
 intro value slice pins s σ H x y v u Q I rx ry q hs
 rcases q with q|q
 ·exact h value slice pins s σ H x y v u Q I rx ry q hs
 ·exact h' value slice pins s σ H x y v u Q I rx ry q hs
theorem a8C{r:R2}(hr:IxR X r)(ha:PE X a ta)(hb:PE X b tb)(hs:a3Z b):PE X (.Subscript a b pos) (tOp r ta tb):=by
 intro pins s σ H Q I h;exact Subscript_ (a5g ha hb I h fun v u s2 x y H2 I2 rx ry q=>hr a b pins s2 σ H2 x y v u Q I2 rx ry q (hs _ _))
def a8D(K:Qz):R2:=fun x y H Q=>∃p xs i v,x=.ref p/\y=.int i/\SqL K H p xs/\atI xs i=some v/\Q v H
def a8E(K:Qz):R2:=fun x y H Q=>∃p xs i v,x=.ref p/\y=.int i/\SqT K H p xs/\atI xs i=some v/\Q v H
def a8F:R2:=fun x y H Q=>∃z i c,x=.str z/\y=.int i/\z.length≤sizeLine/\atI z.cps.toList i=some c/\Q (.str ⟨#[c]⟩) H
theorem a8G:IxR X (a8D X.K):=by
 intro value slice pins s σ H x y v u Q I rx ry h hs;obtain⟨p,xs,i,z,rfl,rfl,hq,he,q⟩:=h;cases rx;obtain⟨t,rfl⟩:=ry;obtain⟨its,r,pl,hz⟩:=I.list hq;obtain⟨j,h1,h2,h3,h4,h5⟩:=a5m he;obtain⟨w,ew,rw'⟩:=r.get h2;have hl:=r.length;have hn:=a3b;have fin:EP X pins σ Q w s:=⟨z,H,I,rw',q⟩
 by_cases h0:0≤i
 ·have hj:i.toNat=j:=by
   rw[seqIndex_of h0 h5]at h1;exact Za h1
  exact item_listR pl.isList h0 (by omega) (by rw[hj];simpa using ew) fin hs
 ·have hj:(i+(its.toArray.size:Int)).toNat=j:=by
   rw[seqIndex_neg (by omega) h4]at h1
   rw[Qr,←hl];exact Za h1
  exact subscriptTail_builtinR (x:=w) pl.isList.typeIs slot_list_getitem.lookup
   (wpAny_getItem_list_neg (Q:=fun r s'=>r=w/\EP X pins σ Q r s') pl.isList (by omega) (by rw[Qr]<;>omega) (by omega) (by rw[hj];simpa using ew) ⟨rfl,fin⟩) hs
theorem b4j:IxR X (a8E X.K):=by
 intro value slice pins s σ H x y v u Q I rx ry h hs;obtain⟨p,xs,i,z,rfl,rfl,hq,he,q⟩:=h;cases rx;obtain⟨t,rfl⟩:=ry;obtain⟨its,r,pl,hz⟩:=I.tuple hq;obtain⟨j,h1,h2,h3,h4,h5⟩:=a5m he;obtain⟨w,ew,rw'⟩:=r.get h2;have hl:=r.length;have hn:=a3b;have fin:EP X pins σ Q w s:=⟨z,H,I,rw',q⟩;exact subscriptTail_builtinR (x:=w) pl.typeIs slot_tuple_getitem.lookup
  (getItem_tuple (j:=j) (Q:=fun r s'=>r=w/\EP X pins σ Q r s') pl (by omega) (by omega) (by rw[Qr,←hl];exact h1) (by simpa using ew) ⟨rfl,fin⟩) hs
theorem b4k:IxR X a8F:=by
 intro value slice pins s σ H x y v u Q I rx ry h hs;obtain⟨z,i,c,rfl,rfl,hz,he,q⟩:=h;obtain⟨t,rfl⟩:=rx;obtain⟨t',rfl⟩:=ry;obtain⟨j,h1,h2,h3,h4,h5⟩:=a5m he;have hl:z.cps.toList.length=z.length:=by simp[Str.length]
 rw[hl]at h1 h4 h5;have hn:=a3b;exact tail_any (typeIs_str s z t) slot_str_getitem.lookup (getItem_str (c:=c) (by
  have e1:decide (i< -(2^63:Int))=false:=Qe (by omega)
  have e2:decide (i ≥ 2^63)=false:=Qe (by omega)
  rw[e1,e2,Bool.or_false]) (by rw[h1];simpa using h2) ⟨.str ⟨#[c]⟩,H,I.tok _,⟨_,rfl⟩,q⟩) hs
def rIx(K:Qz):R2:=fun x y H Q=>a8D K x y H Q∨a8E K x y H Q∨a8F x y H Q
theorem b4l:IxR X (rIx X.K):=a8G.or (b4j.or b4k)
theorem b4m(its:List Value)(n j:Nat)(u:Value):Obj.mapSeq (·.setIfInBounds j u) {cls:=.type "list",data:=.seq its.toArray n}={cls:=.type "list",data:=.seq (its.set j u).toArray n}:=by
 simp[Obj.mapSeq]
theorem Inv.lst{pins:OX}{σ:St}{H:Hp}{s:Shared}{p:Addr}{xs:List V}(I:Inv X pins σ H s)(h:H p=some (.lst xs)):
  ∃(its:List Value) (n:Nat),q0_ xs its/\s.heap.get? p=some {cls:=.type "list",data:=.seq its.toArray n}/\xs.length≤sizeLine:=by
 obtain⟨z,its,n,r,e⟩:=I.hok p _ h;exact⟨its,n,r,e,z⟩
theorem Inv.lstUpd{pins:OX}{σ:St}{H:Hp}{s:Shared}{p:Addr}{xs ys:List V}{its its':List Value}{n n':Nat}{f:Obj->Obj}(I:Inv X pins σ H s)(h:H p=some (.lst xs))
  (ho:s.heap.get? p=some {cls:=.type "list",data:=.seq its.toArray n})(hf:f {cls:=.type "list",data:=.seq its.toArray n}={cls:=.type "list",data:=.seq its'.toArray n'})(r:q0_ ys its')(hz:ys.length≤sizeLine)(t:Nat):
  Inv X pins σ (upd H p (.lst ys)) {s with heap:=s.heap.update p f,toks:=t}:=by
 have e:(s.heap.update p f).get? p=some {cls:=.type "list",data:=.seq its'.toArray n'}:=by
  rw[Jr f ho (by rw[hf]<;>rfl),hf]
 refine I.write (x:=p) (e:=p) (by rw[h];trivial) (.inl rfl) (fun b u hb q=>(Vp _ _ (Zl hb)).trans q) ⟨_,e⟩ ?_
 exact⟨hz,its',n',r,e⟩
def b4n:V->V->V->Hp->(Hp->Prop)->Prop:=fun o i v H Q=>∃p xs k j,o=.ref p/\i=.int k/\H p=some (.lst xs)/\ixN xs.length k=some j/\Q (upd H p (.lst (xs.set j v)))
theorem b4o:a8j X b4n:=by
 intro pins s σ H o i v ov iv u Q I ro ri rv h;obtain⟨p,xs,k,j,rfl,rfl,hp,hj,q⟩:=h;cases ro;obtain⟨t,rfl⟩:=ri;obtain⟨its,n,r,ho,hz⟩:=I.lst hp;obtain⟨h1,h2,h3,h4⟩:=a8B hj;have hl:=r.length;have hn:=a3b;have I':Inv X pins σ (upd H p (.lst (xs.set j v))) {s with heap:=s.heap.update p (Obj.mapSeq (·.setIfInBounds j u))}:=
  I.lstUpd hp ho (b4m its n j u) (r.set rv j) (by rw[Zo];exact hz) s.toks
 by_cases h0:0≤k
 ·have hk:k.toNat=j:=by
   rw[seqIndex_of h0 h4]at h1;exact Za h1
  exact PySem.W.ki_setAt ho h0 (by omega) (by rw[Qr,←hl];exact h4) (by rw[hk];exact⟨_,I',q⟩)
 ·have hk:(k+(its.toArray.size:Int)).toNat=j:=by
   rw[seqIndex_neg (by omega) h3]at h1
   rw[Qr,←hl];exact Za h1
  exact PySem.W.ki_setBack ho (by omega) (by rw[Qr,←hl];exact h3) (by omega) (by rw[hk];exact⟨_,I',q⟩)
def a0y:V->Bool
 |.non=>true
 |.bl _=>true
 |.int _=>true
 |.str _=>true
 |_=>false
def eqV:V->V->Bool
 |.non,.non=>true
 |.bl a,.bl b=>a==b
 |.bl a,.int b=>(if a then 1 else 0)==b
 |.int a,.bl b=>a==(if b then 1 else 0)
 |.int a,.int b=>a==b
 |.str a,.str b=>a==b
 |_,_=>false
theorem b4p{A:Around}{s:Shared}{y x:V}{u v:Value}(ry:q7_ y u)(rx:q7_ x v)(fy:a0y y=true)(fx:a0y x=true):SeqAt.EqAt A s u v (eqV y x):=by
 cases y with
 |non=>
  cases ry;cases x with
  |non=>cases rx;exact SeqAt.EqAt.same _
  |bl b=>cases rx;exact SeqAt.EqAt.none_bool b
  |int b=>obtain⟨t,rfl⟩:=rx;exact SeqAt.EqAt.none_int b t
  |str b=>obtain⟨t,rfl⟩:=rx;exact SeqAt.EqAt.none_str b t
  |_=>exact absurd (show false=true from fx) Zy
 |bl a=>
  cases ry;cases x with
  |non=>cases rx;exact SeqAt.EqAt.bool_none a
  |bl b=>cases rx;exact SeqAt.EqAt.bool_bool a b
  |int b=>obtain⟨t,rfl⟩:=rx;exact SeqAt.EqAt.bool_int a b t
  |str b=>obtain⟨t,rfl⟩:=rx;exact SeqAt.EqAt.bool_str a b t
  |_=>exact absurd (show false=true from fx) Zy
 |int a=>
  obtain⟨t',rfl⟩:=ry;cases x with
  |non=>cases rx;exact SeqAt.EqAt.int_none a t'
  |bl b=>cases rx;exact SeqAt.EqAt.int_bool a t' b
  |int b=>obtain⟨t,rfl⟩:=rx;exact Xf a t' b t
  |str b=>obtain⟨t,rfl⟩:=rx;exact SeqAt.EqAt.int_str a t' b t
  |_=>exact absurd (show false=true from fx) Zy
 |str a=>
  obtain⟨t',rfl⟩:=ry;cases x with
  |non=>cases rx;exact SeqAt.EqAt.str_none a t'
  |bl b=>cases rx;exact SeqAt.EqAt.str_bool a t' b
  |int b=>obtain⟨t,rfl⟩:=rx;exact SeqAt.EqAt.str_int a t' b t
  |str b=>obtain⟨t,rfl⟩:=rx;exact SeqAt.EqAt.str_str a t' b t
  |_=>exact absurd (show false=true from fx) Zy
 |_=>exact absurd (show false=true from fy) Zy
def eqU(x:V)(u:Value):Bool:=match u with
 |.none=>eqV .non x
 |.bool b=>eqV (.bl b) x
 |.int i _=>eqV (.int i) x
 |.str z _=>eqV (.str z) x
 |_=>false
theorem a8H{x y:V}{u:Value}(r:q7_ y u)(f:a0y y=true):eqU x u=eqV y x:=by
 cases y with
 |non=>cases r;rfl
 |bl b=>cases r;rfl
 |int i=>obtain⟨t,rfl⟩:=r;rfl
 |str z=>obtain⟨t,rfl⟩:=r;rfl
 |_=>exact absurd (show false=true from f) Zy
theorem a5n{x:V}:∀{xs:List V}{us:List Value},q0_ xs us->xs.all a0y=true->us.any (eqU x)=xs.any fun y=>eqV y x
 |_,_,.nil,_=>rfl
 |y::xs,u::us,.cons r t,f=>by
  rw[Xl,Qd]at f;rw[List.any_cons,List.any_cons,a8H r f.1,a5n t f.2]
theorem a4a{A:Around}{s:Shared}{x:V}{v:Value}(rx:q7_ x v)(fx:a0y x=true):∀{xs:List V}{us:List Value},q0_ xs us->xs.all a0y=true->∀u∈us,SeqAt.EqAt A s u v (eqU x u)
 |_,_,.nil,_=>fun u hu=>by cases hu
 |y::xs,u::us,.cons r t,f=>fun u' hu=>by
  rw[Xl,Qd]at f
  rcases Qg.mp hu with rfl|hu
  ·rw[a8H r f.1];exact b4p r rx f.1 fx
  ·exact a4a rx fx t f.2 u' hu
def inV(x:V)(xs:List V):Bool:=xs.any fun y=>eqV y x
def rIn(K:Qz)(neg:Bool):R2:=fun x y H Q=>∃p xs,y=.ref p/\(SqL K H p xs∨SqT K H p xs)/\a0y x=true/\xs.all a0y=true/\Q (.bl (if neg then !inV x xs else inV x xs)) H
theorem b4q:OpR X (compareOp .NotIn) (rIn X.K true):=by
 intro pins s σ H x y v u Q I rx ry h;obtain⟨p,xs,rfl,hq,fx,fs,q⟩:=h;cases ry
 rcases hq with hq|hq
 ·obtain⟨its,r,pl,hz⟩:=I.list hq
  refine SeqAt.notIn_listAt (eqU x) pl.isList (fun w hw=>a4a rx fx r fs w (by simpa using hw)) ⟨.bl _,H,I,rfl,?_⟩
  rw[show its.toArray.any (eqU x)=its.any (eqU x) by simp,a5n r fs]
  exact q
 ·obtain⟨its,r,pl,hz⟩:=I.tuple hq
  refine SeqAt.notIn_tupleAt (eqU x) pl (fun w hw=>a4a rx fx r fs w (by simpa using hw)) ⟨.bl _,H,I,rfl,?_⟩
  rw[show its.toArray.any (eqU x)=its.any (eqU x) by simp,a5n r fs]
  exact q
theorem a0j:k5_ X (.builtin "len") (fun xs H Q=>∃p ys,xs=[.ref p]/\(SqL X.K H p ys∨SqT X.K H p ys)/\Q (.int ys.length) H):=by
 intro pins s σ H xs us Q I r h;obtain⟨p,ys,rfl,hq,q⟩:=h;obtain⟨u,rfl,rx⟩:=a1h r;cases rx;have hn:=a3b
 rcases hq with hq|hq
 ·obtain⟨its,r',pl,hz⟩:=I.list hq
  have hlen:=r'.length
  exact Calls.call_len_list pl.isList (by simp only[Qr]<;>omega) ⟨.int ys.length,H,I.tok _,⟨s.toks+1,by rw[Qr,hlen]⟩,q⟩
 ·obtain⟨its,r',pl,hz⟩:=I.tuple hq
  have hlen:=r'.length
  exact len_tuple pl (by simp only[Qr]<;>omega) ⟨.int ys.length,H,I.tok _,⟨s.toks+1,by rw[Qr,hlen]⟩,q⟩
theorem k5_.or{f:Value}{r r':List V->Hp->VK->Prop}(h:k5_ X f r)(h':k5_ X f r'):k5_ X f (fun xs H Q=>r xs H Q∨r' xs H Q):=by
 intro pins s σ H xs us Q I rs q
 rcases q with q|q
 ·exact h pins s σ H xs us Q I rs q
 ·exact h' pins s σ H xs us Q I rs q
theorem a4b:k5_ X (.type "tuple") (fun xs H Q=>∃p ys,xs=[.ref p]/\((SqL X.K H p ys/\∀l,H l=none->Q (.ref l) (upd H l (.tup ys)))∨(SqT X.K H p ys/\Q (.ref p) H))):=by
 intro pins s σ H xs us Q I r h;obtain⟨p,ys,rfl,h⟩:=h;obtain⟨u,rfl,rx⟩:=a1h r;cases rx
 rcases h with⟨hq,q⟩|⟨hq,q⟩
 ·obtain⟨its,r',pl,hz⟩:=I.list hq
  have hlen:=r'.length
  refine call_tuple_list pl.isList (fun h' kp=>?_) (by simp only[Qr]<;>omega)
  have I1:Inv X pins σ H {s with heap:=h'}:=I.kept (t':=s.toks) kp
  have I2:Inv X pins σ (upd H h'.objs.size (.tup ys)) {s with heap:=h'.push {cls:=.type "tuple",data:=.seq its.toArray}}:=
   I1.laid (t':=s.toks) (fun b o e=>Qx _ e) (Qu _) (show k2_ X.prog X.w _ _ _ (.tup ys)from⟨hz,its,r',a0a.new _ _⟩)
  exact⟨.ref h'.objs.size,_,I2,rfl,q _ (I1.hok.fresh (Qu _))⟩
 ·obtain⟨its,r',pl,hz⟩:=I.tuple hq
  exact call_tuple_same pl ⟨.ref p,H,I,rfl,q⟩
def tyV(K:Qz)(T:String)(x:V)(H:Hp):Prop:=match x with
 |.str _=>T="str"
 |.int _=>T="int"
 |.ref p=>(T="list"/\ ∃xs,SqL K H p xs)∨(T="tuple"/\ ∃o,K.lookup p=some o/\o.cls=.type "tuple"/\o.dict=none)∨
   (T="dict"/\((∃kvs,H p=some (.dK kvs))∨ ∃C kvs,H p=some (.dT C kvs)))∨(T="set"/\ ∃S n,H p=some (.set S n))
 |_=>False
theorem b4r{pins:OX}{σ:St}{H:Hp}{s:Shared}{T:String}{x:V}{v:Value}(I:Inv X pins σ H s)(r:q7_ x v)(ty:tyV X.K T x H):
  s.TypeIs v T/\∀a,v=.ref a->∃ob,s.heap.get? a=some ob/\ob.dict=none:=by
 cases x with
 |str z=>
  obtain⟨t,rfl⟩:=r;cases (show T="str" from ty)
  exact⟨typeIs_str s z t,fun _ e=>nomatch e⟩
 |int i=>
  obtain⟨t,rfl⟩:=r;cases (show T="int" from ty)
  exact⟨Tj s i t,fun _ e=>nomatch e⟩
 |ref p=>
  cases r
  rcases ty with⟨rfl,xs,hq⟩|⟨rfl,o,hk,hc,hd⟩|⟨rfl,hk⟩|⟨rfl,S,n,hk⟩
  ·obtain⟨its,_,pl,_⟩:=I.list hq
   refine⟨pl.isList.typeIs,fun a e=>?_⟩
   cases e;obtain⟨o,n,e,c,hd,_⟩:=pl;exact⟨o,e,hd⟩
  ·refine⟨⟨o,I.kIn p o hk,hc⟩,fun a e=>?_⟩
   cases e;exact⟨o,I.kIn _ o hk,hd⟩
  ·have z:∃o,s.heap.get? p=some o/\o.ExactDict:=by
    rcases hk with⟨kvs,hk⟩|⟨C,kvs,hk⟩
    ·obtain⟨_,_,_,_,o,_,_,e,ex,_⟩:=I.hok p _ hk
     exact⟨o,e,ex⟩
    ·obtain⟨_,_,_,_,o,_,_,e,ex,_⟩:=I.hok p _ hk
     exact⟨o,e,ex⟩
   obtain⟨o,e,ex⟩:=z;refine⟨⟨o,e,ex.1⟩,fun a e2=>?_⟩
   cases e2;exact⟨o,e,ex.2.1⟩
  ·obtain⟨o,_,_,_,e,ex,_⟩:=I.hok p _ hk
   refine⟨⟨o,e,ex.1⟩,fun a e2=>?_⟩
   cases e2;exact⟨o,e,ex.2.1⟩
 |_=>exact False.elim ty
def tBM(K:Qz)(T:String)(r:V->List V->Hp->VK->Prop)(to:TE)(t:TA):TE:=fun σ H Q=>to σ H fun x H1=>tyV K T x H1/\t σ H1 fun xs H2=>r x xs H2 Q
variable{o e:Expr}{es:List Expr}{to:TE}{t:TA}{name:Str}{apos cpos:Pos}{T id:String}{r:V->List V->Hp->VK->Prop}
theorem b4s(pa:PlainAttrs T)(slot:Slot T name id)(hty:typeOf (.builtin id)=pure (.type "method_descriptor"))(hm:MtR X id r)(ho:PE X o to)(ha:PA X (e::es) t)
  (hbase:attributeBase o name X.env (eval o X.env)=eval o X.env:=by rfl)
  (hfew:((backTo cpos (starEach (e::es) X.env)).all (fun x=>!x.1)&&(backToKw cpos (keywordEach [] X.env)).all (fun x=>x.1.isSome)
   &&decide ((e::es).length+([]:List Keyword).length+(if([]:List Keyword).isEmpty then 0 else 1)<30))=true:=by rfl)
  (hline:(apos.endLine==cpos.line)=true:=by rfl)(hs:starEach (e::es) X.env=(false,eval e X.env)::starEach es X.env:=by rfl)(hplain:(backTo cpos (starEach es X.env)).any (·.1)=false:=by rfl):
  PE X (.Call (.Attribute o name apos) (e::es) [] cpos) (tBM X.K T r to t):=by
 intro pins s σ H Q I h;refine wpAny_Call_method_late hbase hfew hline rfl (thn (ho pins s σ H _ I h) fun v s1 ⟨x,H1,I1,r1,ty,q1⟩=>?_)
 obtain⟨h1,h2⟩:=b4r I1 r1 ty;refine⟨T,id,pa,slot,hty,h1,h2,?_⟩;have hA:=ha cpos pins s1 σ H1 _ I1 q1;rw[hs]at hA ⊢;refine Calls.callWith_builtin (by show(false||(backTo cpos (starEach es X.env)).any (·.1))=false;rw[hplain]<;>rfl) (Calls.evalArgs_plain ?_)
 exact thn hA fun us s2 ⟨vs,H2,I2,r2,q2⟩=>hm pins s2 σ H2 x vs v us Q I2 r1 r2 q2
end
def MtM(X:Cx)(id:String)(r:V->List V->Hp->VK->Prop):Prop:=
 ∀(pins:OX) (s:Shared) (σ:St) (H:Hp) (x:V) (xs:List V) (v:Value) (us:List Value) (Q:VK),Inv X pins σ H s->q7_ x v->q0_ xs us->r x xs H Q->
  wpAny (model X.prog X.w) X.A (call (.builtin id) (v::us)) (EP X pins σ Q) X.xe s
theorem q0_.one:∀{x:V}{us:List Value},q0_ [x] us->∃u,us=[u]/\q7_ x u
 |_,_,.cons r .nil=>⟨_,rfl,r⟩
theorem q0_.reverse{xs:List V}{us:List Value}(h:q0_ xs us):q0_ xs.reverse us.reverse:=by
 induction h with
 |nil=>exact .nil
 |cons r t ih=>rw[Xe,Xe];exact q0_.append ih (.cons r .nil)
theorem q0_.rep{xs:List V}{us:List Value}(h:q0_ xs us):∀k:Nat,q0_ (List.replicate k xs).flatten (List.replicate k us).flatten
 |0=>.nil
 |k+1=>by
  rw[Zm,Zm,Jk,Jk];exact q0_.append h (q0_.rep h k)
theorem a5o(its:List Value):∀(k:Nat) (acc:List Value),
  List.foldl (fun x1 x2=>x1++x2) acc.toArray (List.replicate k its.toArray)=(acc++(List.replicate k its).flatten).toArray
 |0,acc=>by simp
 |k+1,acc=>by
  have e:acc.toArray++its.toArray=(acc++its).toArray:=by simp
  have e2:(acc++its)++(List.replicate k its).flatten=acc++(List.replicate (k+1) its).flatten:=by
   rw[Zm,Jk,Xo]
  rw[←e2,←a5o its k (acc++its),←e,Zm,List.foldl_cons]
section
variable{X:Cx}{pins:OX}{σ:St}{H:Hp}{s:Shared}{l b:Addr}{xs ys zs:List V}
theorem Inv.lset{its its':List Value}{n:Nat}{f:Array Value->Array Value}{t':Nat}(I:Inv X pins σ H s)(hH:H l=some (.lst xs))
  (e:s.heap.get? l=some {cls:=.type "list",data:=.seq its.toArray n})(hf:f its.toArray=its'.toArray)(hv:q0_ ys its')(hz:ys.length≤sizeLine):
  Inv X pins σ (upd H l (.lst ys)) {s with heap:=s.heap.update l (Obj.mapSeq f),toks:=t'}:=by
 have q:=PySem.IsL.update e f
 rw[hf]at q;refine I.write (x:=l) (e:=l) (by rw[hH];exact trivial) (.inl rfl) (fun b' u hb hu=>(Vp s.heap (Obj.mapSeq f) (Zl hb)).trans hu) ⟨_,q⟩ ?_
 exact⟨hz,its',_,hv,q⟩
theorem Inv.lnew{its:List Value}{t':Nat}(I:Inv X pins σ H s)(hv:q0_ ys its)(hz:ys.length≤sizeLine):
  Inv X pins σ (upd H s.heap.objs.size (.lst ys)) {s with heap:=s.heap.push {cls:=.type "list",data:=.seq its.toArray},toks:=t'}:=
 I.laid (fun _ _ q=>Qx _ q) (Qu _) ⟨hz,its,0,hv,Ql _ rfl⟩
theorem Inv.fresh(I:Inv X pins σ H s):H s.heap.objs.size=none:=I.hok.fresh (Qu _)
theorem Inv.lstM(I:Inv X pins σ H s)(hH:H l=some (.lst xs)):xs.length≤sizeLine/\∃(its:List Value) (n:Nat),q0_ xs its/\xs.length=its.length/\s.heap.get? l=some {cls:=.type "list",data:=.seq its.toArray n}:=by
 obtain⟨z,its,n,r,e⟩:=I.hok l _ hH;exact⟨z,its,n,r,r.length,e⟩
theorem b4t{n:Nat}(h:n≤sizeLine):Builtin.List.listTooLong n=false:=by
 unfold Builtin.List.listTooLong;exact Qe (by omega)
end
section
variable{X:Cx}
def b4u:V->List V->Hp->VK->Prop:=fun x vs H Q=>∃l xs y,x=.ref l/\vs=[y]/\H l=some (.lst xs)/\xs.length<sizeLine/\Q .non (upd H l (.lst (xs++[y])))
theorem a8I:MtM X "list.append" b4u:=by
 intro pins s σ H x vs v us Q I rx rv h;obtain⟨l,xs,y,rfl,rfl,hH,hz,q⟩:=h;cases rx;obtain⟨u,rfl,ru⟩:=rv.one;obtain⟨z,its,n,r,hl,e⟩:=I.lstM hH;refine Vx F.slot_list_append ⟨_,e,rfl⟩ F.entry_list_append (F.args_list_append_2 _ _) (PySem.list_append l its.toArray n u (by rw[Qr];omega)) ⟨e,?_⟩
 refine⟨.non,_,I.lset (its':=its++[u]) hH e (by simp) (r.append (.cons ru .nil)) ?_,rfl,q⟩
 rw[Zr,List.length_singleton]
 omega
def b4v:R2:=fun x y H Q=>∃l k xs,x=.ref l/\y=.int k/\H l=some (.lst xs)/\ -(2^63)≤k/\k<2^63/\xs.length * k.toNat≤sizeLine/\
 ∀p,H p=none->Q (.ref p) (upd H p (.lst (List.replicate k.toNat xs).flatten))
theorem a5p{α:Type}(xs:List α)(k:Nat):(List.replicate k xs).flatten.length=k * xs.length:=by
 induction k with
 |zero=>simp
 |succ k ih=>rw[Zm,Jk,Zr,ih,Nat.succ_mul,Nat.add_comm]
theorem b4w:OpR X (binaryOp .Mult) b4v:=by
 intro pins s σ H x y v u Q I rx ry h;obtain⟨l,k,xs,rfl,rfl,hH,h1,h2,hz,q⟩:=h;cases rx;obtain⟨t,rfl⟩:=ry;obtain⟨z,its,n,r,hl,e⟩:=I.lstM hH;have hlen:its.toArray.size * k.toNat≤sizeLine:=by rw[Qr,←hl];exact hz
 have hcap:¬ its.toArray.size * k.toNat>(2^63-1)/8:=by
  have:(sizeLine:Nat)≤(2^63-1)/8:=by decide
  omega
 have hfit:¬ (!Builtin.List.listFitsIndex k)=true:=by
  rw[fitsIndex_both h1 h2];exact Zy
 have hlong:¬ Builtin.List.listTooLong (its.toArray.size * k.toNat)=true:=by
  rw[b4t hlen];exact Zy
 have hnew:List.foldl (fun x1 x2=>x1++x2) #[] (List.replicate (if its.toArray.isEmpty=true then 0 else k.toNat) its.toArray)=(List.replicate k.toNat its).flatten.toArray:=by
  have f0:∀m:Nat,List.foldl (fun x1 x2=>x1++x2) #[] (List.replicate m its.toArray)=(List.replicate m its).flatten.toArray:=fun m=>by
   have:=a5o its m [];rw[Xj]at this;exact this
  rw[f0];cases its with
  |nil=>simp
  |cons a r'=>rw[Qp (by simp)]
 refine wpAny_binaryOp_repeat_ref (T:="list") (U:="int") (by decide) ⟨_,e,rfl⟩ (fun s'=>Tj s' k t) noFill_list_mul F.fills_int_mul Xx repeat_list F.slot_int_index.lookup
  (Vx Xx (Tj s k t) F.entry_int_rmul (F.args_int_rmul_2 _ _) (int___rmul___int_list k t l its.toArray n)
   ⟨e,rfl,⟨_,e,rfl⟩,Vx F.slot_list_mul ⟨_,e,rfl⟩ F.entry_list_mul (F.args_list_mul_2 _ _) (AutoListH.list___mul___list_int_3 l its.toArray n k t hfit hcap hlong) ⟨e,?_⟩⟩)
 rw[hnew];exact⟨.ref _,_,I.lnew (t':=s.toks) (r.rep k.toNat) (by rw[a5p,Nat.mul_comm];exact hz),rfl,q _ I.fresh⟩
end
section
variable{prog:Program}{w:World}{A:Around}{E:OE}{s:Shared}
set_option maxRecDepth 100000 in
end
section
variable{X:Cx}
end
end L2
namespace Att
open PySem PySem.W PySem.Calls PyProof.Rows
theorem ints_of_wellAll{P:Params}{h:Heap}:∀(ns:List Int) (vs:List Value),WellAll P h vs (ns.map WData.int)->IntsAre vs ns:=by
 intro ns
 induction ns with
 |nil=>
  intro vs w;rw[List.map_nil]at w;cases w;exact .nil
 |cons n ns ih=>
  intro vs w;rw[Zz]at w;cases w with
  |cons a b=>
   cases a;exact .cons _ _ (ih _ b)
theorem script_of{l:OpenLaw}{n:Nat}(hn:l.most=some n){P:Params}{h:Heap}{args:List WData}{vals:List Value}
  (hpre:l.row.toRowW.claim.pre args=true)(hwl:WellAll P h vals args):
  ∃a vs ns,vals=[Value.ref a]/\args=[WData.list (ns.map WData.int)]/\h.get? a=some {cls:=.type "list",data:=.seq vs.toArray}/\IntsAre vs ns/\ns.length≤n:=by
 have hsh:WShape.hasAll [] args [.list .int]=true:=(pre_splitW hpre).1
 have hc:l.pre.holds [] {args:=args}=true:=(pre_splitW hpre).2
 obtain⟨d,r,rfl,h1,h2⟩:=hasAllW_cons hsh;obtain rfl:=hasAllW_nil h2;obtain⟨xs,rfl,h3⟩:=hasW_list h1;obtain⟨ns,rfl⟩:=items_int h3;have hlen:ns.length≤n:=by
  unfold OpenLaw.pre at hc;have h4:(WTm.not (.lt (.lit (.int (n:Int))) (.len (.arg 0)))).holds [] {args:=[.list (ns.map .int)]}=true:=by
   have h4:=(holds_andW hc).1
   rw[hn]at h4;exact h4
  have h5:=condW_of h4 (w_not (w_lt w_lit (w_len_list (w_arg rfl))))
  rw[Qk]at h5;refine Nat.le_of_not_lt fun q=>?_
  have q':(n:Int)<((ns.length:Nat):Int):=by omega
  first
   |(rw[Zt q']at h5;exact absurd h5 (by decide))
   |(simp at h5;omega)
 cases hwl with
 |cons w1 w2=>
  cases w2;cases w1 with
  |list ho hall=>exact⟨_,_,ns,rfl,rfl,ho,ints_of_wellAll ns _ hall,hlen⟩
theorem post_true(l:OpenLaw)(args:List WData):l.row.toRowW.claim.post args (.bool true) args=true:=
 postW_of (r:=l.row.toRowW) (X:=(true==true))
  (show WShape.has [] (.bool true) .bool=true by first|rfl|decide|simp[WShape.has,WShape.arms,WShape.armsAll])
  (show(WTm.eq .res (.lit (.bool true))).value [] {args:=args,res:=some (.bool true),after:=args}=some (.bool (true==true))from w_eq_bool (w_res rfl) w_lit) rfl
theorem attach_call{l:OpenLaw}{n:Nat}{q:Program}{loose:List Str}{XP:(OU)->Heap->Prop}{YP:World->Heap->Prop}{d:DefRec}
  (hn:l.most=some n)(hdf:d.params.defaults=[])
  (call:∀(w:World) (s₀ s₁:Shared) (mg mb:OU) (fa:Addr) (o:Obj) (pm cd doc:Value) (a:Addr) (vs:List Value) (ns:List Int),
   Ground q loose [] XP w s₀ mg mb s₁.heap->YP w s₁.heap->
   s₁.heap.get? fa=some o->o.data=.func (docDef d.name d.params d.body d.scope pm cd doc)->s₁.heap.CodeRec cd d.name->mg d.name=some (.ref fa)->
   s₁.heap.get? a=some {cls:=.type "list",data:=.seq vs.toArray}->IntsAre vs ns->ns.length≤n->s₁.gens= #[]->
   codeAny (model l.prog w) callerA (.call (.ref fa) ⟨[.ref a],[]⟩) (fun r s'=>r=.ok (.ret (.bool true))/\OldK s₁.heap s'.heap/\s'.os=s₁.os/\AllBare s'.gens) s₁):
  WalkO q loose XP YP l.row.toRowW d [] (fun f vs=>PySem.call f vs):=by
 intro w s₀ s₁ mg mb G Y fa o pm cd doc dV kV ho hd hcd hD hmg hg args vals as hpre hlay hrd hwl hlo;obtain rfl:dV=.none:=Dflts.none hD hdf;obtain rfl:kV=.none:=Dflts.noKw hD;obtain⟨a,vs,ns,rfl,rfl,hobj,hints,hlen⟩:=script_of hn hpre hwl;refine enter_call (Xz (call w s₀ s₁ mg mb fa o pm cd doc a vs ns G Y ho (fd_plain hd) hcd hmg hobj hints hlen hg) fun r s' hq=>?_)
 obtain⟨rfl,h2,h3,h4⟩:=hq;exact⟨.inl ⟨.bool true,.bool true,[],rfl,fun _=>rfl,.bool true,post_true l _,fun _=>⟨List.Pairwise.nil,fun _ hm=>(nomatch hm)⟩⟩,h2,h3,h4⟩
section
variable{prog:Program}{w:World}{A:Around}{E:OE}{s:Shared}{K:Frag}
end
end Att
namespace L2
open PySem PySem.Spec PyProof.Rows
theorem a8J:∀{vs:List Value}{ns:List Int},IntsAre vs ns->q0_ (ns.map V.int) vs
 |_,_,.nil=>.nil
 |_,_,.cons n t h=>.cons ⟨t,rfl⟩ (a8J h)
def a5q(H:Hp):Prop:=∀b,H b=none∨ ∃o xs,H b=some (.frz o (.lst xs))
theorem b4x{P:Program}{w:World}{K:Qz}{mg mb:OU}{CX:CXT}{k:Nat}{fa a:Addr}{fd:FuncData}{x:Str}{sp:Sp}{s₁:Shared}{vs:List Value}{ns:List Int}
  (KX:K.In s₁.heap)(hns:s₁.heap.Ns mainGlobals mg)(hb:s₁.heap.Ns builtinsNs mb)(hbb:∀x:Str,x≠"__name__"->mb x=bootBuiltins x)(hlim:s₁.heap.NoLimit)(hg:s₁.gens= #[])
  (ha:s₁.heap.get? a=some {cls:=.type "list",data:=.seq vs.toArray})(hi:IntsAre vs ns)(hl:ns.length≤sizeLine)(hr:Room k callerA)
  (F:∀base:Heap,K.In base->base.Ns mainGlobals mg->FnOk P w K mg base CX k fa fd [x] sp)(hbind:∀(s:Shared) (u:Value),BindsTo s fd ⟨[u],[]⟩ [(x,u)])
  (hsp:∀H:Hp,a5q H->SqL K H a (ns.map V.int)->sp [.ref a] H (fun v _=>v=.bl true) fun _ _ _=>False)
  (hCX:∀H e s',CX [] H s₁ (fun _ _ _=>False) e s'->False):
  codeAny (model P w) callerA (.call (.ref fa) ⟨[.ref a],[]⟩) (fun r s'=>r=.ok (.ret (.bool true))/\OldK s₁.heap s'.heap/\s'.os=s₁.os/\AllBare s'.gens) s₁:=by
 have rv:=a8J hi
 have lenV:=hi.length
 have core:∀H:Hp,a5q H->SqL K H a (ns.map V.int)->HOk P w H s₁.heap->(∀b,H b≠none->b=a)->(H a≠none->K.lookup a=none)->
   codeAny (model P w) callerA (.call (.ref fa) ⟨[.ref a],[]⟩) (fun r s'=>r=.ok (.ret (.bool true))/\OldK s₁.heap s'.heap/\s'.os=s₁.os/\AllBare s'.gens) s₁:=by
  intro H hO hS hok hA hK;have base_of:∀{b:Addr}{o:Obj},s₁.heap.get? b=some o->H b=none->(a0L s₁.heap H).get? b=some o:=fun e n=>b2L e n
  have noA:∀{b:Addr}{o:Obj}{es:Array DictEntry}{ep:Nat},s₁.heap.get? b=some o->o.data=.dict es ep->H b=none:=fun{b o es ep} e d=>by
   cases q:H b with
   |none=>rfl
   |some u=>
    have e':b=a:=hA b (by rw[q];simp)
    subst e';rw[ha]at e;cases e;have d':Data.seq vs.toArray _=Data.dict es ep:=d;cases d'
  have nsK:∀{b:Addr}{m:OU},s₁.heap.Ns b m->(a0L s₁.heap H).Ns b m:=fun{b m} ⟨o,es,ep,e,d,r⟩=>⟨o,es,ep,base_of e (noA e d),d,r⟩
  have hKb:K.In (a0L s₁.heap H):=fun b o e=>base_of (KX b o e) (by
   cases q:H b with
   |none=>rfl
   |some u=>
    have e':b=a:=hA b (by rw[q];simp)
    subst e';rw[hK (by rw[q];simp)]at e;cases e)
  have hM:Mod K mg (a0L s₁.heap H):=⟨hKb,nsK hns,⟨mb,nsK hb,hbb⟩,let ⟨mc,h1,h2⟩:=hlim;⟨mc,nsK h1,h2⟩⟩
  have e0:Env0 P w K mg (a0L s₁.heap H) callerA [] s₁ H:=⟨rfl,hM,fun b o e=>b2M e,Nat.le_of_eq (b2K _ _),trivial,fun b hb=>absurd (show b∈([]:List Addr)from hb) (by simp),hok,.of_eq hg⟩
  refine Xz ((F _ hKb (nsK hns)).run callerA [] s₁ H ⟨[.ref a],[]⟩ [.ref a] [.ref a] _ _ hr e0 (hbind s₁ (.ref a)) (.cons rfl .nil) (hsp H hO hS)) fun r s' h=>?_
  cases r with
  |error e=>exact(hCX H e s' h).elim
  |ok fl=>
   cases fl with
   |next=>exact False.elim h
   |brk=>exact False.elim h
   |cont=>exact False.elim h
   |ret u=>
    obtain⟨v,H',os,bare,un,hok',r',q⟩:=h;have q':v=.bl true:=q;subst q';obtain rfl:u=Value.bool true:=r';refine⟨rfl,OldK.of_keep fun b o e=>?_,os,bare⟩
    cases q:H b with
    |none=>exact un.keep b o e q (by intro z;exact absurd (show b∈([]:List Addr)from z) (by simp)) (by simp)
    |some u=>
     rcases hO b with z|⟨ob,xs,z⟩
     ·rw[q]at z;cases z
     ·have z2:=un.frzs b ob _ z
      obtain⟨e1,_⟩:=hok b _ z;obtain⟨e2,_⟩:=hok' b _ z2;rw[e]at e1;cases e1;exact e2
 cases hk:K.lookup a with
 |some o=>
  have e:=KX a o hk
  rw[ha]at e;cases e;refine core (fun _=>none) (fun _=>.inl rfl) (.inr ⟨_,vs.toArray,_,hk,rfl,rfl,rfl,by rw[Qr,lenV];exact hl,by simpa using rv⟩) (fun b u z=>by have z':(none:Option HO)=some u:=z;cases z') (fun b z=>absurd rfl z) fun z=>absurd rfl z
 |none=>
  refine core (fun b=>if b=a then some (.frz {cls:=.type "list",data:=.seq vs.toArray} (.lst (ns.map V.int)))else none) (fun b=>?_) (.inl (.inr ⟨{cls:=.type "list",data:=.seq vs.toArray},Qc rfl⟩)) (fun b u z=>?_) (fun b z=>?_) fun _=>hk
  ·by_cases hb:b=a
   ·exact .inr ⟨_,_,Qc hb⟩
   ·exact .inl (Qp hb)
  ·by_cases hb:b=a
   ·have z':=(Qc hb).symm.trans z
    cases z';subst hb;exact⟨ha,by rw[Qk];exact hl,vs,_,rv,ha⟩
   ·have z':=(Qp hb).symm.trans z
    cases z'
  ·by_cases hb:b=a
   ·exact hb
   ·exact absurd (Qp hb) z
theorem b4y{l:PySem.W.OpenLaw}{n k:Nat}{q:Program}{loose:List Str}{XP:(OU)->Heap->Prop}{YP:World->Heap->Prop}{d:DefRec}{K:Params->Qz}{CX:World->CXT}{sp:World->Sp}{x:Str}
  (hn:l.most=some n)(hn2:n≤sizeLine)(hdf:d.params.defaults=[])(hr:Room k callerA)
  (hY:∀(w:World) (h:Heap),YP w h->(K w.params).In h)
  (F:∀(w:World) (mg:OU) (fa:Addr) (h:Heap),(K w.params).In h->h.Ns mainGlobals mg->mg d.name=some (.ref fa)->
   ∃fd:FuncData,(∀(s:Shared) (u:Value),BindsTo s fd ⟨[u],[]⟩ [(x,u)])/\
    ∀base:Heap,(K w.params).In base->base.Ns mainGlobals mg->FnOk l.prog w (K w.params) mg base (CX w) k fa fd [x] (sp w))
  (hsp:∀(w:World) (H:Hp) (a:Addr) (ns:List Int),ns.length≤n->a5q H->SqL (K w.params) H a (ns.map V.int)->sp w [.ref a] H (fun v _=>v=.bl true) fun _ _ _=>False)
  (hCX:∀(w:World) (H:Hp) (s:Shared) (e:Value) (s':Shared),CX w [] H s (fun _ _ _=>False) e s'->False):
  PySem.W.WalkO q loose XP YP l.row.toRowW d [] (fun f vs=>PySem.call f vs):=by
 refine Att.attach_call hn hdf fun w s₀ s₁ mg mb fa o pm cd doc a vs ns G Y ho hd hcd hmg hobj hints hlen hg=>?_
 have KX:=hY w _ Y
 obtain⟨fd,hb,hF⟩:=F w mg fa _ KX G.T.g hmg;exact b4x KX G.T.g G.T.b G.T.builtins G.T.nolimit hg hobj hints (Yj hlen hn2) hr hF hb (fun H hO hS=>hsp w H a ns hlen hO hS) fun H e s'=>hCX w H s₁ e s'
def a1H(s:Stmt):Arguments:=match s with
 |.FunctionDef _ a _ _ _ _ _ _ _ _=>a
 |_=>{posonlyargs:=[],args:=[],vararg:=none,kwonlyargs:=[],kw_defaults:=[],kwarg:=none,defaults:=[]}
def a0M(s:Stmt):List Stmt:=match s with
 |.FunctionDef _ _ b _ _ _ _ _ _ _=>b
 |_=>[]
def v6_(s:Stmt):Scope:=match s with
 |.FunctionDef _ _ _ _ _ _ sc _ _ _=>sc
 |_=>{kind:=.function,names:=[],isGenerator:=false,isCoroutine:=false}
abbrev CX0:CXT:=fun _ _ _ _ _ _=>False
abbrev E0:XK:=fun _ _ _=>False
theorem a4c{X:Cx}:a2o CX0 X E0:=fun _ _ _ _ _ _ _ h=>h.elim
structure Fun(K:Qz)(x qual:Str)(st:Stmt)(f:Addr)(fd:FuncData):Prop where
 ex:∃(oc:Value) (od:Option Addr) (kV doc pm:Value) (an:Option Addr) (cdv ct:Value) (osl:Array (Option Value)),
  fd=PySem.W.fnOf x qual (a1H st) (a0M st) (v6_ st) .none kV doc pm an cdv ct/\K.lookup f=some ⟨oc,od,.func fd,osl⟩/\PySem.W.codeIn K cdv qual=true
 kp:PySem.W.keepIn K (.ref f)=true
section
variable{P:Program}{w:World}{K:Qz}{mg:OU}{base:Heap}
theorem Fun.ok{x qual:Str}{st:Stmt}{f:Addr}{fd:FuncData}{N ps:List Str}{k:Nat}{sp:Sp}(F:Fun K x qual st f fd)(S:FnScope N ps (v6_ st))(len:∀vs H Q E,sp vs H Q E->vs.length=ps.length)
  (hbody:∀(cdv:Value) (A:Around) (outer:List Env) (s:Shared) (H:Hp) (vs:List V) (Q:VK) (E:XK),Room k (A.deeper (envOfC qual (v6_ st) s.heap.objs.size f cdv))->sp vs H Q E->
   ∃t,PSs (a1G CX0 P w K mg base N qual (v6_ st) f cdv A outer s H E).nox (a0M st) t/\t {nx:=fun _ H'=>Q .non H',rt:=Q} (start N vs) H):FnOk P w K mg base CX0 (k+1) f fd ps sp:=by
 obtain⟨oc,od,kV,doc,pm,an,cdv,ct,osl,rfl,lk,hcd⟩:=F.ex;refine b4i lk hcd S len fun A outer s H vs Q E hr hsp=>?_
 obtain⟨t,h,q⟩:=hbody cdv A outer s H vs Q E hr hsp;exact⟨t,h.nox,q⟩
theorem Fun.binds{x qual:Str}{st:Stmt}{f:Addr}{fd:FuncData}{ps:List Str}(F:Fun K x qual st f fd)
  (h:∀(kV doc pm:Value) (an:Option Addr) (cdv ct:Value) (us:List Value),us.length=ps.length->bindArgs (PySem.W.fnOf x qual (a1H st) (a0M st) (v6_ st) .none kV doc pm an cdv ct) ⟨us,[]⟩=pure (ps.zip us)):u4_ K fd ps []:=by
 obtain⟨oc,od,kV,doc,pm,an,cdv,ct,osl,rfl,lk,hcd⟩:=F.ex;exact .all (h kV doc pm an cdv ct)
theorem b4z{x qual:Str}{st:Stmt}{f:Addr}{oc:Value}{od an:Option Addr}{osl:Array (Option Value)}{kV doc pm cdv ct:Value}(l:K.lookup f=some ⟨oc,od,.func (PySem.W.fnOf x qual (a1H st) (a0M st) (v6_ st) .none kV doc pm an cdv ct),osl⟩)
  (c:PySem.W.codeIn K cdv qual=true)(k:PySem.W.keepIn K (.ref f)=true):Fun K x qual st f (PySem.W.fnOf x qual (a1H st) (a0M st) (v6_ st) .none kV doc pm an cdv ct):=⟨⟨oc,od,kV,doc,pm,an,cdv,ct,osl,rfl,l,c⟩,k⟩
end
theorem a3d{n:Nat}(h:n≤1000):n<sizeLine:=Nat.lt_of_le_of_lt h (by decide)
section
variable{X:Cx}
theorem pv(i:Nat){x:Str}{pos:Pos}(hN:X.N[i]? =some x:=by rfl)(hv:Vis X.env.scope x:=by first|exact Or.inl rfl|exact Or.inr (Or.inl rfl)|exact Or.inr (Or.inr rfl))(hd:(x==("__debug__":Str))=false:=by decide)
  (hcd:(x==("__classdict__":Str))=false:=by decide):PE X (.Name x pos) (a0x i):=b2P hN hv hd hcd
end
section
variable{κ:Type}[DecidableEq κ]
end
theorem a2q{P:Program}{w:World}{k:Key}{u:Value}(r:q7_ (kV k) u):(k4_ P w).is k u=true:=by
 cases k with
 |inl i=>obtain⟨t,e⟩:=(show∃t,u=Value.int i t from r);subst e;exact b2I P w i t
 |inr x=>obtain⟨t,e⟩:=(show∃t,u=Value.str x t from r);subst e;exact b2J P w x t
section
variable{P:Program}{w:World}{H:Hp}{h:Heap}{a:Addr}
end
section
variable{X:Cx}{pins:OX}{σ:St}{H:Hp}{s:Shared}{a:Addr}{y v:V}{u r:Value}{o:Option V}{A:Around}{E:OE}
end
def b4A(i:Expr):Prop:=∀ov iv,subscripted i false ov iv=operate [ov,iv] (getItem ov iv)
theorem b4B{prog:Program}{w:World}{A:Around}{E:OE}{s:Shared}{env:Env}{value slice:Expr}{pos:Pos}{T id:String}{Q:OE}
  (hl:typeLookup (.type T) "__getitem__"=pure (some (.builtin id)))(hs:b4A slice)
  (h:wpAny (model prog w) A (eval value env) (fun o s₁=>wpAny (model prog w) A (eval slice env) (fun i s₂=>s₂.TypeIs o T/\wpAny (model prog w) A (getItem o i) Q E s₂) E s₁) E s):
  wpAny (model prog w) A (eval (.Subscript value slice pos) env) Q E s:=by
 refine Subscript_ (Yw h (fun o s₁ h₁=>Yw h₁ (fun i s₂ h₂=>?_) fun _ _ x=>x) fun _ _ x=>x)
 obtain⟨hT,h₂⟩:=h₂;unfold subscriptTail;refine Qq ?_
 rw[getitemInPython_of_ne hT.not_modules];refine Qq (Ug hT hl ?_);have fin:wpAny (model prog w) A (subscripted slice false o i) (fun r s₃=>wpAny (model prog w) A (letTemporaryGo value o r>>=fun _=>pure r) Q E s₃) E s₂:=by
  rw[hs o i];exact wpAny_operating (Yw h₂ (fun r s₃ h₃=>Qq (wpAny_letTemporaryGo (Qj h₃))) fun _ _ x=>x)
 first
  |exact Qj (Qq fin)
  |exact Qq (Qj (Qq fin))
  |exact Qq fin
end L2
namespace L2.Mir
open PySem PySem.Spec PyProof.Rows
inductive Ob where
 |exc (n:Str)|fn (n:Str)|dk (kvs:List (Key×Key))|dt (kvs:List (Str×List Int))
 deriving Inhabited
inductive D where
 |non|bl (b:Bool)|int (i:Int)|str (x:Str)|tup (ds:List D)|lst (ds:List D)|emp|obj (o:Ob)|dct (ks:OI) (vs:List D)
 deriving Inhabited
def b4C(K:Qz)(t:Value):Prop:=∀T∈(["tuple","list","int","bool","str"]:List String),PySem.W.kitOne K t (.type T)=some false
def SqU(K:Qz)(G:Hp)(a:Addr)(xs:List V):Prop:=G a=some (.tup xs)∨ ∃(o:Obj) (its:Array Value) (n:Nat),K.lookup a=some o/\o.cls=.type "tuple"/\o.dict=none/\o.data=.seq its n/\its.size≤sizeLine/\q0_ xs its.toList
theorem SqU.t{K:Qz}{G:Hp}{a:Addr}{xs:List V}(h:SqU K G a xs):SqT K G a xs:=h.imp (fun e=>.inl e) id
def a2r(K:Qz)(G:Hp):List (Key×V)->List (Str×List Int)->Prop
 |[],[]=>True
 |p::ps,q::qs=>p.1=.inr q.1/\(∃a,p.2=.ref a/\SqU K G a (q.2.map V.int))/\a2r K G ps qs
 |_,_=>False
def a3e(K:Qz)(G:Hp)(v:V):Ob->Prop
 |.exc n=>∃a C HP,v=.ref a/\PySem.W.nsIn K mainGlobals n=some (some (.ref C))/\G a=some (.ext HP)/\PySem.W.KitX K (.ref a) (.ref C) HP/\b4C K (.ref C)
 |.fn n=>∃f,v=.ref f/\PySem.W.nsIn K mainGlobals n=some (some (.ref f))/\PySem.W.KitX K (.ref f) (.type "function") (fun _=>True)
 |.dk kvs=>∃a,v=.ref a/\G a=some (.dK (kvs.map fun p=>(p.1,kV p.2)))
 |.dt kvs=>∃a ps,v=.ref a/\G a=some (.dK ps)/\a2r K G ps kvs
abbrev a4d(k:List Int):List Key:=k.map Sum.inl
def a5r(K:Qz):Addr->List Key->Prop:=fun b k=>SqU K (fun _=>none) b (k.map kV)
mutual
def Rep(K:Qz)(G:Hp):V->D->Prop
 |v,.non=>v=.non
 |v,.bl b=>v=.bl b
 |v,.int i=>v=.int i
 |v,.str x=>v=.str x/\x.length≤sizeLine
 |v,.tup ds=>∃a xs,v=.ref a/\SqU K G a xs/\z5_ K G xs ds
 |v,.lst ds=>∃a xs,v=.ref a/\SqL K G a xs/\z5_ K G xs ds
 |v,.emp=>∃a kvs,v=.ref a/\G a=some (.dK kvs)
 |v,.obj o=>a3e K G v o
 |v,.dct ks vs=>∃a kvs,v=.ref a/\G a=some (.dT (a5r K) kvs)/\kvs.map (·.1)=ks.map a4d/\z5_ K G (kvs.map (·.2)) vs
def z5_(K:Qz)(G:Hp):List V->List D->Prop
 |xs,[]=>xs=[]
 |xs,d::ds=>∃x r,xs=x::r/\Rep K G x d/\z5_ K G r ds
end
def Le(G G':Hp):Prop:=∀b o,G b=some o->G' b=some o
theorem Le.refl{G:Hp}:Le G G:=fun _ _ e=>e
theorem Le.trans{G G1 G2:Hp}(a:Le G G1)(b:Le G1 G2):Le G G2:=fun x o e=>b x o (a x o e)
theorem Le.upd{G:Hp}{a:Addr}{o:HO}(h:G a=none):Le G (upd G a o):=fun b u e=>by rw[q4_ (k8_ e h)];exact e
theorem Le.sqU{K:Qz}{G G':Hp}(l:Le G G'){a:Addr}{xs:List V}(h:SqU K G a xs):SqU K G' a xs:=h.imp (fun e=>l _ _ e) id
theorem Le.sqT{K:Qz}{G G':Hp}(l:Le G G'){a:Addr}{xs:List V}(h:SqU K G a xs):SqT K G' a xs:=(l.sqU h).t
theorem Le.sqT'{K:Qz}{G G':Hp}(l:Le G G'){a:Addr}{xs:List V}(h:SqT K G a xs):SqT K G' a xs:=by
 rcases h with h|h
 ·rcases h with h|⟨o,h⟩
  ·exact .inl (.inl (l _ _ h))
  ·exact .inl (.inr ⟨o,l _ _ h⟩)
 ·exact .inr h
theorem Le.sqL{K:Qz}{G G':Hp}(l:Le G G'){a:Addr}{xs:List V}(h:SqL K G a xs):SqL K G' a xs:=by
 rcases h with h|h
 ·rcases h with h|⟨o,h⟩
  ·exact .inl (.inl (l _ _ h))
  ·exact .inl (.inr ⟨o,l _ _ h⟩)
 ·exact .inr h
theorem a2r.mono{K:Qz}{G G':Hp}(l:Le G G'):∀{ps:List (Key×V)}{qs:List (Str×List Int)},a2r K G ps qs->a2r K G' ps qs
 |[],[],_=>trivial
 |_::_,_::_,⟨h1,⟨a,h2,h3⟩,h4⟩=>⟨h1,⟨a,h2,l.sqU h3⟩,a2r.mono l h4⟩
theorem a3e.mono{K:Qz}{G G':Hp}(l:Le G G'){v:V}:∀{o:Ob},a3e K G v o->a3e K G' v o
 |.exc n,⟨a,C,HP,h1,h2,h3,h4⟩=>⟨a,C,HP,h1,h2,l _ _ h3,h4⟩
 |.fn n,h=>h
 |.dk kvs,⟨a,h1,h2⟩=>⟨a,h1,l _ _ h2⟩
 |.dt kvs,⟨a,ps,h1,h2,h3⟩=>⟨a,ps,h1,l _ _ h2,h3.mono l⟩
mutual
theorem Rep.mono{K:Qz}{G G':Hp}(l:Le G G'):∀(d:D) {v:V},Rep K G v d->Rep K G' v d
 |.non,_,h=>by simpa only[Rep]using h
 |.bl b,_,h=>by simpa only[Rep]using h
 |.int i,_,h=>by simpa only[Rep]using h
 |.str x,_,h=>by simpa only[Rep]using h
 |.tup ds,_,h=>by
  simp only[Rep]at h ⊢;obtain⟨a,xs,e,q,r⟩:=h;exact⟨a,xs,e,l.sqU q,z5_.mono l ds r⟩
 |.lst ds,_,h=>by
  simp only[Rep]at h ⊢;obtain⟨a,xs,e,q,r⟩:=h;exact⟨a,xs,e,l.sqL q,z5_.mono l ds r⟩
 |.emp,_,h=>by
  simp only[Rep]at h ⊢;obtain⟨a,kvs,e,q⟩:=h;exact⟨a,kvs,e,l _ _ q⟩
 |.obj o,_,h=>by
  simp only[Rep]at h ⊢;exact h.mono l
 |.dct ks vs,_,h=>by
  simp only[Rep]at h ⊢;obtain⟨a,kvs,e,q,k,r⟩:=h;exact⟨a,kvs,e,l _ _ q,k,z5_.mono l vs r⟩
theorem z5_.mono{K:Qz}{G G':Hp}(l:Le G G'):∀(ds:List D) {xs:List V},z5_ K G xs ds->z5_ K G' xs ds
 |[],_,h=>by simpa only[z5_]using h
 |d::ds,_,h=>by
  simp only[z5_]at h ⊢;obtain⟨x,r,e,q,t⟩:=h;exact⟨x,r,e,Rep.mono l d q,z5_.mono l ds t⟩
end
theorem repL_nil{K:Qz}{G:Hp}:z5_ K G [] []:=by simp only[z5_]
theorem repL_cons{K:Qz}{G:Hp}{x:V}{xs:List V}{d:D}{ds:List D}(h:Rep K G x d)(t:z5_ K G xs ds):z5_ K G (x::xs) (d::ds):=by
 simp only[z5_];exact⟨x,xs,rfl,h,t⟩
theorem z5_.length{K:Qz}{G:Hp}:∀{ds:List D}{xs:List V},z5_ K G xs ds->xs.length=ds.length
 |[],_,h=>by simp only[z5_]at h;subst h;rfl
 |d::ds,_,h=>by
  simp only[z5_]at h;obtain⟨x,r,e,q,t⟩:=h;subst e
  simp[z5_.length t]
theorem z5_.append{K:Qz}{G:Hp}:∀{ds es:List D}{xs ys:List V},z5_ K G xs ds->z5_ K G ys es->z5_ K G (xs++ys) (ds++es)
 |[],_,_,_,h,t=>by simp only[z5_]at h;subst h;exact t
 |d::ds,_,_,_,h,t=>by
  simp only[z5_]at h;obtain⟨x,r,e,q,u⟩:=h;subst e;exact repL_cons q (z5_.append u t)
theorem z5_.get{K:Qz}{G:Hp}:∀{ds:List D}{xs:List V}{i:Nat}{d:D},z5_ K G xs ds->ds[i]? =some d->∃x,xs[i]? =some x/\Rep K G x d
 |[],_,i,d,h,e=>by simp at e
 |d::ds,_,i,d',h,e=>by
  simp only[z5_]at h;obtain⟨x,r,e1,q,t⟩:=h;subst e1;cases i with
  |zero=>simp at e;subst e;exact⟨x,rfl,q⟩
  |succ i=>simpa using z5_.get (i:=i) t (by simpa using e)
theorem z5_.get'{K:Qz}{G:Hp}{ds:List D}{xs:List V}{i:Nat}{x:V}(h:z5_ K G xs ds)(e:xs[i]? =some x):∃d,ds[i]? =some d/\Rep K G x d:=by
 have hl:=h.length
 have hi:i<xs.length:=(Qm.mp e).1
 obtain⟨x',e',r⟩:=h.get (i:=i) (d:=ds[i]'(by omega)) (by simp)
 rw[e]at e';cases e';exact⟨_,by simp,r⟩
theorem z5_.take{K:Qz}{G:Hp}:∀{ds:List D}{xs:List V}(n:Nat),z5_ K G xs ds->z5_ K G (xs.take n) (ds.take n)
 |_,_,0,_=>by simp[repL_nil]
 |[],_,n+1,h=>by simp only[z5_]at h;subst h;simp[repL_nil]
 |d::ds,_,n+1,h=>by
  simp only[z5_]at h;obtain⟨x,r,e,q,t⟩:=h;subst e;exact repL_cons q (t.take n)
theorem z5_.reverse{K:Qz}{G:Hp}:∀{ds:List D}{xs:List V},z5_ K G xs ds->z5_ K G xs.reverse ds.reverse
 |[],_,h=>by simp only[z5_]at h;subst h;simp[repL_nil]
 |d::ds,_,h=>by
  simp only[z5_]at h;obtain⟨x,r,e,q,t⟩:=h;subst e;simp only[Xe];exact t.reverse.append (repL_cons q repL_nil)
theorem z5_.set{K:Qz}{G:Hp}:∀{ds:List D}{xs:List V}{x:V}{d:D}(n:Nat),z5_ K G xs ds->Rep K G x d->z5_ K G (xs.set n x) (ds.set n d)
 |[],_,_,_,n,h,_=>by simp only[z5_]at h;subst h;simp[repL_nil]
 |d::ds,_,_,_,0,h,q'=>by
  simp only[z5_]at h;obtain⟨x,r,e,q,t⟩:=h;subst e;exact repL_cons q' t
 |d::ds,_,_,_,n+1,h,q'=>by
  simp only[z5_]at h;obtain⟨x,r,e,q,t⟩:=h;subst e;exact repL_cons q (t.set n q')
inductive Mu where
 |l (ds:List D)|d (ks:OI) (vs:List D)
 deriving Inhabited
inductive W where
 |nil|dat (d:D)|own (ds:List D)|par (ds:List D)|ownD (ks:OI) (vs:List D)|parD (ks:OI) (vs:List D)
 deriving Inhabited
abbrev Env':=List W
abbrev OZ:=D->Env'->Option Env'
def W.mut:W->Option Mu
 |.own ds=>some (.l ds)
 |.par ds=>some (.l ds)
 |.ownD ks vs=>some (.d ks vs)
 |.parD ks vs=>some (.d ks vs)
 |_=>none
def W.mutL:W->Option (List D)
 |.own ds=>some ds
 |.par ds=>some ds
 |_=>none
def W.put:W->List D->W
 |.own _,ds=>.own ds
 |.par _,ds=>.par ds
 |w,_=>w
def W.isOwn:W->Bool
 |.own _=>true
 |.ownD _ _=>true
 |_=>false
def W.isPar:W->Bool
 |.par _=>true
 |.parD _ _=>true
 |_=>false
def W.putM(w:W):Mu->W
 |.l ds=>if w.isOwn then .own ds else if w.isPar then .par ds else w
 |.d ks vs=>if w.isOwn then .ownD ks vs else if w.isPar then .parD ks vs else w
theorem W.mutL_of{w:W}{ds:List D}(h:w.mutL=some ds):w.mut=some (.l ds):=by cases w<;>first|(cases h;rfl)|cases h
theorem W.put_eq{w:W}{ds:List D}(h:w.mutL=some ds)(ds':List D):w.put ds'=w.putM (.l ds'):=by cases w<;>first|rfl|cases h
theorem W.putM_mut{w:W}{m:Mu}(h:w.mut=some m)(m':Mu):(w.putM m').mut=some m':=by
 cases w<;>cases m'<;>first|rfl|cases h
theorem W.putM_own{w:W}{m:Mu}(h:w.mut=some m)(m':Mu):(w.putM m').isOwn=w.isOwn:=by
 cases w<;>cases m'<;>first|rfl|cases h
theorem W.putM_par{w:W}{m:Mu}(h:w.mut=some m)(m':Mu):(w.putM m').isPar=w.isPar:=by
 cases w<;>cases m'<;>first|rfl|cases h
def Owned(σ:St)(env:Env')(a:Addr):Prop:=∃(i:Nat) (w:W) (m:Mu),env[i]? =some w/\w.mut=some m/\σ[i]? =some (some (V.ref a))
theorem own_mut{w:W}(h:w.isOwn=true):∃m,w.mut=some m:=by cases w<;>first|exact⟨_,rfl⟩|cases h
theorem par_mut{w:W}(h:w.isPar=true):∃m,w.mut=some m:=by cases w<;>first|exact⟨_,rfl⟩|cases h
def NT(o:HO):Prop:=∀ps,o≠.tbl ps
theorem nt_lst{xs:List V}:NT (.lst xs):=fun _ z=>by cases z
theorem nt_tup{xs:List V}:NT (.tup xs):=fun _ z=>by cases z
def lamQ(q:Str):Str:=(q++".<locals>.")++"<lambda>"
def tabQ(K:Qz)(P:Addr)(q:Str):Bool:=K.all fun p=>match p.2 with
 |⟨.type "code",_,.fields vs,_⟩=>(match (vs[11]? :Option Value)with|some (.ref P')=>P' !=P|_=>true)||(match vs.toList with|_::.str n _::_=>n==q|_=>false)
 |_=>true
def LamC(K:Qz)(P a:Addr):HO:=.ext fun h=>∀q,tabQ K P q=true->h.CodeRec (.ref a) (lamQ q)
def TabsOk(K:Qz)(H:Hp):Prop:=∀P ps,H P=some (.tbl ps)->TriplesOk ps.toList/\∀pos v,codeAmong pos ps.toList=some v->∃a,v=.ref a/\H a=some (LamC K P a)
theorem TabsOk.mono{K:Qz}{H H':Hp}(t:TabsOk K H)(h1:∀P ps,H' P=some (.tbl ps)->H P=some (.tbl ps))(h2:∀a φ,H a=some (.ext φ)->H' a=some (.ext φ)):TabsOk K H':=fun P ps e=>by
 obtain⟨q1,q2⟩:=t P ps (h1 P ps e);refine⟨q1,fun pos v e=>?_⟩
 obtain⟨a,e1,e2⟩:=q2 pos v e;exact⟨a,e1,h2 _ _ e2⟩
theorem TabsOk.upd{K:Qz}{H:Hp}(t:TabsOk K H){a:Addr}{o:HO}(no:NT o)(h:∀φ,H a≠some (.ext φ)):TabsOk K (upd H a o):=
 t.mono (fun P ps e=>by
  by_cases hb:P=a
  ·subst hb;rw[y3_]at e;cases e;exact absurd rfl (no ps)
  ·rw[q4_ hb]at e;exact e) fun b φ e=>by
  by_cases hb:b=a
  ·subst hb;exact absurd e (h φ)
  ·rw[q4_ hb];exact e
def RepM(K:Qz)(G:Hp)(o:HO):Mu->Prop
 |.l ds=>∃xs,o=.lst xs/\z5_ K G xs ds
 |.d ks vs=>∃kvs,o=.dT (a5r K) kvs/\kvs.map (·.1)=ks.map a4d/\z5_ K G (kvs.map (·.2)) vs
theorem RepM.mono{K:Qz}{G G':Hp}(l:Le G G'){o:HO}:∀{m:Mu},RepM K G o m->RepM K G' o m
 |.l ds,⟨xs,e,r⟩=>⟨xs,e,z5_.mono l ds r⟩
 |.d ks vs,⟨kvs,e,k,r⟩=>⟨kvs,e,k,z5_.mono l vs r⟩
theorem RepM.nt{K:Qz}{G:Hp}{o:HO}:∀{m:Mu},RepM K G o m->NT o
 |.l ds,⟨xs,e,r⟩=>by subst e;exact nt_lst
 |.d ks vs,⟨kvs,e,k,r⟩=>by subst e;exact fun _ z=>by cases z
theorem RepM.ne{K:Qz}{G:Hp}{o:HO}{m:Mu}(r:RepM K G o m):∀φ,o≠.ext φ:=by
 cases m with
 |l ds=>obtain⟨xs,e,_⟩:=r;subst e;exact fun _ z=>by cases z
 |d ks vs=>obtain⟨xs,e,_⟩:=r;subst e;exact fun _ z=>by cases z
structure Rel(K:Qz)(B:OA)(G:Hp)(σ:St)(env:Env')(H:Hp):Prop where
 sub:Le G H
 len:env.length=σ.length
 dat:∀(i:Nat) (d:D),env[i]? =some (.dat d)->∃v,σ[i]? =some (some v)/\Rep K G v d
 own:∀(i:Nat) (w:W) (m:Mu),env[i]? =some w->w.mut=some m->∃a o,σ[i]? =some (some (V.ref a))/\H a=some o/\RepM K G o m/\G a=none
 inj:∀(i j:Nat) (w w':W) (ds es:Mu) (a:Addr),env[i]? =some w->w.mut=some ds->env[j]? =some w'->w'.mut=some es->σ[i]? =some (some (V.ref a))->σ[j]? =some (some (V.ref a))->i=j
 fresh:∀(i:Nat) (w:W) (a:Addr),env[i]? =some w->w.isOwn=true->σ[i]? =some (some (V.ref a))-> ¬ B a
 old:∀b,B b->H b≠none
 tabs:TabsOk K H
 gnt:∀b o,G b=some o->NT o
structure Ev(K:Qz)(B:OA)(G:Hp)(σ:St)(env:Env')(H:Hp)(G':Hp)(σ':St)(env':Env')(H':Hp):Prop where
 rel:Rel K B G' σ' env' H'
 same:Le G G'
 keep:∀b o,¬ Owned σ env b->NT o->H b=some o->H' b=some o
 live:∀b,H b≠none->H' b≠none
 stay:∀b,H b≠none-> ¬ Owned σ env b->G b=none->G' b=none
 sub:∀a,Owned σ' env' a->Owned σ env a∨H a=none
 par:∀(i:Nat) (w:W),env'[i]? =some w->w.isPar=true->σ'[i]? =σ[i]? /\ ∃w0,env[i]? =some w0/\w0.isPar=true
 slen:σ'.length=σ.length
theorem Ev.refl{K:Qz}{B:OA}{G:Hp}{σ:St}{env:Env'}{H:Hp}(r:Rel K B G σ env H):Ev K B G σ env H G σ env H:=
 ⟨r,Le.refl,fun _ _ _ _ e=>e,fun _ e=>e,fun _ _ _ e=>e,fun _ e=>.inl e,fun _ w e h=>⟨rfl,w,e,h⟩,rfl⟩
theorem Ev.trans{K:Qz}{B:OA}{G G1 G2:Hp}{σ σ1 σ2:St}{env env1 env2:Env'}{H H1 H2:Hp}(a:Ev K B G σ env H G1 σ1 env1 H1)(b:Ev K B G1 σ1 env1 H1 G2 σ2 env2 H2):Ev K B G σ env H G2 σ2 env2 H2 where
 rel:=b.rel
 same:=a.same.trans b.same
 keep:=fun x o n t e=>b.keep x o (fun z=>(a.sub x z).elim n fun q=>by rw[e]at q;cases q) t (a.keep x o n t e)
 live:=fun x e=>b.live x (a.live x e)
 stay:=fun x e n g=>b.stay x (a.live x e) (fun z=>(a.sub x z).elim n fun q=>e q) (a.stay x e n g)
 sub:=fun x z=>(b.sub x z).elim (fun q=>a.sub x q) fun q=>.inr (by
  cases h:H x with
  |none=>rfl
  |some o=>exact absurd q (a.live x (by rw[h];simp)))
 par:=fun i w e h=>by
  obtain⟨h1,d1,e1,p1⟩:=b.par i w e h;obtain⟨h2,d2,e2,p2⟩:=a.par i d1 e1 p1;exact⟨h1.trans h2,d2,e2,p2⟩
 slen:=b.slen.trans a.slen
theorem Rel.ownL{K:Qz}{B:OA}{G:Hp}{σ:St}{env:Env'}{H:Hp}(r:Rel K B G σ env H)(i:Nat)(w:W)(ds:List D)(e1:env[i]? =some w)(e2:w.mutL=some ds):∃a xs,σ[i]? =some (some (V.ref a))/\H a=some (.lst xs)/\z5_ K G xs ds/\G a=none:=by
 obtain⟨a,o,h1,h2,⟨xs,rfl,h3⟩,h4⟩:=r.own i w (.l ds) e1 (W.mutL_of e2);exact⟨a,xs,h1,h2,h3,h4⟩
abbrev Mo(α:Type):=Env'->Option (α×Env')
section
variable(K:Qz)(B:OA)
def TD(m:Mo D):TE:=fun σ H Q=>∃G env d env',Rel K B G σ env H/\m env=some (d,env')/\∀v G' H',Ev K B G σ env H G' σ env' H'->Rep K G' v d->Q v H'
def TL(m:Mo (List D)):TE:=fun σ H Q=>∃G env ds env',Rel K B G σ env H/\m env=some (ds,env')/\∀a xs G' H',Ev K B G σ env H G' σ env' H'->H a=none-> ¬ Owned σ env' a->H' a=some (.lst xs)->G' a=none->z5_ K G' xs ds->Q (.ref a) H'
def TTm(m:Mo Bool):TT:=fun σ H Q=>∃G env b env',Rel K B G σ env H/\m env=some (b,env')/\∀G' H',Ev K B G σ env H G' σ env' H'->Q b H'
inductive Ar where
 |d (d:D)|sl (i:Nat)
 deriving Inhabited
def RepA(G:Hp)(σ:St):List V->List Ar->Prop
 |xs,[]=>xs=[]
 |xs,.d d::as=>∃x r,xs=x::r/\Rep K G x d/\RepA G σ r as
 |xs,.sl i::as=>∃x r,xs=x::r/\σ[i]? =some (some x)/\RepA G σ r as
def TAm(m:Mo (List Ar)):TA:=fun σ H Q=>∃G env as env',Rel K B G σ env H/\m env=some (as,env')/\∀vs G' H',Ev K B G σ env H G' σ env' H'->RepA K G' σ vs as->Q vs H'
def TDs(m:Mo (List D)):TA:=fun σ H Q=>∃G env ds env',Rel K B G σ env H/\m env=some (ds,env')/\∀vs G' H',Ev K B G σ env H G' σ env' H'->z5_ K G' vs ds->Q vs H'
inductive Fl where
 |nx|bk|ct|ret (d:D)|retL (ds:List D)
def Post(G:Hp)(σ:St)(env:Env')(H:Hp)(env':Env')(D:Ends):Fl->Prop
 |.nx=>∀σ' G' H',Ev K B G σ env H G' σ' env' H'->D.nx σ' H'
 |.bk=>∀σ' G' H',Ev K B G σ env H G' σ' env' H'->D.bk σ' H'
 |.ct=>∀σ' G' H',Ev K B G σ env H G' σ' env' H'->D.ct σ' H'
 |.ret d=>∀v σ' G' H',Ev K B G σ env H G' σ' env' H'->Rep K G' v d->D.rt v H'
 |.retL ds=>∀a xs σ' G' H',Ev K B G σ env H G' σ' env' H'-> ¬ B a-> ¬ Owned σ' env' a->H' a=some (.lst xs)->G' a=none->z5_ K G' xs ds->D.rt (.ref a) H'
def TSm(m:Mo Fl):TS:=fun D σ H=>∃G env fl env',Rel K B G σ env H/\m env=some (fl,env')/\Post K B G σ env H env' D fl
theorem Post.after{G G1:Hp}{σ σ1:St}{env env1 env':Env'}{H H1:Hp}{D:Ends}{fl:Fl}(k:Post K B G σ env H env' D fl)(ev:Ev K B G σ env H G1 σ1 env1 H1):Post K B G1 σ1 env1 H1 env' D fl:=by
 cases fl with
 |nx=>exact fun σ2 G2 H2 ev2=>k σ2 G2 H2 (ev.trans ev2)
 |bk=>exact fun σ2 G2 H2 ev2=>k σ2 G2 H2 (ev.trans ev2)
 |ct=>exact fun σ2 G2 H2 ev2=>k σ2 G2 H2 (ev.trans ev2)
 |ret d=>exact fun v σ2 G2 H2 ev2=>k v σ2 G2 H2 (ev.trans ev2)
 |retL d=>exact fun a xs σ2 G2 H2 ev2=>k a xs σ2 G2 H2 (ev.trans ev2)
end
abbrev ED(X:Cx)(B:OA)(e:Expr)(m:Mo D):Prop:=PE X e (TD X.K B m)
abbrev EL(X:Cx)(B:OA)(e:Expr)(m:Mo (List D)):Prop:=PE X e (TL X.K B m)
abbrev ET(X:Cx)(B:OA)(e:Expr)(m:Mo Bool):Prop:=PT X e (TTm X.K B m)
abbrev EAr(X:Cx)(B:OA)(es:List Expr)(m:Mo (List Ar)):Prop:=PA X es (TAm X.K B m)
abbrev EDs(X:Cx)(B:OA)(es:List Expr)(m:Mo (List D)):Prop:=PA X es (TDs X.K B m)
abbrev ES(X:Cx)(B:OA)(s:Stmt)(m:Mo Fl):Prop:=PS X s (TSm X.K B m)
abbrev ESs(X:Cx)(B:OA)(s:List Stmt)(m:Mo Fl):Prop:=PSs X s (TSm X.K B m)
theorem pe_imp{X:Cx}{e:Expr}{t t':TE}(h:PE X e t)(i:∀σ H Q,t' σ H Q->t σ H Q):PE X e t':=fun pins s σ H Q I q=>h pins s σ H Q I (i σ H Q q)
theorem pt_imp{X:Cx}{e:Expr}{t t':TT}(h:PT X e t)(i:∀σ H Q,t' σ H Q->t σ H Q):PT X e t':=fun pins s σ H Q I q=>h pins s σ H Q I (i σ H Q q)
theorem pw_imp{X:Cx}{e:Expr}{t t':TT}(h:PW X e t)(i:∀σ H Q,t' σ H Q->t σ H Q):PW X e t':=fun wh pins s σ H Q I q=>h wh pins s σ H Q I (i σ H Q q)
theorem pa_imp{X:Cx}{e:List Expr}{t t':TA}(h:PA X e t)(i:∀σ H Q,t' σ H Q->t σ H Q):PA X e t':=fun pos pins s σ H Q I q=>h pos pins s σ H Q I (i σ H Q q)
theorem ps_imp{X:Cx}{e:Stmt}{t t':TS}(h:PS X e t)(i:∀D σ H,t' D σ H->t D σ H):PS X e t':=fun pins s σ H D I q=>h pins s σ H D I (i D σ H q)
theorem pss_imp{X:Cx}{e:List Stmt}{t t':TS}(h:PSs X e t)(i:∀D σ H,t' D σ H->t D σ H):PSs X e t':=fun pins s σ H D I q=>h pins s σ H D I (i D σ H q)
section
variable{K:Qz}{B:OA}{G G':Hp}{σ σ':St}{env env':Env'}{H H':Hp}
theorem Rel.gnone(r:Rel K B G σ env H){p:Addr}(h:H p=none):G p=none:=by
 cases e:G p with
 |none=>rfl
 |some o=>rw[r.sub p o e]at h;cases h
theorem Rel.unowned(r:Rel K B G σ env H){p:Addr}(h:H p=none):¬ Owned σ env p:=by
 rintro⟨i,w,ds,e1,e2,e3⟩;obtain⟨a,xs,e4,e5,_⟩:=r.own i w ds e1 e2;rw[e3]at e4;cases e4;rw[h]at e5;cases e5
theorem a5s{G:Hp}{p:Addr}{o:HO}(h:∀b o,G b=some o->NT o)(no:NT o):∀b u,upd G p o b=some u->NT u:=fun b u e=>by
 by_cases hb:b=p
 ·subst hb;rw[y3_]at e;cases e;exact no
 ·rw[q4_ hb]at e;exact h b u e
theorem Rel.alloc(r:Rel K B G σ env H){p:Addr}{o:HO}(h:H p=none)(no:NT o:=by intro _ z;cases z):Ev K B G σ env H (upd G p o) σ env (upd H p o):=by
 have gp:=r.gnone h
 refine⟨⟨fun b u e=>?_,r.len,fun i d e=>?_,fun i w ds e1 e2=>?_,r.inj,r.fresh,fun b e=>?_,r.tabs.upd no (fun φ z=>by rw[h]at z;cases z),a5s r.gnt no⟩,Le.upd gp,fun b u _ _ e=>?_,fun b e=>?_,fun b e _ g=>?_,fun a z=>.inl z,fun i w e hp=>⟨rfl,w,e,hp⟩,rfl⟩
 ·by_cases hb:b=p
  ·subst hb;rw[y3_]at e ⊢;exact e
  ·rw[q4_ hb]at e ⊢;exact r.sub b u e
 ·obtain⟨v,e1,e2⟩:=r.dat i d e
  exact⟨v,e1,Rep.mono (Le.upd gp) d e2⟩
 ·obtain⟨a,xs,e3,e4,e5,e6⟩:=r.own i w ds e1 e2
  have ha:a≠p:=k8_ e4 h
  exact⟨a,xs,e3,by rw[q4_ ha];exact e4,e5.mono (Le.upd gp),by rw[q4_ ha];exact e6⟩
 ·by_cases hb:b=p
  ·subst hb;rw[y3_];simp
  ·rw[q4_ hb];exact r.old b e
 ·rw[q4_ (k8_ e h)];exact e
 ·by_cases hb:b=p
  ·subst hb;rw[y3_];simp
  ·rw[q4_ hb];exact e
 ·have hb:b≠p:=fun z=>e (z ▸ h)
  rw[q4_ hb];exact g
theorem Rel.allocM(r:Rel K B G σ env H){p:Addr}{o:HO}(h:H p=none)(no:NT o:=by intro _ z;cases z):Ev K B G σ env H G σ env (upd H p o):=by
 refine⟨⟨fun b u e=>?_,r.len,r.dat,fun i w ds e1 e2=>?_,r.inj,r.fresh,fun b e=>?_,r.tabs.upd no (fun φ z=>by rw[h]at z;cases z),r.gnt⟩,Le.refl,fun b u _ _ e=>?_,fun b e=>?_,fun b e _ g=>g,fun a z=>.inl z,fun i w e hp=>⟨rfl,w,e,hp⟩,rfl⟩
 ·rw[q4_ (k8_ (r.sub b u e) h)];exact r.sub b u e
 ·obtain⟨a,xs,e3,e4,e5,e6⟩:=r.own i w ds e1 e2
  exact⟨a,xs,e3,by rw[q4_ (k8_ e4 h)];exact e4,e5,e6⟩
 ·by_cases hb:b=p
  ·subst hb;rw[y3_];simp
  ·rw[q4_ hb];exact r.old b e
 ·rw[q4_ (k8_ e h)];exact e
 ·by_cases hb:b=p
  ·subst hb;rw[y3_];simp
  ·rw[q4_ hb];exact e
theorem Ev.frz{a:Addr}{xs:List V}(v:Ev K B G σ env H G' σ' env' H')(ha:H a=none)(no:¬ Owned σ' env' a)(h':H' a=some (.lst xs))(g':G' a=none):
  Ev K B G σ env H (upd G' a (.lst xs)) σ' env' H':=by
 refine⟨⟨fun b u e=>?_,v.rel.len,fun i d e=>?_,fun i w ds e1 e2=>?_,v.rel.inj,v.rel.fresh,v.rel.old,v.rel.tabs,a5s v.rel.gnt nt_lst⟩,v.same.trans (Le.upd g'),v.keep,v.live,fun b e n g=>?_,v.sub,v.par,v.slen⟩
 ·by_cases hb:b=a
  ·subst hb;rw[y3_]at e;cases e;exact h'
  ·rw[q4_ hb]at e;exact v.rel.sub b u e
 ·obtain⟨x,e1,e2⟩:=v.rel.dat i d e
  exact⟨x,e1,Rep.mono (Le.upd g') d e2⟩
 ·obtain⟨p,ys,e3,e4,e5,e6⟩:=v.rel.own i w ds e1 e2
  have hp:p≠a:=fun z=>no ⟨i,w,ds,e1,e2,by rw[←z];exact e3⟩
  exact⟨p,ys,e3,e4,e5.mono (Le.upd g'),by rw[q4_ hp];exact e6⟩
 ·have hb:b≠a:=fun z=>e (z ▸ ha)
  rw[q4_ hb];exact v.stay b e n g
theorem a8K{a:Addr}{xs:List V}{ds:List D}(h:G a=some (.lst xs))(r:z5_ K G xs ds):Rep K G (.ref a) (.lst ds):=by
 simp only[Rep];exact⟨a,xs,rfl,.inl (.inl h),r⟩
theorem a2s{a:Addr}{xs:List V}{ds:List D}(h:G a=some (.tup xs))(r:z5_ K G xs ds):Rep K G (.ref a) (.tup ds):=by
 simp only[Rep];exact⟨a,xs,rfl,.inl h,r⟩
theorem Rel.frzSlotM{i:Nat}{w0:W}{m:Mu}{d:D}(r:Rel K B G σ env H)(e:env[i]? =some w0)(em:w0.mut=some m)(hrep:∀G1 a o,G1 a=some o->RepM K G1 o m->Rep K G1 (.ref a) d):
  ∃a o,σ[i]? =some (some (.ref a))/\Rep K (upd G a o) (.ref a) d/\Ev K B G σ env H (upd G a o) σ (env.set i (.dat d)) H:=by
 obtain⟨a,o,e1,e2,e3,e4⟩:=r.own i _ m e em;have rp:Rep K (upd G a o) (.ref a) d:=hrep _ a o y3_ (e3.mono (Le.upd e4));have ow:Owned σ env a:=⟨i,_,m,e,em,e1⟩;have hi:i<env.length:=(Qm.mp e).1;have ne:∀j w es,(env.set i (.dat d))[j]? =some w->w.mut=some es->j≠i/\env[j]? =some w:=fun j w es q1 q2=>by
  by_cases hj:j=i
  ·subst hj;rw[Yr hi]at q1;cases q1;cases q2
  ·rw[Qs (Zl hj)]at q1;exact⟨hj,q1⟩
 refine⟨a,o,e1,rp,⟨⟨fun b u q=>?_,by rw[Zo];exact r.len,fun j d q=>?_,fun j w es q1 q2=>?_,fun j k w w' es fs b q1 q2 q3 q4 q5 q6=>?_,fun j w b q1 qo q2=>?_,r.old,r.tabs,a5s r.gnt e3.nt⟩,Le.upd e4,fun b o _ _ q=>q,fun b q=>q,fun b q n g=>?_,fun b z=>?_,fun j w q qp=>?_,rfl⟩⟩
 ·by_cases hb:b=a
  ·subst hb;rw[y3_]at q;cases q;exact e2
  ·rw[q4_ hb]at q;exact r.sub b u q
 ·by_cases hj:j=i
  ·subst hj;rw[Yr hi]at q;cases q;exact⟨_,e1,rp⟩
  ·rw[Qs (Zl hj)]at q
   obtain⟨x,q1,q2⟩:=r.dat j d q;exact⟨x,q1,Rep.mono (Le.upd e4) d q2⟩
 ·obtain⟨hj,q⟩:=ne j w es q1 q2
  obtain⟨p,ys,e3',e4',e5',e6'⟩:=r.own j w es q q2;have hp:p≠a:=fun z=>hj (r.inj j i w _ es m a q q2 e em (by rw[e3',z]) e1)
  exact⟨p,ys,e3',e4',e5'.mono (Le.upd e4),by rw[q4_ hp];exact e6'⟩
 ·exact r.inj j k w w' es fs b (ne j w es q1 q2).2 q2 (ne k w' fs q3 q4).2 q4 q5 q6
 ·obtain⟨es,hm⟩:=own_mut qo
  exact r.fresh j w b (ne j _ es q1 hm).2 qo q2
 ·have hb:b≠a:=fun z=>n (z ▸ ow)
  rw[q4_ hb];exact g
 ·obtain⟨j,w,es,q1,q2,q3⟩:=z
  exact .inl ⟨j,w,es,(ne j w es q1 q2).2,q2,q3⟩
 ·obtain⟨es,hm⟩:=par_mut qp
  exact⟨rfl,w,(ne j _ es q hm).2,qp⟩
theorem Rel.frzSlot{i:Nat}{ds:List D}(r:Rel K B G σ env H)(e:env[i]? =some (.own ds)):
  ∃a o,σ[i]? =some (some (.ref a))/\Rep K (upd G a o) (.ref a) (.lst ds)/\Ev K B G σ env H (upd G a o) σ (env.set i (.dat (.lst ds))) H:=
 r.frzSlotM (m:=.l ds) e rfl fun G1 a o h ⟨xs,z,q⟩=>by subst z;exact a8K h q
theorem Rel.frzSlotD{i:Nat}{ks:OI}{vs:List D}(r:Rel K B G σ env H)(e:env[i]? =some (.ownD ks vs)):
  ∃a o,σ[i]? =some (some (.ref a))/\Rep K (upd G a o) (.ref a) (.dct ks vs)/\Ev K B G σ env H (upd G a o) σ (env.set i (.dat (.dct ks vs))) H:=
 r.frzSlotM (m:=.d ks vs) e rfl fun G1 a o h ⟨kvs,z,q1,q2⟩=>by subst z;simp only[Rep];exact⟨a,kvs,rfl,h,q1,q2⟩
end
def z0_(i:Nat):Mo D:=fun env=>match env[i]? with
 |some (.dat d)=>some (d,env)
 |some (.own ds)=>some (.lst ds,env.set i (.dat (.lst ds)))
 |some (.ownD ks vs)=>some (.dct ks vs,env.set i (.dat (.dct ks vs)))
 |_=>none
def mC(d:D):Mo D:=fun env=>some (d,env)
section
variable{X:Cx}{B:OA}{pos:Pos}
theorem z3_{i:Nat}{x:Str}(h:PE X (.Name x pos) (a0x i)):ED X B (.Name x pos) (z0_ i):=by
 refine pe_imp h fun σ H Q q=>?_
 obtain⟨G,env,d,env',r,e,k⟩:=q;unfold z0_ at e;split at e
 ·rename_i d' e1
  cases e;obtain⟨v,e2,e3⟩:=r.dat i _ e1;exact⟨v,e2,k v G H (.refl r) e3⟩
 ·rename_i ds e1
  cases e;obtain⟨a,xs,e2,e3,e4⟩:=r.frzSlot e1;exact⟨_,e2,k _ _ H e4 e3⟩
 ·rename_i ks vs e1
  cases e;obtain⟨a,xs,e2,e3,e4⟩:=r.frzSlotD e1;exact⟨_,e2,k _ _ H e4 e3⟩
 ·cases e
theorem a4e{e:Expr}{v:V}{d:D}(h:PE X e (tC v))(hd:∀K G,Rep K G v d):ED X B e (mC d):=by
 refine pe_imp h fun σ H Q q=>?_
 obtain⟨G,env,d',env',r,e,k⟩:=q;cases e;exact k v G H (.refl r) (hd _ _)
theorem v1_{i:Int}{j:Nat}:ED X B (.Constant (.int i) j pos) (mC (.int i)):=a4e a5b fun _ _=>by simp only[Rep]
theorem j7_{b:Bool}{j:Nat}:ED X B (.Constant (.bool b) j pos) (mC (.bl b)):=a4e b2Q fun _ _=>by simp only[Rep]
theorem x8_{x:Str}{j:Nat}(hx:x.length≤1000):ED X B (.Constant (.str x) j pos) (mC (.str x)):=a4e b2R fun _ _=>by simp only[Rep];exact⟨trivial,Jm (a3d hx)⟩
theorem b4D{x:Str}{i:Int}{t:Tok}(hg:Gl X x)(hm:X.mg x=some (.int i t))(hd:(x==("__debug__":Str))=false:=by decide):ED X B (.Name x pos) (mC (.int i)):=
 a4e (a3S (v:=.int i) hg hm ⟨t,rfl⟩ hd) fun _ _=>by simp only[Rep]
def z4_(f:D->D->Option D)(ma mb:Mo D):Mo D:=fun env=>(ma env).bind fun p=>(mb p.2).bind fun q=>(f p.1 q.1).map fun d=>(d,q.2)
def OpD(X:Cx)(B:OA)(r:R2)(f:D->D->Option D):Prop:=
 ∀(G:Hp) (σ:St) (env:Env') (H:Hp) (x y:V) (a b c:D) (Q:VK),Rel X.K B G σ env H->Rep X.K G x a->Rep X.K G y b->f a b=some c->
  (∀v G' H',Ev X.K B G σ env H G' σ env H'->Rep X.K G' v c->Q v H')->r x y H Q
theorem a4f{r:R2}{f:D->D->Option D}{ma mb:Mo D}(o:OpD X B r f):∀σ H Q,TD X.K B (z4_ f ma mb) σ H Q->tOp r (TD X.K B ma) (TD X.K B mb) σ H Q:=by
 rintro σ H Q ⟨G,env,d,env',rl,e,k⟩;unfold z4_ at e;cases ea:ma env with
 |none=>rw[ea]at e;cases e
 |some p=>
  obtain⟨d1,env1⟩:=p;rw[ea]at e;simp only[Qv]at e;cases eb:mb env1 with
  |none=>rw[eb]at e;cases e
  |some p=>
   obtain⟨d2,env2⟩:=p;rw[eb]at e;simp only[Qv]at e;cases ef:f d1 d2 with
   |none=>rw[ef]at e;cases e
   |some c=>
    rw[ef]at e;cases e;refine⟨G,env,d1,env1,rl,ea,fun v1 G1 H1 v r1=>⟨G1,env1,d2,_,v.rel,eb,fun v2 G2 H2 v' r2=>?_⟩⟩
    exact o G2 σ _ H2 v1 v2 d1 d2 _ Q v'.rel (Rep.mono v'.same _ r1) r2 ef fun v3 G3 H3 v3' r3=>k v3 G3 H3 ((v.trans v').trans v3') r3
theorem y8_{op:Operator}{r:R2}{f:D->D->Option D}{a b:Expr}{ma mb:Mo D}(ho:OpR X (binaryOp op) r)(o:OpD X B r f)(ha:ED X B a ma)(hb:ED X B b mb):ED X B (.BinOp a op b pos) (z4_ f ma mb):=
 pe_imp (a8l ho ha hb) (a4f o)
theorem b4E{op:CmpOp}{r:R2}{f:D->D->Option D}{a b:Expr}{ma mb:Mo D}(ho:OpR X (compareOp op) r)(o:OpD X B r f)(ha:ED X B a ma)(hb:ED X B b mb)(hm:behindInMarks op b=false):ED X B (.Compare a [op] [b] pos) (z4_ f ma mb):=
 pe_imp (b3U ho ha hb hm) (a4f o)
def fI(C:Int->Int->Bool)(g:Int->Int->D):D->D->Option D
 |.int i,.int j=>if C i j then some (g i j)else none
 |_,_=>none
theorem a4g{C:Int->Int->Prop}{c:Int->Int->Bool}{g:Int->Int->V}{g':Int->Int->D}(hc:∀i j,c i j=true->C i j)(hg:∀K G i j,Rep K G (g i j) (g' i j)):OpD X B (rI C g) (fI c g'):=by
 intro G σ env H x y a b d Q rl ra rb e k;cases a<;>cases b<;>first|(exact absurd (show(none:Option D)=some d from e) (by simp))|skip
 rename_i i j;simp only[Rep]at ra rb;subst ra rb;simp only[fI]at e;split at e
 ·rename_i h
  cases e;exact⟨i,j,rfl,rfl,hc i j h,k _ G H (.refl rl) (hg _ _ i j)⟩
 ·cases e
theorem a3f{g:Int->Int->V}{g':Int->Int->D}(hg:∀K G i j,Rep K G (g i j) (g' i j)):OpD X B (rI0 g) (fI (fun _ _=>true) g'):=by
 intro G σ env H x y a b d Q rl ra rb e k;cases a<;>cases b<;>first|(exact absurd (show(none:Option D)=some d from e) (by simp))|skip
 rename_i i j;simp only[Rep]at ra rb;subst ra rb;simp only[fI,Yv]at e;cases e;exact⟨i,j,rfl,rfl,k _ G H (.refl rl) (hg _ _ i j)⟩
theorem OpR.or{f:Value->Value->Sem Value}{r r':R2}(h:OpR X f r)(h':OpR X f r'):OpR X f (fun x y H Q=>r x y H Q∨r' x y H Q):=by
 intro pins s σ H x y v u Q I rx ry q
 rcases q with q|q
 ·exact h pins s σ H x y v u Q I rx ry q
 ·exact h' pins s σ H x y v u Q I rx ry q
def fOr(f g:D->D->Option D):D->D->Option D:=fun a b=>match f a b with
 |some c=>some c
 |none=>g a b
theorem OpD.or{r r':R2}{f g:D->D->Option D}(h:OpD X B r f)(h':OpD X B r' g):OpD X B (fun x y H Q=>r x y H Q∨r' x y H Q) (fOr f g):=by
 intro G σ env H x y a b d Q rl ra rb e k;unfold fOr at e;split at e
 ·rename_i c ec
  cases e;exact .inl (h G σ env H x y a b _ Q rl ra rb ec k)
 ·exact .inr (h' G σ env H x y a b d Q rl ra rb e k)
def a1I(i j:Int):Bool:=(decide (-(2^64)<i)&&decide (i<2^64))||(decide (-(2^64)<j)&&decide (j<2^64))
def a4h(_ j:Int):Bool:=decide (0<j)&&decide (j<1073741824)
def a4i(i j:Int):Bool:=decide (0≤j)&&decide (j≤1000000)&&decide (i.natAbs<2^64)
def a1J:=fI (fun _ _=>true) fun i j=>.int (i-j)
def a5t:=fI a1I fun i j=>.int (i * j)
def a3g:=fI a4h fun i j=>.int (i/j)
def g0_:=fI (fun _ j=>decide (0<j)) fun i j=>.int (i%j)
def a1i:=fI a4i fun i j=>.int (i^j.toNat)
def a4j:=fI (fun _ _=>true) fun i j=>.int (i+j)
def dLt:=fI (fun _ _=>true) fun i j=>.bl (decide (i<j))
def dLe:=fI (fun _ _=>true) fun i j=>.bl (decide (i≤j))
def dGe:=fI (fun _ _=>true) fun i j=>.bl (decide (j≤i))
theorem a8L:OpD X B (rI0 fun i j=>.int (i-j)) a1J:=a3f fun _ _ _ _=>by simp only[Rep]
theorem a8M:OpD X B (rI0 fun i j=>.int (i+j)) a4j:=a3f fun _ _ _ _=>by simp only[Rep]
theorem b4F:OpD X B (rI a1D fun i j=>.int (i * j)) a5t:=a4g (fun i j h=>by simpa [a1D,a1I]using h) fun _ _ _ _=>by simp only[Rep]
theorem a8N:OpD X B (rI a5j fun i j=>.int (i/j)) a3g:=a4g (fun i j h=>by simpa [a5j,a4h]using h) fun _ _ _ _=>by simp only[Rep]
theorem a1K:OpD X B (rI (fun _ j=>0<j) fun i j=>.int (i%j)) g0_:=a4g (fun i j h=>by simpa using h) fun _ _ _ _=>by simp only[Rep]
theorem a8O:OpD X B (rI a5k fun i j=>.int (i^j.toNat)) a1i:=a4g (fun i j h=>by simpa [a5k,a4i,and_assoc]using h) fun _ _ _ _=>by simp only[Rep]
theorem b4G:OpD X B (rI0 fun i j=>.bl (decide (i<j))) dLt:=a3f fun _ _ _ _=>by simp only[Rep]
theorem a2t:OpD X B (rI0 fun i j=>.bl (decide (i≤j))) dLe:=a3f fun _ _ _ _=>by simp only[Rep]
theorem b4H:OpD X B (rI0 fun i j=>.bl (decide (j≤i))) dGe:=a3f fun _ _ _ _=>by simp only[Rep]
end
section
variable{X:Cx}{B:OA}{pos:Pos}{a b c e:Expr}{ma mb mc:Mo D}{ta tb:Mo Bool}
theorem TD.bind{K:Qz}{m:Mo D}{σ:St}{H:Hp}{Q:VK}{G:Hp}{env env':Env'}{d:D}(r:Rel K B G σ env H)(e:m env=some (d,env'))
  (k:∀v G' H',Ev K B G σ env H G' σ env' H'->Rep K G' v d->Q v H'):TD K B m σ H Q:=⟨G,env,d,env',r,e,k⟩
def asB:D×Env'->Option (Bool×Env')
 |(.bl b,e)=>some (b,e)
 |_=>none
def mT(m:Mo D):Mo Bool:=fun env=>(m env).bind asB
theorem a5u{t:TE}{m:Mo D}(i:∀σ H Q,TD X.K B m σ H Q->t σ H Q)(mono:True):∀σ H Q,TTm X.K B (mT m) σ H Q->(fun σ H (Q:Bool->Hp->Prop)=>t σ H fun x H'=>∃k,x=.bl k/\Q k H') σ H Q:=by
 rintro σ H Q ⟨G,env,b,env',rl,e,k⟩;unfold mT at e;cases em:m env with
 |none=>rw[em]at e;cases e
 |some p=>
  obtain⟨d,env1⟩:=p;rw[em]at e;simp only[Qv]at e;cases d<;>first|(exact absurd (show(none:Option (Bool×Env'))=some (b,env')from e) (by simp))|skip
  cases e;refine i σ H _ (.bind rl em fun v G' H' ev r=>?_)
  simp only[Rep]at r;exact⟨_,r,k G' H' ev⟩
theorem a1L(h:ED X B e ma)(he:∀whole,isTrue e X.env whole=(do let v←whole;standAt e.pos;holding [v] (truthy v)):=by intro _;rfl):ET X B e (mT ma):=
 pt_imp (b2U h he) (a5u (fun _ _ _ q=>q) trivial)
theorem k9_{op:CmpOp}{r:R2}{f:D->D->Option D}(ho:OpR X (compareOp op) r)(o:OpD X B r f)(ha:ED X B a ma)(hb:ED X B b mb)(hm:behindInMarks op b=false):ET X B (.Compare a [op] [b] pos) (mT (z4_ f ma mb)):=
 pt_imp (b3V ho ha hb hm) (a5u (a4f o) trivial)
def w9_(t:Mo Bool):Mo Bool:=fun env=>(t env).map fun p=>(!p.1,p.2)
theorem a1M(h:ET X B a ta):ET X B (.UnaryOp .Not a pos) (w9_ ta):=by
 refine pt_imp (b3a h) ?_
 rintro σ H Q ⟨G,env,b,env',rl,e,k⟩;unfold w9_ at e;cases em:ta env with
 |none=>rw[em]at e;cases e
 |some p=>rw[em]at e;cases e;exact⟨G,env,_,_,rl,em,k⟩
def a4k(t u:Mo Bool):Mo Bool:=fun env=>(t env).bind fun p=>if p.1 then u p.2 else some (false,p.2)
def x9_(t u:Mo Bool):Mo Bool:=fun env=>(t env).bind fun p=>if p.1 then some (true,p.2)else u p.2
theorem b4I:∀σ H Q,TTm X.K B (a4k ta tb) σ H Q->a8g (TTm X.K B ta) (TTm X.K B tb) σ H Q:=by
 rintro σ H Q ⟨G,env,b,env',rl,e,k⟩;unfold a4k at e;cases em:ta env with
 |none=>rw[em]at e;cases e
 |some p=>
  obtain⟨b1,env1⟩:=p;rw[em]at e;simp only[Qv]at e;refine⟨G,env,b1,env1,rl,em,fun G1 H1 ev=>?_⟩
  cases b1 with
  |true=>
   simp only[Yv]at e ⊢;exact⟨G1,env1,b,env',ev.rel,e,fun G2 H2 ev2=>k G2 H2 (ev.trans ev2)⟩
  |false=>
   simp only[Qh,Zv]at e ⊢;cases e;exact k G1 H1 ev
theorem b4J:∀σ H Q,TTm X.K B (x9_ ta tb) σ H Q->tOr (TTm X.K B ta) (TTm X.K B tb) σ H Q:=by
 rintro σ H Q ⟨G,env,b,env',rl,e,k⟩;unfold x9_ at e;cases em:ta env with
 |none=>rw[em]at e;cases e
 |some p=>
  obtain⟨b1,env1⟩:=p;rw[em]at e;simp only[Qv]at e;refine⟨G,env,b1,env1,rl,em,fun G1 H1 ev=>?_⟩
  cases b1 with
  |false=>
   simp only[Qh,Zv]at e ⊢;exact⟨G1,env1,b,env',ev.rel,e,fun G2 H2 ev2=>k G2 H2 (ev.trans ev2)⟩
  |true=>
   simp only[Yv]at e ⊢;cases e;exact k G1 H1 ev
abbrev EW(X:Cx)(B:OA)(e:Expr)(m:Mo Bool):Prop:=PW X e (TTm X.K B m)
variable{rest:List Expr}
theorem b4K(h:ET X B a ta):EW X B (.BoolOp .And [a] pos) ta:=b2W h
theorem a0N(h:ET X B a ta):EW X B (.BoolOp .Or [a] pos) ta:=b2X h
theorem b4L(h:ET X B a ta)(h2:EW X B (.BoolOp .And (b::rest) pos) tb):EW X B (.BoolOp .And (a::b::rest) pos) (a4k ta tb):=pw_imp (b2Y h h2) b4I
theorem a0O(h:ET X B a ta)(h2:EW X B (.BoolOp .Or (b::rest) pos) tb):EW X B (.BoolOp .Or (a::b::rest) pos) (x9_ ta tb):=pw_imp (b2Z h h2) b4J
theorem a0z(h:EW X B e ta):ET X B e ta:=h.pt
def a0b(m n:Mo D):Mo D:=fun env=>(m env).bind fun p=>match p.1 with
 |.bl true=>n p.2
 |.bl false=>some (.bl false,p.2)
 |_=>none
theorem a8P{op}(h:ED X B a ma):ED X B (.BoolOp op [a] pos) ma:=b3d h
theorem a8Q(ha:ED X B a ma)(hb:ED X B (.BoolOp .And (b::rest) pos) mb):ED X B (.BoolOp .And (a::b::rest) pos) (a0b ma mb):=by
 refine pe_imp (b3e ha hb) ?_
 rintro σ H Q ⟨G,env,d,env',rl,e,k⟩;unfold a0b at e;cases em:ma env with
 |none=>rw[em]at e;cases e
 |some p=>
  obtain⟨d1,env1⟩:=p;rw[em]at e;simp only[Qv]at e;refine .bind rl em fun v G1 H1 ev r1=>?_
  split at e
  ·simp only[Rep]at r1
   exact⟨true,r1,by simp only[Yv];exact .bind ev.rel e fun v2 G2 H2 ev2 r2=>k v2 G2 H2 (ev.trans ev2) r2⟩
  ·simp only[Rep]at r1
   cases e;exact⟨false,r1,by simp only[Qh,Zv];exact k _ G1 H1 ev (by simp only[Rep])⟩
  ·cases e
def a5v(m:Mo D):Mo D:=fun env=>(m env).bind fun p=>match p.1 with
 |.bl b=>some (.bl (!b),p.2)
 |_=>none
theorem b4M(ha:ED X B a ma):ED X B (.UnaryOp .Not a pos) (a5v ma):=by
 refine pe_imp (b3f ha) ?_
 rintro σ H Q ⟨G,env,d,env',rl,e,k⟩;unfold a5v at e;cases em:ma env with
 |none=>rw[em]at e;cases e
 |some p=>
  obtain⟨d1,env1⟩:=p;rw[em]at e;simp only[Qv]at e;refine .bind rl em fun v G1 H1 ev r1=>?_
  split at e
  ·rename_i b1
   simp only[Rep]at r1;cases e;exact⟨b1,r1,k _ G1 H1 ev (by simp only[Rep])⟩
  ·cases e
def a4l(m:Mo D):Mo D:=fun env=>(m env).bind fun p=>match p.1 with
 |.int b=>some (.int (-b),p.2)
 |_=>none
theorem a8R(ha:ED X B a ma):ED X B (.UnaryOp .USub a pos) (a4l ma):=by
 refine pe_imp (a8m a8q ha) ?_
 rintro σ H Q ⟨G,env,d,env',rl,e,k⟩;unfold a4l at e;cases em:ma env with
 |none=>rw[em]at e;cases e
 |some p=>
  obtain⟨d1,env1⟩:=p;rw[em]at e;simp only[Qv]at e;refine .bind rl em fun v G1 H1 ev r1=>?_
  split at e
  ·rename_i b1
   simp only[Rep]at r1;cases e;exact⟨b1,r1,k _ G1 H1 ev (by simp only[Rep])⟩
  ·cases e
def a1N(f g:D->D->Option D)(ma mb mc:Mo D):Mo D:=fun env=>(ma env).bind fun p=>(mb p.2).bind fun q=>match f p.1 q.1 with
 |some (.bl true)=>(mc q.2).bind fun r=>(g q.1 r.1).map fun d=>(d,r.2)
 |some (.bl false)=>some (.bl false,q.2)
 |_=>none
theorem b4N{r r':R2}{f g:D->D->Option D}(o:OpD X B r f)(o':OpD X B r' g):∀σ H Q,TD X.K B (a1N f g ma mb mc) σ H Q->a8s r r' (TD X.K B ma) (TD X.K B mb) (TD X.K B mc) σ H Q:=by
 rintro σ H Q ⟨G,env,d,env',rl,e,k⟩;unfold a1N at e;cases ea:ma env with
 |none=>rw[ea]at e;cases e
 |some p=>
  obtain⟨d1,env1⟩:=p;rw[ea]at e;simp only[Qv]at e;cases eb:mb env1 with
  |none=>rw[eb]at e;cases e
  |some p=>
   obtain⟨d2,env2⟩:=p;rw[eb]at e;simp only[Qv]at e;refine .bind rl ea fun v1 G1 H1 ev1 r1=>.bind ev1.rel eb fun v2 G2 H2 ev2 r2=>?_
   split at e
   ·rename_i ef
    refine o G2 σ _ H2 v1 v2 d1 d2 _ _ ev2.rel (Rep.mono ev2.same _ r1) r2 ef fun v3 G3 H3 ev3 r3=>?_
    simp only[Rep]at r3;refine⟨true,r3,?_⟩;simp only[Yv];cases ec:mc env2 with
    |none=>rw[ec]at e;cases e
    |some p=>
     obtain⟨d3,env3⟩:=p;rw[ec]at e;simp only[Qv]at e;cases eg:g d2 d3 with
     |none=>rw[eg]at e;cases e
     |some d4=>
      rw[eg]at e;cases e;refine .bind ev3.rel ec fun v4 G4 H4 ev4 r4=>?_
      exact o' G4 σ _ H4 v2 v4 d2 d3 _ Q ev4.rel (Rep.mono ev4.same _ (Rep.mono ev3.same _ r2)) r4 eg fun v5 G5 H5 ev5 r5=>k v5 G5 H5 ((((ev1.trans ev2).trans ev3).trans ev4).trans ev5) r5
   ·rename_i ef
    cases e;refine o G2 σ _ H2 v1 v2 d1 d2 _ _ ev2.rel (Rep.mono ev2.same _ r1) r2 ef fun v3 G3 H3 ev3 r3=>?_
    simp only[Rep]at r3;refine⟨false,r3,?_⟩;simp only[Qh,Zv];exact k _ G3 H3 ((ev1.trans ev2).trans ev3) (by simp only[Rep])
   ·cases e
theorem a5w{op op':CmpOp}{r r':R2}{f g:D->D->Option D}(ho:OpR X (compareOp op) r)(ho':OpR X (compareOp op') r')(o:OpD X B r f)(o':OpD X B r' g)(ha:ED X B a ma)(hb:ED X B b mb)(hc:ED X B c mc)
  (hm:lastMarks [op,op'] [b,c]=false:=by with_unfolding_all rfl):ET X B (.Compare a [op,op'] [b,c] pos) (mT (a1N f g ma mb mc)):=pt_imp (b3W ho ho' ha hb hc hm) (a5u (b4N o o') trivial)
variable{es:List Expr}{ms:Mo (List D)}{as:Mo (List Ar)}
def z7_:Mo (List D):=fun env=>some ([],env)
def z2_(m:Mo D)(ms:Mo (List D)):Mo (List D):=fun env=>(m env).bind fun p=>(ms p.2).map fun q=>(p.1::q.1,q.2)
theorem q9_:EDs X B [] z7_:=by
 refine pa_imp a3c ?_
 rintro σ H Q ⟨G,env,d,env',rl,e,k⟩;cases e;exact k [] G H (.refl rl) repL_nil
theorem z9_(ha:ED X B e ma)(hr:EDs X B es ms)(hs:starEach (e::es) X.env=(false,eval e X.env)::starEach es X.env:=by rfl):EDs X B (e::es) (z2_ ma ms):=by
 refine pa_imp (a1F ha hr hs) ?_
 rintro σ H Q ⟨G,env,d,env',rl,e,k⟩;unfold z2_ at e;cases ea:ma env with
 |none=>rw[ea]at e;cases e
 |some p=>
  obtain⟨d1,env1⟩:=p;rw[ea]at e;simp only[Qv]at e;cases eb:ms env1 with
  |none=>rw[eb]at e;cases e
  |some p=>
   obtain⟨d2,env2⟩:=p;rw[eb]at e;cases e;exact .bind rl ea fun v1 G1 H1 ev1 r1=>⟨G1,env1,d2,_,ev1.rel,eb,fun vs G2 H2 ev2 r2=>k _ G2 H2 (ev1.trans ev2) (repL_cons (Rep.mono ev2.same _ r1) r2)⟩
def z8_:Mo (List Ar):=fun env=>some ([],env)
def z6_(m:Mo D)(ms:Mo (List Ar)):Mo (List Ar):=fun env=>(m env).bind fun p=>(ms p.2).map fun q=>(.d p.1::q.1,q.2)
def a0k(i:Nat)(ms:Mo (List Ar)):Mo (List Ar):=fun env=>((env[i]?).bind W.mut).bind fun _=>(ms env).map fun q=>(.sl i::q.1,q.2)
theorem v3_:EAr X B [] z8_:=by
 refine pa_imp a3c ?_
 rintro σ H Q ⟨G,env,d,env',rl,e,k⟩;cases e;exact k [] G H (.refl rl) (by simp only[RepA])
theorem q5_(ha:ED X B e ma)(hr:EAr X B es as)(hs:starEach (e::es) X.env=(false,eval e X.env)::starEach es X.env:=by rfl):EAr X B (e::es) (z6_ ma as):=by
 refine pa_imp (a1F ha hr hs) ?_
 rintro σ H Q ⟨G,env,d,env',rl,e,k⟩;unfold z6_ at e;cases ea:ma env with
 |none=>rw[ea]at e;cases e
 |some p=>
  obtain⟨d1,env1⟩:=p;rw[ea]at e;simp only[Qv]at e;cases eb:as env1 with
  |none=>rw[eb]at e;cases e
  |some p=>
   obtain⟨d2,env2⟩:=p;rw[eb]at e;cases e;exact .bind rl ea fun v1 G1 H1 ev1 r1=>⟨G1,env1,d2,_,ev1.rel,eb,fun vs G2 H2 ev2 r2=>k _ G2 H2 (ev1.trans ev2) (by simp only[RepA];exact⟨_,_,rfl,Rep.mono ev2.same _ r1,r2⟩)⟩
theorem a5x{i:Nat}{x:Str}{p:Pos}(ha:PE X (.Name x p) (a0x i))(hr:EAr X B es as)(hs:starEach (.Name x p::es) X.env=(false,eval (.Name x p) X.env)::starEach es X.env:=by rfl):EAr X B (.Name x p::es) (a0k i as):=by
 refine pa_imp (a1F ha hr hs) ?_
 rintro σ H Q ⟨G,env,d,env',rl,e,k⟩;unfold a0k at e;cases ew:env[i]? with
 |none=>rw[ew]at e;cases e
 |some w=>
  rw[ew]at e;simp only[Qv]at e;cases em:w.mut with
  |none=>rw[em]at e;cases e
  |some ds=>
   rw[em]at e;simp only[Qv]at e;cases eb:as env with
   |none=>rw[eb]at e;cases e
   |some p=>
    obtain⟨d2,env2⟩:=p;rw[eb]at e;cases e;obtain⟨a',xs,hv,_⟩:=rl.own i w ds ew em;exact⟨_,hv,G,env,d2,_,rl,eb,fun vs G2 H2 ev2 r2=>k _ G2 H2 ev2 (by simp only[RepA];exact⟨_,_,rfl,hv,r2⟩)⟩
end
section
variable{X:Cx}{B:OA}{pos:Pos}{a b c e:Expr}{ma mb mc:Mo D}{ms:Mo (List D)}{es:List Expr}
theorem q1_{α β:Type}{o:Option α}{f:α->Option β}{y:β}(h:o.bind f=some y):∃x,o=some x/\f x=some y:=by
 cases o with
 |none=>cases h
 |some x=>exact⟨x,rfl,h⟩
theorem v8_{α β:Type}{o:Option α}{f:α->β}{y:β}(h:o.map f=some y):∃x,o=some x/\f x=y:=by
 cases o with
 |none=>cases h
 |some x=>exact⟨x,rfl,Za h⟩
def g1_(ms:Mo (List D)):Mo D:=fun env=>(ms env).bind fun p=>if p.1.length≤1000 then some (.tup p.1,p.2)else none
theorem a0P{x1:Nat}(h:EDs X B es ms):ED X B (.Tuple es x1 pos) (g1_ ms):=by
 refine pe_imp (b4e h) ?_
 rintro σ H Q ⟨G,env,d,env',rl,e,k⟩;obtain⟨⟨ds,env1⟩,e1,e2⟩:=q1_ e;dsimp only at e2;split at e2
 ·rename_i hl
  cases e2;refine⟨G,env,ds,_,rl,e1,fun vs G1 H1 ev r1=>⟨by rw[r1.length];exact Jm (a3d hl),fun p hp=>?_⟩⟩
  exact k _ _ _ (ev.trans (ev.rel.alloc hp)) (a2s y3_ (z5_.mono (Le.upd (ev.rel.gnone hp)) _ r1))
 ·cases e2
def y1_(ms:Mo (List D)):Mo (List D):=fun env=>(ms env).bind fun p=>if p.1.length≤1000 then some p else none
theorem a5y{K:Qz}{G G1:Hp}{σ:St}{env env1:Env'}{H H1:Hp}{p:Addr}{xs:List V}{ds:List D}{Q:VK}(ev:Ev K B G σ env H G1 σ env1 H1)(hp:H1 p=none)(r:z5_ K G1 xs ds)
  (k:∀a xs G' H',Ev K B G σ env H G' σ env1 H'->H a=none-> ¬ Owned σ env1 a->H' a=some (.lst xs)->G' a=none->z5_ K G' xs ds->Q (.ref a) H'):Q (.ref p) (upd H1 p (.lst xs)):=by
 refine k p xs G1 _ (ev.trans (ev.rel.allocM hp)) ?_ (ev.rel.unowned hp) y3_ (ev.rel.gnone hp) r;cases h:H p with
 |none=>rfl
 |some o=>exact absurd hp (ev.live p (by rw[h];simp))
theorem j8_(h:EDs X B es ms):EL X B (.List es pos) (y1_ ms):=by
 refine pe_imp (b4f h) ?_
 rintro σ H Q ⟨G,env,d,env',rl,e,k⟩;obtain⟨⟨ds,env1⟩,e1,e2⟩:=q1_ e;dsimp only at e2;split at e2
 ·rename_i hl
  cases e2;exact⟨G,env,_,_,rl,e1,fun vs G1 H1 ev r1=>⟨by rw[r1.length];exact Jm (a3d hl),fun p hp=>a5y ev hp r1 k⟩⟩
 ·cases e2
def mF(m:Mo (List D)):Mo D:=fun env=>(m env).map fun p=>(.lst p.1,p.2)
theorem x6_(h:EL X B e ms):ED X B e (mF ms):=by
 refine pe_imp h ?_
 rintro σ H Q ⟨G,env,d,env',rl,e,k⟩;obtain⟨⟨ds,env1⟩,e1,e2⟩:=v8_ e;cases e2;exact⟨G,env,ds,_,rl,e1,fun a xs G' H' ev ha no h' g' r=>k (.ref a) _ H' (ev.frz ha no h' g') (a8K y3_ (z5_.mono (Le.upd g') ds r))⟩
theorem a5z{K:Qz}{G:Hp}{xs:List V}{ds:List D}{k:Int}{d:D}(r:z5_ K G xs ds)(h:atI ds k=some d):∃x,atI xs k=some x/\Rep K G x d:=by
 unfold atI at h ⊢;rw[r.length];obtain⟨j,e1,e2⟩:=q1_ h;rw[e1];exact r.get e2
def dIx:D->D->Option D
 |.lst ds,.int k=>atI ds k
 |.tup ds,.int k=>atI ds k
 |_,_=>none
theorem b4O:OpD X B (rIx X.K) dIx:=by
 intro G σ env H x y a b d Q rl ra rb e k;cases a<;>cases b<;>first|(exact absurd (show(none:Option D)=some d from e) (by simp))|skip
 ·simp only[Rep]at ra rb
  obtain⟨p,xs,e1,q,r⟩:=ra;subst e1 rb;obtain⟨v,e3,e4⟩:=a5z r e;exact .inr (.inl ⟨p,xs,_,v,rfl,rfl,rl.sub.sqT q,e3,k v G H (.refl rl) e4⟩)
 ·simp only[Rep]at ra rb
  obtain⟨p,xs,e1,q,r⟩:=ra;subst e1 rb;obtain⟨v,e3,e4⟩:=a5z r e;exact .inl ⟨p,xs,_,v,rfl,rfl,rl.sub.sqL q,e3,k v G H (.refl rl) e4⟩
theorem a0Q(ha:ED X B a ma)(hb:ED X B b mb)(hs:a3Z b):ED X B (.Subscript a b pos) (z4_ dIx ma mb):=pe_imp (a8C b4l ha hb hs) (a4f b4O)
def g2_(i:Nat)(mb:Mo D):Mo D:=fun env=>(mb env).bind fun p=>((p.2[i]?).bind W.mutL).bind fun ds=>(dIx (.lst ds) p.1).map fun d=>(d,p.2)
theorem a1O{i:Nat}{x:Str}{p:Pos}(ha:PE X (.Name x p) (a0x i))(hb:ED X B b mb)(hs:a3Z b)(hr:∀env d env' w ds,mb env=some (d,env')->env'[i]? =some w->w.mut=some ds->∃w0 ds0,env[i]? =some w0/\w0.mut=some ds0):
  ED X B (.Subscript (.Name x p) b pos) (g2_ i mb):=by
 refine pe_imp (a8C a8G ha hb hs) ?_
 rintro σ H Q ⟨G,env,d,env',rl,e,k⟩;obtain⟨⟨d1,env1⟩,e1,e2⟩:=q1_ e;obtain⟨ds,e3,e4⟩:=q1_ e2;obtain⟨w,e5,e6⟩:=q1_ e3;obtain⟨d2,e7,e8⟩:=v8_ e4;cases e8;obtain⟨w0,ds0,e9,e10⟩:=hr env d1 _ w (.l ds) e1 e5 (W.mutL_of e6);obtain⟨q,xs,h1,_⟩:=rl.own i w0 ds0 e9 e10;refine⟨_,h1,.bind rl e1 fun v G1 H1 ev r1=>?_⟩
 obtain⟨q',ys,h2,h3,h4,h5⟩:=ev.rel.ownL i w ds e5 e6;rw[h1]at h2;cases h2;dsimp only at e7;cases d1<;>first|(exact absurd (show(none:Option D)=some _ from e7) (by simp))|skip
 simp only[Rep]at r1;obtain⟨z,h6,h7⟩:=a5z h4 e7;exact⟨q,ys,_,z,rfl,r1,.inl (.inl h3),h6,k z G1 H1 ev h7⟩
def a0A(X:Cx)(B:OA)(r:List V->Hp->VK->Prop)(f:List D->Option D):Prop:=
 ∀(G:Hp) (σ:St) (env:Env') (H:Hp) (xs:List V) (ds:List D) (c:D) (Q:VK),Rel X.K B G σ env H->z5_ X.K G xs ds->f ds=some c->
  (∀v G' H',Ev X.K B G σ env H G' σ env H'->Rep X.K G' v c->Q v H')->r xs H Q
def a5A(X:Cx)(B:OA)(r:List V->Hp->VK->Prop)(f:List D->Option (List D)):Prop:=
 ∀(G:Hp) (σ:St) (env:Env') (H:Hp) (xs:List V) (ds:List D) (c:List D) (Q:VK),Rel X.K B G σ env H->z5_ X.K G xs ds->f ds=some c->
  (∀p ys G' H',Ev X.K B G σ env H G' σ env H'->H' p=none->z5_ X.K G' ys c->Q (.ref p) (upd H' p (.lst ys)))->r xs H Q
def mCB(f:List D->Option D)(ms:Mo (List D)):Mo D:=fun env=>(ms env).bind fun p=>(f p.1).map fun d=>(d,p.2)
def mCL(f:List D->Option (List D))(ms:Mo (List D)):Mo (List D):=fun env=>(ms env).bind fun p=>(f p.1).map fun d=>(d,p.2)
theorem a8S{r:List V->Hp->VK->Prop}{f:List D->Option D}(o:a0A X B r f):∀σ H Q,TD X.K B (mCB f ms) σ H Q->tCB r (TDs X.K B ms) σ H Q:=by
 rintro σ H Q ⟨G,env,d,env',rl,e,k⟩;obtain⟨⟨ds,env1⟩,e1,e2⟩:=q1_ e;obtain⟨d1,e3,e4⟩:=v8_ e2;cases e4;exact⟨G,env,ds,_,rl,e1,fun vs G1 H1 ev r1=>o G1 σ _ H1 vs ds _ Q ev.rel r1 e3 fun v G2 H2 ev2 r2=>k v G2 H2 (ev.trans ev2) r2⟩
theorem b4P{r:List V->Hp->VK->Prop}{f:List D->Option (List D)}(o:a5A X B r f):∀σ H Q,TL X.K B (mCL f ms) σ H Q->tCB r (TDs X.K B ms) σ H Q:=by
 rintro σ H Q ⟨G,env,d,env',rl,e,k⟩;obtain⟨⟨ds,env1⟩,e1,e2⟩:=q1_ e;obtain⟨d1,e3,e4⟩:=v8_ e2;cases e4;exact⟨G,env,ds,_,rl,e1,fun vs G1 H1 ev r1=>o G1 σ _ H1 vs ds _ Q ev.rel r1 e3 fun p ys G2 H2 ev2 hp r2=>a5y (ev.trans ev2) hp r2 k⟩
variable{r:List V->Hp->VK->Prop}{f:List D->Option D}{g:List D->Option (List D)}{id T:String}{x:Str}{p:Pos}
theorem j0_(hc:k5_ X (.builtin id) r)(o:a0A X B r f)(hg:Gl X x)(hm:X.mg x=none)(hv:bootBuiltins x=some (.builtin id))(ha:EDs X B (e::es) ms)(hn:x≠"__name__":=by decide)(hdb:(x==("__debug__":Str))=false:=by decide)
  (he:starEach (e::es) X.env=(false,eval e X.env)::starEach es X.env:=by rfl)(hpl:(backTo pos (starEach es X.env)).any (·.1)=false:=by rfl):ED X B (.Call (.Name x p) (e::es) [] pos) (mCB f ms):=
 pe_imp (a3X hc hg hm hv ha hn hdb he hpl) (a8S o)
theorem a4m(hc:k5_ X (.type T) r)(o:a0A X B r f)(hg:Gl X x)(hm:X.mg x=none)(hv:bootBuiltins x=some (.type T))(ha:EDs X B (e::es) ms)(hn:x≠"__name__":=by decide)(hdb:(x==("__debug__":Str))=false:=by decide)
  (he:starEach (e::es) X.env=(false,eval e X.env)::starEach es X.env:=by rfl)(hpl:(backTo pos (starEach es X.env)).any (·.1)=false:=by rfl):ED X B (.Call (.Name x p) (e::es) [] pos) (mCB f ms):=
 pe_imp (a8A hc hg hm hv ha hn hdb he hpl) (a8S o)
theorem b4Q(hc:k5_ X (.builtin id) r)(o:a5A X B r g)(hg:Gl X x)(hm:X.mg x=none)(hv:bootBuiltins x=some (.builtin id))(ha:EDs X B (e::es) ms)(hn:x≠"__name__":=by decide)(hdb:(x==("__debug__":Str))=false:=by decide)
  (he:starEach (e::es) X.env=(false,eval e X.env)::starEach es X.env:=by rfl)(hpl:(backTo pos (starEach es X.env)).any (·.1)=false:=by rfl):EL X B (.Call (.Name x p) (e::es) [] pos) (mCL g ms):=
 pe_imp (a3X hc hg hm hv ha hn hdb he hpl) (b4P o)
theorem a0l{K:Qz}{G:Hp}{xs:List V}{d:D}(h:z5_ K G xs [d]):∃x,xs=[x]/\Rep K G x d:=by
 simp only[z5_]at h;obtain⟨x,r,e,q,t⟩:=h;subst t;exact⟨x,e,q⟩
theorem a4n{K:Qz}{G:Hp}{xs:List V}{d d':D}(h:z5_ K G xs [d,d']):∃x y,xs=[x,y]/\Rep K G x d/\Rep K G y d':=by
 simp only[z5_]at h;obtain⟨x,r,e,q,y,r2,e2,q2,t⟩:=h;subst t e2;exact⟨x,y,e,q,q2⟩
def D.items:D->Option (List D)
 |.lst ds=>some ds
 |.tup ds=>some ds
 |_=>none
theorem a8T{K:Qz}{G H:Hp}{v:V}{d:D}{ds:List D}(l:Le G H)(r:Rep K G v d)(h:d.items=some ds):∃a xs,v=.ref a/\(SqL K H a xs∨SqT K H a xs)/\z5_ K G xs ds:=by
 cases d<;>first|(exact absurd (show(none:Option (List D))=some ds from h) (by simp))|skip
 ·cases h;simp only[Rep]at r;obtain⟨a,xs,e,q,t⟩:=r;exact⟨a,xs,e,.inr (l.sqT q),t⟩
 ·cases h;simp only[Rep]at r;obtain⟨a,xs,e,q,t⟩:=r;exact⟨a,xs,e,.inl (l.sqL q),t⟩
def x2_:List D->Option D
 |[d]=>d.items.map fun ds=>.int ds.length
 |_=>none
theorem a0m:a0A X B (fun xs H Q=>∃p ys,xs=[.ref p]/\(SqL X.K H p ys∨SqT X.K H p ys)/\Q (.int ys.length) H) x2_:=by
 intro G σ env H xs ds c Q rl r e k
 match ds,e with
 |[d],e=>
  obtain⟨x,rfl,q⟩:=a0l r;obtain⟨ds,e1,e2⟩:=v8_ e;obtain⟨a,ys,rfl,h1,h2⟩:=a8T rl.sub q e1;exact⟨a,ys,rfl,h1,k _ G H (.refl rl) (by rw[←e2,h2.length];simp only[Rep])⟩
def a0B:List D->Option D
 |[d]=>d.items.map fun ds=>.tup ds
 |_=>none
theorem a4o:a0A X B (fun xs H Q=>∃p ys,xs=[.ref p]/\((SqL X.K H p ys/\∀l,H l=none->Q (.ref l) (upd H l (.tup ys)))∨(SqT X.K H p ys/\Q (.ref p) H))) a0B:=by
 intro G σ env H xs ds c Q rl r e k
 match ds,e with
 |[d],e=>
  obtain⟨x,rfl,q⟩:=a0l r;obtain⟨ds,e1,e2⟩:=v8_ e;subst e2;cases d<;>first|(exact absurd (show(none:Option (List D))=some ds from e1) (by simp))|skip
  ·cases e1
   have q0:=q
   simp only[Rep]at q;obtain⟨a,ys,rfl,h1,h2⟩:=q;exact⟨a,ys,rfl,.inr ⟨rl.sub.sqT h1,k _ G H (.refl rl) q0⟩⟩
  ·cases e1
   simp only[Rep]at q;obtain⟨a,ys,rfl,h1,h2⟩:=q;exact⟨a,ys,rfl,.inl ⟨rl.sub.sqL h1,fun l hl=>k _ _ _ (rl.alloc hl) (a2s y3_ (z5_.mono (Le.upd (rl.gnone hl)) _ h2))⟩⟩
end
section
variable{K:Qz}{B:OA}{G G1:Hp}{σ σ1:St}{env env1:Env'}{H H1:Hp}{i:Nat}
theorem k6_{α:Type}{l:List α}{i j:Nat}{a b:α}(h:(l.set i a)[j]? =some b):(j=i/\b=a)∨(j≠i/\l[j]? =some b):=by
 by_cases hj:j=i
 ·subst hj
  have hl:j<l.length:=by
   have:=(Qm.mp h).1;rwa [Zo]at this
  rw[Yr hl]at h;cases h;exact .inl ⟨rfl,rfl⟩
 ·rw[Qs (Zl hj)]at h
  exact .inr ⟨hj,h⟩
theorem a2u{α β:Type}{l:List α}{m:List β}{i:Nat}{a b:α}{c:β}(h:(l.set i a)[i]? =some b)(hl:l.length=m.length):(m.set i c)[i]? =some c:=by
 have:=(Qm.mp h).1;rw[Zo]at this;exact Yr (by omega)
theorem Ev.setDat{v:V}{d:D}(ev:Ev K B G σ env H G1 σ1 env1 H1)(r:Rep K G1 v d):Ev K B G σ env H G1 (σ1.set i (some v)) (env1.set i (.dat d)) H1:=by
 have rl:=ev.rel
 have ne:∀(j:Nat) (w:W) (es:Mu),(env1.set i (.dat d))[j]? =some w->w.mut=some es->j≠i/\env1[j]? =some w:=fun j w es q1 q2=>by
  rcases k6_ q1 with⟨_,z⟩|z
  ·rw[z]at q2;cases q2
  ·exact z
 refine⟨⟨rl.sub,by rw[Zo,Zo];exact rl.len,fun j d' q=>?_,fun j w es q1 q2=>?_,fun j k w w' es fs b q1 q2 q3 q4 q5 q6=>?_,fun j w b q1 qo q2=>?_,rl.old,rl.tabs,rl.gnt⟩,ev.same,ev.keep,ev.live,ev.stay,fun b z=>?_,fun j w q qp=>?_,by rw[Zo];exact ev.slen⟩
 ·rcases k6_ q with⟨z1,z2⟩|⟨z1,z2⟩
  ·subst z1;cases z2
   exact⟨v,a2u q rl.len,r⟩
  ·obtain⟨x,q1,q2⟩:=rl.dat j d' z2
   exact⟨x,by rw[Qs (Zl z1)];exact q1,q2⟩
 ·obtain⟨hj,q⟩:=ne j w es q1 q2
  obtain⟨p,ys,e3,e4⟩:=rl.own j w es q q2;exact⟨p,ys,by rw[Qs (Zl hj)];exact e3,e4⟩
 ·obtain⟨h1,h2⟩:=ne j w es q1 q2
  obtain⟨h3,h4⟩:=ne k w' fs q3 q4;rw[Qs (Zl h1)]at q5;rw[Qs (Zl h3)]at q6;exact rl.inj j k w w' es fs b h2 q2 h4 q4 q5 q6
 ·obtain⟨es,hm⟩:=own_mut qo
  obtain⟨h1,h2⟩:=ne j _ es q1 hm;rw[Qs (Zl h1)]at q2;exact rl.fresh j w b h2 qo q2
 ·obtain⟨j,w,es,q1,q2,q3⟩:=z
  obtain⟨h1,h2⟩:=ne j w es q1 q2;rw[Qs (Zl h1)]at q3;exact ev.sub b ⟨j,w,es,h2,q2,q3⟩
 ·obtain⟨es,hm⟩:=par_mut qp
  obtain⟨h1,h2⟩:=ne j _ es q hm;obtain⟨h3,h4⟩:=ev.par j w h2 qp;exact⟨by rw[Qs (Zl h1)];exact h3,h4⟩
theorem Ev.setOwnM{a:Addr}{o:HO}{m:Mu}{wn:W}(ev:Ev K B G σ env H G1 σ1 env1 H1)(nb:¬ B a)(ha:H a=none)(no:¬ Owned σ1 env1 a)(h1:H1 a=some o)(g1:G1 a=none)(r:RepM K G1 o m)(wm:wn.mut=some m)(wo:wn.isPar=false):
  Ev K B G σ env H G1 (σ1.set i (some (.ref a))) (env1.set i wn) H1:=by
 have rl:=ev.rel
 refine⟨⟨rl.sub,by rw[Zo,Zo];exact rl.len,fun j d' q=>?_,fun j w es q1 q2=>?_,fun j k w w' es fs b q1 q2 q3 q4 q5 q6=>?_,fun j w b q1 qo q2=>?_,rl.old,rl.tabs,rl.gnt⟩,ev.same,ev.keep,ev.live,ev.stay,fun b z=>?_,fun j w q qp=>?_,by rw[Zo];exact ev.slen⟩
 ·rcases k6_ q with⟨z1,z2⟩|⟨z1,z2⟩
  ·rw[←z2]at wm;cases wm
  ·obtain⟨x,q1,q2⟩:=rl.dat j d' z2
   exact⟨x,by rw[Qs (Zl z1)];exact q1,q2⟩
 ·rcases k6_ q1 with⟨z1,z2⟩|⟨z1,z2⟩
  ·subst z1 z2;rw[wm]at q2;cases q2
   exact⟨a,o,a2u q1 rl.len,h1,r,g1⟩
  ·obtain⟨p,ys,e3,e4⟩:=rl.own j w es z2 q2
   exact⟨p,ys,by rw[Qs (Zl z1)];exact e3,e4⟩
 ·rcases k6_ q1 with⟨z1,z2⟩|⟨z1,z2⟩
  ·rcases k6_ q3 with⟨y1,y2⟩|⟨y1,y2⟩
   ·rw[z1,y1]
   ·subst z1
    rw[a2u q1 rl.len]at q5;cases q5;rw[Qs (Zl y1)]at q6;exact absurd ⟨k,w',fs,y2,q4,q6⟩ no
  ·rw[Qs (Zl z1)]at q5
   rcases k6_ q3 with⟨y1,y2⟩|⟨y1,y2⟩
   ·subst y1
    rw[a2u q3 rl.len]at q6;cases q6;exact absurd ⟨j,w,es,z2,q2,q5⟩ no
   ·rw[Qs (Zl y1)]at q6
    exact rl.inj j k w w' es fs b z2 q2 y2 q4 q5 q6
 ·rcases k6_ q1 with⟨z1,z2⟩|⟨z1,z2⟩
  ·subst z1
   rw[a2u q1 rl.len]at q2;cases q2;exact nb
  ·rw[Qs (Zl z1)]at q2
   exact rl.fresh j w b z2 qo q2
 ·obtain⟨j,w,es,q1,q2,q3⟩:=z
  rcases k6_ q1 with⟨z1,z2⟩|⟨z1,z2⟩
  ·subst z1
   rw[a2u q1 rl.len]at q3;cases q3;exact .inr ha
  ·rw[Qs (Zl z1)]at q3
   exact ev.sub b ⟨j,w,es,z2,q2,q3⟩
 ·rcases k6_ q with⟨z1,z2⟩|⟨z1,z2⟩
  ·rw[z2,wo]at qp;cases qp
  ·obtain⟨h3,h4⟩:=ev.par j w z2 qp
   exact⟨by rw[Qs (Zl z1)];exact h3,h4⟩
theorem Ev.setOwn{a:Addr}{xs:List V}{ds:List D}(ev:Ev K B G σ env H G1 σ1 env1 H1)(nb:¬ B a)(ha:H a=none)(no:¬ Owned σ1 env1 a)(h1:H1 a=some (.lst xs))(g1:G1 a=none)(r:z5_ K G1 xs ds):
  Ev K B G σ env H G1 (σ1.set i (some (.ref a))) (env1.set i (.own ds)) H1:=ev.setOwnM (m:=.l ds) nb ha no h1 g1 ⟨xs,rfl,r⟩ rfl rfl
theorem Ev.writeM{a:Addr}{o':HO}{w:W}{m m':Mu}(ev:Ev K B G σ env H G1 σ1 env1 H1)(e1:env1[i]? =some w)(e2:w.mut=some m)(e3:σ1[i]? =some (some (.ref a)))(r:RepM K G1 o' m'):
  Ev K B G σ env H G1 σ1 (env1.set i (w.putM m')) (upd H1 a o'):=by
 have rl:=ev.rel
 obtain⟨a',o0,h1,h2,h3,h4⟩:=rl.own i w m e1 e2;rw[e3]at h1;cases h1;have ow:Owned σ1 env1 a:=⟨i,w,m,e1,e2,e3⟩;have wp:(w.putM m').mut=some m':=W.putM_mut e2 m';have nd:∀d,w.putM m'≠.dat d:=fun d z=>by rw[z]at wp;cases wp
 have oo:Owned σ env a∨H a=none:=ev.sub a ow
 refine⟨⟨fun b u e=>?_,by rw[Zo];exact rl.len,fun j d' q=>?_,fun j v es q1 q2=>?_,fun j k v v' es fs b q1 q2 q3 q4 q5 q6=>?_,fun j v b q1 qo q2=>?_,fun b hb=>?_,rl.tabs.upd r.nt (fun φ z=>by rw[h2]at z;cases z;exact h3.ne φ rfl),rl.gnt⟩,ev.same,fun b o n t e=>?_,fun b e=>?_,ev.stay,fun b z=>?_,fun j v q qp=>?_,ev.slen⟩
 ·have hb:b≠a:=fun z=>by rw[z,h4]at e;cases e
  rw[q4_ hb];exact rl.sub b u e
 ·rcases k6_ q with⟨z1,z2⟩|⟨z1,z2⟩
  ·exact absurd z2.symm (nd d')
  ·exact rl.dat j d' z2
 ·rcases k6_ q1 with⟨z1,z2⟩|⟨z1,z2⟩
  ·subst z1 z2
   rw[wp]at q2;cases q2;exact⟨a,o',e3,y3_,r,h4⟩
  ·obtain⟨p,ys,f1,f2,f3,f4⟩:=rl.own j v es z2 q2
   have hp:p≠a:=fun z=>z1 (rl.inj j i v w es m a z2 q2 e1 e2 (by rw[f1,z]) e3)
   exact⟨p,ys,f1,by rw[q4_ hp];exact f2,f3,f4⟩
 ·have g:∀(n:Nat) (v:W) (es:Mu),(env1.set i (w.putM m'))[n]? =some v->v.mut=some es->∃v0 es0,env1[n]? =some v0/\v0.mut=some es0:=fun n v es y1 y2=>by
   rcases k6_ y1 with⟨z1,z2⟩|⟨z1,z2⟩
   ·rw[z1];exact⟨w,m,e1,e2⟩
   ·exact⟨v,es,z2,y2⟩
  obtain⟨v0,es0,y1,y2⟩:=g j v es q1 q2;obtain⟨v1,es1,y3,y4⟩:=g k v' fs q3 q4;exact rl.inj j k v0 v1 es0 es1 b y1 y2 y3 y4 q5 q6
 ·rcases k6_ q1 with⟨z1,z2⟩|⟨z1,z2⟩
  ·subst z1
   exact rl.fresh j w b e1 (by rw[z2,W.putM_own e2]at qo;exact qo) q2
  ·exact rl.fresh j v b z2 qo q2
 ·by_cases h:b=a
  ·subst h;rw[y3_];simp
  ·rw[q4_ h];exact rl.old b hb
 ·have hb:b≠a:=fun z=>by
   rcases oo with q|q
   ·exact n (z ▸ q)
   ·rw[z,q]at e;cases e
  rw[q4_ hb];exact ev.keep b o n t e
 ·by_cases h:b=a
  ·subst h;rw[y3_];simp
  ·rw[q4_ h];exact ev.live b e
 ·obtain⟨j,v,es,q1,q2,q3⟩:=z
  rcases k6_ q1 with⟨z1,z2⟩|⟨z1,z2⟩
  ·rw[z1,e3]at q3;cases q3
   exact oo
  ·exact ev.sub b ⟨j,v,es,z2,q2,q3⟩
 ·rcases k6_ q with⟨z1,z2⟩|⟨z1,z2⟩
  ·subst z1
   exact ev.par j w e1 (by rw[z2,W.putM_par e2]at qp;exact qp)
  ·exact ev.par j v z2 qp
theorem Ev.write{a:Addr}{xs':List V}{w:W}{ds ds':List D}(ev:Ev K B G σ env H G1 σ1 env1 H1)(e1:env1[i]? =some w)(e2:w.mutL=some ds)(e3:σ1[i]? =some (some (.ref a)))(r:z5_ K G1 xs' ds'):
  Ev K B G σ env H G1 σ1 (env1.set i (w.put ds')) (upd H1 a (.lst xs')):=by
 rw[W.put_eq e2];exact ev.writeM e1 (W.mutL_of e2) e3 ⟨xs',rfl,r⟩
end
section
variable{X:Cx}{B:OA}{pos:Pos}{a b c e:Expr}{ma mb mc:Mo D}{ms:Mo (List D)}{es:List Expr}{st:Stmt}{rest:List Stmt}{s1 s2:Mo Fl}
def mNx:Mo Fl:=fun env=>some (.nx,env)
def q3_(m n:Mo Fl):Mo Fl:=fun env=>(m env).bind fun p=>match p.1 with
 |.nx=>n p.2
 |fl=>some (fl,p.2)
theorem w3_:ESs X B [] mNx:=by
 refine pss_imp b3j ?_
 rintro D σ H ⟨G,env,fl,env',rl,e,k⟩;cases e;exact k σ G H (.refl rl)
theorem v5_(h1:ES X B st s1)(h2:ESs X B rest s2):ESs X B (st::rest) (q3_ s1 s2):=by
 refine pss_imp (b3k h1 h2) ?_
 rintro D σ H ⟨G,env,fl,env',rl,e,k⟩;obtain⟨⟨fl1,env1⟩,e1,e2⟩:=q1_ e;dsimp only at e2;cases fl1 with
 |nx=>
  dsimp only at e2;exact⟨G,env,.nx,env1,rl,e1,fun σ1 G1 H1 ev=>⟨G1,env1,fl,env',ev.rel,e2,Post.after _ _ k ev⟩⟩
 |bk=>cases e2;exact⟨G,env,.bk,_,rl,e1,k⟩
 |ct=>cases e2;exact⟨G,env,.ct,_,rl,e1,k⟩
 |ret d=>cases e2;exact⟨G,env,.ret d,_,rl,e1,k⟩
 |retL d=>cases e2;exact⟨G,env,.retL d,_,rl,e1,k⟩
theorem q8_(h1:ES X B st s1):ESs X B [st] s1:=b3l h1
def y4_(t:Mo Bool)(m n:Mo Fl):Mo Fl:=fun env=>(t env).bind fun p=>if p.1 then m p.2 else n p.2
theorem w4_{c:Expr}{s t:List Stmt}{tc:Mo Bool}(hc:ET X B c tc)(h1:ESs X B s s1)(h2:ESs X B t s2):ES X B (.If c s t pos) (y4_ tc s1 s2):=by
 refine ps_imp (b3p hc h1 h2) ?_
 rintro D σ H ⟨G,env,fl,env',rl,e,k⟩;obtain⟨⟨b1,env1⟩,e1,e2⟩:=q1_ e;dsimp only at e2;refine⟨G,env,b1,env1,rl,e1,fun G1 H1 ev=>?_⟩
 cases b1 with
 |true=>simp only[Yv]at e2 ⊢;exact⟨G1,env1,fl,env',ev.rel,e2,Post.after _ _ k ev⟩
 |false=>simp only[Qh,Zv]at e2 ⊢;exact⟨G1,env1,fl,env',ev.rel,e2,Post.after _ _ k ev⟩
def a5B:Mo Fl:=fun _=>none
theorem a8U:ES X B st a5B:=by
 refine ps_imp b3r ?_
 rintro D σ H ⟨G,env,fl,env',rl,e,k⟩;cases e
def v0_(m:Mo D):Mo Fl:=fun env=>(m env).map fun p=>(.ret p.1,p.2)
theorem y0_(h:ED X B e ma):ES X B (.Return (some e) pos) (v0_ ma):=by
 refine ps_imp (a8i h) ?_
 rintro D σ H ⟨G,env,fl,env',rl,e,k⟩;obtain⟨⟨d,env1⟩,e1,e2⟩:=v8_ e;cases e2;exact⟨G,env,d,_,rl,e1,fun v G' H' ev r=>k v σ G' H' ev r⟩
def a0R(m:Mo (List D)):Mo Fl:=fun env=>(m env).map fun p=>(.retL p.1,p.2)
theorem a3h(h:EL X B e ms):ES X B (.Return (some e) pos) (a0R ms):=by
 refine ps_imp (a8i h) ?_
 rintro D σ H ⟨G,env,fl,env',rl,e,k⟩;obtain⟨⟨d,env1⟩,e1,e2⟩:=v8_ e;cases e2;exact⟨G,env,d,_,rl,e1,fun a xs G' H' ev ha no h' g' r=>k a xs σ G' H' ev (fun z=>rl.old a z ha) no h' g' r⟩
def c0Q(i:Nat):Mo Fl:=fun env=>match env[i]? with
 |some (.own ds)=>some (.retL ds,env.set i .nil)
 |_=>none
def y2_(i:Nat)(m:Mo D):Mo Fl:=fun env=>(m env).map fun p=>(.nx,p.2.set i (.dat p.1))
def a0n(i:Nat)(m:Mo (List D)):Mo Fl:=fun env=>(m env).map fun p=>(.nx,p.2.set i (.own p.1))
section
variable{i:Nat}{x:Str}{pos':Pos}
theorem j9_(hN:X.N.Nodup)(hi:X.N[i]? =some x)(hx:Loc X.env.scope x)(he:ED X B e ma)(hs:swapsWith e (some (.Name x pos')) pos.line X.env=pure false:=by rfl)(hf:X.fn x=true∨X.env.scope.names.lookup x=some .local:=by first|exact .inl rfl|exact .inr rfl|assumption):
  ES X B (.Assign [.Name x pos'] e pos) (y2_ i ma):=by
 refine ps_imp (a8k hN hi hx he hs hf) ?_
 rintro D σ H ⟨G,env,fl,env',rl,e,k⟩;obtain⟨⟨d,env1⟩,e1,e2⟩:=v8_ e;cases e2;exact⟨G,env,d,_,rl,e1,fun v G' H' ev r=>k _ G' H' (ev.setDat r)⟩
theorem a8V(hN:X.N.Nodup)(hi:X.N[i]? =some x)(hx:Loc X.env.scope x)(he:EL X B e ms)(hs:swapsWith e (some (.Name x pos')) pos.line X.env=pure false:=by rfl)(hf:X.fn x=true∨X.env.scope.names.lookup x=some .local:=by first|exact .inl rfl|exact .inr rfl|assumption):
  ES X B (.Assign [.Name x pos'] e pos) (a0n i ms):=by
 refine ps_imp (a8k hN hi hx he hs hf) ?_
 rintro D σ H ⟨G,env,fl,env',rl,e,k⟩;obtain⟨⟨d,env1⟩,e1,e2⟩:=v8_ e;cases e2;exact⟨G,env,d,_,rl,e1,fun a xs G' H' ev ha no h' g' r=>k _ G' H' (ev.setOwn (fun z=>rl.old a z ha) ha no h' g' r)⟩
def a4p(i:Nat)(f:D->D->Option D)(m:Mo D):Mo Fl:=fun env=>match env[i]? with
 |some (.dat d0)=>(m env).bind fun p=>(f d0 p.1).map fun d=>(.nx,p.2.set i (.dat d))
 |_=>none
theorem b4R{op:Operator}{r:R2}{f:D->D->Option D}(hN:X.N.Nodup)(hi:X.N[i]? =some x)(hx:Loc X.env.scope x)(he:ED X B e ma)(ho:OpR X (inplaceOp op) r)(o:OpD X B r f)
  (hf:X.fn x=true∨X.env.scope.names.lookup x=some .local:=by first|exact .inl rfl|exact .inr rfl|assumption):ES X B (.AugAssign (.Name x pos') op e pos) (a4p i f ma):=by
 refine ps_imp (b3F hN hi hx he (ti:=r) (fun pins s σ H x y v u Q I rx ry q=>ho pins s σ H x y v u Q I rx ry q) hf) ?_
 rintro D σ H ⟨G,env,fl,env',rl,e,k⟩;unfold a4p at e;split at e
 ·rename_i d0 e0
  obtain⟨⟨d,env1⟩,e1,e2⟩:=q1_ e;obtain⟨d2,e3,e4⟩:=v8_ e2;cases e4;obtain⟨v0,h0,r0⟩:=rl.dat i d0 e0;exact⟨v0,h0,.bind rl e1 fun v G' H' ev r1=>o G' σ _ H' v0 v d0 d _ _ ev.rel (Rep.mono ev.same _ r0) r1 e3 fun v2 G2 H2 ev2 r2=>k _ G2 H2 ((ev.trans ev2).setDat r2)⟩
 ·cases e
end
def a8W(i:Nat)(m:Mo D):Mo Fl:=fun env=>((env[i]?).bind W.mutL).bind fun _=>(m env).bind fun p=>(p.2[i]?).bind fun w=>w.mutL.bind fun ds=>if ds.length<100000 then some (.nx,p.2.set i (w.put (ds++[p.1])))else none
theorem b4S{i:Nat}{x:Str}{p apos cpos:Pos}(ho:PE X (.Name x p) (a0x i))(ha:EDs X B [e] (z2_ ma z7_))
  (hbase:attributeBase (.Name x p) "append" X.env (eval (.Name x p) X.env)=eval (.Name x p) X.env:=by rfl)
  (hfew:((backTo cpos (starEach [e] X.env)).all (fun x=>!x.1)&&(backToKw cpos (keywordEach [] X.env)).all (fun x=>x.1.isSome)
   &&decide ([e].length+([]:List Keyword).length+(if([]:List Keyword).isEmpty then 0 else 1)<30))=true:=by rfl)
  (hline:(apos.endLine==cpos.line)=true:=by rfl)(hs:starEach [e] X.env=(false,eval e X.env)::starEach [] X.env:=by rfl)(hplain:(backTo cpos (starEach [] X.env)).any (·.1)=false:=by rfl)
  (hsw:swapsWith (.Call (.Attribute (.Name x p) "append" apos) [e] [] cpos) none pos.line X.env=pure false:=by rfl):
  ES X B (.Expr (.Call (.Attribute (.Name x p) "append" apos) [e] [] cpos) pos) (a8W i ma):=by
 refine ps_imp (a8h (b4s PySem.F.plainAttrs_list PySem.F.slot_list_append PySem.F.type_list_append a8I ho ha hbase hfew hline hs hplain) hsw) ?_
 rintro D σ H ⟨G,env,fl,env',rl,e,k⟩;obtain⟨ds0,e0,e⟩:=q1_ e;obtain⟨w0,e00,em0⟩:=q1_ e0;obtain⟨⟨d,env1⟩,e1,e2⟩:=q1_ e;obtain⟨w,e3,e4⟩:=q1_ e2;obtain⟨ds,e5,e6⟩:=q1_ e4;dsimp only at e3 e6;split at e6
 ·rename_i hl
  cases e6;obtain⟨q,xs0,h1,h2,h3,h4⟩:=rl.ownL i w0 ds0 e00 em0;refine⟨_,h1,.inl ⟨rfl,xs0,.inl (.inl h2)⟩,G,env,[d],env1,rl,by show(ma env).bind _=_;rw[e1];rfl,fun vs G1 H1 ev r1=>?_⟩
  obtain⟨v,rfl,rv⟩:=a0l r1;obtain⟨q',xs,g1,g2,g3,g4⟩:=ev.rel.ownL i w ds e3 e5;rw[h1]at g1;cases g1;have hz:xs.length<sizeLine:=by rw[g3.length];exact Tw hl (by decide)
  exact⟨q,xs,v,rfl,rfl,g2,hz,k _ G1 _ (ev.write e3 e5 h1 (g3.append (repL_cons rv repL_nil)))⟩
 ·cases e6
end
section
variable(K:Qz)(B:OA)
def TGm(n:Nat)(g:OZ):TG:=fun v σ H Q=>∃G env d env',Rel K B G σ env H/\Rep K G v d/\g d env=some env'/\∀σ' G' H',Ev K B G σ env H G' σ' env' H'->(∀j,j<n->σ'[j]? =σ[j]?)->Q σ' H'
def b4T(n:Nat)(g:List D->Env'->Option Env'):TGs:=fun vs σ H Q=>∃G env ds env',Rel K B G σ env H/\z5_ K G vs ds/\g ds env=some env'/\∀σ' G' H',Ev K B G σ env H G' σ' env' H'->(∀j,j<n->σ'[j]? =σ[j]?)->Q σ' H'
end
abbrev EG(X:Cx)(B:OA)(n:Nat)(e:Expr)(g:OZ):Prop:=PG X e (TGm X.K B n g)
abbrev EGs(X:Cx)(B:OA)(n:Nat)(es:List Expr)(g:List D->Env'->Option Env'):Prop:=PGs X es (b4T X.K B n g)
theorem a5C{X:Cx}{e:Expr}{t t':TG}(h:PG X e t)(i:∀v σ H Q,t' v σ H Q->t v σ H Q):PG X e t':=fun pins s σ H v u Q I r q=>h pins s σ H v u Q I r (i v σ H Q q)
theorem a8X{X:Cx}{e:List Expr}{t t':TGs}(h:PGs X e t)(i:∀v σ H Q,t' v σ H Q->t v σ H Q):PGs X e t':=fun pins s σ H v u Q I r q=>h pins s σ H v u Q I r (i v σ H Q q)
def gN(i:Nat):OZ:=fun d env=>some (env.set i (.dat d))
def gNl:List D->Env'->Option Env':=fun ds env=>match ds with
 |[]=>some env
 |_=>none
def gCn(g:OZ)(gs:List D->Env'->Option Env'):List D->Env'->Option Env':=fun ds env=>match ds with
 |d::ds=>(g d env).bind (gs ds)
 |[]=>none
def gT(n:Nat)(gs:List D->Env'->Option Env'):OZ:=fun d env=>match d with
 |.tup ds=>if ds.length=n then gs ds env else none
 |_=>none
section
variable{X:Cx}{B:OA}{pos:Pos}{a b c e tg:Expr}{ma mb mc:Mo D}{ms:Mo (List D)}{es:List Expr}{g:OZ}{gs:List D->Env'->Option Env'}
theorem k3_{n i:Nat}{x:Str}(hn:n≤i)(hN:X.N.Nodup)(hi:X.N[i]? =some x)(hx:Loc X.env.scope x)(hf:X.fn x=true∨X.env.scope.names.lookup x=some .local:=by first|exact .inl rfl|exact .inr rfl|assumption):EG X B n (.Name x pos) (gN i):=by
 refine a5C (b3s hN hi hx hf) ?_
 rintro v σ H Q ⟨G,env,d,env',rl,r,e,k⟩;cases e;exact k _ G H ((Ev.refl rl).setDat r) fun j hj=>Qs (by omega)
theorem a5D{n:Nat}:EGs X B n [] gNl:=by
 refine a8X b3v ?_
 rintro vs σ H Q ⟨G,env,ds,env',rl,r,e,k⟩;unfold gNl at e;split at e
 ·cases e
  simp only[z5_]at r;exact⟨r,k _ G H (.refl rl) fun _ _=>rfl⟩
 ·cases e
theorem a2v{n:Nat}(h1:EG X B n e g)(h2:EGs X B n es gs)(hs:(assignEach (e::es) X.env).map (·.2)=assign e X.env::(assignEach es X.env).map (·.2):=by rfl):EGs X B n (e::es) (gCn g gs):=by
 refine a8X (b3w h1 h2 hs) ?_
 rintro vs σ H Q ⟨G,env,ds,env',rl,r,e,k⟩;unfold gCn at e;split at e
 ·rename_i d ds
  obtain⟨env1,e1,e2⟩:=q1_ e;simp only[z5_]at r;obtain⟨x,xs,e3,r1,r2⟩:=r;exact⟨x,xs,e3,G,env,d,env1,rl,r1,e1,fun σ1 G1 H1 ev y1=>⟨G1,env1,ds,env',ev.rel,z5_.mono ev.same _ r2,e2,fun σ2 G2 H2 ev2 y2=>k σ2 G2 H2 (ev.trans ev2) fun j hj=>(y2 j hj).trans (y1 j hj)⟩⟩
 ·cases e
theorem a5E{nb n k':Nat}(hc:X.calm=true)(h:EGs X B nb es gs)(hn:(assignEach es X.env).length=n:=by rfl)(hst:(assignEach es X.env).findIdx? (·.1)=none:=by rfl):EG X B nb (.Tuple es k' pos) (gT n gs):=by
 refine a5C (b3y hc h hn hst) ?_
 rintro v σ H Q ⟨G,env,d,env',rl,r,e,k⟩;unfold gT at e;split at e
 ·rename_i ds
  split at e
  ·rename_i hl
   simp only[Rep]at r;obtain⟨p,xs,e1,q,t⟩:=r;exact⟨p,xs,e1,rl.sub.sqT q,t.length.trans hl,G,env,ds,env',rl,t,e,k⟩
  ·cases e
 ·cases e
def gS(s:Nat)(mi:Mo D):OZ:=fun d env=>((env[s]?).bind W.mutL).bind fun _=>(mi env).bind fun p=>match p.1 with
 |.int k=>(p.2[s]?).bind fun w=>w.mutL.bind fun ds=>(ixN ds.length k).map fun j=>p.2.set s (w.put (ds.set j d))
 |_=>none
theorem a8Y{n s:Nat}{x:Str}{p:Pos}(ho:PE X (.Name x p) (a0x s))(hi:ED X B b mb)
  (ha:∀v,assign (.Subscript (.Name x p) b pos) X.env v=(do
   let ov←holding [v] (eval (.Name x p) X.env)
   let iv←holding [v,ov] (eval b X.env)
   standAt pos
   holding [v,ov,iv] (setItem ov iv v)
   release [v,ov,iv] []):=by intro _;rfl):EG X B n (.Subscript (.Name x p) b pos) (gS s mb):=by
 refine a5C (b3A ho hi b4o ha) ?_
 rintro v σ H Q ⟨G,env,d,env',rl,r,e,k⟩;obtain⟨ds0,e0,e⟩:=q1_ e;obtain⟨w0,e00,em0⟩:=q1_ e0;obtain⟨⟨d1,env1⟩,e1,e2⟩:=q1_ e;dsimp only at e2;split at e2
 ·rename_i kk
  obtain⟨w,e3,e4⟩:=q1_ e2;obtain⟨ds,e5,e6⟩:=q1_ e4;obtain⟨j,e7,e8⟩:=v8_ e6;cases e8;obtain⟨q,xs0,h1,h2,h3,h4⟩:=rl.ownL s w0 ds0 e00 em0;refine⟨_,h1,.bind rl e1 fun iv G1 H1 ev r1=>?_⟩
  simp only[Rep]at r1;obtain⟨q',xs,g1,g2,g3,g4⟩:=ev.rel.ownL s w ds e3 e5;rw[h1]at g1;cases g1;exact⟨q,xs,kk,j,rfl,r1,g2,by rw[g3.length];exact e7,k _ G1 _ (ev.write e3 e5 h1 (g3.set j (Rep.mono ev.same _ r))) fun _ _=>rfl⟩
 ·cases e2
def a1P(m:Mo D)(g:OZ):Mo Fl:=fun env=>(m env).bind fun p=>(g p.1 p.2).map fun e=>(.nx,e)
theorem a8Z(he:ED X B e ma)(hg:EG X B 0 tg g)(hs:swapsWithSole [tg] e pos.line X.env=pure false:=by rfl)(hw:swappedStores [tg] e X.env=pure none:=by rfl)
  (h1:(assignEach [tg] X.env).map (·.2)=[assign tg X.env]:=by rfl):ES X B (.Assign [tg] e pos) (a1P ma g):=by
 refine ps_imp (b3B he hg hs hw h1) ?_
 rintro D σ H ⟨G,env,fl,env',rl,e,k⟩;obtain⟨⟨d1,env1⟩,e1,e2⟩:=q1_ e;obtain⟨env2,e3,e4⟩:=v8_ e2;cases e4;exact .bind rl e1 fun v G1 H1 ev r=>⟨G1,env1,d1,_,ev.rel,r,e3,fun σ2 G2 H2 ev2 _=>k σ2 G2 H2 (ev.trans ev2)⟩
def a3i(i j:Nat)(ms:Mo (List D)):Mo Fl:=fun env=>(ms env).bind fun p=>match p.1 with
 |[d,d']=>some (.nx,(p.2.set i (.dat d)).set j (.dat d'))
 |_=>none
theorem b4U{i j:Nat}{x y:Str}{px py pt pt2:Pos}{kt k2}(hc:X.calm=true)(hN:X.N.Nodup)(hi:X.N[i]? =some x)(hj:X.N[j]? =some y)(hij:i≠j)
  (hx:X.env.scope.names.lookup x=some .local)(hy:X.env.scope.names.lookup y=some .local)(ha:EDs X B [a,b] ms)
  (hw:swappedStores [.Tuple [.Name x px,.Name y py] kt pt] (.Tuple [a,b] k2 pt2) X.env=pure (some [x,y]))
  (hs:swapsWithSole [.Tuple [.Name x px,.Name y py] kt pt] (.Tuple [a,b] k2 pt2) pos.line X.env=pure false:=by rfl):
  ES X B (.Assign [.Tuple [.Name x px,.Name y py] kt pt] (.Tuple [a,b] k2 pt2) pos) (a3i i j ms):=by
 refine ps_imp (b3D hc hN hi hj hij hx hy ha hw hs) ?_
 rintro D σ H ⟨G,env,fl,env',rl,e,k⟩;obtain⟨⟨ds,env1⟩,e1,e2⟩:=q1_ e;dsimp only at e2;split at e2
 ·cases e2
  refine⟨G,env,_,env1,rl,e1,fun vs G1 H1 ev r=>?_⟩
  obtain⟨v,w,rfl,r1,r2⟩:=a4n r;exact⟨v,w,rfl,k _ G1 H1 ((ev.setDat r1).setDat r2)⟩
 ·cases e2
structure ItD(K:Qz)(J:It)(G:Hp)(ds:List D):Prop where
 go:∀i H,Le G H->i<ds.length->J.go i H
 stop:∀i H,Le G H->ds.length≤i->J.stop i H
 yld:∀i H x H' d,Le G H->J.yld i H x H'->ds[i]? =some d->(H'=H/\Rep K G x d)∨ ∃p o,NT o/\H p=none/\H'=upd H p o/\Rep K (upd G p o) x d
end
section
variable(K:Qz)(B:OA)
def TIm(m:Mo (List D)):TI:=fun σ H R=>∃G env ds env',Rel K B G σ env H/\m env=some (ds,env')/\∀J G' H',Ev K B G σ env H G' σ env' H'->ItD K J G' ds->R J H'
end
abbrev EI(X:Cx)(B:OA)(tg e:Expr)(m:Mo (List D)):Prop:=PI X tg e (TIm X.K B m)
theorem a5F{X:Cx}{tg e:Expr}{t t':TI}(h:PI X tg e t)(i:∀σ H R,t' σ H R->t σ H R):PI X tg e t':=fun pins s σ H R I q=>h pins s σ H R I (i σ H R q)
section
variable{X:Cx}{B:OA}{pos:Pos}{a b c e tg:Expr}{ma mb mc:Mo D}{ms:Mo (List D)}{es:List Expr}{g:OZ}{gs:List D->Env'->Option Env'}
def b4V(K:Qz)(tl:TE):TI:=fun σ H R=>tl σ H fun x H1=>∃a,x=.ref a/\(((∃xs,SqL K H1 a xs)/\R (Itl K a) H1)∨((∃xs,SqT K H1 a xs)/\R (Itt K a) H1))
theorem b4W{l:Expr}{tl:TE}(hl:PE X l tl):PI X tg l (b4V X.K tl):=by
 intro pins s σ H R I h;refine thn (hl pins s σ H _ I h) fun v s1 ⟨x,H1,I1,r1,q1⟩=>?_
 obtain⟨a,e,q⟩:=q1;subst e;cases r1
 rcases q with⟨⟨xs,hq⟩,q⟩|⟨⟨xs,hq⟩,q⟩
 ·obtain⟨its,rv,p,hz⟩:=I1.list hq
  refine Jo p.isList ?_
  refine⟨s1.heap.objs.size,[s1.heap.objs.size],_,_,H1,rfl,I1.kept (t':=s1.toks) fun b o e=>Qx _ e,b3G a _,⟨_,Ql _ rfl,rfl,rfl⟩,fun b hb=>?_,q⟩
  have e:b=s1.heap.objs.size:=by simpa using hb
  subst e;exact I1.fpOk (Qu _) (I1.hok.fresh (Qu _))
 ·obtain⟨its,rv,p,hz⟩:=I1.tuple hq
  refine Xh (show s1.heap.IsTuple a its.toArray from p) ?_
  refine⟨s1.heap.objs.size,[s1.heap.objs.size],_,_,H1,rfl,I1.kept (t':=s1.toks) fun b o e=>Qx _ e,b3H a _,⟨_,Ql _ rfl,rfl,rfl⟩,fun b hb=>?_,q⟩
  have e:b=s1.heap.objs.size:=by simpa using hb
  subst e;exact I1.fpOk (Qu _) (I1.hok.fresh (Qu _))
def y9_(m:Mo D):Mo (List D):=fun env=>(m env).bind fun p=>p.1.items.map fun ds=>(ds,p.2)
theorem b4X{K:Qz}{G:Hp}{p:Addr}{xs:List V}{ds:List D}(q:SqL K G p xs)(r:z5_ K G xs ds):ItD K (Itl K p) G ds where
 go:=fun i H l hi=>⟨xs,xs[i]'(by rw[r.length];exact hi),l.sqL q,by simp⟩
 stop:=fun i H l hi=>⟨xs,l.sqL q,by rw[r.length];exact hi⟩
 yld:=fun i H x H' d l y e=>by
  obtain⟨rfl,y⟩:=y;obtain⟨x',e1,e2⟩:=r.get e;have:=y xs (l.sqL q);rw[e1]at this;cases this;exact .inl ⟨rfl,e2⟩
theorem b4Y{K:Qz}{G:Hp}{p:Addr}{xs:List V}{ds:List D}(q:SqU K G p xs)(r:z5_ K G xs ds):ItD K (Itt K p) G ds where
 go:=fun i H l hi=>⟨xs,xs[i]'(by rw[r.length];exact hi),l.sqT q,by simp⟩
 stop:=fun i H l hi=>⟨xs,l.sqT q,by rw[r.length];exact hi⟩
 yld:=fun i H x H' d l y e=>by
  obtain⟨rfl,y⟩:=y;obtain⟨x',e1,e2⟩:=r.get e;have:=y xs (l.sqT q);rw[e1]at this;cases this;exact .inl ⟨rfl,e2⟩
theorem g9_(h:ED X B e ma):EI X B tg e (y9_ ma):=by
 refine a5F (b4W h) ?_
 rintro σ H R ⟨G,env,ds,env',rl,e,k⟩;obtain⟨⟨d,env1⟩,e1,e2⟩:=q1_ e;obtain⟨ds',e3,e4⟩:=v8_ e2;cases e4;refine .bind rl e1 fun v G1 H1 ev r=>?_
 cases d<;>first|(exact absurd (show(none:Option (List D))=some _ from e3) (by simp))|skip
 ·cases e3
  simp only[Rep]at r;obtain⟨p,xs,e5,q,t⟩:=r;exact⟨p,e5,.inr ⟨⟨xs,ev.rel.sub.sqT q⟩,k _ G1 H1 ev (b4Y q t)⟩⟩
 ·cases e3
  simp only[Rep]at r;obtain⟨p,xs,e5,q,t⟩:=r;exact⟨p,e5,.inl ⟨⟨xs,ev.rel.sub.sqL q⟩,k _ G1 H1 ev (b4X q t)⟩⟩
def u5_(lo:Int)(n:Nat):List D:=(List.range n).map fun(i:Nat)=>D.int (lo+i)
theorem b4Z{K:Qz}{G:Hp}{lo:Int}{n:Nat}:ItD K (Itr lo n) G (u5_ lo n)where
 go:=fun i H l hi=>by
  have h:i<n:=by simpa [u5_]using hi
  exact h
 stop:=fun i H l hi=>by
  have h:n≤i:=by simpa [u5_]using hi
  exact h
 yld:=fun i H x H' d l y e=>by
  obtain⟨rfl,rfl⟩:=y;refine .inl ⟨rfl,?_⟩;unfold u5_ at e;rw[Zk]at e;cases hr:(List.range n)[i]? with
  |none=>rw[hr]at e;cases e
  |some j=>
   rw[hr]at e;cases e;obtain⟨h1,h2⟩:=Qm.mp hr
   simp at h2
   subst h2;simp only[Rep]
def a0o(ms:Mo (List D)):Mo (List D):=fun env=>(ms env).bind fun p=>match p.1 with
 |[.int j]=>if-1000000<j/\j<1000000 then some (u5_ 0 j.toNat,p.2)else none
 |_=>none
theorem a5G{p:Pos}(hg:Gl X "range")(hm:X.mg "range"=none)(ha:EDs X B [a] ms)(hs:starEach [a] X.env=[(false,eval a X.env)]:=by rfl):EI X B tg (.Call (.Name "range" p) [a] [] pos) (a0o ms):=by
 have h0:=b3L (tg:=tg) (p:=p) (pos:=pos) hg hm ha hs
 refine a5F h0 ?_
 rintro σ H R ⟨G,env,ds,env',rl,e,k⟩;obtain⟨⟨ds',env1⟩,e1,e2⟩:=q1_ e;dsimp only at e2;split at e2
 ·rename_i j
  split at e2
  ·rename_i hj
   cases e2;refine⟨G,env,_,_,rl,e1,fun vs G1 H1 ev r=>?_⟩
   obtain⟨v,rfl,r1⟩:=a0l r;simp only[Rep]at r1;subst r1;exact⟨j,rfl,by omega,by omega,k _ G1 H1 ev b4Z⟩
  ·cases e2
 ·cases e2
def loop(g:OZ)(body:Mo Fl):List D->Mo Fl
 |[],env=>some (.nx,env)
 |d::ds,env=>(g d env).bind fun e1=>(body e1).bind fun p=>match p.1 with
  |.nx=>loop g body ds p.2
  |.ct=>loop g body ds p.2
  |.bk=>some (.nx,p.2)
  |.ret d=>some (.ret d,p.2)
  |.retL d=>some (.retL d,p.2)
def g3_(mi:Mo (List D))(g:OZ)(body:Mo Fl):Mo Fl:=fun env=>(mi env).bind fun p=>loop g body p.1 p.2
theorem a0S{iter:Expr}{body:List Stmt}{mi:Mo (List D)}{mbd:Mo Fl}(hp:PassesOwn (model X.prog X.w) X.A X.env X.xe)(hc:X.calm=true)(hi:EI X B tg iter mi)(hg:EG X B 0 tg g)(hb:ESs X B body mbd)
  (hs:∀x,foldedSetIterable iter X.env x=pure x:=by intro _;rfl):ES X B (.For tg iter body [] pos) (g3_ mi g mbd):=by
 refine ps_imp (b3O hp hc hi hg hb hs) ?_
 rintro D σ H ⟨G,env,fl,env',rl,e,k⟩;obtain⟨⟨ds,env1⟩,e1,e2⟩:=q1_ e;dsimp only at e2;refine⟨G,env,ds,env1,rl,e1,fun J G1 H1 ev1 it=>?_⟩
 refine⟨fun i m σ2 H2=>m=ds.length-i/\i≤ds.length/\∃G2 env2,Ev X.K B G σ env H G2 σ2 env2 H2/\Le G1 G2/\loop g mbd (ds.drop i) env2=some (fl,env'),⟨_,rfl,Jg _,G1,env1,ev1,Le.refl,by simpa using e2⟩,?_⟩
 rintro i m σ2 H2 ⟨rfl,hi2,G2,env2,ev2,l2,e3⟩;have lH:Le G1 H2:=l2.trans ev2.rel.sub
 by_cases hlt:i<ds.length
 ·refine .inr ⟨it.go i H2 lH hlt,fun σ' H'=>∃G3 env3,Ev X.K B G σ env H G3 σ' env3 H'/\Le G1 G3/\loop g mbd (ds.drop (i+1)) env3=some (fl,env'),?_,fun x H3 y=>?_⟩
  ·rintro σ' H' ⟨G3,env3,ev3,l3,e4⟩
   exact⟨ds.length-(i+1),by omega,rfl,hlt,G3,env3,ev3,l3,e4⟩
  ·have ed:ds.drop i=ds[i]::ds.drop (i+1):=List.drop_eq_getElem_cons hlt
   rw[ed]at e3;obtain⟨env4,e4,e5⟩:=q1_ e3;obtain⟨⟨fl5,env5⟩,e6,e7⟩:=q1_ e5;have hget:ds[i]? =some ds[i]:=by simp[hlt]
   have st:∃G3,Ev X.K B G σ env H G3 σ2 env2 H3/\Le G1 G3/\Rep X.K G3 x ds[i]:=by
    rcases it.yld i H2 x H3 ds[i] lH y hget with⟨rfl,r⟩|⟨p,o,hno,hp2,rfl,r⟩
    ·exact⟨G2,ev2,l2,Rep.mono l2 _ r⟩
    ·have gp:=ev2.rel.gnone hp2
     refine⟨upd G2 p o,ev2.trans (ev2.rel.alloc hp2 hno),l2.trans (Le.upd gp),Rep.mono (fun b u q=>?_) _ r⟩
     by_cases hb2:b=p
     ·subst hb2;rw[y3_]at q ⊢;exact q
     ·rw[q4_ hb2]at q ⊢;exact l2 b u q
   obtain⟨G3,ev3,l3,r3⟩:=st;refine⟨G3,env2,ds[i],env4,ev3.rel,r3,e4,fun σ4 G4 H4 ev4 _=>?_⟩
   have ev5:=ev3.trans ev4
   refine⟨G4,env4,fl5,env5,ev4.rel,e6,?_⟩;cases fl5 with
   |nx=>exact fun σ6 G6 H6 ev6=>⟨G6,env5,ev5.trans ev6,(l3.trans ev4.same).trans ev6.same,e7⟩
   |ct=>exact fun σ6 G6 H6 ev6=>⟨G6,env5,ev5.trans ev6,(l3.trans ev4.same).trans ev6.same,e7⟩
   |bk=>cases e7;exact fun σ6 G6 H6 ev6=>k σ6 G6 H6 (ev5.trans ev6)
   |ret d=>cases e7;exact fun v σ6 G6 H6 ev6=>k v σ6 G6 H6 (ev5.trans ev6)
   |retL d=>cases e7;exact fun a xs σ6 G6 H6 ev6=>k a xs σ6 G6 H6 (ev5.trans ev6)
 ·have ei:i=ds.length:=by omega
  subst ei;rw[List.drop_length]at e3;cases e3;exact .inl ⟨it.stop _ H2 lH (Qu _),k σ2 G2 H2 ev2⟩
end
inductive Rr where
 |d (d:D)|l (ds:List D)
abbrev Fn:=List W->Option (Rr×List W)
def u0_:OA:=fun _=>False
def a3j(ws:List W):Prop:=∀w∈ws,(∃d,w=.dat d)∨w.isPar=true
def b5a(K:Qz)(G:Hp)(vs:List V)(ws:List W)(H:Hp)(ws':List W)(Q:VK):Rr->Prop
 |.d d=>∀v G' H',Ev K u0_ G (vs.map some) ws H G' (vs.map some) ws' H'->Rep K G' v d->Q v H'
 |.l ds=>∀a xs G' H',Ev K u0_ G (vs.map some) ws H G' (vs.map some) ws' H'->H a=none-> ¬ Owned (vs.map some) ws' a->H' a=some (.lst xs)->G' a=none->z5_ K G' xs ds->Q (.ref a) H'
def SpF(K:Qz)(n:Nat)(f:Fn):Sp:=fun vs H Q _=>∃G ws r ws',ws.length=n/\a3j ws/\Rel K u0_ G (vs.map some) ws H/\f ws=some (r,ws')/\b5a K G vs ws H ws' Q r
def a4q:W->W->W
 |.par _,.par ds=>.par ds
 |.par _,.parD ks vs=>.parD ks vs
 |.parD _ _,.par ds=>.par ds
 |.parD _ _,.parD ks vs=>.parD ks vs
 |.par _,_=>.nil
 |.parD _ _,_=>.nil
 |w,_=>w
def u6_(ws env:List W):List W:=List.zipWith a4q ws env
def fnM(N:Nat)(mb:Mo Fl):Fn:=fun ws=>match mb (ws++List.replicate (N-ws.length) .nil)with
 |some (.ret d,env)=>some (.d d,u6_ ws env)
 |some (.retL ds,env)=>some (.l ds,u6_ ws env)
 |some (.nx,env)=>some (.d .non,u6_ ws env)
 |_=>none
theorem a1Q{N:List Str}{vs:List V}{i:Nat}(hi:i<vs.length):(start N vs)[i]? =(vs.map some)[i]?:=by
 unfold start;rw[Jz (by simpa using hi)]
theorem a1j{α:Type}{l:List α}{n i:Nat}{a b:α}(h:(l++List.replicate n a)[i]? =some b):(i<l.length/\l[i]? =some b)∨(l.length≤i/\b=a):=by
 by_cases hi:i<l.length
 ·rw[Jz hi]at h;exact .inl ⟨hi,h⟩
 ·rw[List.getElem?_append_right (by omega),Vk]at h
  split at h
  ·cases h;exact .inr ⟨by omega,rfl⟩
  ·cases h
section
variable{K:Qz}{G:Hp}{vs:List V}{ws:List W}{H:Hp}{N:List Str}
theorem a9a(hl:ws.length=vs.length){n:Nat}{a:Addr}:Owned (start N vs) (ws++List.replicate n .nil) a↔Owned (vs.map some) ws a:=by
 constructor
 ·rintro⟨i,w,ds,e1,e2,e3⟩
  rcases a1j e1 with⟨h1,h2⟩|⟨h1,h2⟩
  ·rw[a1Q (by omega)]at e3;exact⟨i,w,ds,h2,e2,e3⟩
  ·rw[h2]at e2;cases e2
 ·rintro⟨i,w,ds,e1,e2,e3⟩
  have hi:i<ws.length:=(Qm.mp e1).1
  exact⟨i,w,ds,by rw[Jz hi];exact e1,e2,by rw[a1Q (by omega)];exact e3⟩
theorem b5b(r:Rel K u0_ G (vs.map some) ws H)(ok:a3j ws)(hN:vs.length≤N.length):Rel K (fun b=>H b≠none) G (start N vs) (ws++List.replicate (N.length-ws.length) .nil) H:=by
 have hl:ws.length=vs.length:=by have:=r.len;rwa [Qk]at this
 have noOwn:∀(i:Nat) (w:W),ws[i]? =some w->w.isOwn=true->False:=fun i w e h=>by
  rcases ok _ (Jj e)with⟨d,z⟩|z
  ·subst z;cases h
  ·cases w<;>first|(cases h;done)|(cases z;done)
 refine⟨r.sub,?_,fun i d e=>?_,fun i w ds e1 e2=>?_,fun i j w w' ds es a q1 q2 q3 q4 q5 q6=>?_,fun i w a q1 qo q2=>?_,fun b h=>h,r.tabs,r.gnt⟩
 ·unfold start
  simp only[Zr,Yo,Qk]
  omega
 ·rcases a1j e with⟨h1,h2⟩|⟨h1,h2⟩
  ·obtain⟨v,e1,e2⟩:=r.dat i d h2
   exact⟨v,by rw[a1Q (by omega)];exact e1,e2⟩
  ·cases h2
 ·rcases a1j e1 with⟨h1,h2⟩|⟨h1,h2⟩
  ·obtain⟨a,xs,e3,e4⟩:=r.own i w ds h2 e2
   exact⟨a,xs,by rw[a1Q (by omega)];exact e3,e4⟩
  ·rw[h2]at e2;cases e2
 ·rcases a1j q1 with⟨h1,h2⟩|⟨h1,h2⟩
  ·rcases a1j q3 with⟨h3,h4⟩|⟨h3,h4⟩
   ·rw[a1Q (by omega)]at q5 q6
    exact r.inj i j w w' ds es a h2 q2 h4 q4 q5 q6
   ·rw[h4]at q4;cases q4
  ·rw[h2]at q2;cases q2
 ·rcases a1j q1 with⟨h1,h2⟩|⟨h1,h2⟩
  ·exact(noOwn i w h2 qo).elim
  ·subst h2;cases qo
theorem a5H{ws env:List W}{i:Nat}{w:W}(h:(u6_ ws env)[i]? =some w):∃w1 w2,ws[i]? =some w1/\env[i]? =some w2/\w=a4q w1 w2:=by
 unfold u6_ at h;rw[Js]at h;cases e1:ws[i]? with
 |none=>rw[e1]at h;cases h
 |some w1=>
  cases e2:env[i]? with
  |none=>rw[e1,e2]at h;cases h
  |some w2=>rw[e1,e2]at h;cases h;exact⟨w1,w2,rfl,rfl,rfl⟩
theorem a9b{w1 w2:W}{m:Mu}(ok:(∃d,w1=.dat d)∨w1.isPar=true)(h:(a4q w1 w2).mut=some m):w2.mut=some m/\w2.isPar=true/\a4q w1 w2=w2/\w1.isPar=true:=by
 rcases ok with⟨d,z⟩|z
 ·subst z;cases h
 ·cases w1<;>cases w2<;>first|exact⟨h,rfl,rfl,rfl⟩|(cases z;done)|(cases h;done)
theorem a5I{G':Hp}{σ':St}{env':Env'}{H':Hp}(r:Rel K u0_ G (vs.map some) ws H)(ok:a3j ws)(hN:vs.length≤N.length)
  (ev:Ev K (fun b=>H b≠none) G (start N vs) (ws++List.replicate (N.length-ws.length) .nil) H G' σ' env' H'):Ev K u0_ G (vs.map some) ws H G' (vs.map some) (u6_ ws env') H':=by
 have hl:ws.length=vs.length:=by have:=r.len;rwa [Qk]at this
 have okg:∀{i:Nat}{w:W},ws[i]? =some w->(∃d,w=.dat d)∨w.isPar=true:=fun e=>ok _ (Jj e)
 have hle:ws.length≤env'.length:=by
  have h1:=ev.rel.len
  have h2:=ev.slen
  have h3:(start N vs).length=N.length:=by unfold start;simp only[Zr,Yo,Qk];omega
  omega
 have par:∀(i:Nat) (w:W) (m:Mu),(u6_ ws env')[i]? =some w->w.mut=some m->∃w0,ws[i]? =some w0/\w0.isPar=true/\env'[i]? =some w/\w.isPar=true/\σ'[i]? =(vs.map some)[i]?:=fun i w m e1 e2=>by
  obtain⟨w1,w2,h1,h2,h3⟩:=a5H e1;subst h3;obtain⟨h4,h5,h6,h7⟩:=a9b (okg h1) e2;have hi:i<vs.length:=by have:=(Qm.mp h1).1;omega
  rw[h6];exact⟨w1,h1,h7,h2,h5,(ev.par i w2 h2 h5).1.trans (a1Q hi)⟩
 refine⟨⟨ev.rel.sub,?_,fun i d e=>?_,fun i w ds e1 e2=>?_,fun i j w w' ds es a q1 q2 q3 q4 q5 q6=>?_,fun i w a q1 qo q2 h=>h,fun b h=>h.elim,ev.rel.tabs,ev.rel.gnt⟩,ev.same,fun b o n t e=>ev.keep b o (fun z=>n ((a9a hl).mp z)) t e,ev.live,fun b e n g=>ev.stay b e (fun z=>n ((a9a hl).mp z)) g,fun a z=>?_,fun i w e hp=>?_,rfl⟩
 ·unfold u6_
  rw[Uv,Qk];omega
 ·obtain⟨w1,w2,h1,h2,h3⟩:=a5H e
  rcases okg h1 with⟨d1,z⟩|z
  ·subst z
   cases h3;obtain⟨v,e1,e2⟩:=r.dat i d h1;exact⟨v,e1,Rep.mono ev.same d e2⟩
  ·cases w1<;>cases w2<;>first|(cases h3;done)|(cases z;done)
 ·obtain⟨d0,h1,hp,h2,h3,h4⟩:=par i w ds e1 e2
  obtain⟨a,xs,e3,e4⟩:=ev.rel.own i _ ds h2 e2;exact⟨a,xs,by rw[←h4];exact e3,e4⟩
 ·obtain⟨d0,h1,hp,h2,h3,h4⟩:=par i w ds q1 q2
  obtain⟨d1,h5,hp',h6,h7,h8⟩:=par j w' es q3 q4;exact ev.rel.inj i j _ _ ds es a h2 q2 h6 q4 (by rw[h4];exact q5) (by rw[h8];exact q6)
 ·obtain⟨i,w,ds,e1,e2,e3⟩:=z
  obtain⟨d0,h1,hp,h2,h3,h4⟩:=par i w ds e1 e2;obtain⟨m0,hm0⟩:=par_mut hp;exact .inl ⟨i,_,m0,h1,hm0,e3⟩
 ·obtain⟨m,hm⟩:=par_mut hp
  obtain⟨d0,h1,hp',h2,h3,h4⟩:=par i _ m e hm;exact⟨rfl,d0,h1,hp'⟩
end
theorem x3_{P:Program}{w:World}{K:Qz}{mg:OU}{base:Heap}{x qual:Str}{st:Stmt}{f:Addr}{fd:FuncData}{N ps:List Str}{k:Nat}{mb:Mo Fl}(F:Fun K x qual st f fd)(S:FnScope N ps (v6_ st))
  (hb:∀(cdv:Value) (A:Around) (outer:List Env) (s:Shared) (H:Hp) (E:XK),Room k (A.deeper (envOfC qual (v6_ st) s.heap.objs.size f cdv))->
   ESs (a1G CX0 P w K mg base N qual (v6_ st) f cdv A outer s H E).nox (fun b=>H b≠none) (a0M st) mb):FnOk P w K mg base CX0 (k+1) f fd ps (SpF K ps.length (fnM N.length mb)):=by
 have hpl:ps.length≤N.length:=by have:=Yy List.length S.pre;rw[List.length_take]at this;omega
 refine F.ok S (fun vs H Q E h=>?_) (fun cdv A outer s H vs Q E hr h=>?_)
 ·obtain⟨G,ws,r,ws',hl,ok,rl,_⟩:=h
  have:=rl.len;rw[Qk]at this;omega
 ·obtain⟨G,ws,r,ws',hl,ok,rl,e,k⟩:=h
  have hv:ws.length=vs.length:=by have:=rl.len;rwa [Qk]at this
  refine⟨_,hb cdv A outer s H E hr,?_⟩;have rl':=b5b (N:=N) rl ok (by omega)
  unfold fnM at e;split at e
  ·rename_i d env em
   cases e;refine⟨G,_,_,env,rl',em,?_⟩;exact fun v σ' G' H' ev rp=>k v G' H' (a5I rl ok (by omega) ev) rp
  ·rename_i ds env em
   cases e;refine⟨G,_,_,env,rl',em,?_⟩;intro a xs σ' G' H' ev nb no h' g' rp;refine k a xs G' H' (a5I rl ok (by omega) ev) (Zd nb) ?_ h' g' rp
   rintro⟨i,w',es,e1,e2,e3⟩;obtain⟨w1,w2,q1,q2,q3⟩:=a5H e1;subst q3;obtain⟨q4,q5,q6,q7⟩:=a9b (ok _ (Jj q1)) e2;have hi:i<vs.length:=by have:=(Qm.mp q1).1;omega
   exact no ⟨i,_,es,q2,q4,by rw[(ev.par i w2 q2 q5).1,a1Q hi];exact e3⟩
  ·rename_i env em
   cases e;refine⟨G,_,_,env,rl',em,?_⟩;exact fun σ' G' H' ev=>k .non G' H' (a5I rl ok (by omega) ev) (by simp only[Rep])
  ·cases e
def slots:List Ar->List Nat
 |[]=>[]
 |.d _::r=>slots r
 |.sl i::r=>i::slots r
def a1R:Mu->W
 |.l ds=>.par ds
 |.d ks vs=>.parD ks vs
theorem a9c(c:Mu):(a1R c).mut=some c:=by cases c<;>rfl
theorem a9d(c:Mu):(a1R c).isPar=true:=by cases c<;>rfl
def g4_(c:Mu):Ar->W
 |.d d=>.dat d
 |.sl _=>a1R c
def a1k:List W->Option Mu
 |[]=>none
 |.par ds::_=>some (.l ds)
 |.parD ks vs::_=>some (.d ks vs)
 |_::r=>a1k r
def a0T(n:Nat)(f:Fn)(as:Mo (List Ar)):Mo Rr:=fun env=>(as env).bind fun p=>if p.1.length=n then
 match slots p.1 with
 |[]=>(f (p.1.map (g4_ (.l [])))).map fun q=>(q.1,p.2)
 |[i]=>(p.2[i]?).bind fun w=>w.mut.bind fun c=>(f (p.1.map (g4_ c))).bind fun q=>(a1k q.2).map fun c'=>(q.1,p.2.set i (w.putM c'))
 |_=>none
 else none
theorem a2w:∀{as:List Ar},slots as=[]->∀(k j:Nat),as[k]? ≠some (.sl j)
 |[],_,k,j,e=>by simp at e
 |.d _::r,h,k,j,e=>by
  cases k with
  |zero=>simp at e
  |succ k=>exact a2w (as:=r) h k j (by simpa using e)
 |.sl i::r,h,k,j,e=>by simp[slots]at h
theorem a5J:∀{as:List Ar}{i:Nat},slots as=[i]->∃k:Nat,as[k]? =some (.sl i)/\∀(k' j:Nat),as[k']? =some (.sl j)->k'=k/\j=i
 |[],_,h=>by simp[slots]at h
 |.d _::r,i,h=>by
  obtain⟨k,h1,h2⟩:=a5J (as:=r) h;refine⟨k+1,by simpa using h1,fun k' j e=>?_⟩
  cases k' with
  |zero=>simp at e
  |succ k'=>
   obtain⟨a,b⟩:=h2 k' j (by simpa using e)
   exact⟨by omega,b⟩
 |.sl i'::r,i,h=>by
  simp only[slots,List.cons.injEq]at h;obtain⟨rfl,h⟩:=h;refine⟨0,by simp,fun k' j e=>?_⟩
  cases k' with
  |zero=>simp at e;exact⟨rfl,e.symm⟩
  |succ k'=>exact absurd (by simpa using e) (a2w h k' j)
theorem a3k:∀{ws:List W}{c:Mu},a1k ws=some c->∃k:Nat,ws[k]? =some (a1R c)
 |[],_,h=>by simp[a1k]at h
 |.par ds::r,c,h=>by simp only[a1k,Zc]at h;subst h;exact⟨0,by simp[a1R]⟩
 |.parD ks vs::r,c,h=>by simp only[a1k,Zc]at h;subst h;exact⟨0,by simp[a1R]⟩
 |.nil::r,c,h=>by obtain⟨k,e⟩:=a3k (ws:=r) h;exact⟨k+1,by simpa using e⟩
 |.dat _::r,c,h=>by obtain⟨k,e⟩:=a3k (ws:=r) h;exact⟨k+1,by simpa using e⟩
 |.own _::r,c,h=>by obtain⟨k,e⟩:=a3k (ws:=r) h;exact⟨k+1,by simpa using e⟩
 |.ownD _ _::r,c,h=>by obtain⟨k,e⟩:=a3k (ws:=r) h;exact⟨k+1,by simpa using e⟩
section
variable{K:Qz}{G:Hp}{σ:St}
theorem RepA.length:∀{as:List Ar}{vs:List V},RepA K G σ vs as->vs.length=as.length
 |[],_,h=>by simp only[RepA]at h;subst h;rfl
 |.d d::as,_,h=>by
  simp only[RepA]at h;obtain⟨x,r,rfl,_,t⟩:=h
  simp[RepA.length t]
 |.sl i::as,_,h=>by
  simp only[RepA]at h;obtain⟨x,r,rfl,_,t⟩:=h
  simp[RepA.length t]
theorem RepA.getD:∀{as:List Ar}{vs:List V}{k:Nat}{d:D},RepA K G σ vs as->as[k]? =some (.d d)->∃v,vs[k]? =some v/\Rep K G v d
 |[],_,k,d,h,e=>by simp at e
 |.d d'::as,_,k,d,h,e=>by
  simp only[RepA]at h;obtain⟨x,r,rfl,q,t⟩:=h;cases k with
  |zero=>simp at e;subst e;exact⟨x,by simp,q⟩
  |succ k=>simpa using RepA.getD (k:=k) t (by simpa using e)
 |.sl i::as,_,k,d,h,e=>by
  simp only[RepA]at h;obtain⟨x,r,rfl,q,t⟩:=h;cases k with
  |zero=>simp at e
  |succ k=>simpa using RepA.getD (k:=k) t (by simpa using e)
theorem RepA.getS:∀{as:List Ar}{vs:List V}{k i:Nat},RepA K G σ vs as->as[k]? =some (.sl i)->∃v,vs[k]? =some v/\σ[i]? =some (some v)
 |[],_,k,i,h,e=>by simp at e
 |.d d'::as,_,k,i,h,e=>by
  simp only[RepA]at h;obtain⟨x,r,rfl,q,t⟩:=h;cases k with
  |zero=>simp at e
  |succ k=>simpa using RepA.getS (k:=k) t (by simpa using e)
 |.sl i'::as,_,k,i,h,e=>by
  simp only[RepA]at h;obtain⟨x,r,rfl,q,t⟩:=h;cases k with
  |zero=>simp at e;subst e;exact⟨x,by simp,q⟩
  |succ k=>simpa using RepA.getS (k:=k) t (by simpa using e)
end
section
variable{K:Qz}{B:OA}{G:Hp}{σ:St}{env:Env'}{H:Hp}{as:List Ar}{vs:List V}{c:Mu}
theorem a9e:a3j (as.map (g4_ c)):=fun w hw=>by
 obtain⟨a,_,rfl⟩:=Qn.mp hw;cases a with
 |d d=>exact .inl ⟨d,rfl⟩
 |sl i=>exact .inr (a9d c)
theorem a2x{k:Nat}{w:W}(e:(as.map (g4_ c))[k]? =some w):(∃d,as[k]? =some (.d d)/\w=.dat d)∨ ∃j,as[k]? =some (.sl j)/\w=a1R c:=by
 rw[Zk]at e;cases h:as[k]? with
 |none=>rw[h]at e;cases e
 |some a=>
  rw[h]at e;cases a with
  |d d=>cases e;exact .inl ⟨d,rfl,rfl⟩
  |sl j=>cases e;exact .inr ⟨j,rfl,rfl⟩
theorem a9f{k:Nat}{v:V}(h:vs[k]? =some v):(vs.map some)[k]? =some (some v):=by rw[Zk,h];rfl
theorem a9g{k:Nat}{v:V}(h:(vs.map some)[k]? =some (some v)):vs[k]? =some v:=by
 rw[Zk]at h;cases e:vs[k]? with
 |none=>rw[e]at h;cases h
 |some u=>rw[e]at h;cases h;rfl
theorem a9h{i:Nat}{w:W}(rl:Rel K B G σ env H)(ra:RepA K G σ vs as)(u:∀(k j:Nat),as[k]? =some (.sl j)->j=i/\env[i]? =some w/\w.mut=some c)(un:∀(k k' j j':Nat),as[k]? =some (.sl j)->as[k']? =some (.sl j')->k=k'):
  Rel K u0_ G (vs.map some) (as.map (g4_ c)) H:=by
 refine⟨rl.sub,by rw[Qk,Qk,ra.length],fun k d e=>?_,fun k v ds e1 e2=>?_,fun k k' v v' ds es a q1 q2 q3 q4 q5 q6=>?_,fun k w a e _ _ h=>h,fun b h=>h.elim,rl.tabs,rl.gnt⟩
 ·rcases a2x e with⟨d',h1,h2⟩|⟨j,h1,h2⟩
  ·cases h2
   obtain⟨v,q1,q2⟩:=ra.getD h1;exact⟨v,a9f q1,q2⟩
  ·cases c<;>cases h2
 ·rcases a2x e1 with⟨d',h1,h2⟩|⟨j,h1,h2⟩
  ·subst h2;cases e2
  ·subst h2;rw[a9c]at e2;cases e2
   obtain⟨v,q1,q2⟩:=ra.getS h1;obtain⟨rfl,q3,q4⟩:=u k j h1;obtain⟨a,xs,q5,q6,q7,q8⟩:=rl.own j w c q3 q4;rw[q2]at q5;cases q5;exact⟨a,xs,a9f q1,q6,q7,q8⟩
 ·rcases a2x q1 with⟨d',h1,h2⟩|⟨j,h1,h2⟩
  ·subst h2;cases q2
  ·rcases a2x q3 with⟨d',h3,h4⟩|⟨j',h3,h4⟩
   ·subst h4;cases q4
   ·exact un k k' j j' h1 h3
theorem a9i{i:Nat}(ra:RepA K G σ vs as)(u:∀(k j:Nat),as[k]? =some (.sl j)->j=i){a:Addr}(h:Owned (vs.map some) (as.map (g4_ c)) a):σ[i]? =some (some (V.ref a))/\∃k:Nat,as[k]? =some (Ar.sl i):=by
 obtain⟨k,v,ds,e1,e2,e3⟩:=h
 rcases a2x e1 with⟨d',h1,h2⟩|⟨j,h1,h2⟩
 ·subst h2;cases e2
 ·obtain⟨v',q1,q2⟩:=ra.getS h1
  have:=u k j h1;subst this;have e4:=a9g e3;rw[q1]at e4;cases e4;exact⟨q2,k,h1⟩
theorem a9j{G2 H2:Hp}{ws':List W}(rl:Rel K B G σ env H)(ra:RepA K G σ vs as)(hs:slots as=[])(ev:Ev K u0_ G (vs.map some) (as.map (g4_ c)) H G2 (vs.map some) ws' H2):Ev K B G σ env H G2 σ env H2:=by
 have no:∀a,¬ Owned (vs.map some) (as.map (g4_ c)) a:=fun a z=>by
  obtain⟨_,k,e⟩:=a9i (i:=0) ra (fun k j e=>absurd e (a2w hs k j)) z
  exact a2w hs k 0 e
 refine⟨⟨ev.rel.sub,rl.len,fun i d e=>?_,fun i w ds e1 e2=>?_,rl.inj,rl.fresh,fun b h=>ev.live b (rl.old b h),ev.rel.tabs,ev.rel.gnt⟩,ev.same,fun b o _ t e=>ev.keep b o (no b) t e,ev.live,fun b e _ g=>ev.stay b e (no b) g,fun a z=>.inl z,fun i w e hp=>⟨rfl,w,e,hp⟩,rfl⟩
 ·obtain⟨v,q1,q2⟩:=rl.dat i d e
  exact⟨v,q1,Rep.mono ev.same d q2⟩
 ·obtain⟨a,xs,q1,q2,q3,q4⟩:=rl.own i w ds e1 e2
  exact⟨a,xs,q1,ev.keep a _ (no a) q3.nt q2,q3.mono ev.same,ev.stay a (by rw[q2];simp) (no a) q4⟩
theorem a9k{G2 H2:Hp}{ws':List W}{i:Nat}{w:W}{c':Mu}(rl:Rel K B G σ env H)(ra:RepA K G σ vs as)(hs:slots as=[i])(e1:env[i]? =some w)(e2:w.mut=some c)(hp:a1k ws'=some c')
  (ev:Ev K u0_ G (vs.map some) (as.map (g4_ c)) H G2 (vs.map some) ws' H2):Ev K B G σ env H G2 σ (env.set i (w.putM c')) H2:=by
 obtain⟨k,hk,uk⟩:=a5J hs;obtain⟨a,xs,h1,h2,h3,h4⟩:=rl.own i w c e1 e2;have ow:Owned σ env a:=⟨i,w,c,e1,e2,h1⟩;have isA:∀b,Owned (vs.map some) (as.map (g4_ c)) b->b=a:=fun b z=>by
  obtain⟨q,_⟩:=a9i ra (fun k j e=>(uk k j e).2) z
  rw[h1]at q;cases q;rfl
 obtain⟨k',hk'⟩:=a3k hp;have ek:k'=k:=by
  obtain⟨_,d0,q,qp⟩:=ev.par k' _ hk' (a9d c')
  rcases a2x q with⟨d',z1,z2⟩|⟨j,z1,z2⟩
  ·subst z2;cases qp
  ·exact(uk k' j z1).1
 subst ek;obtain⟨a2,ys,g1,g2,g3,g4⟩:=ev.rel.own k' _ c' hk' (a9c c');obtain⟨v,q1,q2⟩:=ra.getS hk;have g5:=a9g g1;rw[q1]at g5;cases g5;rw[h1]at q2;cases q2;have wp:(w.putM c').mut=some c':=W.putM_mut e2 c';have nd:∀d,w.putM c'≠.dat d:=fun d z=>by rw[z]at wp;cases wp
 refine⟨⟨ev.rel.sub,by rw[Zo];exact rl.len,fun j d' q=>?_,fun j v es y1 y2=>?_,fun j m v v' es fs b y1 y2 y3 y4 y5 y6=>?_,fun j v b y1 yo y2=>?_,fun b h=>ev.live b (rl.old b h),ev.rel.tabs,ev.rel.gnt⟩,ev.same,fun b o n t e=>ev.keep b o (fun z=>n (isA b z ▸ ow)) t e,ev.live,fun b e n g=>ev.stay b e (fun z=>n (isA b z ▸ ow)) g,fun b z=>.inl ?_,fun j v q qp=>⟨rfl,?_⟩,rfl⟩
 ·rcases k6_ q with⟨z1,z2⟩|⟨z1,z2⟩
  ·exact absurd z2.symm (nd d')
  ·obtain⟨v,q1,q2⟩:=rl.dat j d' z2
   exact⟨v,q1,Rep.mono ev.same d' q2⟩
 ·rcases k6_ y1 with⟨z1,z2⟩|⟨z1,z2⟩
  ·subst z1 z2
   rw[wp]at y2;cases y2;exact⟨a,ys,h1,g2,g3,g4⟩
  ·obtain⟨p,zs,f1,f2,f3,f4⟩:=rl.own j v es z2 y2
   have hp:p≠a:=fun z=>z1 (rl.inj j i v w es c a z2 y2 e1 e2 (by rw[f1,z]) h1)
   have np:¬ Owned (vs.map some) (as.map (g4_ c)) p:=fun z=>hp (isA p z)
   exact⟨p,zs,f1,ev.keep p _ np f3.nt f2,f3.mono ev.same,ev.stay p (by rw[f2];simp) np f4⟩
 ·have g:∀(m:Nat) (v:W) (es:Mu),(env.set i (w.putM c'))[m]? =some v->v.mut=some es->∃v0 es0,env[m]? =some v0/\v0.mut=some es0:=fun m v es y1 y2=>by
   rcases k6_ y1 with⟨z1,z2⟩|⟨z1,z2⟩
   ·rw[z1];exact⟨w,c,e1,e2⟩
   ·exact⟨v,es,z2,y2⟩
  obtain⟨v0,es0,x1,x2⟩:=g j v es y1 y2;obtain⟨v1,es1,x3,x4⟩:=g m v' fs y3 y4;exact rl.inj j m v0 v1 es0 es1 b x1 x2 x3 x4 y5 y6
 ·rcases k6_ y1 with⟨z1,z2⟩|⟨z1,z2⟩
  ·subst z1
   exact rl.fresh j w b e1 (by rw[z2,W.putM_own e2]at yo;exact yo) y2
  ·exact rl.fresh j v b z2 yo y2
 ·obtain⟨j,v,es,y1,y2,y3⟩:=z
  rcases k6_ y1 with⟨z1,z2⟩|⟨z1,z2⟩
  ·rw[z1,h1]at y3;cases y3;exact ow
  ·exact⟨j,v,es,z2,y2,y3⟩
 ·rcases k6_ q with⟨z1,z2⟩|⟨z1,z2⟩
  ·subst z1
   exact⟨w,e1,by rw[z2,W.putM_par e2]at qp;exact qp⟩
  ·exact⟨v,z2,qp⟩
end
def asD:Rr×Env'->Option (D×Env')
 |(.d d,e)=>some (d,e)
 |_=>none
def asL:Rr×Env'->Option (List D×Env')
 |(.l d,e)=>some (d,e)
 |_=>none
def mCD(n:Nat)(f:Fn)(as:Mo (List Ar)):Mo D:=fun env=>(a0T n f as env).bind asD
def w0_(n:Nat)(f:Fn)(as:Mo (List Ar)):Mo (List D):=fun env=>(a0T n f as env).bind asL
def b5c(K:Qz)(B:OA)(G:Hp)(σ:St)(env:Env')(H:Hp)(env':Env')(Q:VK):Rr->Prop
 |.d d=>∀v G' H',Ev K B G σ env H G' σ env' H'->Rep K G' v d->Q v H'
 |.l ds=>∀a xs G' H',Ev K B G σ env H G' σ env' H'->H a=none-> ¬ Owned σ env' a->H' a=some (.lst xs)->G' a=none->z5_ K G' xs ds->Q (.ref a) H'
theorem a4r{K:Qz}{B:OA}{n:Nat}{f:Fn}{as:Mo (List Ar)}{σ:St}{H:Hp}{G:Hp}{env env':Env'}{r:Rr}{Q:VK}{E:XK}(rl:Rel K B G σ env H)(e:a0T n f as env=some (r,env'))
  (k:b5c K B G σ env H env' Q r):
  a3W (SpF K n f) [] E (TAm K B as) σ H Q:=by
 obtain⟨⟨av,env1⟩,e1,e2⟩:=q1_ e;dsimp only at e2;split at e2
 ·rename_i hn
  refine⟨G,env,av,env1,rl,e1,fun vs G1 H1 ev ra=>?_⟩
  show SpF K n f (vs++[]) H1 Q E;rw[Uw];have hnone:∀a,H1 a=none->H a=none:=fun a h=>by
   cases q:H a with
   |none=>rfl
   |some o=>exact absurd h (ev.live a (by rw[q];simp))
  split at e2
  ·rename_i hs
   obtain⟨⟨r',ws'⟩,e3,e4⟩:=v8_ e2;cases e4;refine⟨G1,av.map (g4_ (.l [])),r',ws',by rw[Qk];exact hn,a9e,a9h (i:=0) (w:=.nil) ev.rel ra (fun k j e=>absurd e (a2w hs k j)) (fun k k' j j' e=>absurd e (a2w hs k j)),e3,?_⟩
   cases r' with
   |d d=>exact fun v G2 H2 ev2 rp=>k v G2 H2 (ev.trans (a9j ev.rel ra hs ev2)) rp
   |l ds=>
    intro a xs G2 H2 ev2 ha no h' g' rp;exact k a xs G2 H2 (ev.trans (a9j ev.rel ra hs ev2)) (hnone a ha) (ev.rel.unowned ha) h' g' rp
  ·rename_i i hs
   obtain⟨w,e3,e4⟩:=q1_ e2;obtain⟨c,e5,e6⟩:=q1_ e4;obtain⟨⟨r',ws'⟩,e7,e8⟩:=q1_ e6;obtain⟨c',e9,e10⟩:=v8_ e8;cases e10;obtain⟨kk,hk,uk⟩:=a5J hs;refine⟨G1,av.map (g4_ c),r',ws',by rw[Qk];exact hn,a9e,a9h (i:=i) (w:=w) ev.rel ra (fun k j e=>⟨(uk k j e).2,e3,e5⟩) (fun k k' j j' h1 h2=>(uk k j h1).1.trans (uk k' j' h2).1.symm),e7,?_⟩
   cases r' with
   |d d=>exact fun v G2 H2 ev2 rp=>k v G2 H2 (ev.trans (a9k ev.rel ra hs e3 e5 e9 ev2)) rp
   |l ds=>
    intro a xs G2 H2 ev2 ha no h' g' rp;have evc:=a9k ev.rel ra hs e3 e5 e9 ev2;refine k a xs G2 H2 (ev.trans evc) (hnone a ha) (fun z=>?_) h' g' rp
    rcases evc.sub a z with q|q
    ·exact ev.rel.unowned ha q
    ·obtain⟨j,v,es,y1,y2,y3⟩:=z
     rcases k6_ y1 with⟨z1,z2⟩|⟨z1,z2⟩
     ·subst z1
      exact ev.rel.unowned ha ⟨j,w,c,e3,e5,y3⟩
     ·exact ev.rel.unowned ha ⟨j,v,es,z2,y2,y3⟩
  ·cases e2
 ·cases e2
section
variable{X:Cx}{B:OA}{pos p:Pos}{e:Expr}{es:List Expr}{as:Mo (List Ar)}{fn:Fn}{k:Nat}{f:Addr}{fd:FuncData}{ps:List Str}{x:Str}
theorem b5d(F:FnOk X.prog X.w X.K X.mg X.base CX0 k f fd ps (SpF X.K ps.length fn))(hr:Room k X.A)(hg:Gl X x)(hm:X.mg x=some (.ref f))(hk:PySem.W.keepIn X.K (.ref f)=true)(hb:u4_ X.K fd ps [])
  (ha:EAr X B (e::es) as)(hdb:(x==("__debug__":Str))=false:=by decide)(he:starEach (e::es) X.env=(false,eval e X.env)::starEach es X.env:=by rfl)(hpl:(backTo pos (starEach es X.env)).any (·.1)=false:=by rfl):
  ED X B (.Call (.Name x p) (e::es) [] pos) (mCD ps.length fn as):=by
 refine pe_imp (a8u F hr hg hm hk hb .nil a4c ha hdb he hpl) ?_
 rintro σ H Q ⟨G,env,d,env',rl,e,k⟩;obtain⟨⟨r,env1⟩,e1,e2⟩:=q1_ e;cases r with
 |d d'=>cases e2;exact a4r rl e1 k
 |l ds=>cases e2
theorem b5e(F:FnOk X.prog X.w X.K X.mg X.base CX0 k f fd ps (SpF X.K ps.length fn))(hr:Room k X.A)(hg:Gl X x)(hm:X.mg x=some (.ref f))(hk:PySem.W.keepIn X.K (.ref f)=true)(hb:u4_ X.K fd ps [])
  (ha:EAr X B (e::es) as)(hdb:(x==("__debug__":Str))=false:=by decide)(he:starEach (e::es) X.env=(false,eval e X.env)::starEach es X.env:=by rfl)(hpl:(backTo pos (starEach es X.env)).any (·.1)=false:=by rfl):
  EL X B (.Call (.Name x p) (e::es) [] pos) (w0_ ps.length fn as):=by
 refine pe_imp (a8u F hr hg hm hk hb .nil a4c ha hdb he hpl) ?_
 rintro σ H Q ⟨G,env,d,env',rl,e,k⟩;obtain⟨⟨r,env1⟩,e1,e2⟩:=q1_ e;cases r with
 |d d'=>cases e2
 |l ds=>cases e2;exact a4r rl e1 k
end
def j1_(cells:List (Str×Addr)):List (Str×NameKind)->List (Str×Addr)->List (Str×Addr)
 |[],acc=>acc
 |(n,k)::r,acc=>if k==.free then(match cells.lookup n with
  |some c=>j1_ cells r ((n,c)::acc)
  |none=>j1_ cells r acc)else j1_ cells r acc
theorem u1_{α:Type}{n x:Str}{a:α}{r:List (Str×α)}:((n,a)::r).lookup x=if x=n then some a else r.lookup x:=by
 rw[List.lookup_cons]
 by_cases h:x=n
 ·subst h;simp
 ·have:(x==n)=false:=by simpa using h
  rw[this,Qp h]
theorem a1S{cells:List (Str×Addr)}:∀{names:List (Str×NameKind)}{acc:List (Str×Addr)}{x:Str}{c:Addr},(j1_ cells names acc).lookup x=some c->acc.lookup x=some c∨cells.lookup x=some c
 |[],acc,x,c,h=>.inl h
 |(n,k)::r,acc,x,c,h=>by
  unfold j1_ at h;split at h
  ·split at h
   ·rename_i c' hc
    rcases a1S h with q|q
    ·rw[u1_]at q
     split at q
     ·rename_i e;subst e;cases q;exact .inr hc
     ·exact .inl q
    ·exact .inr q
   ·exact a1S h
  ·exact a1S h
theorem a4s{cells:List (Str×Addr)}:∀{names:List (Str×NameKind)}{acc:List (Str×Addr)}{x:Str},(acc.lookup x).isSome=true->((j1_ cells names acc).lookup x).isSome=true
 |[],acc,x,h=>h
 |(n,k)::r,acc,x,h=>by
  unfold j1_;split
  ·split
   ·refine a4s ?_
    rw[u1_];split<;>simp[h]
   ·exact a4s h
  ·exact a4s h
theorem a3l{cells:List (Str×Addr)}:∀{names:List (Str×NameKind)}{acc:List (Str×Addr)}{x:Str},(x,NameKind.free)∈names->(cells.lookup x).isSome=true->((j1_ cells names acc).lookup x).isSome=true
 |[],acc,x,h,_=>by cases h
 |(n,k)::r,acc,x,h,hc=>by
  unfold j1_
  rcases Qg.mp h with e|h
  ·cases e
   rw[Qc (by decide)]
   split
   ·refine a4s ?_
    rw[u1_];simp
   ·rename_i hn;rw[hn]at hc;cases hc
  ·split
   ·split
    ·exact a3l h hc
    ·exact a3l h hc
   ·exact a3l h hc
theorem a5K:∀{names:List (Str×NameKind)}{h:Heap}{acc:List (Str×Addr)}{x:Str}{c:Addr},(cellsFrom h.objs.size names acc).lookup x=some c->
  acc.lookup x=some c∨((pushCells h names).IsCell c none/\h.objs.size≤c/\(x,NameKind.cell)∈names)
 |[],h,acc,x,c,q=>.inl q
 |(n,k)::r,h,acc,x,c,q=>by
  unfold cellsFrom at q;unfold pushCells;split at q
  ·rename_i hk
   rw[Qc hk];have hk':k=.cell:=by simpa using hk
   have ih:=a5K (names:=r) (h:=h.push {cls:=.type "cell",data:=.cell none}) (acc:=(n,h.objs.size)::acc) (x:=x) (c:=c) (by rw[Zs];exact q)
   rcases ih with z|⟨z1,z2,z3⟩
   ·rw[u1_]at z
    split at z
    ·rename_i e;subst e;cases z
     exact .inr ⟨⟨_,Xk _ _ _ _ (Ql _ rfl),rfl⟩,Qu _,by rw[hk'];exact Qo⟩
    ·exact .inl z
   ·rw[Zs]at z2
    exact .inr ⟨z1,by omega,Qt _ z3⟩
  ·rename_i hk
   rw[Qp hk]
   rcases a5K q with z|⟨z1,z2,z3⟩
   ·exact .inl z
   ·exact .inr ⟨z1,z2,Qt _ z3⟩
theorem a5L:∀{names:List (Str×NameKind)}{n:Nat}{acc:List (Str×Addr)},(∀x y c,acc.lookup x=some c->acc.lookup y=some c->x=y)->(∀x c,acc.lookup x=some c->c<n)->
  ∀x y c,(cellsFrom n names acc).lookup x=some c->(cellsFrom n names acc).lookup y=some c->x=y
 |[],n,acc,h1,h2=>h1
 |(m,k)::r,n,acc,h1,h2=>by
  unfold cellsFrom;split
  ·refine a5L (names:=r) (fun x y c q1 q2=>?_) (fun x c q=>?_)
   ·rw[u1_]at q1 q2
    split at q1<;>split at q2
    ·rename_i e1 e2;rw[e1,e2]
    ·cases q1;exact absurd (h2 _ _ q2) (Yp _)
    ·cases q2;exact absurd (h2 _ _ q1) (Yp _)
    ·exact h1 x y c q1 q2
   ·rw[u1_]at q
    split at q
    ·cases q;exact Nat.lt_succ_self _
    ·exact Jv (h2 _ _ q)
  ·exact a5L (names:=r) h1 h2
theorem a4t{env:Env}{x:Str}:∀{names:List (Str×NameKind)},((names.map fun(n,k)=>if(k==NameKind.free&&env.scope.kind==.function&&env.kindOf n==some .cell)then(n,NameKind.cell)else(n,k)).lookup x)=
  (names.lookup x).map fun k=>if(k==NameKind.free&&env.scope.kind==.function&&env.kindOf x==some .cell)then NameKind.cell else k
 |[]=>rfl
 |(n,k)::r=>by
  have ih:=a4t (env:=env) (x:=x) (names:=r)
  show List.lookup x ((if(k==NameKind.free&&env.scope.kind==.function&&env.kindOf n==some .cell)=true then(n,NameKind.cell)else(n,k))::_)=_
  by_cases hx:x=n
  ·subst hx
   rw[u1_ (a:=k),Qc rfl]
   by_cases hc:(k==NameKind.free&&env.scope.kind==.function&&env.kindOf x==some .cell)=true
   ·rw[Qc hc,u1_,Qc rfl]
    show _=some (if(k==NameKind.free&&env.scope.kind==.function&&env.kindOf x==some .cell)=true then NameKind.cell else k)
    rw[Qc hc]
   ·rw[Qp hc,u1_,Qc rfl]
    show _=some (if(k==NameKind.free&&env.scope.kind==.function&&env.kindOf x==some .cell)=true then NameKind.cell else k)
    rw[Qp hc]
  ·rw[u1_ (a:=k),Qp hx]
   by_cases hc:(k==NameKind.free&&env.scope.kind==.function&&env.kindOf n==some .cell)=true
   ·rw[Qc hc,u1_,Qp hx];exact ih
   ·rw[Qp hc,u1_,Qp hx];exact ih
theorem a4u:∀{names:List (Str×NameKind)}{n:Nat}{acc:List (Str×Addr)}{x:Str}{c0:Addr},acc.lookup x=some c0->∃c,(cellsFrom n names acc).lookup x=some c/\(c=c0∨n≤c)
 |[],n,acc,x,c0,h=>⟨c0,h,.inl rfl⟩
 |(m,k)::r,n,acc,x,c0,h=>by
  unfold cellsFrom;split
  ·by_cases hx:x=m
   ·obtain⟨c,h1,h2⟩:=a4u (names:=r) (n:=n+1) (acc:=(m,n)::acc) (x:=x) (c0:=n) (by rw[u1_,Qc hx])
    exact⟨c,h1,.inr (h2.elim (fun z=>Nat.le_of_eq z.symm) fun z=>Uq z)⟩
   ·obtain⟨c,h1,h2⟩:=a4u (names:=r) (n:=n+1) (acc:=(m,n)::acc) (x:=x) (c0:=c0) (by rw[u1_,Qp hx];exact h)
    exact⟨c,h1,h2.elim .inl fun z=>.inr (Uq z)⟩
  ·exact a4u h
theorem a5M:∀{names:List (Str×NameKind)}{n:Nat}{acc:List (Str×Addr)}{x:Str},(x,NameKind.cell)∈names->∃c,(cellsFrom n names acc).lookup x=some c/\n≤c
 |[],n,acc,x,h=>by cases h
 |(m,k)::r,n,acc,x,h=>by
  unfold cellsFrom
  rcases Qg.mp h with e|h
  ·cases e
   rw[Qc (by decide)]
   obtain⟨c,h1,h2⟩:=a4u (names:=r) (n:=n+1) (acc:=(m,n)::acc) (x:=m) (c0:=n) (by rw[u1_,Qc rfl])
   exact⟨c,h1,h2.elim (fun z=>Nat.le_of_eq z.symm) fun z=>Uq z⟩
  ·split
   ·obtain⟨c,h1,h2⟩:=a5M (names:=r) (n:=n+1) (acc:=(m,n)::acc) h
    exact⟨c,h1,Uq h2⟩
   ·exact a5M h
def a2y(scope:Scope)(env:Env)(C:Addr):Env:=
 {scope:=relabel scope env,locals:=C,globals:=env.globals,cells:=cellsFrom (C+1) scope.names (j1_ env.cells scope.names []),qual:=env.qual,func:=none,code:=env.code,frame:=env.frame,builtins:=env.builtins}
def y5_(X:Cx)(N':List Str)(scope:Scope)(s:Shared)(H:Hp)(fp:List Addr):Cx where
 prog:=X.prog
 w:=X.w
 K:=X.K
 mg:=X.mg
 base:=X.base
 A:=X.A
 N:=N'
 s₀:=s
 H₀:=H
 env:=a2y scope X.env s.heap.objs.size
 outer:=X.stack
 stack:=X.stack
 ex:=fp
 fn:=fun x=>scope.names.lookup x==some .cell
 calm:=X.calm
 pn:=[]
 xe:=fun _ _=>False
structure CompOk(X:Cx)(N':List Str)(scope:Scope)(keep:List Bool)(more:Nat):Prop where
 kind:scope.kind=.function
 uniq:∀y∈scope.names,scope.names.lookup y.1=some y.2
 clos:closureFor scope X.env=pure (j1_ X.env.cells scope.names [])
 free:∀y∈scope.names,y.2=.free->(X.env.cells.lookup y.1).isSome=true
 klen:keep.length=X.N.length
 len:N'.length=X.N.length+more
 kept:∀(i:Nat) (x:Str),keep[i]? =some true->N'[i]? =some x->X.N[i]? =some x/\scope.names.lookup x≠some .local/\scope.names.lookup x≠some .cell
 outVis:∀(i:Nat) (x:Str),keep[i]? =some true->X.N[i]? =some x->scope.names.lookup x=some .free->X.env.scope.names.lookup x=some .cell∨X.env.scope.names.lookup x=some .free
def g5_(keep:List Bool)(more:Nat)(σ:St):St:=List.zipWith (fun k v=>if k then v else none) keep σ++List.replicate more none
theorem a2z{keep:List Bool}{more:Nat}{σ:St}{i:Nat}{v:V}(h:(g5_ keep more σ)[i]? =some (some v)):keep[i]? =some true/\σ[i]? =some (some v):=by
 unfold g5_ at h
 rcases a1j h with⟨_,h⟩|⟨_,h⟩
 ·rw[Js]at h
  cases e1:keep[i]? with
  |none=>rw[e1]at h;cases h
  |some k=>
   cases e2:σ[i]? with
   |none=>rw[e1,e2]at h;cases h
   |some u=>
    rw[e1,e2]at h;cases k with
    |true=>simp at h;exact⟨rfl,by rw[h]⟩
    |false=>simp at h
 ·cases h
theorem b5f{X:Cx}{N':List Str}{scope:Scope}{keep:List Bool}{more:Nat}{pins:OX}{σ:St}{H:Hp}{s:Shared}{fp:List Addr}(ok:CompOk X N' scope keep more)(I:Inv X pins σ H s)
  (hf:∀b∈fp,u3_ X pins H b/\b<s.heap.objs.size):
  Inv (y5_ X N' scope s H fp) [] (g5_ keep more σ) H {s with heap:=pushCells (s.heap.push {cls:=.type "dict",data:=.dict #[]}) scope.names}:=by
 have hsz:(s.heap.push {cls:=.type "dict",data:=.dict #[]}).objs.size=s.heap.objs.size+1:=Zs ..
 have keepAll:∀b u,s.heap.get? b=some u->(pushCells (s.heap.push {cls:=.type "dict",data:=.dict #[]}) scope.names).get? b=some u:=fun b u e=>Xk _ _ _ _ (Qx _ e)
 have cases':∀x c,(a2y scope X.env s.heap.objs.size).cells.lookup x=some c->X.env.cells.lookup x=some c∨((pushCells (s.heap.push {cls:=.type "dict",data:=.dict #[]}) scope.names).IsCell c none/\s.heap.objs.size+1≤c/\(x,NameKind.cell)∈scope.names):=fun x c e=>by
  have e':(cellsFrom ((s.heap.push {cls:=.type "dict",data:=.dict #[]}).objs.size) scope.names (j1_ X.env.cells scope.names [])).lookup x=some c:=by rw[hsz];exact e
  rcases a5K e' with z|⟨z1,z2,z3⟩
  ·rcases a1S z with y|y
   ·cases y
   ·exact .inl y
  ·rw[hsz]at z2;exact .inr ⟨z1,z2,z3⟩
 have cellLt:∀x c,X.env.cells.lookup x=some c->c<s.heap.objs.size:=fun x c e=>by
  obtain⟨v,q⟩:=I.cell x c e;exact q.lt
 have fsSub:∀b∈frs X.stack,b<s.heap.objs.size:=fun b hb=>by
  obtain⟨_,o,ho,_⟩:=I.stack.mem hb;exact Qw ho
 refine⟨⟨I.ok.mod,?_,I.ok.glob,I.ok.blt,Qu _,fun x y c e1 e2=>?_,fun x hx=>?_,fun x c e1 e2=>?_,I.ok.hd,I.ok.frames,.inl rfl,fun b hb=>?_,I.bs,Yj I.ok.bsz I.sz,fun b o e hb=>?_,fun b hb hb2=>?_,I.stack,I.stkFree⟩,
  rfl,I.bare,Un.kept keepAll,⟨fun _=>none,(Heap.Ns.new s.heap (.type "dict")).keeps (Xk _ _),fun i x v e1 e2 e3=>?_⟩,fun x c e=>?_,I.hok.fresh (Qu _),fun x c e=>?_,fun p hp=>absurd (show p∈([]:OX)from hp) (by simp),I.hok.kept keepAll,?_⟩
 ·show(relabel scope X.env).kind=.function
  exact ok.kind
 ·refine a5L (names:=scope.names) (n:=s.heap.objs.size+1) (acc:=j1_ X.env.cells scope.names []) (fun x y c q1 q2=>?_) (fun x c q=>?_) x y c e1 e2
  ·rcases a1S q1 with z1|z1
   ·cases z1
   ·rcases a1S q2 with z2|z2
    ·cases z2
    ·exact I.ok.inj x y c z1 z2
  ·rcases a1S q with z1|z1
   ·cases z1
   ·exact Jv (cellLt x c z1)
 ·have hx':(relabel scope X.env).names.lookup x=some .cell∨(relabel scope X.env).names.lookup x=some .free:=hx
  have h1:scope.names.lookup x=some .cell∨scope.names.lookup x=some .free:=by
   unfold relabel at hx';rw[a4t]at hx';cases q:scope.names.lookup x with
   |none=>rw[q]at hx';simp at hx'
   |some k=>
    rw[q]at hx';cases k<;>simp at hx'<;>first|exact .inl rfl|exact .inr rfl
  refine Ym.mp (Ul scope.names _ _ ?_)
  rcases h1 with h1|h1
  ·exact .inl h1
  ·exact .inr (a3l (Zh h1) (ok.free _ (Zh h1) rfl))
 ·have e1':scope.names.lookup x=some .cell:=by simpa [y5_]using e1
  obtain⟨c',q1,q2⟩:=a5M (names:=scope.names) (n:=s.heap.objs.size+1) (acc:=j1_ X.env.cells scope.names []) (Zh e1');have e2':(cellsFrom (s.heap.objs.size+1) scope.names (j1_ X.env.cells scope.names [])).lookup x=some c:=e2;rw[q1]at e2';cases e2';exact Uq q2
 ·refine⟨Zq (hf b hb).2,fun x c e z=>?_⟩
  rcases cases' x c e with y|⟨_,y,_⟩
  ·exact(hf b hb).1.2.2.2.2.1 x c y z
  ·exact absurd (Qa (hf b hb).2 (Uq y)) (by rw[z];exact Yp _)
 ·have:=(I.bs b o e).1
  rcases(hf b hb).1.2.2.2.1 with z|z
  ·exact I.ok.noex b o e z
  ·exact absurd (Qa (Qw e) (Yj I.ok.bsz z)) (Yp _)
 ·rcases Qg.mp (I.stkSub b hb2)with z|z
  ·exact(hf b hb).1.2.1 z
  ·exact(hf b hb).1.2.2.1 z
 ·obtain⟨k1,k2⟩:=a2z e2
  obtain⟨h1,h2,h3⟩:=ok.kept i x k1 e1;have e3':(relabel scope X.env).names.lookup x=some .local∨(relabel scope X.env).names.lookup x=some .cell∨(relabel scope X.env).names.lookup x=some .free:=e3;have hfree:scope.names.lookup x=some .free:=by
   unfold relabel at e3';rw[a4t]at e3';cases q:scope.names.lookup x with
   |none=>rw[q]at e3';simp at e3'
   |some k=>
    rw[q]at e3' h2 h3;cases k<;>simp at e3' h2 h3<;>rfl
  obtain⟨m,hn,hl⟩:=I.loc;have ov:=ok.outVis i x k1 h1 hfree;obtain⟨u,r,l⟩:=hl i x v h1 k2 (.inr ov);refine⟨u,r,.inr ?_⟩;obtain⟨c0,hc0⟩:=Ym.mp (ok.free _ (Zh hfree) rfl);have hcell:s.heap.IsCell c0 (some u):=by
   rcases l with⟨kl,_⟩|⟨_,c,hc,hz⟩
   ·have kl':X.env.scope.names.lookup x=some .local:=kl
    rcases ov with z|z<;>(rw[z]at kl';cases kl')
   ·have hc':X.env.cells.lookup x=some c:=hc
    have hc0':X.env.cells.lookup x=some c0:=hc0
    rw[hc']at hc0';cases hc0';exact hz
  have hk:(a2y scope X.env s.heap.objs.size).kindOf x=some .cell∨(a2y scope X.env s.heap.objs.size).kindOf x=some .free:=by
   show(relabel scope X.env).names.lookup x=some .cell∨(relabel scope X.env).names.lookup x=some .free
   rcases e3' with z|z
   ·exfalso
    unfold relabel at z;rw[a4t,hfree]at z;simp only[Tp,Zc]at z;split at z<;>cases z
   ·exact z
  refine⟨hk,c0,?_,hcell.keeps keepAll⟩;obtain⟨c1,hc1⟩:=Ym.mp (Ul (x:=x) scope.names (s.heap.objs.size+1) (j1_ X.env.cells scope.names []) (.inr (a3l (Zh hfree) (ok.free _ (Zh hfree) rfl))));have hc1':(a2y scope X.env s.heap.objs.size).cells.lookup x=some c1:=hc1
  rcases cases' x c1 hc1' with z|⟨_,_,z⟩
  ·have hc0':X.env.cells.lookup x=some c0:=hc0
   rw[hc0']at z;cases z;exact hc1'
  ·have:=ok.uniq _ z
   rw[hfree]at this;cases this
 ·rcases cases' x c e with y|⟨y,_,_⟩
  ·obtain⟨v,q⟩:=I.cell x c y
   exact⟨v,q.keeps keepAll⟩
  ·exact⟨none,y⟩
 ·rcases cases' x c e with y|⟨_,y,_⟩
  ·exact I.freeC x c y
  ·exact I.hok.fresh (by omega)
 ·show(g5_ keep more σ).length=N'.length
  unfold g5_;rw[Zr,Uv,Yo,ok.len,ok.klen,I.len]
  omega
section
variable{prog:Program}{w:World}{A:Around}{R:Result->Shared->Prop}{s:Shared}
theorem b5g{M:Model}{E:OE}{scope:Scope}{env:Env}{Q:Env->Shared->Prop}(cl:List (Str×Addr))
  (h:Q {scope:=scope,locals:=s.heap.objs.size,globals:=env.globals,cells:=cellsFrom (s.heap.objs.size+1) scope.names cl,qual:=env.qual,func:=none,code:=env.code,frame:=env.frame,builtins:=env.builtins}
   {s with heap:=pushCells (s.heap.push {cls:=.type "dict",data:=.dict #[]}) scope.names}):
  wpAny M A (newFunctionEnv scope env.globals cl [] env.qual none .none (some env)) Q E s:=by
 simp only[newFunctionEnv,Option.isSome_some,Yv];refine Qq (wpAny_alloc ?_);refine Qq (wpAny_layCells _ (fun name kind cells=>by cases hkc:kind==NameKind.cell<;>simp[hkc]) _ _ _ _ ?_)
 rw[show({s with heap:=s.heap.push {cls:=.type "dict",data:=.dict #[]}}:Shared).heap.objs.size=s.heap.objs.size+1 from Zs ..]
 exact Qq (by rw[List.forIn_nil];exact Qj (Qj h))
end
def a0p(X:Cx)(ifs:List Expr)(t:TT):Prop:=
 ∀(pins:OX) (s:Shared) (σ:St) (H:Hp) (Q:Bool->Hp->Prop),Inv X pins σ H s->t σ H Q->
  wpAny (model X.prog X.w) X.A (forIn ifs true fun c r=>if r=true then do let ok←isTrue c X.env (eval c X.env);pure (ForInStep.yield ok)else pure (ForInStep.yield r)) (TP X pins σ Q) X.xe s
theorem b5h{X:Cx}:a0p X [] (fun _ H Q=>Q true H):=fun _ _ _ H _ I h=>wpAny_tests_nil ⟨H,I,h⟩
theorem b5i{X:Cx}{c:Expr}{t:TT}(h:PT X c t):a0p X [c] t:=fun pins s σ H Q I q=>wpAny_tests_one (h pins s σ H Q I q)
section
variable{X:Cx}{N':List Str}{scope:Scope}{keep:List Bool}{more:Nat}{tg iter elt:Expr}{ifs:List Expr}{g:TG}{tt:TT}{te:TE}{pos:Pos}
end
def g6_(keep:List Bool)(more:Nat)(env:Env'):Env':=List.zipWith (fun k w=>if k then w else .nil) keep env++List.replicate more .nil
def a0c:Bool->W->W->Option W
 |false,w,_=>some w
 |true,.nil,_=>some .nil
 |true,.dat d,_=>some (.dat d)
 |true,.own _,.own ds=>some (.own ds)
 |true,.own _,.dat d=>some (.dat d)
 |true,.par _,.par ds=>some (.par ds)
 |true,.ownD _ _,.ownD ks vs=>some (.ownD ks vs)
 |true,.ownD _ _,.dat d=>some (.dat d)
 |true,.parD _ _,.parD ks vs=>some (.parD ks vs)
 |_,_,_=>none
theorem b5j{w w2 w':W}{m:Mu}(h:a0c true w w2=some w')(e:w'.mut=some m):w2=w'/\∃d0,w.mut=some d0/\w.isOwn=w'.isOwn/\w.isPar=w'.isPar:=by
 cases w<;>cases w2<;>first
  |(simp only[a0c,Zc]at h;subst h;exact⟨rfl,_,rfl,rfl,rfl⟩)
  |(simp only[a0c,Zc]at h;subst h;cases e;done)
  |(simp[a0c]at h;done)
theorem b5k{w w2:W}{d:D}(h:a0c true w w2=some (.dat d)):w=.dat d∨(w2=.dat d/\∃d0,w.mut=some d0):=by
 cases w<;>cases w2<;>first
  |(simp only[a0c,Zc]at h;exact .inl h)
  |(simp only[a0c,Zc]at h;exact .inr ⟨h,_,rfl⟩)
  |(simp[a0c]at h;done)
def w1_:List Bool->Env'->Env'->Option Env'
 |[],[],_=>some []
 |k::ks,w::ws,w2::ws2=>(a0c k w w2).bind fun x=>(w1_ ks ws ws2).map fun r=>x::r
 |_,_,_=>none
theorem a5N:∀{keep:List Bool}{env env2 env':Env'}{i:Nat}{w':W},w1_ keep env env2=some env'->env'[i]? =some w'->∃k w w2,keep[i]? =some k/\env[i]? =some w/\env2[i]? =some w2/\a0c k w w2=some w'
 |[],[],_,env',i,w',h,e=>by simp only[w1_,Zc]at h;subst h;simp at e
 |[],_::_,_,env',i,w',h,e=>by simp[w1_]at h
 |k::ks,[],_,env',i,w',h,e=>by simp[w1_]at h
 |k::ks,w::ws,[],env',i,w',h,e=>by simp[w1_]at h
 |k::ks,w::ws,w2::ws2,env',i,w',h,e=>by
  unfold w1_ at h;obtain⟨x,h1,h2⟩:=q1_ h;obtain⟨r,h3,h4⟩:=v8_ h2;subst h4;cases i with
  |zero=>simp at e;subst e;exact⟨k,w,w2,rfl,rfl,rfl,h1⟩
  |succ i=>simpa using a5N (i:=i) h3 (by simpa using e)
theorem a9l:∀{keep:List Bool}{env env2 env':Env'},w1_ keep env env2=some env'->env'.length=env.length
 |[],[],_,env',h=>by simp only[w1_,Zc]at h;subst h;rfl
 |[],_::_,_,env',h=>by simp[w1_]at h
 |k::ks,[],_,env',h=>by simp[w1_]at h
 |k::ks,w::ws,[],env',h=>by simp[w1_]at h
 |k::ks,w::ws,w2::ws2,env',h=>by
  unfold w1_ at h;obtain⟨x,h1,h2⟩:=q1_ h;obtain⟨r,h3,h4⟩:=v8_ h2;subst h4
  simp[a9l h3]
theorem a1T{keep:List Bool}{more:Nat}{env:Env'}{i:Nat}{w:W}(h:(g6_ keep more env)[i]? =some w)(hw:w≠.nil):keep[i]? =some true/\env[i]? =some w:=by
 unfold g6_ at h
 rcases a1j h with⟨_,h⟩|⟨_,h⟩
 ·rw[Js]at h
  cases e1:keep[i]? with
  |none=>rw[e1]at h;cases h
  |some k=>
   cases e2:env[i]? with
   |none=>rw[e1,e2]at h;cases h
   |some u=>
    rw[e1,e2]at h;cases k with
    |true=>simp at h;exact⟨rfl,by rw[h]⟩
    |false=>simp at h;exact absurd h.symm hw
 ·exact absurd h hw
theorem a4v{keep:List Bool}{more:Nat}{σ:St}{i:Nat}{v:Option V}(hk:keep[i]? =some true)(h:σ[i]? =some v):(g5_ keep more σ)[i]? =some v:=by
 unfold g5_;have h1:i<keep.length:=(Qm.mp hk).1;have h2:i<σ.length:=(Qm.mp h).1;rw[Jz (by rw[Uv];omega),Js,hk,h]
 rfl
theorem a3m{w:W}{ds:Mu}(h:w.mut=some ds):w≠.nil:=fun z=>by rw[z]at h;cases h
section
variable{K:Qz}{B:OA}{G G':Hp}{σ σ':St}{env env2 env':Env'}{H H':Hp}{keep:List Bool}{more:Nat}
theorem a5O{a:Addr}(h:Owned (g5_ keep more σ) (g6_ keep more env) a):Owned σ env a:=by
 obtain⟨i,w,ds,e1,e2,e3⟩:=h;exact⟨i,w,ds,(a1T e1 (a3m e2)).2,e2,(a2z e3).2⟩
theorem Rel.ext(r:Rel K B G σ env H)(hk:keep.length=σ.length):Rel K B G (g5_ keep more σ) (g6_ keep more env) H:=by
 refine⟨r.sub,?_,fun i d e=>?_,fun i w ds e1 e2=>?_,fun i j w w' ds es a q1 q2 q3 q4 q5 q6=>?_,fun i w a q1 qo q2=>?_,r.old,r.tabs,r.gnt⟩
 ·unfold g6_ g5_
  rw[Zr,Zr,Uv,Uv,Yo,Yo,r.len]
 ·obtain⟨k1,k2⟩:=a1T e (by simp)
  obtain⟨v,e1,e2⟩:=r.dat i d k2;exact⟨v,a4v k1 e1,e2⟩
 ·obtain⟨k1,k2⟩:=a1T e1 (a3m e2)
  obtain⟨a,xs,e3,e4⟩:=r.own i w ds k2 e2;exact⟨a,xs,a4v k1 e3,e4⟩
 ·exact r.inj i j w w' ds es a (a1T q1 (a3m q2)).2 q2 (a1T q3 (a3m q4)).2 q4 (a2z q5).2 (a2z q6).2
 ·exact r.fresh i w a (a1T q1 (by rintro rfl;cases qo)).2 qo (a2z q2).2
theorem Ev.out(r:Rel K B G σ env H)(hk:keep.length=σ.length)(ev:Ev K B G (g5_ keep more σ) (g6_ keep more env) H G' σ' env2 H')(hσ:∀j,j<σ.length->σ'[j]? =(g5_ keep more σ)[j]?)(ho:w1_ keep env env2=some env'):
  Ev K B G σ env H G' σ env' H':=by
 have mutO:∀(i:Nat) (w':W) (ds:Mu),env'[i]? =some w'->w'.mut=some ds->∃w0 d0,env[i]? =some w0/\w0.mut=some d0/\w0.isOwn=w'.isOwn/\w0.isPar=w'.isPar/\
   ∃a o,σ[i]? =some (some (V.ref a))/\H' a=some o/\RepM K G' o ds/\G' a=none:=fun i w' ds e1 e2=>by
  obtain⟨k,w,w2,h1,h2,h3,h4⟩:=a5N ho e1;have hi:i<σ.length:=by have:=(Qm.mp h2).1;rw[←r.len];exact this
  cases k with
  |false=>
   simp only[a0c,Zc]at h4;subst h4;obtain⟨a,xs,q1,q2,q3,q4⟩:=r.own i w ds h2 e2;have no:¬ Owned (g5_ keep more σ) (g6_ keep more env) a:=by
    rintro⟨j,v,es,y1,y2,y3⟩;obtain⟨z1,z2⟩:=a1T y1 (a3m y2);have:=r.inj j i v w es ds a z2 y2 h2 e2 (a2z y3).2 q1;subst this;rw[h1]at z1;cases z1
   exact⟨w,ds,h2,e2,rfl,rfl,a,xs,q1,ev.keep a _ no q3.nt q2,q3.mono ev.same,ev.stay a (by rw[q2];simp) no q4⟩
  |true=>
   obtain⟨z,d0,z1,z2,z3⟩:=b5j h4 e2;subst z;refine⟨w,d0,h2,z1,z2,z3,?_⟩;obtain⟨a,xs,q1,q2,q3,q4⟩:=ev.rel.own i w2 ds h3 e2;obtain⟨a0,xs0,p1,_⟩:=r.own i w d0 h2 z1;rw[hσ i hi,a4v h1 p1]at q1;cases q1;exact⟨a,xs,p1,q2,q3,q4⟩
 refine⟨⟨ev.rel.sub,by rw[a9l ho];exact r.len,fun i d e=>?_,fun i w ds e1 e2=>?_,fun i j w w' ds es a q1 q2 q3 q4 q5 q6=>?_,fun i w a q1 qo q2=>?_,ev.rel.old,ev.rel.tabs,ev.rel.gnt⟩,ev.same,fun b o n t e=>ev.keep b o (fun z=>n (a5O z)) t e,ev.live,fun b e n g=>ev.stay b e (fun z=>n (a5O z)) g,fun a z=>.inl ?_,fun i w e hp=>⟨rfl,?_⟩,rfl⟩
 ·obtain⟨k,w,w2,h1,h2,h3,h4⟩:=a5N ho e
  have hi:i<σ.length:=by have:=(Qm.mp h2).1;rw[←r.len];exact this
  have old:w=.dat d->∃v,σ[i]? =some (some v)/\Rep K G' v d:=fun z=>by
   subst z;obtain⟨v,e1,e2⟩:=r.dat i d h2;exact⟨v,e1,Rep.mono ev.same d e2⟩
  cases k with
  |false=>simp only[a0c,Zc]at h4;exact old h4
  |true=>
   rcases b5k h4 with z|⟨z,d0,z0⟩
   ·exact old z
   ·subst z
    obtain⟨v,q1,q2⟩:=ev.rel.dat i d h3;obtain⟨a0,xs0,p1,_⟩:=r.own i _ d0 h2 z0;rw[hσ i hi,a4v h1 p1]at q1;cases q1;exact⟨_,p1,q2⟩
 ·obtain⟨w0,d0,_,_,_,_,q⟩:=mutO i w ds e1 e2
  exact q
 ·obtain⟨w0,d0,y1,y2,_⟩:=mutO i w ds q1 q2
  obtain⟨w1,d1,y3,y4,_⟩:=mutO j w' es q3 q4;exact r.inj i j w0 w1 d0 d1 a y1 y2 y3 y4 q5 q6
 ·obtain⟨m,hm⟩:=own_mut qo
  obtain⟨w0,d0,y1,_,y3,_⟩:=mutO i _ m q1 hm;exact r.fresh i w0 a y1 (y3.trans qo) q2
 ·obtain⟨i,w,ds,e1,e2,e3⟩:=z
  obtain⟨w0,d0,y1,y2,_⟩:=mutO i w ds e1 e2;exact⟨i,w0,d0,y1,y2,e3⟩
 ·obtain⟨m,hm⟩:=par_mut hp
  obtain⟨w0,d0,y1,_,_,y4,_⟩:=mutO i _ m e hm;exact⟨w0,y1,y4.trans hp⟩
theorem Ev.swapAt{p:Addr}{o:HO}(ev:Ev K B G σ env H G' σ' env' H')(no:¬ Owned σ env p)(hp:H p≠none)(gp:G p=none)(nt:NT o)(nx:∀φ,H' p≠some (.ext φ)):Ev K B G σ env (upd H p o) G' σ' env' (upd H' p o):=by
 have np:∀(i:Nat) (w:W) (ds:Mu) (a:Addr),env'[i]? =some w->w.mut=some ds->σ'[i]? =some (some (V.ref a))->a≠p:=fun i w ds a e1 e2 e3 z=>by
  rcases ev.sub a ⟨i,w,ds,e1,e2,e3⟩with q|q
  ·exact no (z ▸ q)
  ·exact hp (z ▸ q)
 have gp':G' p=none:=ev.stay p hp no gp
 have live':∀b,H' b≠none->(upd H' p o) b≠none:=fun b h=>by
  by_cases hb:b=p
  ·subst hb;rw[y3_];simp
  ·rw[q4_ hb];exact h
 refine⟨⟨fun b u e=>?_,ev.rel.len,ev.rel.dat,fun i w ds e1 e2=>?_,ev.rel.inj,ev.rel.fresh,fun b h=>live' b (ev.rel.old b h),ev.rel.tabs.upd nt nx,ev.rel.gnt⟩,ev.same,fun b u n t e=>?_,fun b e=>?_,fun b e n g=>?_,fun a z=>?_,ev.par,ev.slen⟩
 ·have hb:b≠p:=fun z=>by rw[z,gp']at e;cases e
  rw[q4_ hb];exact ev.rel.sub b u e
 ·obtain⟨a,xs,e3,e4,e5,e6⟩:=ev.rel.own i w ds e1 e2
  exact⟨a,xs,e3,by rw[q4_ (np i w ds a e1 e2 e3)];exact e4,e5,e6⟩
 ·by_cases hb:b=p
  ·subst hb;rw[y3_]at e ⊢;exact e
  ·rw[q4_ hb]at e ⊢;exact ev.keep b u n t e
 ·by_cases hb:b=p
  ·subst hb;rw[y3_];simp
  ·rw[q4_ hb]at e ⊢;exact ev.live b e
 ·by_cases hb:b=p
  ·subst hb;exact gp'
  ·rw[q4_ hb]at e;exact ev.stay b e n g
 ·obtain⟨i,w,ds,e1,e2,e3⟩:=id z
  rw[q4_ (np i w ds a e1 e2 e3)];exact ev.sub a z
end
def w5_(g:OZ)(t:Mo Bool)(m:Mo D):List D->Mo (List D)
 |[],env=>some ([],env)
 |d::ds,env=>(g d env).bind fun e1=>(t e1).bind fun p=>if p.1 then(m p.2).bind fun q=>(w5_ g t m ds q.2).map fun r=>(q.1::r.1,r.2)else w5_ g t m ds p.2
def y6_(mi:Mo (List D))(keep:List Bool)(more:Nat)(g:OZ)(t:Mo Bool)(m:Mo D):Mo (List D):=fun env=>(mi env).bind fun p=>if p.1.length≤100000 then
 (w5_ g t m p.1 (g6_ keep more p.2)).bind fun q=>(w1_ keep p.2 q.2).map fun e=>(q.1,e)else none
def x4_:Mo Bool:=fun env=>some (true,env)
theorem a0C{X:Cx}{B:OA}:a0p X [] (TTm X.K B x4_):=fun pins s σ H Q I h=>by
 obtain⟨G,env,b,env',rl,e,k⟩:=h;cases e;exact b5h pins s σ H Q I (k G H (.refl rl))
theorem a9m{X:Cx}{B:OA}{c:Expr}{t:Mo Bool}(h:ET X B c t):a0p X [c] (TTm X.K B t):=b5i h
section
variable{X:Cx}{B:OA}{N':List Str}{scope:Scope}{keep:List Bool}{more:Nat}{tg iter elt:Expr}{ifs:List Expr}{g:OZ}{t:Mo Bool}{m:Mo D}{mi:Mo (List D)}{pos:Pos}
end
section
variable{X:Cx}{B:OA}{pos:Pos}{a b c e:Expr}{ma mb mc:Mo D}{ms:Mo (List D)}{es:List Expr}
def tyD:D->String
 |.non=>"NoneType"|.bl _=>"bool"|.int _=>"int"|.str _=>"str"|.tup _=>"tuple"|.lst _=>"list"|.emp=>"dict"|.obj _=>"object"|.dct _ _=>"dict"
def g7_(K:Qz)(T:String):Prop:=T∈(["tuple","list","int","bool","str"]:List String)
def a2A(t T:String):Bool:=t==T||(t=="bool"&&T=="int")
theorem b5l{K:Qz}{T:String}(h:g7_ K T):∀d,(∀o,d≠.obj o)->PySem.W.kitOne K (.type (tyD d)) (.type T)=some (a2A (tyD d) T):=by
 intro d hd;unfold g7_ at h;simp only[Qg,Zg,Uk]at h
 rcases h with rfl|rfl|rfl|rfl|rfl<;>cases d<;>first|rfl|exact absurd rfl (hd _)
theorem b5m{pins:OX}{σ:St}{G H:Hp}{s:Shared}{A:Around}{E:OE}{Q:OE}{T:String}{x:V}{u:Value}{d:D}(I:Inv X pins σ H s)(l:Le G H)(rx:q7_ x u)(rp:Rep X.K G x d)
  (kt:g7_ X.K T)(h:∀tk,Q (.bool (a2A (tyD d) T)) {s with toks:=tk}):wpAny (model X.prog X.w) A (call (.builtin "isinstance") [u,.type T]) Q E s:=by
 have e:=b5l kt d
 cases d with
 |non=>simp only[Rep]at rp;subst rp;exact a2n I rx (.non) (e nofun) h
 |bl b=>simp only[Rep]at rp;subst rp;exact a2n I rx (.bl b) (e nofun) h
 |int i=>simp only[Rep]at rp;subst rp;exact a2n I rx (.int i) (e nofun) h
 |str z=>simp only[Rep]at rp;obtain⟨rp,_⟩:=rp;subst rp;exact a2n I rx (.str z) (e nofun) h
 |tup ds=>
  simp only[Rep]at rp;obtain⟨a,xs,rfl,q,_⟩:=rp;cases rx;obtain⟨its,_,⟨o,h1,h2,_⟩,_⟩:=I.tuple (l.sqT q);exact Zw PySem.W.kitx_tuple I.kIn ⟨o,h1,h2⟩ (e nofun) (fun z=>nomatch z) h
 |lst ds=>
  simp only[Rep]at rp;obtain⟨a,xs,rfl,q,_⟩:=rp;cases rx;obtain⟨its,_,⟨o,n,h1,h2,_⟩,_⟩:=I.list (l.sqL q);exact Zw Xa I.kIn ⟨o,h1,h2⟩ (e nofun) (fun z=>nomatch z) h
 |emp=>
  simp only[Rep]at rp;obtain⟨a,kvs,rfl,q⟩:=rp;exact a2n I rx (.dK (l _ _ q)) (e nofun) h
 |dct ks vs=>
  simp only[Rep]at rp;obtain⟨a,kvs,rfl,q,_⟩:=rp;exact a2n I rx (.dT (l _ _ q)) (e nofun) h
 |obj o=>
  have h0:a2A "object" T=false:=by
   unfold g7_ at kt;simp only[Qg,Zg,Uk]at kt
   rcases kt with rfl|rfl|rfl|rfl|rfl<;>rfl
  have h':∀tk,Q (.bool false) {s with toks:=tk}:=fun tk=>by have:=h tk;rwa [show a2A (tyD (.obj o)) T=false from h0]at this
  simp only[Rep]at rp;cases o with
  |exc n=>
   obtain⟨a,C,HP,rfl,_,h3,h4,h5⟩:=rp;cases rx;exact Zw h4 I.kIn (I.hok a _ (l _ _ h3)).1 (h5 T kt) (fun z=>nomatch z) h'
  |fn n=>
   obtain⟨f,rfl,_,h4⟩:=rp;cases rx;refine Zw h4 I.kIn True.intro ?_ (fun z=>nomatch z) h'
   unfold g7_ at kt;simp only[Qg,Zg,Uk]at kt
   rcases kt with rfl|rfl|rfl|rfl|rfl<;>rfl
  |dk kvs=>
   obtain⟨a,rfl,q⟩:=rp;obtain⟨_,_,vs,_,dd⟩:=(show k2_ X.prog X.w H s.heap a (.dK _)from I.hok a _ (l _ _ q))
   obtain⟨o,h1,h2⟩:∃o,s.heap.get? a=some o/\o.cls=.type "dict":=by
    obtain⟨o,es,ep,g1,g2,_⟩:=dd;exact⟨o,g1,g2.1⟩
   cases rx;refine Zw Vw I.kIn ⟨o,h1,h2⟩ ?_ (fun z=>nomatch z) h'
   unfold g7_ at kt;simp only[Qg,Zg,Uk]at kt
   rcases kt with rfl|rfl|rfl|rfl|rfl<;>rfl
  |dt kvs=>
   obtain⟨a,ps,rfl,q,_⟩:=rp;obtain⟨_,_,vs,_,dd⟩:=(show k2_ X.prog X.w H s.heap a (.dK _)from I.hok a _ (l _ _ q))
   obtain⟨o,h1,h2⟩:∃o,s.heap.get? a=some o/\o.cls=.type "dict":=by
    obtain⟨o,es,ep,g1,g2,_⟩:=dd;exact⟨o,g1,g2.1⟩
   cases rx;refine Zw Vw I.kIn ⟨o,h1,h2⟩ ?_ (fun z=>nomatch z) h'
   unfold g7_ at kt;simp only[Qg,Zg,Uk]at kt
   rcases kt with rfl|rfl|rfl|rfl|rfl<;>rfl
theorem a5P{K:Qz}:g7_ K "tuple":=by simp[g7_]
theorem b5n{K:Qz}:g7_ K "int":=by simp[g7_]
theorem b5o{K:Qz}:g7_ K "bool":=by simp[g7_]
theorem b5p{K:Qz}:g7_ K "str":=by simp[g7_]
def mIs(T:String)(m:Mo D):Mo D:=fun env=>(m env).map fun p=>(.bl (a2A (tyD p.1) T),p.2)
theorem a2B{T:String}{y:Str}{p p2:Pos}(kt:g7_ X.K T)(ha:ED X B a ma)(hg:Gl X "isinstance")(hm:X.mg "isinstance"=none)(hgT:Gl X y)(hmT:X.mg y=none)(hvT:bootBuiltins y=some (.type T))
  (hnT:y≠"__name__":=by decide)(hdT:(y==("__debug__":Str))=false:=by decide)
  (he:starEach [a,.Name y p2] X.env=[(false,eval a X.env),(false,eval (.Name y p2) X.env)]:=by rfl):ED X B (.Call (.Name "isinstance" p) [a,.Name y p2] [] pos) (mIs T ma):=by
 have hT:PE X (.Name y p2) (tC (.ty T)):=b2S hgT hmT hvT rfl hnT hdT
 have hc:k5_ X (.builtin "isinstance") (fun xs H Q=>∃x G d,xs=[x,.ty T]/\Le G H/\Rep X.K G x d/\Q (.bl (a2A (tyD d) T)) H):=by
  intro pins s σ H xs us Q I r h;obtain⟨x,G,d,rfl,l,rp,q⟩:=h;obtain⟨u,w',rfl,r1,r2⟩:=a3V r;cases r2;exact b5m I l r1 rp kt fun tk=>⟨.bl _,H,I.tok _,rfl,q⟩
 have h1:starEach [Expr.Name y p2] X.env=[(false,eval (.Name y p2) X.env)]:=rfl
 refine pe_imp (a3X (pos:=pos) (p:=p) hc hg hm (by decide+kernel) (a1F ha (a1F hT a3c) he) (he:=he)) ?_
 rintro σ H Q ⟨G,env,d,env',rl,e,k⟩;obtain⟨⟨d1,env1⟩,e1,e2⟩:=v8_ e;cases e2;exact .bind rl e1 fun v G1 H1 ev r=>⟨v,G1,d1,rfl,ev.rel.sub,r,k _ G1 H1 ev (by simp only[Rep])⟩
def a0q:List D->Option Bool
 |[]=>some true
 |.bl b::r=>(a0q r).map fun k=>b&&k
 |_::_=>none
def a2C:List D->Option D
 |[.lst ds]=>(a0q ds).map fun k=>.bl k
 |_=>none
theorem a9n{K:Qz}{G:Hp}:∀{ds:List D}{xs:List V}{us:List Value}{k:Bool},z5_ K G xs ds->q0_ xs us->a0q ds=some k->∃bs,LSm.BoolsAre us bs/\bs.all id=k
 |[],_,us,k,r,v,e=>by
  simp only[z5_]at r;subst r;cases v;cases e;exact⟨[],.nil,rfl⟩
 |d::ds,_,us,k,r,v,e=>by
  simp only[z5_]at r;obtain⟨x,t,rfl,q,r⟩:=r;cases d<;>first|(exact absurd (show(none:Option Bool)=some k from e) (by simp))|skip
  obtain⟨k',e1,e2⟩:=v8_ (show(a0q ds).map _=some k from e)
  simp only[Rep]at q;subst q;cases v with
  |cons v1 v2=>
   cases v1;obtain⟨bs,h1,h2⟩:=a9n r v2 e1;exact⟨_::bs,.cons _ h1,by rw[←e2,←h2];rfl⟩
theorem a5Q(hc:X.calm=true):k5_ X (.builtin "all") (fun xs H Q=>∃p G ys ds k,xs=[.ref p]/\Le G H/\SqL X.K G p ys/\z5_ X.K G ys ds/\a0q ds=some k/\Q (.bl k) H):=by
 intro pins s σ H xs us Q I r h;obtain⟨p,G,ys,ds,k,rfl,l,hq,rp,ek,q⟩:=h;obtain⟨u,rfl,rx⟩:=a1h r;cases rx;obtain⟨its,r',pl,hz⟩:=I.list (l.sqL hq);obtain⟨bs,hb,hk⟩:=a9n rp r' ek;have hh:X.A.handled=none:=I.ok.hd hc;have hl:=pl.isList;have hlt:p<s.heap.objs.size:=by obtain⟨_,e,_⟩:=hl;exact Qw e
 refine call_all_walk (Jo hl ?_);refine⟨s.heap.objs.size,[s.heap.objs.size,p],[s.heap.objs.size],its.toArray.size,_,_,fun i=>(bs[i]?).getD true,rfl,Walks.list (A:=X.A.in1) hh _ p (Zq hlt) its.toArray,
  ⟨⟨_,Ql _ rfl,rfl,rfl⟩,hl.push _⟩,fun i v s' Q' E' hP hQ=>?_,fun h' tk hk'=>?_⟩
 ·obtain⟨b,e,rfl⟩:=hb.get i v (by simpa using hP)
  simp only[e,Option.getD_some]at hQ;exact Yq hQ
 ·have e:((List.range its.toArray.size).all fun i=>(bs[i]?).getD true)=bs.all id:=by
   rw[Qr,hb.length];exact LSm.range_all bs
  rw[e,hk];exact⟨.bl k,H,I.kept (t':=tk) (LSm.kept_iter hk'),rfl,q⟩
theorem a5R:a0A X B (fun xs H Q=>∃p G ys ds k,xs=[.ref p]/\Le G H/\SqL X.K G p ys/\z5_ X.K G ys ds/\a0q ds=some k/\Q (.bl k) H) a2C:=by
 intro G σ env H xs ds c Q rl r e k;unfold a2C at e;split at e
 ·rename_i ds
  obtain⟨x,rfl,q⟩:=a0l r;obtain⟨k',e1,e2⟩:=v8_ e;subst e2;simp only[Rep]at q;obtain⟨a,ys,rfl,h1,h2⟩:=q;exact⟨a,G,ys,ds,k',rfl,rl.sub,h1,h2,e1,k _ G H (.refl rl) (by simp only[Rep])⟩
 ·cases e
def a2D:List D->Option D
 |[.int i,.int j]=>some (.int (if j>i then j else i))
 |_=>none
def a2E:List D->Option D
 |[.int i,.int j]=>some (.int (if j<i then j else i))
 |_=>none
theorem b5q:a0A X B (fun xs H Q=>∃i j,xs=[.int i,.int j]/\Q (.int (if j>i then j else i)) H) a2D:=by
 intro G σ env H xs ds c Q rl r e k;unfold a2D at e;split at e
 ·rename_i i j
  cases e;obtain⟨x,y,rfl,q1,q2⟩:=a4n r;simp only[Rep]at q1 q2;subst q1 q2;exact⟨i,j,rfl,k _ G H (.refl rl) (by simp only[Rep])⟩
 ·cases e
theorem b5r:a0A X B (fun xs H Q=>∃i j,xs=[.int i,.int j]/\Q (.int (if j<i then j else i)) H) a2E:=by
 intro G σ env H xs ds c Q rl r e k;unfold a2E at e;split at e
 ·rename_i i j
  cases e;obtain⟨x,y,rfl,q1,q2⟩:=a4n r;simp only[Rep]at q1 q2;subst q1 q2;exact⟨i,j,rfl,k _ G H (.refl rl) (by simp only[Rep])⟩
 ·cases e
def dIsB:D->D->Option D
 |.bl a,.bl b=>some (.bl (a==b))
 |_,_=>none
def a5S:D->D->Option D
 |.bl a,.bl b=>some (.bl (a !=b))
 |_,_=>none
def a9o(f:Bool->Bool->Bool):R2:=fun x y H Q=>∃i j,x=.bl i/\y=.bl j/\Q (.bl (f i j)) H
theorem b5s:OpR X (compareOp .IsNot) (a9o fun a b=>a !=b):=by
 intro pins s σ H x y v u Q I rx ry h;obtain⟨i,j,rfl,rfl,q⟩:=h;cases rx;cases ry;exact isnot_bool ⟨.bl _,H,I,rfl,q⟩
theorem b5t:OpD X B (a9o fun a b=>a !=b) a5S:=by
 intro G σ env H x y a b d Q rl ra rb e k;cases a<;>cases b<;>first|(exact absurd (show(none:Option D)=some d from e) (by simp))|skip
 simp only[Rep]at ra rb;subst ra rb;cases e;exact⟨_,_,rfl,rfl,k _ G H (.refl rl) (by simp only[Rep])⟩
def ints?:List D->Option (List Int)
 |[]=>some []
 |.int i::r=>(ints? r).map fun l=>i::l
 |_::_=>none
theorem a1U{K:Qz}{G:Hp}:∀{ds:List D}{xs:List V}{ns:List Int},z5_ K G xs ds->ints? ds=some ns->xs=ns.map V.int
 |[],_,ns,r,e=>by simp only[z5_]at r;subst r;cases e;rfl
 |d::ds,_,ns,r,e=>by
  simp only[z5_]at r;obtain⟨x,t,rfl,q,r⟩:=r;cases d<;>first|(exact absurd (show(none:Option (List Int))=some ns from e) (by simp))|skip
  obtain⟨l,e1,e2⟩:=v8_ (show(ints? ds).map _=some ns from e)
  subst e2;simp only[Rep]at q;subst q;rw[a1U r e1];rfl
def dIn(neg:Bool):D->D->Option D
 |.int i,d=>d.items.bind fun ds=>(ints? ds).map fun ns=>.bl (if neg then !ns.contains i else ns.contains i)
 |_,_=>none
theorem a9p(ns:List Int):(ns.map V.int).all a0y=true:=by
 induction ns with
 |nil=>rfl
 |cons n ns ih=>simp[a0y,ih]
theorem b5u(i:Int)(ns:List Int):inV (.int i) (ns.map V.int)=ns.contains i:=by
 unfold inV
 induction ns with
 |nil=>rfl
 |cons n ns ih=>
  rw[Zz,List.any_cons,ih,Xm]
  congr 1
  show(n==i)=(i==n);exact Bool.beq_comm ..
theorem b5v{neg:Bool}:OpD X B (rIn X.K neg) (dIn neg):=by
 intro G σ env H x y a b d Q rl ra rb e k;cases a<;>first|(exact absurd (show(none:Option D)=some d from e) (by simp))|skip
 rename_i i;obtain⟨ds,e1,e2⟩:=q1_ (show b.items.bind _=some d from e)
 obtain⟨ns,e3,e4⟩:=v8_ e2;subst e4;simp only[Rep]at ra;subst ra;obtain⟨p,xs,rfl,h1,h2⟩:=a8T rl.sub rb e1;have hx:=a1U h2 e3;subst hx;exact⟨p,_,rfl,h1,rfl,a9p ns,k _ G H (.refl rl) (by rw[b5u];simp only[Rep])⟩
end
section
variable{X:Cx}{pins:OX}{σ:St}{G H:Hp}{s:Shared}
end
mutual
def toP:D->PyData
 |.non=>.none
 |.bl b=>.bool b
 |.int i=>.int i
 |.str x=>.str x
 |.tup ds=>.tuple (v4_ ds)
 |.lst ds=>.list (v4_ ds)
 |.emp=>.dict []
 |.obj _=>.dict []
 |.dct _ _=>.dict []
def v4_:List D->List PyData
 |[]=>[]
 |d::ds=>toP d::v4_ ds
end
def shp(d:D):Bool:=SeqAt.shaped (toP d)
section
variable{X:Cx}{B:OA}{pins:OX}{σ:St}{G H:Hp}{s:Shared}
mutual
theorem reads_of(I:Inv X pins σ H s)(l:Le G H):∀(d:D) (x:V) (u:Value),(toP d).canLay0=true->q7_ x u->Rep X.K G x d->∃as,Reads s.heap u (toP d) as
 |.non,x,u,c,r,p=>by simp only[Rep]at p;subst p;cases r;exact⟨_,.none⟩
 |.bl b,x,u,c,r,p=>by simp only[Rep]at p;subst p;cases r;exact⟨_,.bool b⟩
 |.int i,x,u,c,r,p=>by simp only[Rep]at p;subst p;obtain⟨t,rfl⟩:=r;exact⟨_,.int i t⟩
 |.str z,x,u,c,r,p=>by simp only[Rep]at p;obtain⟨p,_⟩:=p;subst p;obtain⟨t,rfl⟩:=r;exact⟨_,.str z t⟩
 |.tup ds,x,u,c,r,p=>by
  simp only[Rep]at p;obtain⟨a,xs,rfl,q,rp⟩:=p;cases r;obtain⟨its,rv,⟨o,h1,h2,n,h3⟩,_⟩:=I.tuple (l.sqT q);have hc:PyData.canLayAll0 (v4_ ds)=true:=by simpa [toP,PyData.canLay0]using c
  obtain⟨as,h⟩:=readsAll_of I l ds xs its hc rv rp;exact⟨_,.tuple h1 h2 h3 (by simpa using h)⟩
 |.lst ds,x,u,c,r,p=>by
  simp only[Rep]at p;obtain⟨a,xs,rfl,q,rp⟩:=p;cases r;obtain⟨its,rv,⟨o,n,h1,h2,_,h3⟩,_⟩:=I.list (l.sqL q);have hc:PyData.canLayAll0 (v4_ ds)=true:=by simpa [toP,PyData.canLay0]using c
  obtain⟨as,h⟩:=readsAll_of I l ds xs its hc rv rp;exact⟨_,.list h1 h2 h3 (by simpa using h)⟩
 |.emp,x,u,c,r,p=>by simp[toP,PyData.canLay0]at c
 |.obj _,x,u,c,r,p=>by simp[toP,PyData.canLay0]at c
 |.dct _ _,x,u,c,r,p=>by simp[toP,PyData.canLay0]at c
theorem readsAll_of(I:Inv X pins σ H s)(l:Le G H):∀(ds:List D) (xs:List V) (us:List Value),PyData.canLayAll0 (v4_ ds)=true->q0_ xs us->z5_ X.K G xs ds->∃as,ReadsAll s.heap us (v4_ ds) as
 |[],xs,us,c,v,p=>by simp only[z5_]at p;subst p;cases v;exact⟨_,.nil⟩
 |d::ds,xs,us,c,v,p=>by
  simp only[z5_]at p;obtain⟨x,r,rfl,q,t⟩:=p;have hc:(toP d).canLay0=true/\PyData.canLayAll0 (v4_ ds)=true:=by simpa [v4_,PyData.canLayAll0]using c
  cases v with
  |cons v1 v2=>
   obtain⟨as,h1⟩:=reads_of I l d x _ hc.1 v1 q;obtain⟨bs,h2⟩:=readsAll_of I l ds r _ hc.2 v2 t;exact⟨_,.cons h1 h2⟩
end
def rEqD(K:Qz)(neg:Bool):R2:=fun x y H Q=>∃G a b,Le G H/\Rep K G x a/\Rep K G y b/\shp a=true/\shp b=true/\Q (.bl (if neg then !PyData.eqv (toP a) (toP b)else PyData.eqv (toP a) (toP b))) H
theorem op_eqD(hu:X.A.units+64<cLine):OpR X (compareOp .Eq) (rEqD X.K false):=by
 intro pins s σ H x y v u Q I rx ry h;obtain⟨G,a,b,l,ra,rb,ha,hb,q⟩:=h;obtain⟨as,h1⟩:=reads_of I l a x v (Jf ha) rx ra;obtain⟨bs,h2⟩:=reads_of I l b y u (Jf hb) ry rb;exact eq_dataH h1 h2 ha hb hu ⟨.bl _,H,I,rfl,q⟩
theorem op_neD(hu:X.A.units+64<cLine):OpR X (compareOp .NotEq) (rEqD X.K true):=by
 intro pins s σ H x y v u Q I rx ry h;obtain⟨G,a,b,l,ra,rb,ha,hb,q⟩:=h;obtain⟨as,h1⟩:=reads_of I l a x v (Jf ha) rx ra;obtain⟨bs,h2⟩:=reads_of I l b y u (Jf hb) ry rb;exact ne_dataH h1 h2 ha hb hu ⟨.bl _,H,I,rfl,q⟩
def dEq(neg:Bool):D->D->Option D:=fun a b=>if shp a&&shp b then some (.bl (if neg then !PyData.eqv (toP a) (toP b)else PyData.eqv (toP a) (toP b)))else none
theorem opd_eq{neg:Bool}:OpD X B (rEqD X.K neg) (dEq neg):=by
 intro G σ env H x y a b d Q rl ra rb e k;unfold dEq at e;split at e
 ·rename_i h
  rw[Qd]at h;cases e;exact⟨G,a,b,rl.sub,ra,rb,h.1,h.2,k _ G H (.refl rl) (by simp only[Rep])⟩
 ·cases e
end
section
variable{X:Cx}{B:OA}
def rCatT'(K:Qz):R2:=fun x y H Q=>∃a b xs ys,x=.ref a/\y=.ref b/\SqT K H a xs/\SqT K H b ys/\xs.length+ys.length≤sizeLine/\
 (xs=[]->Q (.ref b) H)/\(ys=[]->Q (.ref a) H)/\(∀p,H p=none->Q (.ref p) (upd H p (.tup (xs++ys))))
theorem op_catT':OpR X (binaryOp .Add) (rCatT' X.K):=by
 intro pins s σ H x y v u Q I rx ry h;obtain⟨a,b,xs,ys,rfl,rfl,ha,hb,hz,q0,q1,q2⟩:=h;cases rx;cases ry;obtain⟨vs,r1,p1,_⟩:=I.tuple ha;obtain⟨ws,r2,p2,_⟩:=I.tuple hb;have hsz:vs.length+ws.length≤sizeLine:=by rw[←r1.length,←r2.length];exact hz
 obtain⟨⟨cls,dd,data,sl⟩,ho,hc,n,hd⟩:=id p1;obtain⟨⟨cls2,dd2,data2,sl2⟩,ho2,hc2,n2,hd2⟩:=id p2;simp only at hc hd hc2 hd2;subst hc hd hc2 hd2;have e:vs.toArray++ws.toArray=(vs++ws).toArray:=by simp
 by_cases hv:vs=[]
 ·exact concat_meets ⟨_,ho,rfl⟩ ⟨_,ho2,rfl⟩ noFill_tuple_add seq_tuple_add Vb Vv (Vz _ _)
   (tuple_addW0 a b vs.toArray ws.toArray n n2 dd dd2 sl sl2 (by simp[hv])) ⟨ho,ho2,⟨.ref b,H,I,rfl,q0 (r1.nil_iff.mp hv)⟩⟩
 ·by_cases hw:ws=[]
  ·exact concat_meets ⟨_,ho,rfl⟩ ⟨_,ho2,rfl⟩ noFill_tuple_add seq_tuple_add Vb Vv (Vz _ _)
    (tuple_addW1 a b vs.toArray ws.toArray n n2 dd dd2 sl sl2 (by simpa using hv) (by simp[hw])) ⟨ho,ho2,⟨.ref a,H,I,rfl,q1 (r2.nil_iff.mp hw)⟩⟩
  ·refine concat_meets ⟨_,ho,rfl⟩ ⟨_,ho2,rfl⟩ noFill_tuple_add seq_tuple_add Vb Vv (Vz _ _)
    (tuple_addW2 a b vs.toArray ws.toArray n n2 dd dd2 sl sl2 (by simpa using hv) (by simpa using hw) (by rw[Qr,Qr];exact hsz)) ⟨ho,ho2,?_⟩
   rw[e];refine⟨.ref s.heap.objs.size,_,I.laid (t':=s.toks) (o:=.tup (xs++ys)) (fun b ob q=>Qx _ q) (Qu _) ?_,rfl,q2 _ (I.hok.fresh (Qu _))⟩
   exact⟨by rw[Zr];exact hz,_,r1.append r2,a0a.new _ _⟩
end
end L2.Mir
namespace L2.Mir
open PySem PySem.Spec PyProof.Rows PySem.Builtin
open AutoSeq1 (wpAny_loadPart')
theorem b5w:fillsNumberSlot (.type "tuple") "mul"=pure false:=
 PySem.fillsNumberSlot_seq (id:="tuple.__mul__") (r:=some (.builtin "tuple.__rmul__")) Vr.lookup (by decide+kernel) F.slot_tuple_rmul.lookup (by decide+kernel)
theorem b5x:seqRepeat? (.type "tuple")=pure (some (.builtin "tuple.__mul__")):=by
 unfold seqRepeat?;rw[PySem.seqSlot_of (T:="tuple") (name:="__mul__") (id:="tuple.__mul__") Vr.lookup (by decide+kernel),PySem.seqSlot_of (T:="tuple") (name:="__rmul__") (id:="tuple.__rmul__") F.slot_tuple_rmul.lookup (by decide+kernel)]
 rfl
theorem b5y(a:Int)(t:Tok)(l:Addr)(items:Array Value)(n:Nat)(dd:Option Addr)(sl:Array (Option Value)):
  Meets (Builtin.«int.__rmul__» ⟨[.int a t,.ref l],[]⟩) (fun _ R s=>s.heap.get? l=some {cls:=.type "tuple",dict:=dd,data:=.seq items n,slots:=sl}/\R (.ok (.ret Value.notImplemented)) s):=
 .of_wp fun prog w A R s h=>by obtain⟨hp,g,d,tk,os⟩:=s;obtain⟨hl,h⟩:=h;wp_walk;exact⟨_,rfl,h⟩
theorem b5z(l:Addr)(items:Array Value)(n:Nat)(dd:Option Addr)(sl:Array (Option Value))(x:Int)(u:Tok)(hx:x=1):
  Meets (Builtin.«tuple.__mul__» ⟨[.ref l,.int x u],[]⟩) (fun _ R s=>s.heap.get? l=some {cls:=.type "tuple",dict:=dd,data:=.seq items n,slots:=sl}/\R (.ok (.ret (.ref l))) s):=
 .of_wp fun prog w A R s h=>by
  obtain⟨hp,g,d,tk,os⟩:=s;obtain⟨hl,h⟩:=h;subst hx;have f1:=AutoSeq1.idx_int
  wp_walk using Ze hl
  exact⟨_,rfl,h⟩
theorem b5A(l:Addr)(its:List Value)(n:Nat)(dd:Option Addr)(sl:Array (Option Value))(x:Int)(u:Tok)(hi:its≠[])(h1:2≤x)(h2:x<2^63)(hz:its.length * x.toNat≤sizeLine):
  Meets (Builtin.«tuple.__mul__» ⟨[.ref l,.int x u],[]⟩) (fun _ R s=>s.heap.get? l=some {cls:=.type "tuple",dict:=dd,data:=.seq its.toArray n,slots:=sl}/\R (.ok (.ret (.ref s.heap.objs.size))) {s with heap:=s.heap.push {cls:=Value.type "tuple",data:=Data.seq (List.replicate x.toNat its).flatten.toArray}}):=
 .of_wp fun prog w A R s h=>by
  obtain⟨hp,g,d,tk,os⟩:=s;obtain⟨hl,h⟩:=h;have f1:=AutoSeq1.idx_int;have hi':its.toArray.isEmpty=false:=by simpa using hi
  have hb:¬ ((decide (x< -(2^63))||decide (x ≥ 2^63))=true):=by simp;omega
  have hc:¬ ((its.toArray.isEmpty||x==1)=true):=by rw[hi'];simp;omega
  have hd:¬ ((decide (x≤0)||its.toArray.isEmpty)=true):=by rw[hi'];simp;omega
  have e1:(its.toArray.size:Int) * x=((its.length * x.toNat:Nat):Int):=by rw[Qr,Int.natCast_mul,Int.toNat_of_nonneg (by omega)]
  have he:¬ ((its.toArray.size:Int) * x>(2^63-1)/8):=by
   have e2:(sizeLine:Nat)≤(2^63-1)/8:=by decide
   rw[e1];omega
  have hf:¬ (Tuple.tupleTooMany ((its.toArray.size:Int) * x)=true):=by
   rw[e1];intro z;have z':=Tq z
   omega
  have hnew:List.foldl (fun x1 x2=>x1++x2) #[] (List.replicate x.toNat its.toArray)=(List.replicate x.toNat its).flatten.toArray:=by
   have:=a5o its x.toNat [];rw[Xj]at this;exact this
  have hsz:sizeOk (.seq (List.replicate x.toNat its).flatten.toArray):=by
   show(List.replicate x.toNat its).flatten.toArray.size≤sizeLine;rw[Qr,a5p,Nat.mul_comm];exact hz
  wp_walk using Ze hl
  refine Uh (Qe hb) ?_
  wp_walk using Ze hl
  refine Uh (Qe hc) ?_
  wp_walk using Ze hl
  refine Uh (Qe hd) ?_
  wp_walk using Ze hl
  refine Uh (Qe he) ?_
  wp_walk using Ze hl
  refine Uh (Qe hf) ?_
  rw[hnew]
  wp_walk using Ze hl
  refine Uh (Qe (Nat.not_lt.mpr hsz)) ?_
  wp_walk using Ze hl
  exact⟨_,rfl,h⟩
section
variable{X:Cx}{B:OA}
def a4w(K:Qz):R2:=fun x y H Q=>∃a k xs,x=.ref a/\y=.int k/\SqT K H a xs/\xs≠[]/\1≤k/\k<2^63/\xs.length * k.toNat≤sizeLine/\
 (k=1->Q (.ref a) H)/\∀p,H p=none->Q (.ref p) (upd H p (.tup (List.replicate k.toNat xs).flatten))
theorem b5B:OpR X (binaryOp .Mult) (a4w X.K):=by
 intro pins s σ H x y v u Q I rx ry h;obtain⟨a,k,xs,rfl,rfl,ha,hne,h1,h2,hz,q1,q2⟩:=h;cases rx;obtain⟨t,rfl⟩:=ry;obtain⟨its,r,⟨⟨cls,dd,data,sl⟩,ho,hc,n,hd⟩,hzz⟩:=I.tuple ha;simp only at hc hd;subst hc hd;refine wpAny_binaryOp_repeat_ref (T:="tuple") (U:="int") (by decide) ⟨_,ho,rfl⟩ (fun s'=>Tj s' k t) b5w F.fills_int_mul Xx b5x F.slot_int_index.lookup
  (Vx Xx (Tj s k t) F.entry_int_rmul (F.args_int_rmul_2 _ _) (b5y k t a its.toArray n dd sl)
   ⟨ho,rfl,⟨_,ho,rfl⟩,?_⟩)
 by_cases hk:k=1
 ·exact Vx Vr ⟨_,ho,rfl⟩ F.entry_tuple_mul (F.args_tuple_mul_2 _ _) (b5z a its.toArray n dd sl k t hk) ⟨ho,⟨.ref a,H,I,rfl,q1 hk⟩⟩
 ·refine Vx Vr ⟨_,ho,rfl⟩ F.entry_tuple_mul (F.args_tuple_mul_2 _ _) (b5A a its n dd sl k t (fun z=>hne (r.nil_iff.mp z)) (by omega) h2 (by rw[←r.length];exact hz)) ⟨ho,?_⟩
  refine⟨.ref s.heap.objs.size,_,I.laid (t':=s.toks) (o:=.tup (List.replicate k.toNat xs).flatten) (fun b ob q=>Qx _ q) (Qu _) ?_,rfl,q2 _ (I.hok.fresh (Qu _))⟩
  exact⟨by rw[a5p,Nat.mul_comm];exact hz,_,r.rep k.toNat,a0a.new _ _⟩
end
section
variable{X:Cx}{B:OA}{pos:Pos}{a b:Expr}{ma mb:Mo D}
def a5T:D->D->Option D
 |.tup xs,.tup ys=>if xs.length+ys.length≤10000 then some (.tup (xs++ys))else none
 |_,_=>none
theorem a5U{n:Nat}(h:n≤10000):n≤sizeLine:=Yj h (by decide)
theorem b5C:OpD X B (rCatT' X.K) a5T:=by
 intro G σ env H x y a b d Q rl ra rb e k;cases a<;>cases b<;>first|(exact absurd (show(none:Option D)=some d from e) (by simp))|skip
 rename_i ds es;simp only[a5T]at e;split at e
 ·rename_i hl
  cases e;have ra0:=ra;have rb0:=rb;simp only[Rep]at ra rb;obtain⟨p,xs,rfl,q1,r1⟩:=ra;obtain⟨p',ys,rfl,q2,r2⟩:=rb;refine⟨p,p',xs,ys,rfl,rfl,rl.sub.sqT q1,rl.sub.sqT q2,by rw[r1.length,r2.length];exact a5U hl,fun z=>?_,fun z=>?_,fun l hp=>?_⟩
  ·subst z
   have:ds=[]:=List.length_eq_zero_iff.mp r1.length.symm;subst this;exact k _ G H (.refl rl) rb0
  ·subst z
   have:es=[]:=List.length_eq_zero_iff.mp r2.length.symm;subst this;exact k _ G H (.refl rl) (by rw[Uw];exact ra0)
  ·exact k _ _ _ (rl.alloc hp) (a2s y3_ (z5_.mono (Le.upd (rl.gnone hp)) _ (r1.append r2)))
 ·cases e
def a5V:D->D->Option D
 |.tup [d],.int k=>if 1≤k/\k≤1000 then some (.tup (List.replicate k.toNat d))else none
 |_,_=>none
theorem b5D{α:Type}(x:α)(n:Nat):(List.replicate n [x]).flatten=List.replicate n x:=by
 induction n with
 |zero=>rfl
 |succ n ih=>rw[Zm,Jk,ih,Zm];rfl
theorem a9q{K:Qz}{G:Hp}{x:V}{d:D}(h:Rep K G x d):∀n,z5_ K G (List.replicate n x) (List.replicate n d)
 |0=>repL_nil
 |n+1=>by rw[Zm,Zm];exact repL_cons h (a9q h n)
theorem b5E:OpD X B (a4w X.K) a5V:=by
 intro G σ env H x y a b d Q rl ra rb e k;unfold a5V at e;split at e
 ·rename_i d0 n
  split at e
  ·rename_i hn
   cases e;have ra0:=ra;simp only[Rep]at ra rb;obtain⟨p,xs,rfl,q1,r1⟩:=ra;subst rb;obtain⟨v,rfl,rv⟩:=a0l r1;refine⟨p,n,[v],rfl,rfl,rl.sub.sqT q1,by simp,by omega,by omega,?_,fun z=>?_,fun l hp=>?_⟩
   ·exact a5U (by simp;omega)
   ·subst z
    exact k _ G H (.refl rl) ra0
   ·rw[b5D]
    exact k _ _ _ (rl.alloc hp) (a2s y3_ (z5_.mono (Le.upd (rl.gnone hp)) _ (a9q rv _)))
  ·cases e
 ·cases e
def x0_:=fOr a4j a5T
def w6_:=fOr a5t a5V
theorem u7_:OpR X (binaryOp .Add) (fun x y H Q=>rI0 (fun i j=>.int (i+j)) x y H Q∨rCatT' X.K x y H Q):=OpR.or b3P op_catT'
theorem u8_:OpD X B (fun x y H Q=>rI0 (fun i j=>.int (i+j)) x y H Q∨rCatT' X.K x y H Q) x0_:=a8M.or b5C
theorem a1V:OpR X (binaryOp .Mult) (fun x y H Q=>rI a1D (fun i j=>.int (i * j)) x y H Q∨a4w X.K x y H Q):=OpR.or b3Q b5B
theorem a1W:OpD X B (fun x y H Q=>rI a1D (fun i j=>.int (i * j)) x y H Q∨a4w X.K x y H Q) w6_:=b4F.or b5E
end
end L2.Mir
namespace HT
open PySem PySem.Spec PyProof.Rows
section
variable{prog:Program}{w:World}{A:Around}{E:OE}{s:Shared}
theorem sliceApplied_rev{sl:Addr}{t:Tok}{n:Nat}{Q:Int×Int×Nat->Shared->Prop}(hs:s.heap.IsSliceOf sl .none .none (.int (-1) t))
  (h:Q ((n:Int)-1,-1,n) s):wpAny (model prog w) A (Builtin.Slice.sliceApplied (.ref sl) (pure (n:Int))) Q E s:=by
 obtain⟨os,hos,hcs,hds⟩:=id hs;unfold Builtin.Slice.sliceApplied Builtin.Slice.sliceFields;refine Qq (Qq (Yk hos hds (x:=.none) rfl (Qq (Yk hos hds (x:=.none) rfl (Qq (Yk hos hds (x:=.int (-1) t) rfl (Qj ?_)))))));refine Qq (slicePart_int ?_);show wpAny _ _ (if((-1:Int)==0)=true then _ else _) _ _ s
 rw[Qp (by decide)]
 refine Qq (slicePart_none (Qq (slicePart_none (Qq (Qj ?_)))));have e:Builtin.Slice.slicePlaces ((n:Int)-1) (-1) (-1)=n:=by
  unfold Builtin.Slice.slicePlaces;have h1:¬ ((-1:Int)>0):=by omega
  simp only[h1,Zv];split
  ·rw[show(- -1:Int)=1 by decide,Int.ediv_one];omega
  ·omega
 show wpAny _ _ (pure ((n:Int)-1,(-1:Int),Builtin.Slice.slicePlaces ((n:Int)-1) (-1) (-1))) _ _ s;rw[e];exact Qj h
theorem filterMap_congr'{α β:Type}{f g:α->Option β}:∀{l:List α},(∀x∈l,f x=g x)->l.filterMap f=l.filterMap g
 |[],_=>rfl
 |a::l,h=>by
  rw[Ju,Ju,h a (by simp),filterMap_congr' (l:=l) fun x hx=>h x (by simp[hx])]
theorem pick_rev(xs:Array Value):((List.range xs.size).filterMap fun(m:Nat)=>xs[(((xs.size:Int)-1)+(m:Int) * (-1)).toNat]?).toArray=xs.toList.reverse.toArray:=by
 have h:=PySem.W.krv_all xs
 have h2:=Yy List.reverse h
 rw[←List.filterMap_reverse,←PySem.W.krv_range,List.filterMap_map]at h2;rw[←h2]
 congr 1
 apply filterMap_congr'
 intro m hm;have:=Qy.mp hm;show xs[_]? =xs[xs.size-1-m]?
 congr 1
 omega
theorem getItem_tuple_rev{t sl:Addr}{items:Array Value}{tk:Tok}{Q:OE}(ht:IsTup s.heap t items)(hs:s.heap.IsSliceOf sl .none .none (.int (-1) tk))
  (h:Q (.ref s.heap.objs.size) {s with heap:=s.heap.push {cls:=.type "tuple",data:=.seq items.toList.reverse.toArray}})
  (hsz:items.size≤sizeLine):wpAny (model prog w) A (getItem (.ref t) (.ref sl)) Q E s:=by
 have htake:sizeOk (.seq items.toList.reverse.toArray):=by
  show items.toList.reverse.toArray.size≤sizeLine
  simpa using hsz
 obtain⟨os,hos,hcs,hds⟩:=id hs;have hTs:s.TypeIs (.ref sl) "slice":=⟨os,hos,hcs⟩;unfold getItem
 try with_reducible refine Yz ?_
 first|refine Qq (Qj ?_)|skip
 refine Qq (wpAny_sequenceKey ht.typeIs (by decide) ?_)
 refine Qq (Jw (name:=Str.ofString "__getitem__") ht.typeIs Vo
  (Yi Vo ht.typeIs entry_tuple_getitem ?_ (args_tuple_getitem _ _)))
 show wpAny _ _ (Builtin.Tuple.tupleItemsOf (.ref t)>>=_) _ _ s;refine Qq (tupleItemsOf_ ht ?_);refine Qq (wpAny_typeOf hTs ?_);rw[Qc (by decide)]
 refine Qq (sliceApplied_rev hs ?_);have hno:¬ ((((items.size:Int)-1)==0&&(-1:Int)==1&&items.size==items.size)=true):=by
  rw[show((-1:Int)==1)=false by decide];simp
 show wpAny _ _ (if(((items.size:Int)-1)==0&&(-1:Int)==1&&items.size==items.size)=true then _ else _) _ _ s
 rw[Qp hno,pick_rev]
 first
  |exact Qq (m:=Builtin.Tuple.tupleExact _) (Yh (Qj ⟨_,rfl,Qj h⟩) htake)
  |exact Qq (m:=Builtin.Tuple.tupleExact _) (Yh (Qq (Qj (Qj ⟨_,rfl,Qj h⟩))) htake)
  |exact Qq (Qq (m:=Builtin.Tuple.tupleExact _) (Yh (Qj (Qj ⟨_,rfl,Qj h⟩)) htake))
  |exact Qq (Qq (m:=Builtin.Tuple.tupleExact _) (Yh (Qj ⟨_,rfl,Qj h⟩) htake))
end
end HT
namespace L2.Mir
open PySem PySem.Spec PyProof.Rows
section
variable{X:Cx}{B:OA}{e lo hi st:Expr}{ma ml mh:Mo D}{pos p2:Pos}
def b5F(xs:List D)(lo hi:Option Int):List D:=(xs.drop (HT.sIx xs.length 0 lo)).take (HT.sIx xs.length xs.length hi-HT.sIx xs.length 0 lo)
def mSl(m:Mo D)(ml mh:Mo (Option Int)):Mo D:=fun env=>(m env).bind fun p=>(ml p.2).bind fun q=>(mh q.2).bind fun r=>match p.1 with
 |.tup ds=>some (.tup (b5F ds q.1 r.1),r.2)
 |_=>none
theorem b5G{te:TE}(he:PE X e te)(hst:PE X st (tC (.int (-1)))):PE X (.Subscript e (.Slice none none (some st) p2) pos) (fun σ H Q=>te σ H fun x H1=>∃a xs,x=.ref a/\SqT X.K H1 a xs/\∀p,H1 p=none->Q (.ref p) (upd H1 p (.tup xs.reverse))):=by
 intro pins s σ H Q I h;refine Subscript_ (thn (he pins s σ H _ I h) fun v s1 ⟨x,H1,I1,r1,q1⟩=>?_)
 refine wpAny_Slice ?_
 rw[evalPart_none];refine Qj (Qj ?_);rw[evalPart_some];refine thn (hst pins s1 σ H1 (fun x H2=>x=.int (-1)/\H2=H1) I1 ⟨rfl,rfl⟩) fun vst s3 ⟨y,H3,I3,r3,q3⟩=>?_
 obtain⟨rfl,rfl⟩:=q3;obtain⟨tk,rfl⟩:=r3;obtain⟨a,xs,rfl,hx,q⟩:=q1;cases r1;have I4:Inv X pins σ H3 {s3 with heap:=s3.heap.push {cls:=.type "slice",data:=.fields #[.none,.none,.int (-1) tk]}}:=I3.kept (t':=s3.toks) fun b ob q=>Qx _ q
 obtain⟨its,r,ht,hz⟩:=I4.tuple hx;have hlen:its.toArray.size=xs.length:=by rw[Qr];exact r.length.symm
 show wpAny (model X.prog X.w) X.A (subscriptTail e (.Slice none none (some st) p2) (.ref a) (.ref s3.heap.objs.size)) (EP X pins σ Q) X.xe {s3 with heap:=s3.heap.push {cls:=.type "slice",data:=.fields #[.none,.none,.int (-1) tk]}}
 refine tail_any (ops:=[.ref a,.ref s3.heap.objs.size]) ht.typeIs PyProof.Rows.slot_tuple_getitem.lookup ?_ (by with_unfolding_all rfl)
 refine HT.getItem_tuple_rev (tk:=tk) ht (Heap.IsSliceOf.new ..) ?_ (by rw[hlen];exact hz)
 refine⟨.ref _,_,I4.laid (t':=s3.toks) (o:=.tup xs.reverse) (fun b ob q=>Qx _ q) (Qu _) ?_,rfl,q _ (I4.hok.fresh (Qu _))⟩
 exact⟨by rw[List.length_reverse];exact hz,_,r.reverse,a0a.new _ _⟩
def a1X(m:Mo D):Mo D:=fun env=>(m env).bind fun p=>match p.1 with
 |.tup ds=>some (.tup ds.reverse,p.2)
 |_=>none
theorem a5W(he:ED X B e ma)(hst:PE X st (tC (.int (-1)))):ED X B (.Subscript e (.Slice none none (some st) p2) pos) (a1X ma):=by
 refine pe_imp (b5G he hst) ?_
 rintro σ H Q ⟨G,env,d,env',rl,e,k⟩;obtain⟨⟨d1,env1⟩,e1,e2⟩:=q1_ e;dsimp only at e2;split at e2
 ·rename_i ds
  cases e2;refine .bind rl e1 fun v G1 H1 ev1 r1=>?_
  simp only[Rep]at r1;obtain⟨p,xs,rfl,q,t⟩:=r1;exact⟨p,xs,rfl,ev1.rel.sub.sqT q,fun l' hp=>k _ _ _ (ev1.trans (ev1.rel.alloc hp)) (a2s y3_ (z5_.mono (Le.upd (ev1.rel.gnone hp)) _ t.reverse))⟩
 ·cases e2
theorem a5X{j:Nat}{p:Pos}:PE X (.UnaryOp .USub (.Constant (.int 1) j p) pos) (tC (.int (-1))):=pe_imp (a8m a8q a5b) fun σ H Q q=>⟨1,rfl,q⟩
end
section
variable{X:Cx}{pins:OX}{σ:St}{H:Hp}{s:Shared}{h':Heap}
theorem a9r{t':Nat}{ch:List Addr}(I:Inv X pins σ H s)(k:∀b o,b∉ch->s.heap.get? b=some o->h'.get? b=some o)(hf:∀b∈ch,u3_ X pins H b):Inv X pins σ H {s with heap:=h',toks:=t'}:=by
 have nit:∀b u,H b=some u->b∉ch:=fun b u e z=>by rw[(hf b z).1]at e;cases e
 refine I.step (g':=s.gens) (d':=s.drawn) (ch:=ch) (fun b hb=>⟨(hf b hb).2.2.2.1,(hf b hb).2.1,(hf b hb).2.2.2.2.1,(hf b hb).2.2.2.2.2⟩) (fun b o _ _ hc e _=>k b o hc e) (fun b o _ _ hc e _=>⟨o.slots,k b o hc e⟩) (fun _ _ _ _ n=>n)
  (fun b o hc e=>⟨o,k b o hc e⟩) (fun _ _ e=>e) (fun _ _ _ e=>e) (fun b ps e=>⟨#[],by rw[e];simp⟩) (fun m hm=>?_) (fun b u e=>?_) I.bare
 ·obtain⟨o,es,ep,ho,r⟩:=hm
  exact⟨o,es,ep,k _ o (fun z=>(hf _ z).2.1 rfl) ho,r⟩
 ·refine(I.hok b u e).stay (fun c v hc q=>k c v ?_ q) (fun _ q=>q) fun _ _ q=>q
  rcases hc with z|z
  ·rw[z];exact nit b u e
  ·exact nit c _ z
theorem b5H{t':Nat}{ch:List Addr}{p:Addr}{o:HO}(I:Inv X pins σ H s)(k:∀b o,b∉ch->s.heap.get? b=some o->h'.get? b=some o)(hf:∀b∈ch,u3_ X pins H b)
  (hp:s.heap.objs.size≤p)(new:k2_ X.prog X.w (upd H p o) h' p o):Inv X pins σ (upd H p o) {s with heap:=h',toks:=t'}:=by
 have nit:∀b u,H b=some u->b∉ch:=fun b u e z=>by rw[(hf b z).1]at e;cases e
 have hn:H p=none:=I.hok.fresh hp
 have np:∀b u,s.heap.get? b=some u->b≠p:=fun b u q=>Zq (Qa (Qw q) hp)
 refine I.step (g':=s.gens) (d':=s.drawn) (ch:=ch) (fun b hb=>⟨(hf b hb).2.2.2.1,(hf b hb).2.1,(hf b hb).2.2.2.2.1,(hf b hb).2.2.2.2.2⟩) (fun b o _ _ hc e _=>k b o hc e) (fun b o _ _ hc e _=>⟨o.slots,k b o hc e⟩) (fun b o _ e n=>by rw[q4_ (np b o e)];exact n)
  (fun b o hc e=>⟨o,k b o hc e⟩) (fun b xs q=>by rw[q4_ (k8_ q hn)];exact q) (fun b u xs q=>by rw[q4_ (k8_ q hn)];exact q) (fun b ps e=>⟨#[],by rw[q4_ (k8_ e hn),e];simp⟩) (fun m hm=>?_) (fun b u e=>?_) I.bare
 ·obtain⟨o,es,ep,ho,r⟩:=hm
  exact⟨o,es,ep,k _ o (fun z=>(hf _ z).2.1 rfl) ho,r⟩
 ·by_cases hb:b=p
  ·subst hb;rw[y3_]at e;cases e;exact new
  ·rw[q4_ hb]at e
   refine(I.hok b u e).stay (fun c v hc q=>k c v ?_ q) (fun c q=>by rw[q4_ (k8_ q hn)];exact q) fun c xs q=>by rw[q4_ (k8_ q hn)];exact q
   rcases hc with z|z
   ·rw[z];exact nit b u e
   ·exact nit c _ z
end
def Sq1(k:Bool)(h:Heap)(l:Addr)(xs:Array Value):Prop:=if k then h.IsTuple l xs else h.IsList l xs
def It1(k:Bool)(h:Heap)(i l:Addr)(n:Nat):Prop:=if k then h.IsTupleIter i l n else h.IsListIter i l n
section
variable{k:Bool}{h h':Heap}{i l b:Addr}{n:Nat}{xs:Array Value}
theorem Sq1.at'(x:Sq1 k h l xs)(e:∀o,h.get? l=some o->h'.get? l=some o):Sq1 k h' l xs:=by
 cases k
 ·exact Heap.IsList.at (show h.IsList l xs from x) e
 ·obtain⟨o,ho,r⟩:=(show h.IsTuple l xs from x)
  exact(⟨o,e _ ho,r⟩:h'.IsTuple l xs)
theorem It1.at'(x:It1 k h i l n)(e:∀o,h.get? i=some o->h'.get? i=some o):It1 k h' i l n:=by
 cases k
 ·exact Heap.IsListIter.at (show h.IsListIter i l n from x) e
 ·exact Heap.IsTupleIter.at (show h.IsTupleIter i l n from x) e
theorem It1.get(x:It1 k h i l n):∃o,h.get? i=some o/\∀v,o.data≠.cell v:=by
 cases k
 ·obtain⟨o,ho,_,d⟩:=(show h.IsListIter i l n from x);exact⟨o,ho,fun v z=>by rw[d]at z;cases z⟩
 ·obtain⟨o,ho,_,d⟩:=(show h.IsTupleIter i l n from x);exact⟨o,ho,fun v z=>by rw[d]at z;cases z⟩
theorem It1.but(x:It1 k h i l n)(hs:Heap.ExtBut b h h')(hb:i≠b):It1 k h' i l n:=x.at' fun o e=>hs i o hb e
theorem Sq1.but(x:Sq1 k h l xs)(hs:Heap.ExtBut b h h')(hb:l≠b):Sq1 k h' l xs:=x.at' fun o e=>hs l o hb e
end
section
variable{prog:Program}{w:World}{A:Around}{E:OE}{s:Shared}
theorem b5I{it l:Addr}{i:Nat}{items:Array Value}{x:Value}{Q:OE}(hit:s.heap.IsTupleIter it l i)(hl:s.heap.IsTuple l items)(hx:items[i]? =some x)
  (hQ:∀h',h'.IsTupleIter it l (i+1)->Heap.SameBut it s.heap h'->Q x {s with heap:=h'}):wpAny (model prog w) A (Builtin.SmallTypes.nextOf (.ref it)) Q E s:=by
 obtain⟨o,ho,hc,hd⟩:=id hit;obtain⟨ol,hol,_,nl,hdl⟩:=hl;unfold Builtin.SmallTypes.nextOf;refine Qq (Jw (name:=Str.ofString "__next__") hit.typeIs Yt (Yi Yt hit.typeIs Vg ?_ (Vy _)));show wpAny _ _ (field (.ref it) 0>>=_) _ _ s;refine Qq (Yk ho hd (x:=.ref l) rfl ?_);rw[Qp (show ¬ ((Value.ref l==Value.none)=true)from Zy)]
 refine Qq (Yk ho hd (x:=.int i 0) rfl ?_);refine Qq (Zf hol hdl ?_);simp only[Yl,hx];refine Qq (wpAny_setField ho hd (by simp) (Qj ⟨x,rfl,Qj (hQ _ ⟨_,Jr _ ho (Obj.isFreed_of_fields (Obj.data_mapFields hd _)),(Obj.cls_mapFields ..).trans hc,?_⟩ (Uo ..))⟩))
 rw[Obj.data_mapFields hd];simp[rawInt]
theorem b5J{it l:Addr}{i:Nat}{items:Array Value}{Q:OE}(hh:A.handled=none)(hit:s.heap.IsTupleIter it l i)(hl:s.heap.IsTuple l items)(hx:items[i]? =none)
  (hE:∀h' e,Heap.ExtBut it s.heap h'->(∃o,h'.get? e=some o/\o.cls=.type "StopIteration")->E (.ref e) {s with heap:=h'}):wpAny (model prog w) A (Builtin.SmallTypes.nextOf (.ref it)) Q E s:=by
 obtain⟨o,ho,hc,hd⟩:=id hit;obtain⟨ol,hol,_,nl,hdl⟩:=hl;unfold Builtin.SmallTypes.nextOf;refine Qq (Jw (name:=Str.ofString "__next__") hit.typeIs Yt (Yi Yt hit.typeIs Vg ?_ (Vy _)));show wpAny _ _ (field (.ref it) 0>>=_) _ _ s;refine Qq (Yk ho hd (x:=.ref l) rfl ?_);rw[Qp (show ¬ ((Value.ref l==Value.none)=true)from Zy)]
 refine Qq (Yk ho hd (x:=.int i 0) rfl ?_);refine Qq (Zf hol hdl ?_);simp only[Yl,hx];refine Qq (Xq (Qq (wpAny_setField ho hd (by simp) ?_)))
 refine Qq ?_
 simp only[newExc,newTuple];refine Qq (Yh ?_ (by size_fits))
 refine Qq (m:=firstArgMember _ _) (wpAny_of_eq (a:=Value.none) (by first|rfl|(simp only[firstArgMember];rfl)) ?_)
 refine Yh ?_ (by size_fits)
 simp only[raiseNew];refine Qq (wpAny_handled ?_)
 first|rw[show A.in1.handled=none from hh]|rw[hh]
 refine Qq (Qj (wpAny_throw ?_));exact hE _ _ (((Uo ..).extBut.push _).push _) ⟨_,Ql _ rfl,rfl⟩
theorem a5Y{k:Bool}{it l:Addr}{i:Nat}{items:Array Value}{x:Value}{Q:OE}(hit:It1 k s.heap it l i)(hl:Sq1 k s.heap l items)(hx:items[i]? =some x)
  (hQ:∀h',It1 k h' it l (i+1)->Heap.SameBut it s.heap h'->Q x {s with heap:=h'}):wpAny (model prog w) A (Builtin.SmallTypes.nextOf (.ref it)) Q E s:=by
 cases k
 ·exact wpAny_nextOf_list_item hit hl hx hQ
 ·exact b5I hit hl hx hQ
theorem a9s{k:Bool}{it l:Addr}{i:Nat}{items:Array Value}{Q:OE}(hh:A.handled=none)(hit:It1 k s.heap it l i)(hl:Sq1 k s.heap l items)(hx:items[i]? =none)
  (hE:∀h' e,Heap.ExtBut it s.heap h'->(∃o,h'.get? e=some o/\o.cls=.type "StopIteration")->E (.ref e) {s with heap:=h'}):wpAny (model prog w) A (Builtin.SmallTypes.nextOf (.ref it)) Q E s:=by
 cases k
 ·exact wpAny_nextOf_list_end hh hit hl hx hE
 ·exact b5J hh hit hl hx hE
end
section
variable{prog:Program}{w:World}{A:Around}{E:OE}{s:Shared}{c1 c2:Bool}
theorem b5K{z TI TO i1 i2 l1 l2:Addr}{k1 k2:Nat}{xs ys:Array Value}{x y a b:Value}{Q:OE}(D:ZipApart z TI TO i1 i2 l1 l2)
  (hz:IsZip s.heap z TI TO .none)(hTI:IsPair s.heap TI (.ref i1) (.ref i2))(hTO:IsPair s.heap TO a b)
  (h1:It1 c1 s.heap i1 l1 k1)(h2:It1 c2 s.heap i2 l2 k2)(hl1:Sq1 c1 s.heap l1 xs)(hl2:Sq1 c2 s.heap l2 ys)(hx:xs[k1]? =some x)(hy:ys[k2]? =some y)
  (hQ:∀h',IsZip h' z TI TO (rawInt s.heap.objs.size)->IsPair h' TO x y->It1 c1 h' i1 l1 (k1+1)->It1 c2 h' i2 l2 (k2+1)->IsPair h' s.heap.objs.size x y->h'.objs.size=s.heap.objs.size+1->
   (∀c o,c≠z->c≠TO->c≠i1->c≠i2->s.heap.get? c=some o->h'.get? c=some o)->Q (.ref s.heap.objs.size) {s with heap:=h'}):
  wpAny (model prog w) A (Builtin.«zip.__next__» ⟨[.ref z],[]⟩) (fun fin s'=>∃v,fin=.done (.ret v)/\Q v s') E s:=by
 show wpAny _ _ (field (.ref z) 2>>=_) _ _ _;refine Qq (Yk hz rfl (x:=.bool false) rfl (Qq (Yk hz rfl (x:=.ref TI) rfl ?_)));refine Qq (Zf hTI rfl (Qq ?_));unfold Builtin.SmallTypes.ownedTupleIsFree;refine Qq (Yk hz rfl (x:=.none) rfl (Qj ?_));simp only[Yv];refine Qq (Xq (Qq (Yk hz rfl (x:=.ref TO) rfl ?_)));refine Qq (Jn hz (by simp) fun g1 (z1:IsZip g1 z TI TO .ellipsis) s1=>Qq ?_)
 simp only[List.zipIdx_cons,List.zipIdx_nil,List.forIn_cons,List.forIn_nil];refine Qq (Qq (Xd (Qq (m:=Builtin.SmallTypes.nextOf (.ref i1)) ?_)));refine a5Y (h1.but s1.extBut D.i1z) (hl1.but s1.extBut D.l1z) hx fun g2 a2 s2=>Qj ?_
 have p2:IsPair g2 TO a b:=s2.extBut _ _ D.TOi1 (s1.extBut _ _ D.TOz hTO)
 refine Qq (Zf p2 rfl (Qq (Xv p2 fun g3 (p3:IsPair g3 TO x b) s3=>?_)))
 refine Qq (Ue (Qj (Qq (Qq (Xd (Qq (m:=Builtin.SmallTypes.nextOf (.ref i2)) ?_))))));refine a5Y (((h2.but s1.extBut D.i2z).but s2.extBut D.i12.symm).but s3.extBut D.TOi2.symm) (((hl2.but s1.extBut D.l2z).but s2.extBut D.l2i1).but s3.extBut D.l2TO) hy fun g4 a4 s4=>Qj ?_
 have p4:IsPair g4 TO x b:=s4.extBut _ _ D.TOi2 p3
 refine Qq (Zf p4 rfl (Qq (Xv p4 fun g5 (p5:IsPair g5 TO x y) s5=>?_)))
 refine Qq (Ue (Qj (Qj (Qq (Zf p5 rfl (Qq (wpAny_newTuple ?_)))))));have hsz:g5.objs.size=s.heap.objs.size:=by rw[s5.1,s4.1,s3.1,s2.1,s1.1]
 have z5:IsZip g5 z TI TO .ellipsis:=s5.extBut _ _ D.TOz.symm (s4.extBut _ _ D.i2z.symm (s3.extBut _ _ D.TOz.symm (s2.extBut _ _ D.i1z.symm z1)))
 have k5:∀c o,c≠z->c≠TO->c≠i1->c≠i2->s.heap.get? c=some o->g5.get? c=some o:=fun c o n1 n2 n3 n4 e=>
  s5.extBut _ _ n2 (s4.extBut _ _ n4 (s3.extBut _ _ n2 (s2.extBut _ _ n3 (s1.extBut _ _ n1 e))))
 have b1:It1 c1 g5 i1 l1 (k1+1):=((a2.but s3.extBut D.TOi1.symm).but s4.extBut D.i12).but s5.extBut D.TOi1.symm
 have b2:It1 c2 g5 i2 l2 (k2+1):=a4.but s5.extBut D.TOi2.symm
 refine Qq (m:=Builtin.SmallTypes.ownedTupleHandOut (.ref z) (.ref g5.objs.size)) ?_
 unfold Builtin.SmallTypes.ownedTupleHandOut;have z6:IsZip (g5.push {cls:=.type "tuple",data:=.seq #[x,y]}) z TI TO .ellipsis:=Qx _ z5;refine Qq (Jn z6 (by simp) fun g7 (z7:IsZip g7 z TI TO (rawInt g5.objs.size)) s7=>?_)
 refine Jn z7 (by simp) fun g8 (z8:IsZip g8 z TI TO (rawInt g5.objs.size)) s8=>?_
 have up:∀c o,c≠z->g5.get? c=some o->g8.get? c=some o:=fun c o n1 e=>s8.extBut _ _ n1 (s7.extBut _ _ n1 (Qx _ e))
 have t8:IsPair g8 g5.objs.size x y:=s8.extBut _ _ (Tv (Qw z5)) (s7.extBut _ _ (Tv (Qw z5)) (Ql _ rfl))
 have e8:g8.objs.size=g5.objs.size+1:=by rw[s8.1,s7.1,Zs]
 rw[hsz]at z8 t8 e8;refine Qj ⟨_,rfl,?_⟩;show Q (.ref g5.objs.size) _;rw[hsz];exact hQ g8 z8 (up _ _ D.TOz p5) (b1.at' fun o e=>up _ o D.i1z e) (b2.at' fun o e=>up _ o D.i2z e) t8 e8 fun c o n1 n2 n3 n4 e=>up c o n1 (k5 c o n1 n2 n3 n4 e)
theorem b5L{z TI TO i1 i2 l1 l2:Addr}{k1 k2:Nat}{xs ys:Array Value}{a b:Value}{Q:PySem.Fin->Shared->Prop}(hh:A.handled=none)(D:ZipApart z TI TO i1 i2 l1 l2)
  (hz:IsZip s.heap z TI TO .none)(hTI:IsPair s.heap TI (.ref i1) (.ref i2))(hTO:IsPair s.heap TO a b)
  (h1:It1 c1 s.heap i1 l1 k1)(h2:It1 c2 s.heap i2 l2 k2)(hl1:Sq1 c1 s.heap l1 xs)(hl2:Sq1 c2 s.heap l2 ys)(hend:xs[k1]? =none∨ys[k2]? =none)
  (hE:∀h' e,(∀c o,c≠z->c≠TO->c≠i1->c≠i2->s.heap.get? c=some o->h'.get? c=some o)->(∃o,h'.get? e=some o/\o.cls=.type "StopIteration")->E (.ref e) {s with heap:=h'}):
  wpAny (model prog w) A (Builtin.«zip.__next__» ⟨[.ref z],[]⟩) Q E s:=by
 show wpAny _ _ (field (.ref z) 2>>=_) _ _ _;refine Qq (Yk hz rfl (x:=.bool false) rfl (Qq (Yk hz rfl (x:=.ref TI) rfl ?_)));refine Qq (Zf hTI rfl (Qq ?_));unfold Builtin.SmallTypes.ownedTupleIsFree;refine Qq (Yk hz rfl (x:=.none) rfl (Qj ?_));simp only[Yv];refine Qq (Xq (Qq (Yk hz rfl (x:=.ref TO) rfl ?_)));refine Qq (Jn hz (by simp) fun g1 (z1:IsZip g1 z TI TO .ellipsis) s1=>Qq ?_)
 simp only[List.zipIdx_cons,List.zipIdx_nil,List.forIn_cons,List.forIn_nil];refine Qq (Qq (Xd (Qq (m:=Builtin.SmallTypes.nextOf (.ref i1)) ?_)));cases hx:xs[k1]? with
 |none=>
  refine a9s hh (h1.but s1.extBut D.i1z) (hl1.but s1.extBut D.l1z) hx fun g2 e s2 he=>?_
  obtain⟨oe,q1,q2⟩:=he;have z2:IsZip g2 z TI TO .ellipsis:=s2 _ _ D.i1z.symm z1;have ne:e≠z:=fun x=>by subst x;rw[z2]at q1;cases q1;simp at q2
  exact Jn z2 (by simp) fun g3 _ s3=>hE g3 e (fun c o n1 _ n3 _ x=>s3.extBut _ _ n1 (s2 _ _ n3 (s1.extBut _ _ n1 x))) ⟨oe,s3.extBut _ _ ne q1,q2⟩
 |some x=>
  have hy:ys[k2]? =none:=by
   rcases hend with h|h
   ·rw[hx]at h;cases h
   ·exact h
  refine a5Y (h1.but s1.extBut D.i1z) (hl1.but s1.extBut D.l1z) hx fun g2 a2 s2=>Qj ?_
  have p2:IsPair g2 TO a b:=s2.extBut _ _ D.TOi1 (s1.extBut _ _ D.TOz hTO)
  refine Qq (Zf p2 rfl (Qq (Xv p2 fun g3 p3 s3=>?_)))
  refine Qq (Ue (Qj (Qq (Qq (Xd (Qq (m:=Builtin.SmallTypes.nextOf (.ref i2)) ?_))))));refine a9s hh (((h2.but s1.extBut D.i2z).but s2.extBut D.i12.symm).but s3.extBut D.TOi2.symm) (((hl2.but s1.extBut D.l2z).but s2.extBut D.l2i1).but s3.extBut D.l2TO) hy fun g4 e s4 he=>?_
  obtain⟨oe,q1,q2⟩:=he;have z4:IsZip g4 z TI TO .ellipsis:=s4 _ _ D.i2z.symm (s3.extBut _ _ D.TOz.symm (s2.extBut _ _ D.i1z.symm z1));have ne:e≠z:=fun x=>by subst x;rw[z4]at q1;cases q1;simp at q2
  exact Jn z4 (by simp) fun g5 _ s5=>hE g5 e (fun c o n1 n2 n3 n4 x=>s5.extBut _ _ n1 (s4 _ _ n4 (s3.extBut _ _ n2 (s2.extBut _ _ n3 (s1.extBut _ _ n1 x))))) ⟨oe,s5.extBut _ _ ne q1,q2⟩
theorem b5M{z TI TO i1 i2 l1 l2:Addr}{k1 k2:Nat}{xs ys:Array Value}{x y a b:Value}{Q:Option Value->Shared->Prop}(D:ZipApart z TI TO i1 i2 l1 l2)
  (hz:IsZip s.heap z TI TO .none)(hTI:IsPair s.heap TI (.ref i1) (.ref i2))(hTO:IsPair s.heap TO a b)
  (h1:It1 c1 s.heap i1 l1 k1)(h2:It1 c2 s.heap i2 l2 k2)(hl1:Sq1 c1 s.heap l1 xs)(hl2:Sq1 c2 s.heap l2 ys)(hx:xs[k1]? =some x)(hy:ys[k2]? =some y)
  (hQ:∀h',IsZip h' z TI TO (rawInt s.heap.objs.size)->IsPair h' TO x y->It1 c1 h' i1 l1 (k1+1)->It1 c2 h' i2 l2 (k2+1)->IsPair h' s.heap.objs.size x y->h'.objs.size=s.heap.objs.size+1->
   (∀c o,c≠z->c≠TO->c≠i1->c≠i2->s.heap.get? c=some o->h'.get? c=some o)->Q (some (.ref s.heap.objs.size)) {s with heap:=h'}):
  wpAny (model prog w) A (pyNext (.ref z)) Q E s:=by
 have hT:s.TypeIs (.ref z) "zip":=⟨_,hz,rfl⟩
 unfold pyNext;exact Qq (wpAny_attempt (Jw (name:=Str.ofString "__next__") hT Ur (Yi Ur hT PySem.F.entry_zip_next
  (b5K D hz hTI hTO h1 h2 hl1 hl2 hx hy fun h' a1 a2 a3 a4 a5 a6 a7=>Qj (hQ h' a1 a2 a3 a4 a5 a6 a7)) (PySem.F.args_zip_next_1 _))))
theorem b5N{z TI TO i1 i2 l1 l2:Addr}{k1 k2:Nat}{xs ys:Array Value}{a b:Value}{Q:Option Value->Shared->Prop}(hh:A.handled=none)(D:ZipApart z TI TO i1 i2 l1 l2)
  (hz:IsZip s.heap z TI TO .none)(hTI:IsPair s.heap TI (.ref i1) (.ref i2))(hTO:IsPair s.heap TO a b)
  (h1:It1 c1 s.heap i1 l1 k1)(h2:It1 c2 s.heap i2 l2 k2)(hl1:Sq1 c1 s.heap l1 xs)(hl2:Sq1 c2 s.heap l2 ys)(hend:xs[k1]? =none∨ys[k2]? =none)
  (hQ:∀h',(∀c o,c≠z->c≠TO->c≠i1->c≠i2->s.heap.get? c=some o->h'.get? c=some o)->Q none {s with heap:=h'}):wpAny (model prog w) A (pyNext (.ref z)) Q E s:=by
 have hT:s.TypeIs (.ref z) "zip":=⟨_,hz,rfl⟩
 unfold pyNext;refine Qq (wpAny_attempt (Jw (name:=Str.ofString "__next__") hT Ur (Yi Ur hT PySem.F.entry_zip_next
  (b5L hh D hz hTI hTO h1 h2 hl1 hl2 hend fun h' e hk he=>?_) (PySem.F.args_zip_next_1 _))))
 obtain⟨o,ho,hc⟩:=he;exact Qq (Vs (T:="StopIteration") (b:=true) ⟨o,ho,hc⟩ isSubtype_stop (Qj (hQ _ hk)))
end
def a9t(c:Bool):String:=if c then "tuple_iterator" else "list_iterator"
abbrev zh1(c1:Bool)(h:Heap)(l1:Addr):Heap:=h.push {cls:=.type (a9t c1),data:=.fields #[.ref l1,.int 0 0]}
abbrev zh2(c1 c2:Bool)(h:Heap)(l1 l2:Addr):Heap:=(zh1 c1 h l1).push {cls:=.type (a9t c2),data:=.fields #[.ref l2,.int 0 0]}
abbrev zh3(c1 c2:Bool)(h:Heap)(l1 l2:Addr):Heap:=(zh2 c1 c2 h l1 l2).push {cls:=.type "tuple",data:=.seq #[.ref h.objs.size,.ref (zh1 c1 h l1).objs.size]}
abbrev zh4(c1 c2:Bool)(h:Heap)(l1 l2:Addr):Heap:=(zh3 c1 c2 h l1 l2).push {cls:=.type "tuple",data:=.seq #[.none,.none]}
abbrev zh5(c1 c2:Bool)(h:Heap)(l1 l2:Addr):Heap:=(zh4 c1 c2 h l1 l2).push {cls:=.type "zip",data:=.fields #[.none,.bool false,.bool false,.ref (zh2 c1 c2 h l1 l2).objs.size,.ref (zh3 c1 c2 h l1 l2).objs.size]}
section
variable{prog:Program}{w:World}{A:Around}{E:OE}{s:Shared}
theorem a9u{c:Bool}{l:Addr}{items:Array Value}{Q:OE}(hl:Sq1 c s.heap l items)(hQ:Q (.ref s.heap.objs.size) {s with heap:=zh1 c s.heap l}):wpAny (model prog w) A (pyIter (.ref l)) Q E s:=by
 cases c
 ·exact Jo hl hQ
 ·exact Xh hl hQ
end
theorem b5O(c1 c2:Bool)(l1 l2:Addr)(xs ys:Array Value):
  Meets (Builtin.«zip.__new__» ⟨[.type "zip",.ref l1,.ref l2],[]⟩) (fun _ R s=>Sq1 c1 s.heap l1 xs/\Sq1 c2 s.heap l2 ys/\R (.ok (.ret (.ref (zh4 c1 c2 s.heap l1 l2).objs.size))) {s with heap:=zh5 c1 c2 s.heap l1 l2}):=
 .of_wp fun prog w A R s h=>by
  obtain⟨hp,g,d,tk,os⟩:=s;obtain⟨hl1,hl2,h⟩:=h;have hsub:=sub_zip;have hL1:Sq1 c1 (Shared.heap ⟨hp,g,d,tk,os⟩) l1 xs:=hl1;have hL2:Sq1 c2 (Shared.heap ⟨zh1 c1 hp l1,g,d,tk,os⟩) l2 ys:=Sq1.at' hl2 fun o e=>Qx _ e
  wp_walk using a9u hL1,a9u hL2
  exact⟨_,rfl,h⟩
section
variable{prog:Program}{w:World}{A:Around}{E:OE}{s:Shared}
theorem b5P{c1 c2:Bool}{l1 l2:Addr}{xs ys:Array Value}{Q:OE}(hl1:Sq1 c1 s.heap l1 xs)(hl2:Sq1 c2 s.heap l2 ys)
  (h:∀h',IsZip h' (s.heap.objs.size+4) (s.heap.objs.size+2) (s.heap.objs.size+3) .none->IsPair h' (s.heap.objs.size+2) (.ref s.heap.objs.size) (.ref (s.heap.objs.size+1))->
   IsPair h' (s.heap.objs.size+3) .none .none->It1 c1 h' s.heap.objs.size l1 0->It1 c2 h' (s.heap.objs.size+1) l2 0->h'.objs.size=s.heap.objs.size+5->
   (∀c o,s.heap.get? c=some o->h'.get? c=some o)->Q (.ref (s.heap.objs.size+4)) {s with heap:=h'}):
  wpAny (model prog w) A (call (.type "zip") [.ref l1,.ref l2]) Q E s:=by
 refine callType_new PySem.F.called_zip (by decide) (PySem.F.typeCall_zip_2 _ _) (PySem.F.newCall_zip_2 _ _) (fun obj=>PySem.F.args_object_init_3 obj _ _) PySem.F.entry_zip_new (b5O c1 c2 l1 l2 xs ys) ⟨hl1,hl2,?_⟩
 have z1:(zh1 c1 s.heap l1).objs.size=s.heap.objs.size+1:=Zs ..
 have z2:(zh2 c1 c2 s.heap l1 l2).objs.size=s.heap.objs.size+2:=by rw[Zs,z1]
 have z3:(zh3 c1 c2 s.heap l1 l2).objs.size=s.heap.objs.size+3:=by rw[Zs,z2]
 have z4:(zh4 c1 c2 s.heap l1 l2).objs.size=s.heap.objs.size+4:=by rw[Zs,z3]
 have z5:(zh5 c1 c2 s.heap l1 l2).objs.size=s.heap.objs.size+5:=by rw[Zs,z4]
 have g5:(zh5 c1 c2 s.heap l1 l2).get? (zh4 c1 c2 s.heap l1 l2).objs.size=some _:=Ql _ rfl
 have g4:(zh5 c1 c2 s.heap l1 l2).get? (zh3 c1 c2 s.heap l1 l2).objs.size=some _:=Qx _ (Ql _ rfl)
 have g3:(zh5 c1 c2 s.heap l1 l2).get? (zh2 c1 c2 s.heap l1 l2).objs.size=some _:=Qx _ (Qx _ (Ql _ rfl))
 have g2:(zh5 c1 c2 s.heap l1 l2).get? (zh1 c1 s.heap l1).objs.size=some _:=Qx _ (Qx _ (Qx _ (Ql _ rfl)))
 have g1:(zh5 c1 c2 s.heap l1 l2).get? s.heap.objs.size=some _:=Qx _ (Qx _ (Qx _ (Qx _ (Ql _ rfl))))
 show _/\_;rw[z2,z3,z4]at g5;rw[z1,z2]at g3;rw[z3]at g4;rw[z1]at g2;rw[z4];refine⟨⟨_,g5,rfl⟩,h _ g5 g3 g4 ?_ ?_ z5 fun c o x=>Qx _ (Qx _ (Qx _ (Qx _ (Qx _ x))))⟩
 ·cases c1
  ·exact(⟨_,g1,rfl,rfl⟩:Heap.IsListIter _ _ _ _)
  ·exact(⟨_,g1,rfl,rfl⟩:Heap.IsTupleIter _ _ _ _)
 ·cases c2
  ·exact(⟨_,g2,rfl,rfl⟩:Heap.IsListIter _ _ _ _)
  ·exact(⟨_,g2,rfl,rfl⟩:Heap.IsTupleIter _ _ _ _)
end
def SqA(c:Bool)(K:Qz)(H:Hp)(a:Addr)(xs:List V):Prop:=if c then SqT K H a xs else SqL K H a xs
theorem Le.sqA{K:Qz}{G G':Hp}(l:Le G G'){c:Bool}{a:Addr}{xs:List V}(h:SqA c K G a xs):SqA c K G' a xs:=by
 cases c
 ·exact l.sqL h
 ·exact l.sqT' h
section
variable{X:Cx}{pins:OX}{σ:St}{H:Hp}{s:Shared}{c:Bool}{a b:Addr}{xs:List V}
theorem a2F(I:Inv X pins σ H s)(h:SqA c X.K H a xs):∃its:List Value,q0_ xs its/\Sq1 c s.heap a its.toArray/\xs.length≤sizeLine:=by
 cases c
 ·obtain⟨its,r,p,z⟩:=I.list h
  exact⟨its,r,p.isList,z⟩
 ·obtain⟨its,r,p,z⟩:=I.tuple h
  exact⟨its,r,p,z⟩
theorem a4x(I:Inv X pins σ H s)(f:u3_ X pins H b)(h:SqA c X.K H a xs):a≠b:=by
 have k:∀{u:HO},Rd H a u->a≠b:=fun r z=>by
  subst z
  rcases r with r|⟨_,r⟩
  ·rw[f.1]at r;cases r
  ·rw[f.1]at r;cases r
 have m:∀{o:Obj},X.K.lookup a=some o->a≠b:=fun{o} q z=>by
  subst z;have e:X.base.get? a=some o:=I.mod.kin a o q
  rcases f.2.2.2.1 with z|z
  ·exact I.ok.noex a o e z
  ·exact absurd (Qa (Qw e) (Yj I.ok.bsz z)) (Yp _)
 cases c
 ·rcases h with h|⟨o,_,_,q,_⟩
  ·exact k h
  ·exact m q
 ·rcases h with h|⟨o,_,_,q,_⟩
  ·exact k h
  ·exact m q
end
def Itz(K:Qz)(c1 c2:Bool)(l1 l2:Addr)(xs ys:List V):It:=
 ⟨fun i H=>i<min xs.length ys.length/\SqA c1 K H l1 xs/\SqA c2 K H l2 ys,
  fun i H x H'=>∃p a b,H p=none/\x=.ref p/\H'=upd H p (.tup [a,b])/\xs[i]? =some a/\ys[i]? =some b,
  fun i H=>min xs.length ys.length≤i/\SqA c1 K H l1 xs/\SqA c2 K H l2 ys⟩
def b5Q(c1 c2:Bool)(n:Nat)(l1 l2:Addr)(i:Nat)(h:Heap):Prop:=
 IsZip h (n+4) (n+2) (n+3) .none/\IsPair h (n+2) (.ref n) (.ref (n+1))/\(∃a b,IsPair h (n+3) a b)/\It1 c1 h n l1 i/\It1 c2 h (n+1) l2 i
theorem apart{n l1 l2:Addr}(h1:∀j,j<5->l1≠n+j)(h2:∀j,j<5->l2≠n+j):ZipApart (n+4) (n+2) (n+3) n (n+1) l1 l2:=by
 constructor<;>first
  |(show(_:Nat)≠_;omega)
  |exact h1 4 (by decide)
  |exact h1 3 (by decide)
  |exact h1 1 (by decide)
  |exact h1 0 (by decide)
  |exact h2 4 (by decide)
  |exact h2 3 (by decide)
  |exact h2 1 (by decide)
  |exact h2 0 (by decide)
abbrev fp5(n:Nat):List Addr:=[n+4,n+2,n+3,n,n+1]
abbrev fp4(n:Nat):List Addr:=[n+4,n+3,n,n+1]
theorem a4y(n:Nat):∀{j:Nat},j<5->(n+j:Nat)∈fp5 n
 |0,_=>by simp[fp5]
 |1,_=>by simp[fp5]
 |2,_=>by simp[fp5]
 |3,_=>by simp[fp5]
 |4,_=>by simp[fp5]
 |j+5,h=>by omega
theorem a9v{n:Nat}{c:Addr}(h:c∈fp4 n):c∈fp5 n:=by
 simp only[fp4,fp5,Qg,Zg,Uk]at h ⊢
 rcases h with h|h|h|h<;>simp[h]
theorem b5R{n:Nat}{c:Addr}(h:c∈[n+4]):c∈fp5 n:=by
 simp only[Qg,Zg,Uk]at h;rw[h];simp
theorem le5{n:Nat}{c:Addr}(h:c∈fp5 n):n≤c:=by
 simp only[fp5,Qg,Zg,Uk]at h
 rcases h with rfl|rfl|rfl|rfl|rfl
 ·exact Vi _ _
 ·exact Vi _ _
 ·exact Vi _ _
 ·exact Qu _
 ·exact Vi _ _
theorem b5S{P:Program}{w:World}{K:Qz}{elts:List Expr}{kk:Nat}{tp:Pos}(c1 c2:Bool)(n l1 l2:Addr)(xs ys:List V):
  Turn P w K (.Tuple elts kk tp) (Itz K c1 c2 l1 l2 xs ys) [n+4,n+2,n+3,n,n+1] (n+4) (b5Q c1 c2 n l1 l2)where
 mem:=by simp
 obj:=fun i h st b hb=>by
  obtain⟨hz,hI,⟨a,b',hO⟩,h1,h2⟩:=st;simp only[Qg,Zg,Uk]at hb
  rcases hb with rfl|rfl|rfl|rfl|rfl
  ·exact⟨_,hz,fun v z=>by cases z⟩
  ·exact⟨_,hI,fun v z=>by cases z⟩
  ·exact⟨_,hO,fun v z=>by cases z⟩
  ·exact h1.get
  ·exact h2.get
 keep:=fun i h h' st k=>by
  obtain⟨hz,hI,⟨a,b',hO⟩,h1,h2⟩:=st;exact⟨k _ (by simp) _ hz,k _ (by simp) _ hI,⟨a,b',k _ (by simp) _ hO⟩,h1.at' fun o e=>k _ (by simp) o e,h2.at' fun o e=>k _ (by simp) o e⟩
 item:=by
  intro X hP hw hK hc i pins s σ H E I hf st hg;subst hP hw hK;obtain⟨hi,q1,q2⟩:=hg;obtain⟨hz,hI,⟨a,b,hO⟩,h1,h2⟩:=st;obtain⟨its,r1,p1,_⟩:=a2F I q1;obtain⟨jts,r2,p2,_⟩:=a2F I q2;have ex:xs[i]? =some (xs[i]'(by omega)):=by simp
  have ey:ys[i]? =some (ys[i]'(by omega)):=by simp
  obtain⟨u,hu,ru⟩:=r1.get ex;obtain⟨v,hv,rv⟩:=r2.get ey;have D:ZipApart (n+4) (n+2) (n+3) n (n+1) l1 l2:=apart
   (fun j hj=>a4x I (hf _ (a4y n hj)) q1)
   (fun j hj=>a4x I (hf _ (a4y n hj)) q2)
  refine b5M D hz hI hO h1 h2 p1 p2 (x:=u) (y:=v) (by simpa using hu) (by simpa using hv) fun h' a1 a2 a3 a4 a5 a6 a7=>?_
  have hn:H s.heap.objs.size=none:=I.fresh
  have I1:Inv X pins σ (upd H s.heap.objs.size (.tup [xs[i]'(by omega),ys[i]'(by omega)])) {s with heap:=h'}:=b5H (ch:=[n+4,n+3,n,n+1]) (t':=s.toks) I
   (fun c o hc e=>a7 c o (fun z=>hc (by simp[z])) (fun z=>hc (by simp[z])) (fun z=>hc (by simp[z])) (fun z=>hc (by simp[z])) e)
   (fun c hc=>hf c (a9v hc)) (Qu _)
   ⟨by show 2≤sizeLine;decide,[u,v],.cons ru (.cons rv .nil),_,a5,rfl,rfl,0,rfl⟩
  have lt5:∀c∈[n+4,n+2,n+3,n,n+1],c≠s.heap.objs.size:=fun c hc=>by
   have:∃o,s.heap.get? c=some o:=by
    simp only[Qg,Zg,Uk]at hc
    rcases hc with rfl|rfl|rfl|rfl|rfl
    ·exact⟨_,hz⟩
    ·exact⟨_,hI⟩
    ·exact⟨_,hO⟩
    ·obtain⟨o,e,_⟩:=h1.get;exact⟨o,e⟩
    ·obtain⟨o,e,_⟩:=h2.get;exact⟨o,e⟩
   obtain⟨o,e⟩:=this;exact Zq (Qw e)
  have hf2:∀c∈[n+4,n+2,n+3,n,n+1],u3_ X pins (upd H s.heap.objs.size (.tup [xs[i]'(by omega),ys[i]'(by omega)])) c:=fun c hc=>⟨by rw[q4_ (lt5 c hc)];exact(hf c hc).1,(hf c hc).2⟩
  have hI':IsPair h' (n+2) (.ref n) (.ref (n+1)):=a7 _ _ D.TIz D.TITO D.TIi1 D.TIi2 hI
  refine⟨.ref s.heap.objs.size,rfl,wpAny_letOwnedTupleGo_zip (s:={s with heap:=h'}) a1 fun h2' b1 b2=>?_⟩
  have I2:Inv X pins σ (upd H s.heap.objs.size (.tup [xs[i]'(by omega),ys[i]'(by omega)])) {s with heap:=h2'}:=a9r (s:={s with heap:=h'}) (ch:=[n+4]) (t':=s.toks) I1
   (fun c o hc e=>b2.extBut _ _ (fun z=>hc (by simp[z])) e) (fun c hc=>hf2 c (b5R hc))
  exact⟨.ref s.heap.objs.size,_,I2,rfl,⟨_,_,_,hn,rfl,rfl,ex,ey⟩,
   ⟨b1,b2.extBut _ _ D.TIz hI',⟨_,_,b2.extBut _ _ D.TOz a2⟩,a3.but b2.extBut D.i1z,a4.but b2.extBut D.i2z⟩,fun c hc=>(hf2 c hc).1⟩
 done:=by
  intro X hP hw hK hc i pins s σ H E I hf st hg;subst hP hw hK;obtain⟨hi,q1,q2⟩:=hg;obtain⟨hz,hI,⟨a,b,hO⟩,h1,h2⟩:=st;obtain⟨its,r1,p1,_⟩:=a2F I q1;obtain⟨jts,r2,p2,_⟩:=a2F I q2;have D:ZipApart (n+4) (n+2) (n+3) n (n+1) l1 l2:=apart
   (fun j hj=>a4x I (hf _ (a4y n hj)) q1)
   (fun j hj=>a4x I (hf _ (a4y n hj)) q2)
  have e1:=r1.length
  have e2:=r2.length
  have hend:its.toArray[i]? =none∨jts.toArray[i]? =none:=by
   by_cases h:its.length≤i
   ·exact .inl (by simp;omega)
   ·exact .inr (by simp;omega)
  exact b5N (I.ok.hd hc) D hz hI hO h1 h2 p1 p2 hend fun h' hk=>⟨rfl,a9r (ch:=[n+4,n+3,n,n+1]) (t':=s.toks) I
   (fun c o hc e=>hk c o (fun z=>hc (by simp[z])) (fun z=>hc (by simp[z])) (fun z=>hc (by simp[z])) (fun z=>hc (by simp[z])) e)
   (fun c hc=>hf c (a9v hc))⟩
 self:=fun _ _ _ _ _ st h=>wpAny_pyIter_zip st.1 h
theorem b5T:bootBuiltins "zip"=some (.type "zip"):=by decide+kernel
section
variable{X:Cx}{B:OA}{pos p:Pos}{a b:Expr}{ms:Mo (List D)}{elts:List Expr}{kk:Nat}{tp:Pos}
def b5U(K:Qz)(ta:TA):TI:=fun σ H R=>ta σ H fun vs H1=>∃c1 c2 l1 l2 xs ys,vs=[.ref l1,.ref l2]/\SqA c1 K H1 l1 xs/\SqA c2 K H1 l2 ys/\R (Itz K c1 c2 l1 l2 xs ys) H1
theorem b5V{ta:TA}(hg:Gl X "zip")(hm:X.mg "zip"=none)(ha:PA X [a,b] ta)(hs:starEach [a,b] X.env=[(false,eval a X.env),(false,eval b X.env)]:=by rfl)(hs2:starEach [b] X.env=[(false,eval b X.env)]:=by rfl):
  PI X (.Tuple elts kk tp) (.Call (.Name "zip" p) [a,b] [] pos) (b5U X.K ta):=by
 intro pins s σ H R I h;refine Call_ (a2Z I hg hm b5T (Ut (thn (ha pos pins s σ H _ I h) fun us s1 ⟨vs,H1,I1,r1,q1⟩=>?_) (by rw[hs,hs2]) (by rw[hs2];rfl)))
 obtain⟨c1,c2,l1,l2,xs,ys,rfl,h1,h2,q⟩:=q1;obtain⟨u,v,rfl,ru,rv⟩:=a3V r1;cases ru;cases rv;obtain⟨its,r1,p1,_⟩:=a2F I1 h1;obtain⟨jts,r2,p2,_⟩:=a2F I1 h2;refine b5P p1 p2 fun h' a1 a2 a3 a4 a5 a6 a7=>?_
 refine wpAny_pyIter_zip a1 ?_
 refine⟨s1.heap.objs.size+4,_,_,_,H1,rfl,I1.kept (t':=s1.toks) a7,b5S c1 c2 s1.heap.objs.size l1 l2 xs ys,⟨a1,a2,⟨_,_,a3⟩,a4,a5⟩,fun c hc=>?_,q⟩
 have hle:s1.heap.objs.size≤c:=le5 hc
 exact I1.fpOk hle (I1.hok.fresh hle)
def a1l(xs ys:List D):List D:=(xs.zip ys).map fun p=>.tup [p.1,p.2]
def a2G(ms:Mo (List D)):Mo (List D):=fun env=>(ms env).bind fun p=>match p.1 with
 |[d,e]=>d.items.bind fun xs=>e.items.map fun ys=>(a1l xs ys,p.2)
 |_=>none
theorem a9w{K:Qz}{G:Hp}{v:V}{d:D}{ds:List D}(r:Rep K G v d)(h:d.items=some ds):∃c a xs,v=.ref a/\SqA c K G a xs/\z5_ K G xs ds:=by
 cases d<;>first|(exact absurd (show(none:Option (List D))=some ds from h) (by simp))|skip
 ·cases h;simp only[Rep]at r;obtain⟨a,xs,e,q,t⟩:=r;exact⟨true,a,xs,e,q.t,t⟩
 ·cases h;simp only[Rep]at r;obtain⟨a,xs,e,q,t⟩:=r;exact⟨false,a,xs,e,q,t⟩
theorem b5W{K:Qz}{G:Hp}{c1 c2:Bool}{l1 l2:Addr}{xs ys:List V}{ds es:List D}(h1:SqA c1 K G l1 xs)(h2:SqA c2 K G l2 ys)(r1:z5_ K G xs ds)(r2:z5_ K G ys es):ItD K (Itz K c1 c2 l1 l2 xs ys) G (a1l ds es)where
 go:=fun i H l hi=>⟨by rw[r1.length,r2.length];simpa [a1l]using hi,l.sqA h1,l.sqA h2⟩
 stop:=fun i H l hi=>⟨by rw[r1.length,r2.length];simpa [a1l]using hi,l.sqA h1,l.sqA h2⟩
 yld:=fun i H x H' d l y e=>by
  obtain⟨p,a,b,hp,rfl,rfl,ea,eb⟩:=y;obtain⟨da,e1,ra⟩:=r1.get' ea;obtain⟨db,e2,rb⟩:=r2.get' eb;have ed:d=.tup [da,db]:=by
   unfold a1l at e;rw[Zk,List.getElem?_zip_eq_some.mpr (⟨e1,e2⟩:ds[i]? =some (da,db).1/\es[i]? =some (da,db).2)]at e;cases e;rfl
  subst ed;have gp:G p=none:=by
   cases q:G p with
   |none=>rfl
   |some o=>rw[l p o q]at hp;cases hp
  exact .inr ⟨p,_,nt_tup,hp,rfl,a2s y3_ (repL_cons (Rep.mono (Le.upd gp) _ ra) (repL_cons (Rep.mono (Le.upd gp) _ rb) repL_nil))⟩
theorem b5X(hg:Gl X "zip")(hm:X.mg "zip"=none)(ha:EDs X B [a,b] ms)(hs:starEach [a,b] X.env=[(false,eval a X.env),(false,eval b X.env)]:=by rfl)(hs2:starEach [b] X.env=[(false,eval b X.env)]:=by rfl):
  EI X B (.Tuple elts kk tp) (.Call (.Name "zip" p) [a,b] [] pos) (a2G ms):=by
 refine a5F (b5V hg hm ha hs hs2) ?_
 rintro σ H R ⟨G,env,ds,env',rl,e,k⟩;obtain⟨⟨ds',env1⟩,e1,e2⟩:=q1_ e;dsimp only at e2;split at e2
 ·rename_i d1 d2
  obtain⟨xs,e3,e4⟩:=q1_ e2;obtain⟨ys,e5,e6⟩:=v8_ e4;cases e6;refine⟨G,env,_,_,rl,e1,fun vs G1 H1 ev r=>?_⟩
  obtain⟨v,w,rfl,r1,r2⟩:=a4n r;obtain⟨c1,l1,us,rfl,q1,t1⟩:=a9w r1 e3;obtain⟨c2,l2,ws,rfl,q2,t2⟩:=a9w r2 e5;exact⟨c1,c2,l1,l2,us,ws,rfl,ev.rel.sub.sqA q1,ev.rel.sub.sqA q2,k _ G1 H1 ev (b5W q1 q2 t1 t2)⟩
 ·cases e2
end
def a3n{α:Type}(n:Nat)(lt:Nat->Nat->Bool):PySem.W.KasT α->Option α
 |.ret a=>some a
 |.ask i j k=>if i<n/\j<n then a3n n lt (k (lt i j))else none
theorem a9x{α:Type}{n:Nat}{lt:Nat->Nat->Bool}{cmp:Nat->Nat->(Bool->Shared->Prop)->Shared->Prop}{s:Shared}(hc:∀i j C,i<n->j<n->C (lt i j) s->cmp i j C s):
  ∀(t:PySem.W.KasT α) {Q:α->Shared->Prop}{a:α},a3n n lt t=some a->Q a s->t.kasWp cmp Q s
 |.ret a,Q,a',e,q=>by cases e;exact q
 |.ask i j k,Q,a',e,q=>by
  unfold a3n at e;split at e
  ·rename_i h
   exact hc i j _ h.1 h.2 (a9x hc (k (lt i j)) e q)
  ·cases e
def j2_(h:Heap):List Value->OI->Prop
 |[],[]=>True
 |v::vs,k::ks=>(∃a its,v=.ref a/\IsTup h a its.toArray/\IntsAre its k/\k≠[])/\j2_ h vs ks
 |_,_=>False
theorem b5Y{P:Program}{w:World}{H:Hp}{h:Heap}{a:Addr}{o:HO}(x:k2_ P w H h a o):∃ob,h.get? a=some ob:=by
 cases o with
 |lst xs=>obtain⟨_,_,_,_,e⟩:=x;exact⟨_,e⟩
 |tup xs=>obtain⟨_,_,_,ob,e,_⟩:=x;exact⟨_,e⟩
 |dK kvs=>obtain⟨_,_,_,_,o,_,_,e,_⟩:=x;exact⟨_,e⟩
 |dT C kvs=>obtain⟨_,_,_,_,o,_,_,e,_⟩:=x;exact⟨_,e⟩
 |set S n=>obtain⟨o,_,_,_,e,_⟩:=x;exact⟨_,e⟩
 |ins C dx fs=>obtain⟨_,_,_,e,_⟩:=x;exact⟨_,e⟩
 |own y=>obtain⟨_,e⟩:=x;exact⟨_,e⟩
 |xd fs=>obtain⟨_,⟨_,_,_,e,_⟩,_⟩:=x;exact⟨_,e⟩
 |rng lo hi=>obtain⟨_,_,_,e⟩:=x;exact⟨_,e⟩
 |frz ob u=>obtain⟨e,_⟩:=x;exact⟨_,e⟩
 |tbl ps=>exact⟨_,(show h.get? a=some _ from x)⟩
 |met f y=>exact⟨_,(show h.get? a=some _ from x)⟩
 |ext φ=>obtain⟨_,⟨_,e⟩,_⟩:=x;exact⟨_,e⟩
theorem j2_.mono{h h':Heap}:∀{vs:List Value}{ks:OI},j2_ h vs ks->(∀a its,IsTup h a its->IsTup h' a its)->j2_ h' vs ks
 |[],[],_,_=>trivial
 |v::vs,k::ks,⟨⟨a,its,e,t,i,n⟩,r⟩,f=>⟨⟨a,its,e,f _ _ t,i,n⟩,j2_.mono r f⟩
 |[],_::_,h,_=>h.elim
 |_::_,[],h,_=>h.elim
theorem j2_.len{h:Heap}:∀{vs:List Value}{ks:OI},j2_ h vs ks->vs.length=ks.length
 |[],[],_=>rfl
 |v::vs,k::ks,h=>by simp[j2_.len h.2]
 |[],_::_,h=>h.elim
 |_::_,[],h=>h.elim
theorem j2_.get{h:Heap}:∀{vs:List Value}{ks:OI}{i:Nat},j2_ h vs ks->i<vs.length->∃a its,vs.getD i Value.none=.ref a/\IsTup h a its.toArray/\IntsAre its (ks.getD i [])
 |v::vs,k::ks,0,⟨⟨a,its,e,t,i,n⟩,r⟩,_=>⟨a,its,by simpa using e,t,by simpa using i⟩
 |v::vs,k::ks,i+1,⟨_,r⟩,hi=>by
  obtain⟨a,its,e,t,j⟩:=j2_.get (i:=i) r (by simpa using hi)
  exact⟨a,its,by simpa using e,t,by simpa using j⟩
 |[],_,_,_,hi=>by simp at hi
 |_::_,[],_,h,_=>h.elim
theorem j2_.firsts{h:Heap}:∀{vs:List Value}{ks:OI},j2_ h vs ks->∃fs,PySem.W.KatTups h vs fs/\fs.length=vs.length/\∀v∈fs,∃i t,v=Value.int i t
 |[],[],_=>⟨[],.nil,rfl,fun _ h=>nomatch h⟩
 |_::vs,k::ks,⟨⟨a,its,rfl,⟨o,h1,h2,n,h3⟩,hi,hn⟩,r⟩=>by
  obtain⟨fs,f1,f2,f3⟩:=j2_.firsts r;cases hi with
  |nil=>exact absurd rfl hn
  |cons i t hi=>
   refine⟨.int i t::fs,.cons h1 h2 h3 (by simp) f1,by simp[f2],fun v hv=>?_⟩
   rcases Qg.mp hv with rfl|hv
   ·exact⟨i,t,rfl⟩
   ·exact f3 v hv
 |[],_::_,h=>h.elim
 |_::_,[],h=>h.elim
def a1m(fin:Bool):List Int->List Int->Bool
 |a::as,b::bs=>if a=b then a1m fin as bs else decide (a<b)
 |_,_=>fin
theorem a9y:∀(as bs:List Int),a1m (decide (as.length<bs.length)) as bs=HT.lexLt as bs
 |[],[]=>rfl
 |[],_::_=>by simp[a1m,HT.lexLt]
 |_::_,[]=>by simp[a1m,HT.lexLt]
 |a::as,b::bs=>by
  rw[HT.lexLt_cons,←a9y as bs]
  simp[a1m]
section
variable{prog:Program}{w:World}{A:Around}{s:Shared}{fin:Bool}{Q:Bool->Shared->Prop}
theorem a9z:∀{us ws:List Value}{as bs:List Int}{i:Nat},IntsAre us as->IntsAre ws bs->Q (a1m fin as bs) s->PySem.W.KatLex prog w A true fin Q (us.zip ws) i s
 |[],_,[],_,_,.nil,_,q=>q
 |_::_,[],_::_,[],_,.cons _ _ _,.nil,q=>q
 |_,_,_,_,i,.cons (vs:=us) (ns:=as) a t ha,.cons (vs:=ws) (ns:=bs) b u hb,q=>by
  refine PySem.W.kat_cons (Xf a t b u prog w _ _ ?_)
  by_cases e:a=b
  ·subst e
   rw[Vd];exact PySem.W.kat_yes (a9z ha hb (by simpa [a1m]using q))
  ·have e':(a==b)=false:=by simpa using e
   rw[e'];refine PySem.W.kat_no ?_
   have q':Q (decide (a<b)) s:=by simpa [a1m,e]using q
   cases i with
   |zero=>exact oneLt_int q'
   |succ i=>exact PySem.W.kat_one _ _ (PyProof.Rows.lt_int (show PySem.W.BoolBack Q (.bool (decide (a<b))) s from q'))
end
section
variable{X:Cx}{pins:OX}{σ:St}{H:Hp}{s:Shared}
theorem b5Z{h':Heap}{t':Nat}{m:OU}(I:Inv X pins σ H s)(hm:s.heap.Ns X.env.locals m)(hm':h'.Ns X.env.locals m)(k:∀b o,b≠X.env.locals->s.heap.get? b=some o->h'.get? b=some o):Inv X pins σ H {s with heap:=h',toks:=t'}:=by
 refine I.step (g':=s.gens) (d':=s.drawn) (ch:=[]) (fun _ z=>nomatch z) (fun b o hL _ _ e _=>k b o hL e) (fun b o hL _ _ e _=>⟨o.slots,k b o hL e⟩) (fun _ _ _ _ n=>n) (fun b o _ e=>?_) (fun _ _ e=>e) (fun _ _ _ e=>e) (fun b ps e=>⟨#[],by rw[e];simp⟩) (fun m2 hm2=>?_) (fun b u e=>?_) I.bare
 ·by_cases hb:b=X.env.locals
  ·subst hb
   obtain⟨o',_,_,ho,_⟩:=hm';exact⟨o',ho⟩
  ·exact⟨o,k b o hb e⟩
 ·have e:m2=m:=by
   funext x
   obtain⟨o1,es1,ep1,h1,h2,_,h3⟩:=hm;obtain⟨o2,es2,ep2,g1,g2,_,g3⟩:=hm2;rw[h1]at g1;cases g1;rw[h2]at g2;injection g2 with g4 _
   subst g4;rw[←h3,←g3]
  rw[e];exact hm'
 ·refine(I.hok b u e).stay (fun c v hc q=>k c v ?_ q) (fun _ q=>q) fun _ _ q=>q
  rcases hc with z|z
  ·rw[z];intro z2;rw[z2,I.free]at e;cases e
  ·intro z2;rw[z2,I.free]at z;cases z
theorem a9A{p:Addr}(I:Inv X pins σ H s)(np:∀b u,s.heap.get? b=some u->b≠p):H p=none:=by
 cases e:H p with
 |none=>rfl
 |some o=>
  obtain⟨ob,q⟩:=b5Y (I.hok p o e);exact absurd rfl (np p ob q)
theorem b6a{h':Heap}{t' n:Nat}{m:OU}{p:Addr}{ys:List V}{its:List Value}(I:Inv X pins σ H s)(hm:s.heap.Ns X.env.locals m)(hm':h'.Ns X.env.locals m)(k:∀b o,b≠X.env.locals->s.heap.get? b=some o->h'.get? b=some o)
  (np:∀b u,s.heap.get? b=some u->b≠p)(hv:q0_ ys its)(hz:ys.length≤sizeLine)(hn:h'.get? p=some {cls:=.type "list",data:=.seq its.toArray n}):Inv X pins σ (upd H p (.lst ys)) {s with heap:=h',toks:=t'}:=by
 have I1:Inv X pins σ H {s with heap:=h',toks:=t'}:=b5Z I hm hm' k
 have hf:H p=none:=a9A I np
 refine I.step (g':=s.gens) (d':=s.drawn) (ch:=[]) (fun _ z=>nomatch z) (fun b o hL _ _ e _=>k b o hL e) (fun b o hL _ _ e _=>⟨o.slots,k b o hL e⟩) (fun b o _ e n=>by rw[q4_ (np b o e)];exact n) (fun b o _ e=>?_) (fun b xs q=>by rw[q4_ (k8_ q hf)];exact q) (fun b u xs q=>by rw[q4_ (k8_ q hf)];exact q) (fun b ps e=>⟨#[],by rw[q4_ (k8_ e hf),e];simp⟩) (fun m2 hm2=>?_) (fun b u e=>?_) I.bare
 ·by_cases hb:b=X.env.locals
  ·subst hb
   obtain⟨o',_,_,ho,_⟩:=hm';exact⟨o',ho⟩
  ·exact⟨o,k b o hb e⟩
 ·have e:m2=m:=by
   funext x
   obtain⟨o1,es1,ep1,h1,h2,_,h3⟩:=hm;obtain⟨o2,es2,ep2,g1,g2,_,g3⟩:=hm2;rw[h1]at g1;cases g1;rw[h2]at g2;injection g2 with g4 _
   subst g4;rw[←h3,←g3]
  rw[e];exact hm'
 ·by_cases hb:b=p
  ·subst hb
   rw[y3_]at e;cases e;exact⟨hz,its,n,hv,hn⟩
  ·rw[q4_ hb]at e
   exact(I1.hok b u e).stay (fun c v hc q=>q) (fun c q=>by rw[q4_ (k8_ q hf)];exact q) fun c xs q=>by rw[q4_ (k8_ q hf)];exact q
def keys(ds:List D):Option (OI):=ds.mapM fun d=>match d with
 |.tup es=>(ints? es).bind fun ns=>if ns.isEmpty then none else some ns
 |_=>none
def a9B(ks:OI):Option (List Nat):=if ks.length<2 then some (List.range ks.length)else if ks.length<64 then
 (a3n ks.length (fun i j=>HT.lexLt (ks.getD i []) (ks.getD j [])) (PySem.W.kas_sort ks.length)).bind fun p=>if p.toList.length≤1000 then some p.toList else none else none
def a5Z(ds:List D):Option (List D):=(keys ds).bind fun ks=>(a9B ks).bind fun p=>p.mapM fun i=>ds[i]?
theorem b6b{l:Addr}{vs:List Value}{ks:OI}{p:Array Nat}{Q:OE}{E:OE}(I:Inv X pins σ H s)(hl:s.heap.IsList l vs.toArray)(ht:j2_ s.heap vs ks)(h2:2≤vs.length)(h64:vs.length<64)
  (hp:a3n vs.length (fun i j=>HT.lexLt (ks.getD i []) (ks.getD j [])) (PySem.W.kas_sort vs.length)=some p)
  (h:∀D c h' m,(∀b u,s.heap.get? b=some u->b≠D)->s.heap.Ns X.env.locals m->h'.Ns X.env.locals m->(∀b o,b≠X.env.locals->s.heap.get? b=some o->h'.get? b=some o)->
   h'.get? D=some {cls:=.type "list",data:=.seq (p.toList.map fun i=>vs.getD i Value.none).toArray c}->Q (.ref D) {s with heap:=h'}):
  wpAny (model X.prog X.w) X.A (call (.builtin "sorted") [.ref l]) Q E s:=by
 obtain⟨m,F⟩:=I.fr;have hm:s.heap.Ns X.env.locals m:=F.ns;have hbk:=I.bk;have keepOf:∀{h':Heap}{pre:OX},Fr X.base X.env.locals h' m->News X.base X.env.locals h' (pre++a2X X.base s.heap X.env.locals)->∀b o,b≠X.env.locals->s.heap.get? b=some o->h'.get? b=some o:=fun{h' pre} F' N' b o hL e=>by
  cases q:X.base.get? b with
  |some u=>
   have:=hbk b u q;rw[e]at this;cases this;exact F'.keep b _ q
  |none=>exact(N' (b,o) (Zb _ (a8c hL q e))).1
 have tl:∀{h':Heap},(∀b o,b≠X.env.locals->s.heap.get? b=some o->h'.get? b=some o)->∀a its,IsTup s.heap a its->IsTup h' a its:=fun{h'} k a its ⟨o,e,c,r⟩=>by
  refine⟨o,k a o ?_ e,c,r⟩;intro z;subst z;obtain⟨o',es,ep,g1,g2,_⟩:=hm;rw[e]at g1;cases g1;obtain⟨n,r⟩:=r;rw[g2]at r;cases r
 refine PySem.W.kat_sorted F a8d hl h2 h64 fun D e1 h' F' N' hD=>?_
 have k1:=keepOf (pre:=[(D,seqObj "list" #[] e1)]) F' N'
 have t1:j2_ h' vs ks:=ht.mono (tl k1)
 obtain⟨fs,f1,f2,f3⟩:=t1.firsts;refine PySem.W.kat_kind (s:={s with heap:=h'}) (T:=.type "int") f1 (by omega) (fun v hv=>?_) (by decide) ?_
 ·obtain⟨i,t,rfl⟩:=f3 v hv
  exact PySem.W.Looks.of_pure rfl
 ·have hDs:∀b o,s.heap.get? b=some o->b≠D:=fun b o e z=>by
   subst z
   by_cases hL:b=X.env.locals
   ·have:=(N' (b,seqObj "list" #[] e1) (Qo ..)).2.1
    exact this hL
   ·cases q:X.base.get? b with
    |some u=>
     have:=(N' (b,seqObj "list" #[] e1) (Qo ..)).2.2;simp only at this;rw[q]at this;cases this
    |none=>exact absurd (hD (b,o) (a8c hL q e)) (Yp _)
  refine a9x (s:={s with heap:=h'}) (lt:=fun i j=>HT.lexLt (ks.getD i []) (ks.getD j [])) (fun i j C hi hj hc=>?_) _ hp ?_
  ·obtain⟨a,its,ea,⟨oa,p1,_,na,p2⟩,ia⟩:=t1.get hi
   obtain⟨b,jts,eb,⟨ob,q1,_,nb,q2⟩,ib⟩:=t1.get hj;unfold PySem.W.kas_ask;rw[ea,eb];have hb:(Value.type "int" !=Value.type "tuple")=true:=by decide
   rw[hb];refine PySem.W.kat_lt (s:={s with heap:=h'}) p1 p2 q1 q2 ?_
   have la:=ia.length
   have lb:=ib.length
   refine a9z ia ib ?_
   have e:decide (its.toArray.size<jts.toArray.size)=decide ((ks.getD i []).length<(ks.getD j []).length):=by
    rw[Qr,Qr,la,lb]
   rw[e,a9y];exact hc
  ·refine PySem.W.KasFin.intro (s:={s with heap:=h'}) F' N' (.head fun q hq=>?_) fun h2' c F2 N2=>?_
   ·exact hDs q.1 q.2 (a8d q hq).1
   ·have k2:=keepOf (pre:=[(D,PySem.W.listOf (List.toArray (p.toList.map fun i=>vs.getD i Value.none)) c)]) F2 N2
    exact h D c h2' m hDs hm F2.ns k2 (N2 _ (Qo ..)).1
theorem b6c{l:Addr}{vs:List Value}{Q:OE}{E:OE}(I:Inv X pins σ H s)(hl:s.heap.IsList l vs.toArray)(h2:vs.length<2)
  (h:∀D c h' m,(∀b u,s.heap.get? b=some u->b≠D)->s.heap.Ns X.env.locals m->h'.Ns X.env.locals m->(∀b o,b≠X.env.locals->s.heap.get? b=some o->h'.get? b=some o)->
   h'.get? D=some {cls:=.type "list",data:=.seq vs.toArray c}->Q (.ref D) {s with heap:=h'}):
  wpAny (model X.prog X.w) X.A (call (.builtin "sorted") [.ref l]) Q E s:=by
 obtain⟨m,F⟩:=I.fr;have hm:s.heap.Ns X.env.locals m:=F.ns;refine Calls.call_function_entry kind_sorted plain_sorted entry_sorted (args_sorted1 _) ?_
 unfold Builtin.«sorted»;refine Qq (m:=checkCount "sorted" 1 1 _) (Qj (Qq (collect_list hl ?_ (by rw[Jb];omega))))
 refine Qq (wpAny_newList ?_ (by rw[Jb];omega))
 have hsz:((s.heap.push (seqObj "list" #[] 0)).update s.heap.objs.size (Obj.mapSeq (· ++vs.toArray))).objs.size=s.heap.objs.size+1:=by rw[Heap.size_update,size_push']
 generalize eg:((s.heap.push (seqObj "list" #[] 0)).update s.heap.objs.size (Obj.mapSeq (· ++vs.toArray)))=g1 at hsz
 have k1:∀b o,s.heap.get? b=some o->g1.get? b=some o:=fun b o q=>by
  have hlt:b<s.heap.objs.size:=Qw q
  rw[←eg,Xp _ _ _ _ (Zq hlt),Heap.get?_push_ne _ _ _ (Zq hlt)];exact q
 generalize eg2:g1.push (seqObj "list" vs.toArray 0)=g2;have hg2:({cls:=.type "list",data:=.seq vs.toArray}:Obj)=seqObj "list" vs.toArray 0:=rfl;show wpAny _ _ _ _ _ {s with heap:=g2}
 dsimp only;rw[hsz];have k2:∀b o,s.heap.get? b=some o->g2.get? b=some o:=fun b o q=>by rw[←eg2];exact Qx _ (k1 b o q)
 have hD:g2.get? (s.heap.objs.size+1)=some (seqObj "list" vs.toArray 0):=by rw[←eg2,←hsz];exact Ql _ rfl
 have hs2:g2.objs.size=s.heap.objs.size+2:=by rw[←eg2,size_push',hsz]
 refine Qq (Yz (Yi slot_list_sort ⟨_,hD,rfl⟩ entry_list_sort ?_ (args_list_sort _)));rw[list_sort_plain];refine Qq (listItems_at hD rfl (Qq (listUpdate_at hD rfl ?_ (by rw[Qr,Jb];omega) (Jg _))))
 obtain⟨e1,ho1⟩:∃e1,(g2.update (s.heap.objs.size+1) (Obj.mapSeq fun _=>#[])).get? (s.heap.objs.size+1)=some (seqObj "list" #[] e1):=⟨_,get?_update_seq hD fun _=>#[]⟩
 refine Qq (seqEpoch_at ho1 rfl (Qq (wpAny_newTuple (Qq (wpAny_newList (Yz ?_) (by rw[Jb];simp))) (by rw[Jb];simp;omega))))
 generalize eg3:(g2.update (s.heap.objs.size+1) (Obj.mapSeq fun _=>#[]))=g3 at ho1 ⊢
 have hs3:g3.objs.size=s.heap.objs.size+2:=by rw[←eg3,Heap.size_update];exact hs2
 have k3:∀b o,s.heap.get? b=some o->g3.get? b=some o:=fun b o q=>by
  rw[←eg3,Xp _ _ _ _ (Zq (Jv (Qw q)))];exact k2 b o q
 generalize eg4:(g3.push {cls:=.type "tuple",data:=.seq vs.toArray}).push {cls:=.type "list",data:=.seq #[]}=g4;have up4:∀b o,g3.get? b=some o->g4.get? b=some o:=fun b o q=>by rw[←eg4];exact Qx _ (Qx _ q)
 have ho4:g4.get? (s.heap.objs.size+1)=some (seqObj "list" #[] e1):=up4 _ _ ho1
 dsimp only;have hlt2:vs.toArray.size<2:=by simpa using h2
 rw[Qc hlt2,Qc hlt2];refine Qq (Qj ?_);rw[StateT.run_pure];refine Qq (Qj ?_);dsimp only;have ez:Array.map (fun(x:Keyed)=>x.snd) (arrOf (SortSt.mk' general' (vs.toArray.zip vs.toArray) #[] 7 none))=vs.toArray:=by
  show Array.map (fun(x:Keyed)=>x.snd) (vs.toArray.zip vs.toArray)=vs.toArray
  apply Array.toList_inj.mp
  rw[Array.toList_map,Array.toList_zip];exact List.map_snd_zip (Qu _)
 rw[ez];refine Qq (seqEpoch_at ho4 rfl (Qq (listUpdate_at ho4 rfl ?_ (by rw[Jb];simp) (by rw[Qr,Jb];omega))))
 rw[Qp (by simp)]
 have ho5:=get?_update_seq ho4 fun _=>vs.toArray
 refine Qj ⟨_,rfl,Qj ⟨_,rfl,?_⟩⟩;have k5:∀b o,s.heap.get? b=some o->(g4.update (s.heap.objs.size+1) (Obj.mapSeq fun _=>vs.toArray)).get? b=some o:=fun b o q=>by
  rw[Xp _ _ _ _ (Zq (Jv (Qw q)))];exact up4 b o (k3 b o q)
 obtain⟨ol,es,ep,q1,q2⟩:=id hm;exact h (s.heap.objs.size+1) _ _ m (fun b u q=>Zq (Jv (Qw q))) hm ⟨ol,es,ep,k5 _ _ q1,q2⟩ (fun b o _ q=>k5 b o q) ho5
end
section
variable{X:Cx}{B:OA}
theorem a9C{K:Qz}{G:Hp}:∀{es:List D}{xs:List V}{us:List Value}{ns:List Int},z5_ K G xs es->q0_ xs us->ints? es=some ns->IntsAre us ns
 |[],_,us,ns,r,v,e=>by simp only[z5_]at r;subst r;cases v;cases e;exact .nil
 |d::es,_,us,ns,r,v,e=>by
  simp only[z5_]at r;obtain⟨x,t,rfl,q,r⟩:=r;cases d<;>first|(exact absurd (show(none:Option (List Int))=some ns from e) (by simp))|skip
  obtain⟨l,e1,e2⟩:=v8_ (show(ints? es).map _=some ns from e)
  subst e2;simp only[Rep]at q;subst q;cases v with
  |cons v1 v2=>
   obtain⟨tk,rfl⟩:=v1;exact .cons _ _ (a9C r v2 e1)
theorem a9D{pins:OX}{σ:St}{G H:Hp}{s:Shared}(I:Inv X pins σ H s)(l:Le G H):∀{ds:List D}{xs:List V}{us:List Value}{ks:OI},z5_ X.K G xs ds->q0_ xs us->keys ds=some ks->j2_ s.heap us ks
 |[],_,us,ks,r,v,e=>by simp only[z5_]at r;subst r;cases v;cases e;trivial
 |d::ds,_,us,ks,r,v,e=>by
  simp only[z5_]at r;obtain⟨x,t,rfl,q,r⟩:=r;unfold keys at e;rw[List.mapM_cons]at e;obtain⟨k,e1,e2⟩:=q1_ e;obtain⟨ks',e3,e4⟩:=q1_ e2;cases e4;cases v with
  |cons v1 v2=>
   refine⟨?_,a9D I l r v2 e3⟩;split at e1
   ·rename_i es
    obtain⟨ns,e5,e6⟩:=q1_ e1;split at e6
    ·cases e6
    ·rename_i hne
     cases e6;simp only[Rep]at q;obtain⟨a,ys,rfl,q1,q2⟩:=q;cases v1;obtain⟨its,rv,p,_⟩:=I.tuple (l.sqT q1);exact⟨a,its,rfl,p,a9C q2 rv e5,fun z=>hne (by rw[z];rfl)⟩
   ·cases e1
theorem a9E{K:Qz}{G:Hp}{ds:List D}{xs:List V}{us:List Value}(r:z5_ K G xs ds)(v:q0_ xs us):∀{p:List Nat}{es:List D},(p.mapM fun i=>ds[i]?)=some es->∃ys,q0_ ys (p.map fun i=>us.getD i Value.none)/\z5_ K G ys es
 |[],es,e=>by cases e;exact⟨[],.nil,repL_nil⟩
 |i::p,es,e=>by
  rw[List.mapM_cons]at e;obtain⟨d,e1,e2⟩:=q1_ e;obtain⟨es',e3,e4⟩:=q1_ e2;cases e4;obtain⟨ys,h1,h2⟩:=a9E r v e3;obtain⟨x,g1,g2⟩:=r.get e1;obtain⟨u,g3,g4⟩:=v.get g1;refine⟨x::ys,?_,repL_cons g2 h2⟩;rw[Zz];have:us.getD i Value.none=u:=by simp[g3]
  rw[this];exact .cons g4 h1
theorem b6d:k5_ X (.builtin "sorted") (fun xs H Q=>∃p G ys ds es,xs=[.ref p]/\Le G H/\SqL X.K G p ys/\z5_ X.K G ys ds/\a5Z ds=some es/\∀l zs,H l=none->z5_ X.K G zs es->Q (.ref l) (upd H l (.lst zs))):=by
 intro pins s σ H xs us Q I r h;obtain⟨p,G,ys,ds,es,rfl,l,hq,rp,es',q⟩:=h;obtain⟨u,rfl,rx⟩:=a1h r;cases rx;obtain⟨vs,rv,pl,hz⟩:=I.list (l.sqL hq);obtain⟨ks,e1,e2⟩:=q1_ es';obtain⟨pm,e3,e4⟩:=q1_ e2;have ht:j2_ s.heap vs ks:=a9D I l rp rv e1;have hlen:=ht.len;have hlen2:vs.length=ds.length:=by rw[←rv.length,rp.length]
 obtain⟨zs,h1,h2⟩:=a9E rp rv e4;have fin:∀(D:Addr) (c:Nat) (h':Heap) (m:OU),(∀b u,s.heap.get? b=some u->b≠D)->s.heap.Ns X.env.locals m->h'.Ns X.env.locals m->(∀b o,b≠X.env.locals->s.heap.get? b=some o->h'.get? b=some o)->
   h'.get? D=some {cls:=.type "list",data:=.seq (pm.map fun i=>vs.getD i Value.none).toArray c}->pm.length≤1000->EP X pins σ Q (.ref D) {s with heap:=h'}:=fun D c h' m a1 a2 a3 a4 a5 hpl=>by
  have hzl:zs.length≤sizeLine:=by
   have:=h1.length;rw[Qk]at this;rw[this];exact Jm (a3d hpl)
  exact⟨.ref D,_,b6a (t':=s.toks) I a2 a3 a4 a1 h1 hzl a5,rfl,q D zs (a9A I a1) h2⟩
 unfold a9B at e3;split at e3
 ·rename_i hn
  cases e3;refine b6c I pl.isList (by omega) fun D c h' m a1 a2 a3 a4 a5=>fin D c h' m a1 a2 a3 a4 ?_ (by simp;omega)
  have:((List.range ks.length).map fun i=>vs.getD i Value.none)=vs:=by
   apply Ua
   ·simp[hlen]
   ·intro i h1 h2
    simp[h2]
  rw[this];exact a5
 ·rename_i hn
  split at e3
  ·rename_i h64
   obtain⟨pa,e5,e6⟩:=q1_ e3;split at e6
   case isFalse=>cases e6
   rename_i hpl;cases e6;refine b6b (p:=pa) I pl.isList ht (by omega) (by omega) (by rw[hlen];exact e5) fun D c h' m a1 a2 a3 a4 a5=>fin D c h' m a1 a2 a3 a4 a5 hpl
  ·cases e3
end
section
variable{X:Cx}{B:OA}{pos:Pos}
end
section
variable{X:Cx}{B:OA}{pos p:Pos}{e:Expr}{es:List Expr}{as:Mo (List Ar)}{fn:Fn}{k n:Nat}{f:Addr}{fd:FuncData}{ps:List Str}{x:Str}
structure Def(P:Program)(w:World)(K:Qz)(mg:OU)(base:Heap)(x:Str)(k n:Nat)(fn:Fn):Prop where
 ex:∃(f:Addr) (fd:FuncData) (ps:List Str),FnOk P w K mg base CX0 k f fd ps (SpF K n fn)/\ps.length=n/\mg x=some (.ref f)/\PySem.W.keepIn K (.ref f)=true/\u4_ K fd ps []
theorem v9_(D:Def X.prog X.w X.K X.mg X.base x k n fn)(hr:Room k X.A)(hg:Gl X x)(ha:EAr X B (e::es) as)(hdb:(x==("__debug__":Str))=false:=by decide)
  (he:starEach (e::es) X.env=(false,eval e X.env)::starEach es X.env:=by rfl)(hpl:(backTo pos (starEach es X.env)).any (·.1)=false:=by rfl):
  ED X B (.Call (.Name x p) (e::es) [] pos) (mCD n fn as):=by
 obtain⟨f,fd,ps,F,rfl,hm,hk,hb⟩:=D.ex;exact b5d F hr hg hm hk hb ha hdb he hpl
theorem a3o(D:Def X.prog X.w X.K X.mg X.base x k n fn)(hr:Room k X.A)(hg:Gl X x)(ha:EAr X B (e::es) as)(hdb:(x==("__debug__":Str))=false:=by decide)
  (he:starEach (e::es) X.env=(false,eval e X.env)::starEach es X.env:=by rfl)(hpl:(backTo pos (starEach es X.env)).any (·.1)=false:=by rfl):
  EL X B (.Call (.Name x p) (e::es) [] pos) (w0_ n fn as):=by
 obtain⟨f,fd,ps,F,rfl,hm,hk,hb⟩:=D.ex;exact b5e F hr hg hm hk hb ha hdb he hpl
def a1n:Option NameKind->Option NameKind->Bool:=fun a b=>decide (a=b)
def a9F(outN N':List Str)(outNames:List (Str×NameKind))(cells:List (Str×Addr))(scope:Scope)(keep:List Bool)(more:Nat):Bool:=
 (decide (scope.kind=.function)&&(scope.names.all (fun y=>a1n (scope.names.lookup y.1) (some y.2))&&(scope.names.all (fun y=>!a1n (some y.2) (some .free)||(cells.lookup y.1).isSome)&&(decide (keep.length=outN.length)&&(decide (N'.length=outN.length+more)&&
  (List.range keep.length).all fun i=>!(keep.getD i false)||match N'[i]?,outN[i]? with
   |some x,some y=>decide (x=y)&&(!a1n (scope.names.lookup x) (some .local)&&(!a1n (scope.names.lookup x) (some .cell)&&(!a1n (scope.names.lookup x) (some .free)||(a1n (outNames.lookup x) (some .cell)||a1n (outNames.lookup x) (some .free)))))
   |_,_=>false)))))
theorem a0d{N':List Str}{scope:Scope}{keep:List Bool}{more:Nat}(c:closureFor scope X.env=pure (j1_ X.env.cells scope.names []))(h:a9F X.N N' X.env.scope.names X.env.cells scope keep more=true):CompOk X N' scope keep more:=by
 unfold a9F at h;simp only[Qd,Zi,Qb,a1n]at h;obtain⟨h1,h2,h3,h4,h5,h6⟩:=h;have gt:∀(i:Nat) (x:Str),keep[i]? =some true->N'[i]? =some x->∃y,X.N[i]? =some y/\x=y/\ ¬ (scope.names.lookup x=some .local)/\ ¬ (scope.names.lookup x=some .cell)/\(scope.names.lookup x=some .free->X.env.scope.names.lookup x=some .cell∨X.env.scope.names.lookup x=some .free):=fun i x e1 e2=>by
  have hi:i<keep.length:=(Qm.mp e1).1
  have q:=h6 i (Qy.mpr hi)
  have e3:keep.getD i false=true:=by simp[e1]
  rw[e3,e2]at q;cases e4:X.N[i]? with
  |none=>rw[e4]at q;simp at q
  |some y=>
   rw[e4]at q;simp only[Yb,Bool.false_or,Qd,Zi,Bool.not_eq_true',decide_eq_false_iff_not,Tf]at q;obtain⟨q1,q2,q3,q4⟩:=q;exact⟨y,rfl,q1,q2,q3,fun z=>q4.elim (fun n=>absurd z n) id⟩
 refine⟨h1,h2,c,fun y hy hf=>?_,h4,h5,fun i x e1 e2=>?_,fun i x e1 e2 e3=>?_⟩
 ·have q:=h3 y hy
  rw[hf]at q
  simpa using q
 ·obtain⟨y,g1,g2,g3,g4,_⟩:=gt i x e1 e2
  exact⟨by rw[g1,g2],g3,g4⟩
 ·have hi:i<keep.length:=(Qm.mp e1).1
  have hN:i<N'.length:=by omega
  obtain⟨y,g1,g2,g3,g4,g5⟩:=gt i _ e1 (Qi hN);rw[e2]at g1;cases g1;rw[g2]at g5;exact g5 e3
end
section
variable{X:Cx}{B:OA}{pos:Pos}
theorem b6e{x:Str}{i:Int}(hg:Gl X x)(hm:∃t,X.mg x=some (.int i t))(hd:(x==("__debug__":Str))=false:=by decide):ED X B (.Name x pos) (mC (.int i)):=by
 obtain⟨t,hm⟩:=hm;exact b4D hg hm hd
def Kp(i:Nat)(m:Mo D):Prop:=∀env d env' w ds,m env=some (d,env')->env'[i]? =some w->w.mut=some ds->∃w0 ds0,env[i]? =some w0/\w0.mut=some ds0
theorem a1Y{i:Nat}{d:D}:Kp i (mC d):=fun env d' env' w ds e h1 h2=>by cases e;exact⟨w,ds,h1,h2⟩
theorem b6f:bootBuiltins "int"=some (.type "int"):=by decide+kernel
theorem b6g:bootBuiltins "bool"=some (.type "bool"):=by decide+kernel
theorem b6h:bootBuiltins "str"=some (.type "str"):=by decide+kernel
theorem a1Z:bootBuiltins "tuple"=some (.type "tuple"):=by decide+kernel
theorem a6a:bootBuiltins "all"=some (.builtin "all"):=by decide+kernel
theorem b6i:bootBuiltins "max"=some (.builtin "max"):=by decide+kernel
theorem a9G:bootBuiltins "min"=some (.builtin "min"):=by decide+kernel
theorem b6j:bootBuiltins "sorted"=some (.builtin "sorted"):=by decide+kernel
end
theorem a6b{K:Qz}{G:Hp}:∀ns:List Int,z5_ K G (ns.map V.int) (ns.map D.int)
 |[]=>repL_nil
 |n::ns=>repL_cons (by simp only[Rep]) (a6b ns)
theorem b6k{l:PySem.W.OpenLaw}{k:Nat}{q:Program}{loose:List Str}{XP:(OU)->Heap->Prop}{YP:World->Heap->Prop}{d:DefRec}{K:Params->Qz}{x:Str}{fn:Fn}
  (hn:l.most=some 63)(hdf:d.params.defaults=[])(hr:Room k callerA)(hY:∀(w:World) (h:Heap),YP w h->(K w.params).In h)
  (F:∀(w:World) (mg:OU) (fa:Addr) (h:Heap),(K w.params).In h->h.Ns mainGlobals mg->mg d.name=some (.ref fa)->
   ∃fd:FuncData,(∀(s:Shared) (u:Value),BindsTo s fd ⟨[u],[]⟩ [(x,u)])/\∀base:Heap,(K w.params).In base->base.Ns mainGlobals mg->FnOk l.prog w (K w.params) mg base CX0 k fa fd [x] (SpF (K w.params) 1 fn))
  (ht:∀ns:List Int,ns.length≤63->∃ws',fn [.dat (.lst (ns.map D.int))]=some (.d (.bl true),ws')):
  PySem.W.WalkO q loose XP YP l.row.toRowW d [] (fun f vs=>PySem.call f vs):=
 L2.b4y (n:=63) (k:=k) (x:=x) (CX:=fun _=>CX0) (sp:=fun w=>SpF (K w.params) 1 fn) hn (by decide) hdf hr hY F (fun w H a ns hl hO hS=>by
  obtain⟨ws',e⟩:=ht ns hl;have hd:∀(i:Nat) (d:D),([.dat (.lst (ns.map D.int))]:List W)[i]? =some (.dat d)->i=0/\d=.lst (ns.map D.int):=fun i d e=>by
   cases i with
   |zero=>simp at e;exact⟨rfl,e.symm⟩
   |succ i=>simp at e
  have hm:∀(i:Nat) (v:W) (ds:Mu),([.dat (.lst (ns.map D.int))]:List W)[i]? =some v->v.mut=some ds->False:=fun i v ds e1 e2=>by
   cases i with
   |zero=>simp at e1;subst e1;cases e2
   |succ i=>simp at e1
  refine⟨H,[.dat (.lst (ns.map D.int))],.d (.bl true),ws',rfl,fun v hv=>.inl ?_,⟨Le.refl,rfl,fun i d e=>?_,fun i v ds e1 e2=>(hm i v ds e1 e2).elim,fun i j v v' ds es a e1 e2=>(hm i v ds e1 e2).elim,fun i v a e1 eo=>(let ⟨m,q⟩:=own_mut eo;hm i _ m e1 q).elim,fun b h=>h.elim,fun P ps z=>by rcases hO P with q|⟨o,xs,q⟩<;>(rw[q]at z;cases z),fun b o z ps y=>by rcases hO b with q|⟨o',xs,q⟩<;>(rw[q]at z;cases z<;>cases y)⟩,e,?_⟩
  ·simp at hv;exact⟨_,hv⟩
  ·obtain⟨rfl,rfl⟩:=hd i d e
   exact⟨.ref a,rfl,by simp only[Rep];exact⟨a,_,rfl,hS,a6b ns⟩⟩
  ·intro v G' H' _ rp
   simpa only[Rep]using rp) fun _ _ _ _ _ z=>z
def a3p:Expr->Bool
 |.Starred _ _=>true
 |_=>false
theorem z1_{e:Expr}{es:List Expr}{env:Env}(h:a3p e=false):starEach (e::es) env=(false,eval e env)::starEach es env:=by
 cases e<;>first|rfl|cases h
theorem se1{a:Expr}{env:Env}(h:a3p a=false):starEach [a] env=[(false,eval a env)]:=by rw[z1_ h];rfl
theorem se2{a b:Expr}{env:Env}(h:a3p a=false)(h2:a3p b=false):starEach [a,b] env=[(false,eval a env),(false,eval b env)]:=by rw[z1_ h,se1 h2]
theorem q2_{pos:Pos}{env:Env}:∀{es:List Expr},es.all (fun e=>!a3p e)=true->(backTo pos (starEach es env)).any (·.1)=false
 |[],_=>rfl
 |e::es,h=>by
  rw[Xl,Qd,Bool.not_eq_true']at h;rw[z1_ h.1];show(false||(backTo pos (starEach es env)).any (·.1))=false
  rw[q2_ h.2];rfl
theorem k0_{m n:Mo Fl}{e e1:Env'}(h:m e=some (.nx,e1)):q3_ m n e=n e1:=by unfold q3_;rw[h];rfl
theorem a2a{m n:Mo Fl}{e e1:Env'}{d:D}(h:m e=some (.ret d,e1)):q3_ m n e=some (.ret d,e1):=by unfold q3_;rw[h];rfl
theorem a1o{t:Mo Bool}{m n:Mo Fl}{e e1:Env'}(h:t e=some (true,e1)):y4_ t m n e=m e1:=by unfold y4_;rw[h];rfl
theorem a0U{t:Mo Bool}{m n:Mo Fl}{e e1:Env'}(h:t e=some (false,e1)):y4_ t m n e=n e1:=by unfold y4_;rw[h];rfl
theorem a6c{g:OZ}{m:Mo D}{P:Env'->Prop}{f:D->D}:∀{ds:List D}{env:Env'},(∀d∈ds,∀e,P e->∃e1 e2,g d e=some e1/\m e1=some (f d,e2)/\P e2)->P env->
  ∃env',w5_ g x4_ m ds env=some (ds.map f,env')/\P env'
 |[],env,_,p=>⟨env,rfl,p⟩
 |d::ds,env,h,p=>by
  obtain⟨e1,e2,h1,h2,h3⟩:=h d (by simp) env p
  obtain⟨e3,h4,h5⟩:=a6c (ds:=ds) (fun x hx=>h x (by simp[hx])) h3
  refine⟨e3,?_,h5⟩;unfold w5_;rw[h1];simp only[Qv,x4_,Yv];rw[h2];simp only[Qv];rw[h4];rfl
theorem a6d{g:OZ}{b:Mo Fl}{P:Env'->Prop}:∀{ds:List D}{env:Env'},(∀d∈ds,∀e,P e->∃e1 e2,g d e=some e1/\b e1=some (.nx,e2)/\P e2)->P env->∃env',loop g b ds env=some (.nx,env')/\P env'
 |[],env,_,p=>⟨env,rfl,p⟩
 |d::ds,env,h,p=>by
  obtain⟨e1,e2,h1,h2,h3⟩:=h d (by simp) env p
  obtain⟨e3,h4,h5⟩:=a6d (ds:=ds) (fun x hx=>h x (by simp[hx])) h3
  refine⟨e3,?_,h5⟩;unfold loop;rw[h1];simp only[Qv];rw[h2];exact h4
theorem a4z{α:Type}(f:α->Bool):∀l:List α,a0q (l.map fun x=>D.bl (f x))=some (l.all f)
 |[]=>rfl
 |x::l=>by simp[a0q,a4z f l]
theorem g8_{N:Nat}{mb:Mo Fl}{ws env:List W}{d:D}(h:mb (ws++List.replicate (N-ws.length) .nil)=some (.ret d,env)):fnM N mb ws=some (.d d,u6_ ws env):=by unfold fnM;rw[h]
theorem a6e{N:Nat}{mb:Mo Fl}{ws env:List W}{d:List D}(h:mb (ws++List.replicate (N-ws.length) .nil)=some (.retL d,env)):fnM N mb ws=some (.l d,u6_ ws env):=by unfold fnM;rw[h]
def stop(b:Bool)(d:D):Fl:=if b then .nx else .ret d
theorem a6f{mi:Mo (List D)}{keep:List Bool}{more:Nat}{g:OZ}{t:Mo Bool}{m:Mo D}{env e1 e2 e3:Env'}{ds r:List D}(h:mi env=some (ds,e1))(hl:ds.length≤100000)(hc:w5_ g t m ds (g6_ keep more e1)=some (r,e2))(ho:w1_ keep e1 e2=some e3):
  y6_ mi keep more g t m env=some (r,e3):=by
 unfold y6_;rw[h];show(if ds.length≤100000 then(w5_ g t m ds (g6_ keep more e1)).bind _ else none)=_
 rw[Qc hl,hc];show(w1_ keep e1 e2).map _=_;rw[ho];rfl
theorem a6g{ms:Mo (List D)}{env e1:Env'}{j:Int}(h:ms env=some ([.int j],e1))(h1: -1000000<j)(h2:j<1000000):a0o ms env=some (u5_ 0 j.toNat,e1):=by
 unfold a0o;rw[h];exact Qc ⟨h1,h2⟩
theorem a0e{f:List D->Option D}{ms:Mo (List D)}{env e1:Env'}{ds:List D}{d:D}(h:ms env=some (ds,e1))(hf:f ds=some d):mCB f ms env=some (d,e1):=by unfold mCB;rw[h];show(f ds).map _=_;rw[hf];rfl
theorem w7_{m:Mo D}{ms:Mo (List D)}{env e1 e2:Env'}{d:D}{ds:List D}(h:m env=some (d,e1))(h2:ms e1=some (ds,e2)):z2_ m ms env=some (d::ds,e2):=by unfold z2_;rw[h];show(ms e1).map _=_;rw[h2];rfl
theorem a9H{m:Mo D}{ms:Mo (List Ar)}{env e1 e2:Env'}{d:D}{ds:List Ar}(h:m env=some (d,e1))(h2:ms e1=some (ds,e2)):z6_ m ms env=some (.d d::ds,e2):=by unfold z6_;rw[h];show(ms e1).map _=_;rw[h2];rfl
theorem a0V{m:Mo (List D)}{env e1:Env'}{ds:List D}(h:m env=some (ds,e1)):mF m env=some (.lst ds,e1):=by unfold mF;rw[h];rfl
theorem a3q{m:Mo D}{env e1:Env'}{d:D}{ds:List D}(h:m env=some (d,e1))(hd:d.items=some ds):y9_ m env=some (ds,e1):=by unfold y9_;rw[h];show d.items.map _=_;rw[hd];rfl
theorem v2_{f:D->D->Option D}{ma mb:Mo D}{env e1 e2:Env'}{a b c:D}(h1:ma env=some (a,e1))(h2:mb e1=some (b,e2))(hf:f a b=some c):z4_ f ma mb env=some (c,e2):=by
 unfold z4_;rw[h1];show(mb e1).bind _=_;rw[h2];show(f a b).map _=_;rw[hf];rfl
theorem j3_{m:Mo D}{env e1:Env'}{d:D}(h:m env=some (d,e1)):v0_ m env=some (.ret d,e1):=by unfold v0_;rw[h];rfl
theorem a9I{m:Mo (List D)}{env e1:Env'}{d:List D}(h:m env=some (d,e1)):a0R m env=some (.retL d,e1):=by unfold a0R;rw[h];rfl
theorem a0r{i:Nat}{m:Mo D}{env e1:Env'}{d:D}(h:m env=some (d,e1)):y2_ i m env=some (.nx,e1.set i (.dat d)):=by unfold y2_;rw[h];rfl
theorem b6l{i:Nat}{m:Mo (List D)}{env e1:Env'}{d:List D}(h:m env=some (d,e1)):a0n i m env=some (.nx,e1.set i (.own d)):=by unfold a0n;rw[h];rfl
theorem j4_{m:Mo D}{env e1:Env'}{b:Bool}(h:m env=some (.bl b,e1)):mT m env=some (b,e1):=by unfold mT;rw[h];rfl
theorem a9J{m:Mo Bool}{env e1:Env'}{b:Bool}(h:m env=some (b,e1)):w9_ m env=some (!b,e1):=by unfold w9_;rw[h];rfl
theorem a3r{mi:Mo (List D)}{g:OZ}{b:Mo Fl}{env e1:Env'}{ds:List D}(h:mi env=some (ds,e1)):g3_ mi g b env=loop g b ds e1:=by unfold g3_;rw[h];rfl
theorem a1p{n:Nat}{f:Fn}{as:Mo (List Ar)}{env e1:Env'}{av:List Ar}{r:Rr}{ws':List W}(h:as env=some (av,e1))(hn:av.length=n)(hs:slots av=[])(hf:f (av.map (g4_ (.l [])))=some (r,ws')):a0T n f as env=some (r,e1):=by
 unfold a0T;rw[h];show(if av.length=n then _ else none)=_
 rw[Qc hn];simp only[hs];rw[hf];rfl
theorem a6h{n i:Nat}{f:Fn}{as:Mo (List Ar)}{env e1:Env'}{av:List Ar}{r:Rr}{ws':List W}{w:W}{c c':List D}(h:as env=some (av,e1))(hn:av.length=n)(hs:slots av=[i])(hw:e1[i]? =some w)(hm:w.mutL=some c)(hf:f (av.map (g4_ (.l c)))=some (r,ws'))(hp:a1k ws'=some (.l c')):
  a0T n f as env=some (r,e1.set i (w.put c')):=by
 unfold a0T;rw[h];show(if av.length=n then _ else none)=_
 rw[Qc hn];simp only[hs];rw[hw];simp only[Qv];rw[W.mutL_of hm];simp only[Qv];rw[hf];simp only[Qv];rw[hp,W.put_eq hm];rfl
theorem a2H{n:Nat}{f:Fn}{as:Mo (List Ar)}{env e1:Env'}{d:D}(h:a0T n f as env=some (.d d,e1)):mCD n f as env=some (d,e1):=by unfold mCD;rw[h];rfl
theorem a3s{n:Nat}{f:Fn}{as:Mo (List Ar)}{env e1:Env'}{d:List D}(h:a0T n f as env=some (.l d,e1)):w0_ n f as env=some (d,e1):=by unfold w0_;rw[h];rfl
section
variable{X:Cx}{B:OA}{pos:Pos}{e:Expr}{ma:Mo D}
def a1q(m:Mo D):Mo Fl:=fun env=>(m env).map fun p=>(.nx,p.2)
theorem a3t(h:ED X B e ma)(hsw:swapsWith e none pos.line X.env=pure false:=by rfl):ES X B (.Expr e pos) (a1q ma):=by
 refine ps_imp (a8h (te:=TD X.K B ma) h hsw) ?_
 rintro D σ H ⟨G,env,fl,env',rl,e,k⟩;obtain⟨⟨d,env1⟩,e1,e2⟩:=v8_ e;cases e2;exact .bind rl e1 fun v G' H' ev r=>k σ G' H' ev
theorem a3u{m:Mo D}{env e1:Env'}{d:D}(h:m env=some (d,e1)):a1q m env=some (.nx,e1):=by unfold a1q;rw[h];rfl
theorem a9K{N:Nat}{mb:Mo Fl}{ws env:List W}(h:mb (ws++List.replicate (N-ws.length) .nil)=some (.nx,env)):fnM N mb ws=some (.d .non,u6_ ws env):=by unfold fnM;rw[h]
end
def a2b(x:Int):List Int->List Int
 |[]=>[x]
 |y::l=>if x≤y then x::y::l else y::a2b x l
def a0W:List Int->List Int
 |[]=>[]
 |x::l=>a2b x (a0W l)
theorem a6i(x:Int):∀l,(a2b x l).Perm (x::l)
 |[]=>.refl _
 |y::l=>by
  unfold a2b;split
  ·exact .refl _
  ·exact((a6i x l).cons y).trans (.swap x y l)
theorem a6j:∀l,(a0W l).Perm l
 |[]=>.refl _
 |x::l=>(a6i x (a0W l)).trans ((a6j l).cons x)
theorem a9L{x:Int}:∀{l:List Int},l.Pairwise (· ≤ ·)->(a2b x l).Pairwise (· ≤ ·)
 |[],_=>by simp[a2b]
 |y::l,h=>by
  unfold a2b;obtain⟨h1,h2⟩:=Jq.mp h;split
  ·rename_i hx
   refine Jq.mpr ⟨fun z hz=>?_,h⟩
   rcases Qg.mp hz with rfl|hz
   ·exact hx
   ·exact Int.le_trans hx (h1 z hz)
  ·rename_i hx
   refine Jq.mpr ⟨fun z hz=>?_,a9L h2⟩
   rcases Qg.mp ((a6i x l).mem_iff.mp hz)with rfl|hz
   ·omega
   ·exact h1 z hz
theorem a9M:∀l,(a0W l).Pairwise (· ≤ ·)
 |[]=>.nil
 |x::l=>a9L (a9M l)
theorem a9N:∀{l k:List Int},l.Perm k->l.Pairwise (· ≤ ·)->k.Pairwise (· ≤ ·)->l=k
 |[],k,p,_,_=>p.nil_eq
 |x::l,k,p,h1,h2=>by
  cases k with
  |nil=>exact absurd p.symm.nil_eq (by simp)
  |cons y k=>
   obtain⟨a1,a2⟩:=Jq.mp h1;obtain⟨b1,b2⟩:=Jq.mp h2;have e:x=y:=by
    have m1:x∈y::k:=p.mem_iff.mp (by simp)
    have m2:y∈x::l:=p.mem_iff.mpr (by simp)
    rcases Qg.mp m1 with z|z
    ·exact z
    ·rcases Qg.mp m2 with w|w
     ·exact w.symm
     ·have:=a1 y w;have:=b1 x z;omega
   subst e;rw[a9N (p.cons_inv) a2 b2]
section
variable{X:Cx}{B:OA}
def a9O(X:Cx):List V->Hp->VK->Prop:=fun xs H Q=>∃p ns,xs=[.ref p]/\SqL X.K H p (ns.map V.int)/\ns.length<64/\∀l,H l=none->Q (.ref l) (upd H l (.lst ((a0W ns).map V.int)))
theorem a9P:∀{us:List Value}{ns:List Int},IntsAre us ns->q0_ (ns.map V.int) us
 |_,_,.nil=>.nil
 |_,_,.cons n t r=>.cons ⟨t,rfl⟩ (a9P r)
theorem b6m:k5_ X (.builtin "sorted") (a9O X):=by
 intro pins s σ H xs us Q I r h;obtain⟨p,ns,rfl,hq,h64,q⟩:=h;obtain⟨u,rfl,rx⟩:=a1h r;cases rx;obtain⟨vs,rv,pl,hz⟩:=I.list hq;have hi:IntsAre vs ns:=a3Y rv;have hlen:vs.length=ns.length:=hi.length;refine sorted_ints pl.isList hi (by omega) fun out ns' a1 a2 a3=>?_
 obtain⟨e,he⟩:=sortedAll_at s.heap vs out;have es:ns'=a0W ns:=a9N (a2.trans (a6j ns).symm) a3 (a9M ns);subst es;have hl2:((a0W ns).map V.int).length≤sizeLine:=by
  rw[Qk,(a6j ns).length_eq];exact Jm (a3d (by omega))
 exact⟨.ref (s.heap.objs.size+1),_,I.laid (t':=s.toks) (a:=s.heap.objs.size+1) (o:=.lst ((a0W ns).map V.int)) (fun _ _ q=>sortedAll_old q) (Nat.le_succ _) ⟨hl2,out.toList,e,a9P a1,by simpa using he⟩,rfl,q _ (I.hok.fresh (Nat.le_succ _))⟩
def a9Q(X:Cx):List V->Hp->VK->Prop:=fun xs H Q=>a9O X xs H Q∨ ∃p G ys ds es,xs=[.ref p]/\Le G H/\SqL X.K G p ys/\z5_ X.K G ys ds/\a5Z ds=some es/\∀l zs,H l=none->z5_ X.K G zs es->Q (.ref l) (upd H l (.lst zs))
theorem b6n:k5_ X (.builtin "sorted") (a9Q X):=k5_.or b6m b6d
def a6k:List D->Option (List D)
 |[.lst ds]=>match ints? ds with
  |some ns=>if ns.length<64 then some ((a0W ns).map .int)else none
  |none=>a5Z ds
 |_=>none
theorem b6o:a5A X B (a9Q X) a6k:=by
 intro G σ env H xs ds c Q rl r e k;unfold a6k at e;split at e
 ·rename_i ds
  obtain⟨x,rfl,q⟩:=a0l r;simp only[Rep]at q;obtain⟨a,ys,rfl,h1,h2⟩:=q;split at e
  ·rename_i ns en
   split at e
   ·rename_i h64
    cases e;have hx:=a1U h2 en;subst hx;exact .inl ⟨a,ns,rfl,rl.sub.sqL h1,h64,fun l hl=>k l _ G H (.refl rl) hl (a6b _)⟩
   ·cases e
  ·exact .inr ⟨a,G,ys,ds,c,rfl,rl.sub,h1,h2,e,fun l zs hl rz=>k l zs G H (.refl rl) hl rz⟩
 ·cases e
end
section
variable{X:Cx}{B:OA}{pos:Pos}{a b c e:Expr}{ma mb mc:Mo D}{ms:Mo (List D)}{es:List Expr}
end
section
variable{X:Cx}{B:OA}
def a9R:List D->Option Bool
 |[]=>some false
 |.bl b::r=>(a9R r).map fun k=>b||k
 |_::_=>none
def dAny:List D->Option D
 |[.lst ds]=>(a9R ds).map fun k=>.bl k
 |_=>none
def a4A:List D->Option D
 |[.lst ds]=>(ints? ds).map fun ns=>.int ns.sum
 |[.tup ds]=>(ints? ds).map fun ns=>.int ns.sum
 |_=>none
theorem a6l:∀{us:List Value}{ns:List Int},IntsAre us ns->∀(i:Nat) (v:Value),us[i]? =some v->∃t,v=.int (ns.getD i 0) t
 |_,_,.nil,i,v,h=>by simp at h
 |_,_,.cons n t r,i,v,h=>by
  cases i with
  |zero=>simp at h;exact⟨t,by simp[←h]⟩
  |succ i=>exact a6l r i v (by simpa using h)
def a9S(X:Cx):List V->Hp->VK->Prop:=fun xs H Q=>∃(p:Addr) (ns:List Int),xs=[.ref p]/\(SqL X.K H p (ns.map V.int)∨SqT X.K H p (ns.map V.int))/\Q (.int ns.sum) H
theorem b6p(hc:X.calm=true):k5_ X (.builtin "sum") (a9S X):=by
 intro pins s σ H xs us Q I r h;obtain⟨p,ns,rfl,hq,q⟩:=h;obtain⟨u,rfl,rx⟩:=a1h r;cases rx;have hh:X.A.handled=none:=I.ok.hd hc
 rcases hq with hq|hq
 ·obtain⟨its,r',pl,hz⟩:=I.list hq
  have hi:IntsAre its ns:=a3Y r'
  have hl:=pl.isList
  have hlt:p<s.heap.objs.size:=by obtain⟨_,e,_⟩:=hl;exact Qw e
  refine call_sum_walkG (Jo hl ?_);refine⟨s.heap.objs.size,[s.heap.objs.size,p],[s.heap.objs.size],its.toArray.size,_,_,fun i=>ns.getD i 0,rfl,Walks.list (A:=X.A.in1) hh _ p (Zq hlt) its.toArray,
   ⟨⟨_,Ql _ rfl,rfl,rfl⟩,hl.push _⟩,fun b hb=>?_,fun i v hP=>a6l hi i v (by simpa using hP),fun h' tk t' hk'=>?_⟩
  ·have hs:=Qw (Ql s.heap (o:={cls:=.type "list_iterator",data:=.fields #[.ref p,.int 0 0]}) rfl)
   rcases Qg.mp hb with rfl|hb
   ·exact hs
   ·rcases Qg.mp hb with rfl|hb
    ·exact Tw hlt hs
    ·cases hb
  ·rw[Qr,hi.length,PyProof.Rows.preSum_getD,Vf (Qu _)]
   exact⟨.int ns.sum,H,I.kept (t':=tk) (LSm.kept_iter hk'),⟨t',rfl⟩,q⟩
 ·obtain⟨its,r',pl,hz⟩:=I.tuple hq
  have hi:IntsAre its ns:=a3Y r'
  have hl:s.heap.IsTuple p its.toArray:=pl
  have hlt:p<s.heap.objs.size:=by obtain⟨_,e,_⟩:=hl;exact Qw e
  refine call_sum_walkG (Xh hl ?_);refine⟨s.heap.objs.size,[s.heap.objs.size,p],[s.heap.objs.size],its.toArray.size,_,_,fun i=>ns.getD i 0,rfl,Walks.tuple (A:=X.A.in1) hh _ p (Zq hlt) its.toArray,
   ⟨⟨_,Ql _ rfl,rfl,rfl⟩,hl.push _⟩,fun b hb=>?_,fun i v hP=>a6l hi i v (by simpa using hP),fun h' tk t' hk'=>?_⟩
  ·have hs:=Qw (Ql s.heap (o:={cls:=.type "tuple_iterator",data:=.fields #[.ref p,.int 0 0]}) rfl)
   rcases Qg.mp hb with rfl|hb
   ·exact hs
   ·rcases Qg.mp hb with rfl|hb
    ·exact Tw hlt hs
    ·cases hb
  ·rw[Qr,hi.length,PyProof.Rows.preSum_getD,Vf (Qu _)]
   exact⟨.int ns.sum,H,I.kept (t':=tk) (LSm.kept_iter hk'),⟨t',rfl⟩,q⟩
theorem b6q:a0A X B (a9S X) a4A:=by
 intro G σ env H xs ds c Q rl r e k;unfold a4A at e;split at e
 ·rename_i ds
  obtain⟨x,rfl,q⟩:=a0l r;obtain⟨ns,e1,e2⟩:=v8_ e;subst e2;simp only[Rep]at q;obtain⟨a,ys,rfl,h1,h2⟩:=q;have:=a1U h2 e1;subst this;exact⟨a,ns,rfl,.inl (rl.sub.sqL h1),k _ G H (.refl rl) (by simp only[Rep])⟩
 ·rename_i ds
  obtain⟨x,rfl,q⟩:=a0l r;obtain⟨ns,e1,e2⟩:=v8_ e;subst e2;simp only[Rep]at q;obtain⟨a,ys,rfl,h1,h2⟩:=q;have:=a1U h2 e1;subst this;exact⟨a,ns,rfl,.inr (rl.sub.sqT h1),k _ G H (.refl rl) (by simp only[Rep])⟩
 ·cases e
end
theorem b6r:bootBuiltins "sum"=some (.builtin "sum"):=by decide+kernel
section
variable{X:Cx}{B:OA}
end
section
variable{X:Cx}{B:OA}{pos:Pos}{a b c e:Expr}{ms:Mo (List D)}
end
section
variable{X:Cx}{B:OA}{pos:Pos}{c:Expr}{t:Mo Bool}
end
section
variable{X:Cx}{B:OA}{pos:Pos}{e:Expr}{ma:Mo D}{ml:Mo (List D)}
end
section
variable{prog:Program}{w:World}{A:Around}{E:OE}{s:Shared}{c:Bool}
end
section
variable{prog:Program}{w:World}{A:Around}{E:OE}{s:Shared}
end
section
variable{X:Cx}{B:OA}{pos p:Pos}{a:Expr}{ms:Mo (List D)}{elts:List Expr}{kk:Nat}{tp:Pos}
end
def CXE(P:Program)(w:World):CXT:=fun outer H s E ev s'=>
 ∃(e t C:Addr) (H':Hp) (Bh:Heap),ev=.ref e/\s'.os=s.os/\AllBare s'.gens/\Heap.FlyingW Bh outer e (.ref C) (.ref t) s'.heap/\
  Un (frs outer) [] H H' s.heap s'.heap/\HOk P w H' Bh/\(∀b o,s.heap.get? b=some o->H b=none->b∉frs outer->Bh.get? b=some o)/\
  (∀b o,s.heap.get? b=some o->b∉frs outer->∃o',Bh.get? b=some o')/\E (.ref C) none H'
section
variable{X:Cx}{pins:OX}{σ:St}{H H':Hp}{s s':Shared}{E:XK}{e t C:Addr}{Bh:Heap}
structure XOk(X:Cx)(E:XK):Prop where
 pass:a2o (CXE X.prog X.w) X E
 made:∀(pins:OX) (σ:St) (H:Hp) (s:Shared) (h':Heap) (e C:Addr) (vs:List Value),Inv X pins σ H s->Heap.MadeExcOf s.heap h' e (.ref C) vs->E (.ref C) none H->X.xe (.ref e) {s with heap:=h'}
end
def vmro:List Value:=[.type "ValueError",.type "Exception",.type "BaseException",.type "object"]
def a9T(K:Qz)(n:Str):Bool:=match PySem.W.nsIn K mainGlobals n with
 |some (some (.ref C))=>PySem.W.excIn K C vmro "ValueError.__new__"
 |_=>false
abbrev Mx:=Env'->Option Str
section
variable(K:Qz)(B:OA)(E:XK)
end
section
variable{X:Cx}{B:OA}{E:XK}{pos p:Pos}{e:Expr}{es:List Expr}{st:Stmt}{rest:List Stmt}{x1 x2:Mx}{s1:Mo Fl}{ma:Mo D}
def SpX(K:Qz)(n:Nat)(g:List W->Option Str):Sp:=fun vs H _ E=>∃G ws c C,ws.length=n/\a3j ws/\Rel K u0_ G (vs.map some) ws H/\g ws=some c/\PySem.W.nsIn K mainGlobals c=some (some (.ref C))/\
 ∀G' ws' H',Ev K u0_ G (vs.map some) ws H G' (vs.map some) ws' H'->E (.ref C) none H'
structure DefX(P:Program)(w:World)(K:Qz)(mg:OU)(base:Heap)(x:Str)(k n:Nat)(g:List W->Option Str):Prop where
 ex:∃(f:Addr) (fd:FuncData) (ps:List Str),FnOk P w K mg base (CXE P w) k f fd ps (SpX K n g)/\ps.length=n/\mg x=some (.ref f)/\PySem.W.keepIn K (.ref f)=true/\u4_ K fd ps []
end
open PySem.W Builtin Builtin.ObjectAttr Builtin.Getset_descriptor PySem.Calls
section
variable{prog:Program}{w:World}{A:Around}{E:OE}{K:Frag}{x C:Addr}{h:Heap}{g:Array GenState}{d:Drawn}{t:Nat}{os:OsState}
end
def b6s:List String:=["tuple","list","int","bool","str"]
def a9U(K:Frag)(C:Addr):Bool:=
 (mroIn K C (.type "BaseException")==some true)&&((mroIn K C (.type "object")==some true)&&((findIn K (.ref C) "__class__"==some (some (.builtin "object.__class__")))&&((specialIn K (.builtin "object.__class__") "__get__"==some (some (.builtin "getset_descriptor.__get__")))&&
 ((takesIn K (.builtin "object.__class__")==some true)&&((findIn K (.ref C) "__getattribute__"==some (some (.builtin "BaseException.__getattribute__")))&&((findIn K (.ref C) "__getattr__"==some none)&&((clsIn K C).isSome&&((kitOne K (.ref C) (.type "ValueError")==some true)&&b6s.all fun T=>kitOne K (.ref C) (.type T)==some false))))))))
structure ExcF(K:Frag)(S:Str)(names:List Str)(n:Str)(C:Addr):Prop where
 nm:nsIn K mainGlobals n=some (some (.ref C))
 one:a9T K n=true
 kit:a9U K C=true
 sub:∃D,nsIn K mainGlobals S=some (some (.ref D))/\mroIn K C (.ref D)=some true/\a9T K S=true/\a9U K D=true
 pair:∀m∈names,∃D,nsIn K mainGlobals m=some (some (.ref D))/\kitOne K (.ref C) (.ref D)=some (n==m)
section
variable{X:Cx}{B:OA}{pos p p2:Pos}{a:Expr}{ma:Mo D}{S m:Str}{names:List Str}
end
end L2.Mir
namespace L2.Mir
open PySem PySem.Spec PyProof.Rows PySem.W
section
variable{X:Cx}{pins:OX}{σ σ':St}{H:Hp}{s:Shared}{e:Addr}{φ:Heap->Prop}
end
section
variable{M:Model}{A:Around}{E:OE}{K:Frag}{e C Dd:Addr}{h:Heap}{g:Array GenState}{d:Drawn}{t:Nat}{os:OsState}
end
def b6t(a:Addr)(h:Heap):Prop:=∃o fd,h.get? a=some o/\o.data=.func fd
section
variable{X:Cx}{B:OA}{S n x y:Str}{names:List Str}{i0 i j:Nat}{fl:Addr}{o:Option Str}{G₀:Hp}{cp cpos epos sp yp np apos hpos tpos:Pos}
end
section
variable{X:Cx}{B:OA}{S n x y:Str}{names:List Str}{i0 i j:Nat}{fl:Addr}{o:Option Str}{G₀:Hp}{cp cpos epos sp yp np apos hpos tpos yp0 spos0 npos0:Pos}{rest:List Stmt}{m:Mo Fl}{kk:Nat}
end
section
variable{P:Program}{w:World}{K:Frag}{mg:OU}{base:Heap}{N':List Str}{q:Str}{scope:Scope}{fl:Addr}{cd:Value}{cl:List (Str×Addr)}{A:Around}{outer:List Env}{s:Shared}{H:Hp}{E:XK}{σ:St}
end
structure LamAt(K:Frag)(params:Arguments)(body:Expr)(scope:Scope)(N':List Str)(lq:Str)(fl c':Addr)(cl:List (Str×Addr))(σ:St)(s₁:Shared)(H₁:Hp)(outer₁:List Env):Prop where
 obj:∃pm ctv,s₁.heap.get? fl=some (kla_obj "<lambda>" lq params body scope cl pm c' ctv)
 free:H₁ fl=none
 nfr:fl∉frs outer₁
 code:∃φ,H₁ c'=some (.ext φ)/\∀h:Heap,φ h->h.CodeRec (.ref c') lq
 inj:∀x y c,cl.lookup x=some c->cl.lookup y=some c->x=y
 has:∀x,scope.names.lookup x=some .free->∃c,cl.lookup x=some c
 cell:∀x c,cl.lookup x=some c->(∃v,s₁.heap.IsCell c v)/\H₁ c=none/\c∉frs outer₁
 val:∀(i:Nat) (x:Str) (v:V),N'[i]? =some x->σ[i]? =some (some v)->Vis scope x->scope.names.lookup x=some .free/\∃c u,cl.lookup x=some c/\q7_ v u/\s₁.heap.IsCell c (some u)
 len:σ.length=N'.length
def b6u(P:Program)(w:World)(K:Frag)(mg:OU)(base:Heap)(kc:Nat)(fl:Addr)(s₁:Shared)(H₁:Hp)(outer₁:List Env)(o:Option Str)(G:Hp):Prop:=
 (∀(H':Hp) (s:Shared),Un (frs outer₁) [] H₁ H' s₁.heap s.heap->b6t fl s.heap)/\
 ∀(A:Around) (outer:List Env) (s:Shared) (Q:VK) (E:XK),Room kc A->Env0 P w K mg base A outer s H₁->Un (frs outer₁) [] H₁ H₁ s₁.heap s.heap->
  (o=none->∀v G' H',Ev K u0_ G [] [] H₁ G' [] [] H'->Q v H')->
  (∀n C,o=some n->nsIn K mainGlobals n=some (some (.ref C))->∀G' H',Ev K u0_ G [] [] H₁ G' [] [] H'->E (.ref C) none H')->
  codeAny (model P w) A (.call (.ref fl) ⟨[],[]⟩) (CR (CXE P w) outer P w H₁ s Q E) s
def b6v(mg:OU)(base:Heap):Prop:=∃bm o,mg "__builtins__"=some (.ref bm)/\bm≠builtinsNs/\bm≠mainGlobals/\base.get? bm=some o/\o.cls=.type "module"/\o.dict=some builtinsNs/\o.data=.plain
section
variable{X:Cx}{pins:OX}{σ:St}{H:Hp}{s:Shared}{P c:Addr}{ps:Array Value}{qual:Str}{scope:Scope}{cl:List (Str×Addr)}{params:Arguments}{body:Expr}{pos:Pos}
structure Made(X:Cx)(pins:OX)(σ:St)(H:Hp)(s:Shared)(P:Addr)(qual:Str)(params:Arguments)(body:Expr)(scope:Scope)(cl:List (Str×Addr))(fl c':Addr)(H1:Hp)(s1:Shared):Prop where
 inv:Inv X pins σ H1 s1
 ev:∀(B:OA) (G:Hp) (env:Env'),Rel X.K B G σ env H->Ev X.K B G σ env H G σ env H1
 obj:∃pm ctv,s1.heap.get? fl=some (kla_obj "<lambda>" (lamQ qual) params body scope cl pm c' ctv)
 new:s.heap.objs.size≤fl
 free:H1 fl=none
 code:H1 c'=some (LamC X.K P c')
 keep:∀b o,H b=none->s.heap.get? b=some o->s1.heap.get? b=some o/\H1 b=none
end
structure RefDef(P:Program)(w:World)(K:Frag)(mg:OU)(base:Heap)(x:Str)(k kc:Nat)(fr:Option Str->Option D):Prop where
 ex:∃f:Addr,mg x=some (.ref f)/\keepIn K (.ref f)=true/\∀(A:Around) (outer:List Env) (s:Shared) (H:Hp) (fl:Addr) (o:Option Str) (G:Hp) (Q:VK),Room k A->Env0 P w K mg base A outer s H->b6u P w K mg base kc fl s H outer o G->Rel K u0_ G [] [] H->
  (∃d,fr o=some d/\∀v G' H',Ev K u0_ G [] [] H G' [] [] H'->Rep K G' v d->Q v H')->codeAny (model P w) A (.call (.ref f) ⟨[.ref fl],[]⟩) (CR CX0 outer P w H s Q E0) s
structure TabF(K:Frag)(mg:OU)(base:Heap)(cd:Value)(qual:Str)(P:Addr):Prop where
 ex:∃c,cd=.ref c/\codeHdIn K c P=true/\codeIn K (.ref c) qual=true
 tq:tabQ K P qual=true
 bm:b6v mg base
section
variable{X:Cx}{B:OA}{x S qual:Str}{names:List Str}{k kc:Nat}{fr:Option Str->Option D}{P:Addr}{N':List Str}{scope:Scope}{keep:List Bool}{params:Arguments}{body:Expr}{mb:Mo D}{xb:Mx}{p lpos pos:Pos}{ps0:Array Value}
end
def b6w(ts:List Addr)(H:Hp):Prop:=∀P∈ts,∃ps,H P=some (.tbl ps)
def SpT(K:Frag)(ts:List Addr)(n:Nat)(f:Fn):Sp:=fun vs H Q E=>b6w ts H/\SpF K n f vs H Q E
end L2.Mir
namespace L2.Mir
open PySem PySem.Spec PyProof.Rows PySem.W
section
variable{X:Cx}{B:OA}{pos:Pos}{o e:Expr}{ma mb:Mo D}
end
open AutoSeq1 (wpAny_loadPart')
section
variable{prog:Program}{w:World}{A:Around}{E:OE}{s:Shared}
end
section
variable{X:Cx}{B:OA}{pos:Pos}{a b c e:Expr}{ms:Mo (List D)}
end
section
variable{X:Cx}{B:OA}{pos:Pos}
end
def a0X(elt:Expr)(gens:List Comprehension)(scope:Scope)(pos:Pos)(d:Nat)(acc:Value)(env:Env):Sem Unit:=match gens[d+1]? with
 |some g'=>do
  let x←eval g'.iter env
  standAt g'.iter.pos
  let x←if g'.is_async !=0 then foldedIterable g'.iter x else foldedSetIterable g'.iter env x
  let _←runOwn (.compStart (.ListComp elt gens scope pos) (d+1) (←holding [x] (if g'.is_async !=0 then asyncIter x else pyIter x)) acc env) env
 |none=>do let _←call (.builtin "list.append") [acc,←eval elt env]
theorem b6x{elt target iter:Expr}{ifs:List Expr}{gens:List Comprehension}{scope:Scope}{pos:Pos}{d:Nat}{it acc:Value}{env:Env}(hd:gens[d]? =some ⟨target,iter,ifs,0⟩):
  compTurn (.ListComp elt gens scope pos) d it acc env=(do
   standAt iter.pos
   match←pyNext it with
   |none=>pure (.done .next)
   |some v=>
    letOwnedTupleGo target it v
    assign target env v
    let mut ok:=true
    for c in ifs do
     if ok then ok←isTrue c env (eval c env)
    if ok then
     a0X elt gens scope pos d acc env
    again (.compLoop (.ListComp elt gens scope pos) d it acc env)):=by
 unfold compTurn a0X;dsimp only;rw[hd];cases gens[d+1]? with
 |none=>rfl
 |some g'=>
  show(standAt iter.pos>>=fun _=>pyNext it>>=fun r=>_)=_
  refine Yy (standAt iter.pos>>= ·) (funext fun _=>Yy (pyNext it>>= ·) (funext fun r=>?_))
  cases r with
  |none=>rfl
  |some v=>
   refine Yy (letOwnedTupleGo target it v>>= ·) (funext fun _=>Yy (assign target env v>>= ·) (funext fun _=>Yy (_>>= ·) (funext fun ok=>?_)))
   cases ok with
   |false=>rfl
   |true=>
    by_cases ha:(g'.is_async !=0)=true
    ·simp only[ha,Yv,bind_assoc,pure_bind]
    ·simp only[ha,Yv,Zv,bind_assoc,pure_bind,Qh]
section
variable{prog:Program}{w:World}{A:Around}{R:Result->Shared->Prop}{s:Shared}
theorem b6y{elt target iter:Expr}{ifs:List Expr}{gens:List Comprehension}{scope:Scope}{pos:Pos}{d:Nat}{it acc:Value}{env:Env}(hd:gens[d]? =some ⟨target,iter,ifs,0⟩)(I:Nat->Shared->Prop)
  (turn:∀n s,I n s->wpAny (model prog w) A (pyNext it) (fun r s₁=>match r with
   |none=>R (.ok .next) s₁
   |some v=>wpAny (model prog w) A (letOwnedTupleGo target it v) (fun _ s₁'=>wpAny (model prog w) A (assign target env v) (fun _ s₂=>
     wpAny (model prog w) A (forIn ifs true fun c r=>if r=true then do let ok←isTrue c env (eval c env);pure (ForInStep.yield ok)else pure (ForInStep.yield r)) (fun ok s₃=>
      if ok=true then wpAny (model prog w) A (a0X elt gens scope pos d acc env) (fun _ s₅=>∃m,m<n/\I m s₅) (fun _ _=>False) s₃
      else∃m,m<n/\I m s₃) (fun _ _=>False) s₂) (fun _ _=>False) s₁') (fun _ _=>False) s₁) (fun _ _=>False) s)
  (n:Nat)(h:I n s):
  codeAny (model prog w) A (.compLoop (.ListComp elt gens scope pos) d it acc env) R s:=by
 refine codeAny_loop rfl I (fun n s hI=>?_) n h
 show wpAny _ A ((compTurn (.ListComp elt gens scope pos) d it acc env).onRaise (fun x=>do noteFrame x env;theTreesLotGoes x)) _ _ s
 refine wpAny_noted ?_
 rw[b6x hd];refine Qq (Xc (Qq (Yw (turn n s hI) (fun r s₁ h₁=>?_) fun _ _ h'=>h'.elim)))
 cases r with
 |none=>exact Qj h₁
 |some v=>
  refine Qq (Yw h₁ (fun _ s₁' h₁'=>?_) fun _ _ h'=>h'.elim)
  refine Qq (Yw h₁' (fun _ s₂ h₂=>Qq (Yw h₂ (fun ok s₃ h₃=>?_) fun _ _ h'=>h'.elim)) fun _ _ h'=>h'.elim)
  cases ok with
  |false=>exact Qj ⟨rfl,h₃⟩
  |true=>exact Qq (Yw h₃ (fun _ s₅ h₅=>Qj ⟨rfl,h₅⟩) fun _ _ h'=>h'.elim)
end
abbrev a1r:=St->Hp->(St->Hp->Prop)->Prop
def a6m(J:It)(g:TG)(tt:TT)(act:a1r)(σ₀:St)(H₀:Hp)(Q:St->Hp->Prop):Prop:=
 ∃W:Nat->Nat->St->Hp->Prop,(∃m,W 0 m σ₀ H₀)/\∀i m σ H,W i m σ H->
  (J.stop i H/\Q σ H)∨(J.go i H/\∀x H',J.yld i H x H'->g x σ H' fun σ2 H2=>tt σ2 H2 fun b H3=>
   if b=true then act σ2 H3 fun σ4 H4=>∃m',m'<m/\W (i+1) m' σ4 H4 else∃m',m'<m/\W (i+1) m' σ2 H3)
def a2c(X:Cx)(sem:Sem Unit)(act:a1r):Prop:=∀(pins:OX) (s:Shared) (σ:St) (H:Hp) (Q:St->Hp->Prop),Inv X pins σ H s->act σ H Q->
 wpAny (model X.prog X.w) X.A sem (fun _ s'=>∃σ' H',Inv X pins σ' H' s'/\Q σ' H') (fun _ _=>False) s
def a9V(te:TE)(p:Addr):a1r:=fun σ H Q=>te σ H fun y H4=>∃ys,H4 p=some (.lst ys)/\ys.length<sizeLine/\Q σ (upd H4 p (.lst (ys++[y])))
section
variable{X:Cx}{elt:Expr}{gens:List Comprehension}{scope:Scope}{pos:Pos}{d:Nat}
theorem b6z{te:TE}{p:Addr}(hx:∀e s,¬ X.xe e s)(hn:gens[d+1]? =none)(he:PE X elt te):a2c X (a0X elt gens scope pos d (.ref p) X.env) (a9V te p):=by
 intro pins s σ H Q I h;unfold a0X;rw[hn];refine Qq (Yw (he pins s σ H _ I h) (fun v s1 ⟨y,H1,I1,r1,ys,hys,hl,q⟩=>?_) fun e s' z=>(hx e s' z).elim)
 refine Qq (Yw (a8I (X:=X) _ s1 σ H1 (.ref p) [y] (.ref p) [v] (fun _ H2=>Q σ H2) I1 rfl (.cons r1 .nil) ⟨p,ys,y,rfl,rfl,hys,hl,q⟩) (fun _ s2 ⟨_,H2,I2,_,w2⟩=>Qj ⟨σ,H2,I2,w2⟩) fun e s' z=>(hx e s' z).elim)
end
section
variable{X:Cx}{N':List Str}{scope:Scope}{keep:List Bool}{more:Nat}{tg iter elt:Expr}{ifs:List Expr}{gs:List Comprehension}{g:TG}{tt:TT}{act:Addr->a1r}{pos:Pos}
theorem a9W{E:OE}{pins:OX}{σ:St}{H:Hp}{s:Shared}{it:Addr}{fp:List Addr}{tn:Nat->Heap->Prop}{J:It}{Qf:Addr->Hp->Prop}{RR:Value->Addr->Result->Shared->Prop}
  (ok:CompOk X N' scope keep more)(hc:X.calm=true)(hg:∀s H fp,PG (y5_ X N' scope s H fp) tg g)(ht:∀s H fp,a0p (y5_ X N' scope s H fp) ifs tt)(he:∀s H fp p,a2c (y5_ X N' scope s H fp) (a0X elt (⟨tg,iter,ifs,0⟩::gs) scope pos 0 (.ref p) (y5_ X N' scope s H fp).env) (act p))
  (I:Inv X pins σ H s)(T:Turn X.prog X.w X.K tg J fp it tn)(st:tn 0 s.heap)(hf:∀b∈fp,u3_ X pins H b)
  (run:∀p,H p=none->a6m J g tt (act p) (g5_ keep more σ) (upd H p (.lst [])) (fun _ H'=>Qf p H'))
  (hRR:∀p C s' H' m,Inv X pins σ H' s'->Qf p H'->s'.heap.Ns C m->C≠X.env.locals->(∀x c,X.env.cells.lookup x=some c->c≠C)->H' C=none->(∀σ'' H'' s'' h',Inv X pins σ'' H'' s''->H'' C=none->Heap.SameBut C s''.heap h'->Inv X pins σ'' H'' {s'' with heap:=h'})->RR (.ref p) C (.ok .next) s'):
  wpAny (model X.prog X.w) X.A (newList []) (fun acc s₃=>wpAny (model X.prog X.w) X.A (newFunctionEnv scope X.env.globals (j1_ X.env.cells scope.names []) [] X.env.qual none .none (some X.env)) (fun cenv s₄=>
   codeAny (model X.prog X.w) X.A (.compStart (.ListComp elt (⟨tg,iter,ifs,0⟩::gs) scope pos) 0 (.ref it) acc {cenv with scope:=relabel scope X.env}) (RR acc cenv.locals) s₄) E s₃) E s:=by
 have hp0:H s.heap.objs.size=none:=I.hok.fresh (Qu _)
 refine Yh ?_
 have I3:Inv X pins σ (upd H s.heap.objs.size (.lst [])) {s with heap:=s.heap.push {cls:=.type "list",dict:=none,data:=.seq ([]:List Value).toArray}}:=
  I.laid (t':=s.toks) (fun b u e=>Qx _ e) (Qu _) ⟨Jg _,[],0,.nil,Ql _ rfl⟩
 have fpOld:∀b∈fp,b<s.heap.objs.size:=fun b hb=>by
  obtain⟨o,e,_⟩:=T.obj 0 _ st b hb;exact Qw e
 have hf3:∀b∈fp,u3_ X pins (upd H s.heap.objs.size (.lst [])) b/\b<(s.heap.push {cls:=.type "list",dict:=none,data:=.seq ([]:List Value).toArray}).objs.size:=fun b hb=>by
  refine⟨⟨by rw[q4_ (Zq (fpOld b hb))];exact(hf b hb).1,(hf b hb).2⟩,?_⟩
  rw[Zs];exact Jv (fpOld b hb)
 have st3:tn 0 (s.heap.push {cls:=.type "list",dict:=none,data:=.seq ([]:List Value).toArray}):=T.keep 0 _ _ st fun b hb o e=>Qx _ e
 generalize hs3:({s with heap:=s.heap.push {cls:=.type "list",dict:=none,data:=.seq ([]:List Value).toArray}}:Shared)=s3 at I3 ⊢
 have hs3h:s3.heap=s.heap.push {cls:=.type "list",dict:=none,data:=.seq ([]:List Value).toArray}:=by rw[←hs3]
 rw[←hs3h]at hf3 st3;generalize hp:s.heap.objs.size=p at hp0 I3 hf3 ⊢;generalize hH3:upd H p (.lst [])=H3 at I3 hf3;refine b5g _ ?_
 have I4:=b5f ok I3 hf3
 generalize hs4:({s3 with heap:=pushCells (s3.heap.push {cls:=.type "dict",data:=.dict #[]}) scope.names}:Shared)=s4 at I4 ⊢
 have st4:tn 0 s4.heap:=T.keep 0 _ _ st3 fun b hb o e=>by rw[←hs4];exact Xk _ _ _ _ (Qx _ e)
 obtain⟨W,⟨m0,w0⟩,turn⟩:=run p hp0;have stat:∀{H':Hp},(∀b∈fp,H' b=none)->∀b∈fp,u3_ (y5_ X N' scope s3 H3 fp) [] H' b:=fun hn b hb=>by
  have z:=I4.ok.exf b hb
  exact⟨hn b hb,z.1,I4.ok.exfs b hb,.inl hb,z.2,fun p hp=>absurd (show p∈([]:OX)from hp) (by simp)⟩
 have loop:codeAny (model X.prog X.w) X.A (.compLoop (.ListComp elt (⟨tg,iter,ifs,0⟩::gs) scope pos) 0 (.ref it) (.ref p) (a2y scope X.env s3.heap.objs.size)) (RR (.ref p) s3.heap.objs.size) s4:=by
  refine b6y (d:=0) rfl (fun n s'=>∃i σ' H',Inv (y5_ X N' scope s3 H3 fp) [] σ' H' s'/\tn i s'.heap/\(∀b∈fp,H' b=none)/\W i n σ' H') ?_ m0 ⟨0,_,H3,I4,st4,fun b hb=>(hf3 b hb).1.1,by rw[←hH3];exact w0⟩
  rintro n s5 ⟨i,σ5,H5,I5,st5,fr5,w5⟩
  rcases turn i n σ5 H5 w5 with⟨stop,qf⟩|⟨go,step⟩
  ·refine thn (T.done (y5_ X N' scope s3 H3 fp) rfl rfl rfl hc i [] s5 σ5 H5 (fun _ _=>False) I5 (stat fr5) st5 stop) fun r s6 ⟨hr,I6⟩=>?_
   subst hr;obtain⟨m6,hn6,_⟩:=I6.loc;have hch:∀b∈fp,(b∈X.ex∨X.s₀.heap.objs.size≤b)/\b≠X.env.locals/\(∀x c,X.env.cells.lookup x=some c->c≠b)/\∀p∈X.pn++pins,p.1≠b:=fun b hb=>by
    obtain⟨_,f1,_,f3,f4,f5⟩:=hf b hb;exact⟨f3,f1,f4,f5⟩
   have IX:Inv X pins σ H5 s6:=I3.call' (s':=s6) (I6.os) (I6.base) I6.hok I6.bare hch
   have szC:X.s₀.heap.objs.size≤s3.heap.objs.size:=I3.sz
   have hCL:s3.heap.objs.size≠X.env.locals:=Tv I3.lt
   have hCc:∀x c,X.env.cells.lookup x=some c->c≠s3.heap.objs.size:=fun x c e=>by
    obtain⟨v,q⟩:=I3.cell x c e;exact Zq q.lt
   have hCp:∀q∈X.pn++pins,q.1≠s3.heap.objs.size:=fun q hq=>Zq (Qw (I3.pin q hq).1)
   refine hRR p s3.heap.objs.size s6 H5 m6 IX qf hn6 hCL hCc I6.free fun σ'' H'' s'' h' I'' hn hs=>?_
   exact I''.turned (t':=s''.toks) (it:=s3.heap.objs.size) (fun b o hb e=>(hs.2 b hb).trans e) hn hCL (.inr szC) hCc hCp
  ·refine thn (T.item (y5_ X N' scope s3 H3 fp) rfl rfl rfl hc i [] s5 σ5 H5 (fun _ _=>False) I5 (stat fr5) st5 go) fun r s6 ⟨u,hr,h6⟩=>?_
   subst hr;refine thn h6 fun _ s7 ⟨x,H7,I7,r7,y7,st7,fr7⟩=>?_
   have I7':=I7.pinned (stat fr7) (T.obj _ _ st7)
   have back:∀{σ8:St}{H8:Hp}{s8:Shared}{m':Nat},Inv (y5_ X N' scope s3 H3 fp) ([]++a3a fp s7.heap) σ8 H8 s8->m'<n->W (i+1) m' σ8 H8->∃m,m<n/\∃i σ' H',Inv (y5_ X N' scope s3 H3 fp) [] σ' H' s8/\tn i s8.heap/\(∀b∈fp,H' b=none)/\W i m σ' H':=fun{σ8 H8 s8 m'} I8 hm w8=>by
    refine⟨m',hm,i+1,σ8,H8,I8.unpinned,T.keep _ _ _ st7 fun b hb o e=>(I8.pin (b,o) (Zb _ (Zb _ (a3U hb e)))).1,fun b hb=>?_,w8⟩
    obtain⟨o,e,d⟩:=T.obj _ _ st7 b hb;exact(I8.pin (b,o) (Zb _ (Zb _ (a3U hb e)))).2.1
   refine thn (hg s3 H3 fp _ s7 σ5 H7 x u _ I7' r7 (step x H7 y7)) fun _ s8 ⟨σ8,H8,I8,q8⟩=>?_
   refine thn (ht s3 H3 fp _ s8 σ8 H8 _ I8 q8) fun b s9 ⟨H9,I9,q9⟩=>?_
   cases b with
   |false=>
    simp only[Qh,Zv]at q9 ⊢;obtain⟨m',hm,w9⟩:=q9;exact back I9 hm w9
   |true=>
    simp only[Yv]at q9 ⊢;exact thn (he s3 H3 fp p _ s9 σ8 H9 _ I9 q9) fun _ s10 ⟨σ10,H10,I10,m',hm,w10⟩=>back I10 hm w10
 refine codeAny_compStart_list loop ?_
 exact Yw (T.self X.A 0 s4 _ (fun _ _=>False) st4 loop) (fun _ _ q=>q) fun _ _ q=>q.elim
def a6n(wi:TI)(keep:List Bool)(more:Nat)(g:TG)(tt:TT)(act:Addr->a1r):TE:=fun σ H Q=>wi σ H fun J H1=>∀p,H1 p=none->a6m J g tt (act p) (g5_ keep more σ) (upd H1 p (.lst [])) (fun _ H'=>Q (.ref p) H')
theorem b6A{wi:TI}(ok:CompOk X N' scope keep more)(hc:X.calm=true)(hi:PI X tg iter wi)(hg:∀s H fp,PG (y5_ X N' scope s H fp) tg g)(ht:∀s H fp,a0p (y5_ X N' scope s H fp) ifs tt)
  (he:∀s H fp p,a2c (y5_ X N' scope s H fp) (a0X elt (⟨tg,iter,ifs,0⟩::gs) scope pos 0 (.ref p) (y5_ X N' scope s H fp).env) (act p))
  (hs:∀x,foldedSetIterable iter X.env x=pure x:=by intro _;rfl):PE X (.ListComp elt (⟨tg,iter,ifs,0⟩::gs) scope pos) (a6n wi keep more g tt act):=by
 intro pins s σ H Q I h;rw[eval_ListComp];refine wpAny_comprehension_free (use:=none) rfl hs ok.clos ok.kind (fun x hx hl=>by have:=ok.uniq x hx;rwa [hl]at this) (thn (hi pins s σ H _ I h) fun v s1 h1=>thn h1 fun itv s2 h2=>?_)
 obtain⟨it,fp,tn,J,H2,e,I2,T,st2,f2,run⟩:=h2;subst e;refine a9W (Qf:=fun p H'=>Q (.ref p) H') (RR:=fun acc C=>compPost (model X.prog X.w) X.A X.xe none (EP X pins σ Q) acc C) ok hc hg ht he I2 T st2 f2 run ?_
 intro p C s' H' m IX qf hn hCL hCc hCn turn;exact⟨m,hn,fun h' hs'=>⟨.ref p,H',turn σ H' s' h' IX hCn hs',rfl,qf⟩⟩
end
def a0f(m:Mo D):Mo (List D):=fun env=>(m env).map fun q=>([q.1],q.2)
def a0D(g:OZ)(t:Mo Bool)(a:Mo (List D)):List D->Mo (List D)
 |[],env=>some ([],env)
 |d::ds,env=>(g d env).bind fun e1=>(t e1).bind fun p=>if p.1 then(a p.2).bind fun q=>(a0D g t a ds q.2).map fun r=>(q.1++r.1,r.2)else a0D g t a ds p.2
def a2I(mi:Mo (List D))(keep:List Bool)(more:Nat)(g:OZ)(t:Mo Bool)(a:Mo (List D)):Mo (List D):=fun env=>(mi env).bind fun p=>
 (a0D g t a p.1 (g6_ keep more p.2)).bind fun q=>if q.1.length≤100000 then(w1_ keep p.2 q.2).map fun e=>(q.1,e)else none
theorem b6B{H:Hp}{p:Addr}{o:HO}(h:H p=some o):upd H p o=H:=by
 funext b
 by_cases hb:b=p
 ·subst hb;rw[y3_,h]
 ·rw[q4_ hb]
section
variable{K:Qz}{B:OA}{n:Nat}
def TAc(K:Qz)(B:OA)(n:Nat)(a:Mo (List D))(p:Addr):a1r:=fun σ H Q=>∃G env zs env' ys,Rel K B G σ env H/\ ¬ Owned σ env p/\G p=none/\H p=some (.lst ys)/\a env=some (zs,env')/\ys.length+zs.length≤100000/\
 ∀σ' G' H' vs,Ev K B G σ env (upd H p (.lst (ys++vs))) G' σ' env' H'->(∀j,j<n->σ'[j]? =σ[j]?)->H' p=some (.lst (ys++vs))->z5_ K G' vs zs->Q σ' H'
theorem b6C{m:Mo D}{p:Addr}:∀σ H Q,TAc K B n (a0f m) p σ H Q->a9V (TD K B m) p σ H Q:=by
 rintro σ H Q ⟨G,env,zs,env',ys,rl,no,gp,hp,e,hl,k⟩;obtain⟨⟨d,env1⟩,e1,e2⟩:=v8_ e;cases e2;refine⟨G,env,d,env1,rl,e1,fun v G' H' ev r=>?_⟩
 have hp':H' p=some (.lst ys):=ev.keep p _ no nt_lst hp
 refine⟨ys,hp',Qa (by simp at hl;omega) (show 100000≤sizeLine by decide),?_⟩
 exact k σ G' _ [v] (ev.swapAt no (by rw[hp];simp) gp nt_lst (fun φ z=>by rw[hp']at z;cases z)) (fun _ _=>rfl) y3_ (repL_cons r repL_nil)
theorem b6D{g:OZ}{t:Mo Bool}{a:Mo (List D)}{p:Addr}{J:It}{G1:Hp}{σ:St}{env1 envF:Env'}{H1:Hp}{items zs:List D}{ys:List V}{Q:St->Hp->Prop}(rl:Rel K B G1 σ env1 H1)(itd:ItD K J G1 items)(no:¬ Owned σ env1 p)(gp:G1 p=none)
  (hp:H1 p=some (.lst ys))(e3:a0D g t a items env1=some (zs,envF))(hl:ys.length+zs.length≤100000)
  (k:∀σ' G' H' vs,Ev K B G1 σ env1 (upd H1 p (.lst (ys++vs))) G' σ' envF H'->(∀j,j<n->σ'[j]? =σ[j]?)->H' p=some (.lst (ys++vs))->z5_ K G' vs zs->Q σ' H'):
  a6m J (TGm K B n g) (TTm K B t) (TAc K B n a p) σ H1 Q:=by
 have hpS:∀us,(upd H1 p (.lst us)) p=some (.lst us):=fun us=>y3_
 refine⟨fun i m' σ2 H2=>m'=items.length-i/\i≤items.length/\∃G2 env2 vs acc rest,Ev K B G1 σ env1 (upd H1 p (.lst (ys++vs))) G2 σ2 env2 H2/\(∀j,j<n->σ2[j]? =σ[j]?)/\
   z5_ K G2 vs acc/\a0D g t a (items.drop i) env2=some (rest,envF)/\acc++rest=zs,⟨_,rfl,Jg _,G1,env1,[],[],zs,?_,fun _ _=>rfl,repL_nil,by simpa using e3,by simp⟩,?_⟩
 ·rw[Uw,b6B hp];exact .refl rl
 rintro i m' σ2 H2 ⟨rfl,hi,G2,env2,vs,acc,rest,ev2,y2,r2,c2,t2⟩;have hp2:H2 p=some (.lst (ys++vs)):=ev2.keep p _ no nt_lst (hpS _);have lH:Le G1 H2:=ev2.same.trans ev2.rel.sub
 by_cases hlt:i<items.length
 ·refine .inr ⟨itd.go i H2 lH hlt,fun x H3 y=>?_⟩
  have ed:items.drop i=items[i]::items.drop (i+1):=List.drop_eq_getElem_cons hlt
  rw[ed]at c2;obtain⟨env4,e7,e8⟩:=q1_ c2;obtain⟨⟨b,env5⟩,e9,e10⟩:=q1_ e8;have hget:items[i]? =some items[i]:=by simp[hlt]
  have st:∃G3,Ev K B G1 σ env1 (upd H1 p (.lst (ys++vs))) G3 σ2 env2 H3/\Le G2 G3/\Rep K G3 x items[i]:=by
   rcases itd.yld i H2 x H3 items[i] lH y hget with⟨rfl,r⟩|⟨q,o,hno,hq,rfl,r⟩
   ·exact⟨G2,ev2,Le.refl,Rep.mono ev2.same _ r⟩
   ·have gq:=ev2.rel.gnone hq
    refine⟨upd G2 q o,ev2.trans (ev2.rel.alloc hq hno),Le.upd gq,Rep.mono (fun b u z=>?_) _ r⟩
    by_cases hb2:b=q
    ·subst hb2;rw[y3_]at z ⊢;exact z
    ·rw[q4_ hb2]at z ⊢;exact ev2.same b u z
  obtain⟨G3,ev3,l3,r3⟩:=st;refine⟨G3,env2,items[i],env4,ev3.rel,r3,e7,fun σ4 G4 H4 ev4 y4=>?_⟩
  refine⟨G4,env4,b,env5,ev4.rel,e9,fun G5 H5 ev5=>?_⟩
  have ev6:=(ev3.trans ev4).trans ev5
  have r5:z5_ K G5 vs acc:=z5_.mono ((l3.trans ev4.same).trans ev5.same) acc r2
  have y5:∀j,j<n->σ4[j]? =σ[j]?:=fun j hj=>(y4 j hj).trans (y2 j hj)
  have hp5:H5 p=some (.lst (ys++vs)):=ev6.keep p _ no nt_lst (hpS _)
  cases b with
  |true=>
   simp only[Yv]at e10 ⊢;obtain⟨⟨z7,env7⟩,e11,e12⟩:=q1_ e10;obtain⟨⟨rest8,env8⟩,e13,e14⟩:=v8_ e12;cases e14;have lz:zs.length=acc.length+(z7.length+rest8.length):=by rw[←t2];simp
   have no5:¬ Owned σ4 env5 p:=fun z=>(ev6.sub p z).elim no fun q=>by rw[hpS]at q;cases q
   refine⟨G5,env5,z7,env7,ys++vs,ev5.rel,no5,ev6.stay p (by rw[hpS];simp) no gp,hp5,e11,by rw[Zr,r2.length];omega,fun σ6 G6 H6 us ev7 y7 h7 r7=>?_⟩
   have nx:∀φ,H5 p≠some (.ext φ):=fun φ z=>by rw[hp5]at z;cases z
   have sw:=ev6.swapAt (o:=.lst (ys++vs++us)) no (by rw[hpS];simp) gp nt_lst nx
   rw[a8b]at sw;refine⟨items.length-(i+1),by omega,rfl,hlt,G6,env7,vs++us,acc++z7,rest8,?_,fun j hj=>(y7 j hj).trans (y5 j hj),(z5_.mono ev7.same acc r5).append r7,e13,by rw[Xo];exact t2⟩
   rw[←Xo];exact sw.trans ev7
  |false=>
   simp only[Qh,Zv]at e10 ⊢;exact⟨items.length-(i+1),by omega,rfl,hlt,G5,env5,vs,acc,rest,ev6,y5,r5,e10,t2⟩
 ·have ei:i=items.length:=by omega
  subst ei;rw[List.drop_length]at c2;cases c2;rw[Uw]at t2;subst t2;exact .inl ⟨itd.stop _ H2 lH (Qu _),k σ2 G2 H2 vs ev2 y2 hp2 r2⟩
theorem a9X{mi:Mo (List D)}{keep:List Bool}{more:Nat}{g:OZ}{t:Mo Bool}{a:Mo (List D)}(hkl:keep.length=n):
  ∀(σ:St) H Q,σ.length=n->TL K B (a2I mi keep more g t a) σ H Q->a6n (TIm K B mi) keep more (TGm K B n g) (TTm K B t) (TAc K B n a) σ H Q:=by
 rintro σ H Q hσn ⟨G,env,total,env',rl,e,k⟩;obtain⟨⟨items,env1⟩,e1,e2⟩:=q1_ e;obtain⟨⟨total',envF⟩,e3,e4⟩:=q1_ e2;dsimp only at e4;split at e4
 ·rename_i hlen
  obtain⟨env'',e5,e6⟩:=v8_ e4;cases e6;refine⟨G,env,items,env1,rl,e1,fun J G1 H1 ev1 itd p hp=>?_⟩
  have hk:keep.length=σ.length:=by rw[hkl,hσn]
  have gp:G1 p=none:=ev1.rel.gnone hp
  have no1:¬ Owned σ env1 p:=ev1.rel.unowned hp
  have no:¬ Owned (g5_ keep more σ) (g6_ keep more env1) p:=fun z=>no1 (a5O z)
  have relS:∀ys,Rel K B G1 σ env1 (upd H1 p (.lst ys)):=fun ys=>(ev1.rel.allocM hp).rel
  refine b6D (ys:=[]) ((relS []).ext hk) itd no gp y3_ e3 (by simpa using hlen) fun σ2 G2 H2 ys ev2 y2 hp2 r2=>?_
  rw[Xj,a8b]at ev2;rw[Xj]at hp2;have evO:=Ev.out (relS ys) hk ev2 (fun j hj=>y2 j (by omega)) e5
  have evA:=ev1.trans ((ev1.rel.allocM (o:=.lst ys) hp).trans evO)
  have hpn:H p=none:=by
   cases q:H p with
   |none=>rfl
   |some o=>exact absurd hp (ev1.live p (by rw[q];simp))
  have hpS:(upd H1 p (.lst ys)) p=some (.lst ys):=y3_
  refine k p ys G2 H2 evA hpn (fun z=>?_) hp2 (ev2.stay p (by rw[hpS];simp) no gp) r2
  rcases evO.sub p z with q|q
  ·exact no1 q
  ·rw[hpS]at q;cases q
 ·cases e4
end
def EAc(X:Cx)(B:OA)(n:Nat)(elt:Expr)(gens:List Comprehension)(scope:Scope)(pos:Pos)(d:Nat)(p:Addr)(a:Mo (List D)):Prop:=a2c X (a0X elt gens scope pos d (.ref p) X.env) (TAc X.K B n a p)
theorem b6E{X:Cx}{sem:Sem Unit}{t t':a1r}(h:a2c X sem t)(i:∀σ H Q,t' σ H Q->t σ H Q):a2c X sem t':=fun pins s σ H Q I q=>h pins s σ H Q I (i σ H Q q)
section
variable{X:Cx}{B:OA}{N':List Str}{scope scope0:Scope}{keep:List Bool}{more n d:Nat}{tg iter elt:Expr}{ifs:List Expr}{gens gs:List Comprehension}{g:OZ}{t:Mo Bool}{m:Mo D}{mi:Mo (List D)}{a:Mo (List D)}{pos:Pos}{s:Shared}{H:Hp}{fp:List Addr}{p:Addr}
theorem a9Y(hn:gens[d+1]? =none)(he:ED (y5_ X N' scope0 s H fp) B elt m):EAc (y5_ X N' scope0 s H fp) B n elt gens scope pos d p (a0f m):=b6E (b6z (fun _ _ z=>z) hn he) b6C
theorem b6F(ok:CompOk X N' scope keep more)(hc:X.calm=true)(hi:EI X B tg iter mi)(hg:∀s H fp,EG (y5_ X N' scope s H fp) B X.N.length tg g)(ht:∀s H fp,a0p (y5_ X N' scope s H fp) ifs (TTm X.K B t))
  (he:∀s H fp p,EAc (y5_ X N' scope s H fp) B X.N.length elt (⟨tg,iter,ifs,0⟩::gs) scope pos 0 p a)
  (hs:∀x,foldedSetIterable iter X.env x=pure x:=by intro _;rfl):EL X B (.ListComp elt (⟨tg,iter,ifs,0⟩::gs) scope pos) (a2I mi keep more g t a):=by
 intro pins s σ H Q I h;exact b6A (act:=TAc X.K B X.N.length a) ok hc hi hg ht (fun s H fp p=>he s H fp p) hs pins s σ H Q I (a9X ok.klen σ H Q I.len h)
end
def a6o:D->D->Option D
 |.tup ds,.int i=>(ints? ds).map fun ns=>D.int ((ns.countP fun y=>y==i:Nat):Int)
 |_,_=>none
section
variable{X:Cx}{B:OA}{pos:Pos}{o e:Expr}{ma mb:Mo D}
def a9Z(K:Qz):V->List V->Hp->VK->Prop:=fun x vs H Q=>∃(p:Addr) (ns:List Int) (i:Int),x=.ref p/\vs=[.int i]/\SqT K H p (ns.map V.int)/\Q (.int (ns.countP fun y=>y==i:Nat)) H
theorem b0a{i:Int}:∀{ns:List Int}{us:List Value},q0_ (ns.map V.int) us->us.countP (eqU (.int i))=ns.countP fun y=>y==i
 |[],_,h=>by cases h;rfl
 |n::ns,_,h=>by
  cases h with
  |cons r t=>
   obtain⟨tk,rfl⟩:=r;rw[List.countP_cons,List.countP_cons,b0a t];show _+(if(eqV (.int n) (.int i))=true then 1 else 0)=_
   rfl
theorem b6G:MtM X "tuple.count" (a9Z X.K):=by
 intro pins s σ H x vs v us Q I rx rv h;obtain⟨p,ns,i,rfl,rfl,hq,q⟩:=h;cases rx;obtain⟨u,rfl,ru⟩:=rv.one;obtain⟨its,r,pl,hz⟩:=I.tupleD hq;have ru':=ru;obtain⟨tk,rfl⟩:=ru;obtain⟨⟨oc,od,odt,osl⟩,e,hc,hd,n,hdt⟩:=pl;dsimp only at hc hd hdt;subst hc hd hdt;refine Vx PySem.F.slot_tuple_count ⟨_,e,rfl⟩ PySem.F.entry_tuple_count (PySem.F.args_tuple_count_2 _ _) (SeqAt.tuple_countAt p its.toArray n none osl (.int i tk) (eqU (.int i)))
  ⟨e,fun w hw=>a4a (x:=.int i) ru' rfl r (a9p ns) w (by simpa using hw),⟨.int (ns.countP fun y=>y==i:Nat),H,I.tok _,⟨s.toks,?_⟩,q⟩⟩
 rw[show its.toArray.toList=its from rfl,b0a r]
theorem b6H{apos cpos:Pos}(ho:ED X B o ma)(he:ED X B e mb)
  (hbase:attributeBase o "count" X.env (eval o X.env)=eval o X.env:=by rfl)
  (hfew:((backTo cpos (starEach [e] X.env)).all (fun x=>!x.1)&&(backToKw cpos (keywordEach [] X.env)).all (fun x=>x.1.isSome)
   &&decide ([e].length+([]:List Keyword).length+(if([]:List Keyword).isEmpty then 0 else 1)<30))=true:=by rfl)
  (hline:(apos.endLine==cpos.line)=true:=by rfl)(hs:starEach [e] X.env=(false,eval e X.env)::starEach [] X.env:=by rfl)(hplain:(backTo cpos (starEach [] X.env)).any (·.1)=false:=by rfl):
  ED X B (.Call (.Attribute o "count" apos) [e] [] cpos) (z4_ a6o ma mb):=by
 intro pins s σ H Q I h;obtain⟨G,env,d,env',rl,em,k⟩:=h;obtain⟨⟨d1,env1⟩,e1,e2⟩:=q1_ em;obtain⟨⟨d2,env2⟩,e3,e4⟩:=q1_ e2;obtain⟨d3,e5,e6⟩:=v8_ e4;cases e6;dsimp only at e3 e5;unfold a6o at e5;split at e5
 ·rename_i ds b
  obtain⟨ns,e7,e10⟩:=v8_ e5;cases e10;refine wpAny_Call_method_late hbase hfew hline rfl (thn (ho pins s σ H (fun x H1=>∃G1 a xs,x=.ref a/\Ev X.K B G σ env H G1 σ env1 H1/\SqU X.K G1 a xs/\z5_ X.K G1 xs ds) I ⟨G,env,_,env1,rl,e1,fun v G1 H1 ev1 r1=>?_⟩) fun v s1 ⟨x,H1,I1,r1,G1,a,xs,hx,ev1,hq,rp⟩=>?_)
  ·simp only[Rep]at r1
   obtain⟨a,xs,rfl,hq,rp⟩:=r1;exact⟨G1,a,xs,rfl,ev1,hq,rp⟩
  ·subst hx
   cases r1;have hb:=a1U rp e7;subst hb;obtain⟨its,r,pl,hz⟩:=I1.tupleD (ev1.rel.sub.sqT hq);obtain⟨ob,ge,hc,hd,n,hdt⟩:=id pl;refine⟨"tuple","tuple.count",PySem.F.plainAttrs_tuple,PySem.F.slot_tuple_count,PySem.F.type_tuple_count,⟨ob,ge,hc⟩,fun a' z=>?_,?_⟩
   ·cases z;exact⟨ob,ge,hd⟩
   have hA:=(a1F he a3c hs) cpos pins s1 σ H1 (fun vs H2=>a9Z X.K (.ref a) vs H2 Q) I1 ⟨G1,env1,_,env2,ev1.rel,e3,fun v2 G2 H2 ev2 r2=>by
    simp only[Rep]at r2;subst r2;exact⟨a,ns,b,rfl,rfl,(ev2.same.trans ev2.rel.sub).sqT hq,k _ G2 H2 (ev1.trans ev2) (by simp only[Rep])⟩⟩
   rw[hs]at hA ⊢;refine Calls.callWith_builtin (by show(false||(backTo cpos (starEach [] X.env)).any (·.1))=false;rw[hplain]<;>rfl) (Calls.evalArgs_plain ?_)
   exact thn hA fun us s2 ⟨vs,H2,I2,r2,q2⟩=>b6G pins s2 σ H2 (.ref a) vs (.ref a) us Q I2 rfl r2 q2
 ·cases e5
end
section
variable{X:Cx}{B:OA}{pos:Pos}
end
section
variable{prog:Program}{w:World}{A:Around}{E:OE}{s:Shared}{c1 c2:Bool}
end
section
variable{X:Cx}{pins:OX}{σ:St}{A:Around}{R:Result->Shared->Prop}{c1 c2:Bool}{n l1 l2 S:Addr}{xs ys:List V}
end
section
variable{X:Cx}{B:OA}{pos:Pos}{a b:Expr}{ms:Mo (List D)}
end
section
variable{X:Cx}{B:OA}
def b0b(K:Qz)(neg:Bool):R2:=fun x y H Q=>∃G a ds,Le G H/\Rep K G x a/\(Rep K G y (.lst ds)∨Rep K G y (.tup ds))/\shp a=true/\(toP a).depth≤60/\PyData.canLayAll0 (v4_ ds)=true/\
 Q (.bl (if neg then !((v4_ ds).any fun y=>PyData.eqv y (toP a))else(v4_ ds).any fun y=>PyData.eqv y (toP a))) H
theorem b6I(hu:X.A.units+64<cLine):OpR X (compareOp .NotIn) (b0b X.K true):=by
 intro pins s σ H x y v u Q I rx ry h;obtain⟨G,a,ds,l,ra,rb,ha,hd,hb,q⟩:=h;have hl:=Jf ha;obtain⟨as,h1⟩:=reads_of I l a x v hl rx ra;have hroom:X.A.units+1+min (PyData.depthAll (v4_ ds)) (toP a).depth<cLine:=by
  have:min (PyData.depthAll (v4_ ds)) (toP a).depth≤(toP a).depth:=Nat.min_le_right _ _
  omega
 rcases rb with rb|rb
 ·obtain⟨bs,h2⟩:=reads_of I l (.lst ds) y u (by show PyData.canLay0 (.list (v4_ ds))=true;simpa [PyData.canLay0]using hb) ry rb
  exact SeqAt.notIn_list_reads h2 h1 hb hl hroom ⟨.bl _,H,I,rfl,q⟩
 ·obtain⟨bs,h2⟩:=reads_of I l (.tup ds) y u (by show PyData.canLay0 (.tuple (v4_ ds))=true;simpa [PyData.canLay0]using hb) ry rb
  exact SeqAt.notIn_tuple_reads h2 h1 hb hl hroom ⟨.bl _,H,I,rfl,q⟩
def a4B(neg:Bool):D->D->Option D:=fun a b=>(D.items b).bind fun ds=>if shp a&&decide ((toP a).depth≤60)&&PyData.canLayAll0 (v4_ ds)then
 some (.bl (if neg then !((v4_ ds).any fun y=>PyData.eqv y (toP a))else(v4_ ds).any fun y=>PyData.eqv y (toP a)))else none
theorem b6J{neg:Bool}:OpD X B (b0b X.K neg) (a4B neg):=by
 intro G σ env H x y a b d Q rl ra rb e k;obtain⟨ds,e1,e2⟩:=q1_ e;split at e2
 ·rename_i h
  rw[Qd,Qd,Zi]at h;cases e2;refine⟨G,a,ds,rl.sub,ra,?_,h.1.1,h.1.2,h.2,k _ G H (.refl rl) (by simp only[Rep])⟩
  cases b<;>first|(exact absurd (show(none:Option (List D))=some ds from e1) (by simp))|skip
  ·cases e1;exact .inr rb
  ·cases e1;exact .inl rb
 ·cases e2
end
section
variable{prog:Program}{w:World}{A:Around}{E:OE}{s:Shared}
end
section
variable{X:Cx}{B:OA}{pos:Pos}{es:List Expr}{gs:List D->Env'->Option Env'}
end
section
variable{K:Qz}{G:Hp}
def b6K(K:Qz)(H:Hp)(b:Addr)(k:List Int):Prop:=H b=some (.tup ((a4d k).map kV))∨a5r K b (a4d k)
end
section
variable{X:Cx}{pins:OX}{σ:St}{H:Hp}{s:Shared}{a b:Addr}{A:Around}{E:OE}{kvs:List (List Key×V)}
end
section
variable{K:Qz}{G:Hp}
end
section
variable{X:Cx}{B:OA}{pos:Pos}{a b e:Expr}{ma mb:Mo D}
end
section
variable{X:Cx}{B:OA}{pos p:Pos}{e:Expr}{es:List Expr}{ma:Mo D}{ms:Mo (List D)}
end
section
variable{K:Qz}{B:OA}{G G1 G2:Hp}{σ:St}{env env1:Env'}{H H1 H2:Hp}{vs:List V}{ds:List D}{a:Addr}
end
section
variable{X:Cx}{B:OA}{pos p:Pos}{e:Expr}{es:List Expr}{ms:Mo (List D)}{fn:Fn}{k n:Nat}{x:Str}
end
end L2.Mir
namespace L2.Mir
open PySem PySem.Spec PyProof.Rows
section
variable{X:Cx}{B:OA}{pos p:Pos}{e:Expr}{vs:List Expr}{ma:Mo D}{ms:Mo (List D)}
end
section
variable{X:Cx}{N':List Str}{scope:Scope}{keep:List Bool}{more:Nat}{tg iter elt:Expr}{ifs:List Expr}{gs:List Comprehension}{g:TG}{tt:TT}{act:Addr->a1r}{pos:Pos}
theorem b6L{wi:TI}{i:Nat}{y:Str}{py spos:Pos}(ok:CompOk X N' scope keep more)(hc:X.calm=true)(hN:X.N.Nodup)(hy:X.N[i]? =some y)(hyl:X.env.scope.names.lookup y=some .local)
  (hsw:swapsWith (.ListComp elt (⟨tg,iter,ifs,0⟩::gs) scope pos) (some (.Name y py)) spos.line X.env=pure true)
  (hi:PI X tg iter wi)(hg:∀s H fp,PG (y5_ X N' scope s H fp) tg g)(ht:∀s H fp,a0p (y5_ X N' scope s H fp) ifs tt)(he:∀s H fp p,a2c (y5_ X N' scope s H fp) (a0X elt (⟨tg,iter,ifs,0⟩::gs) scope pos 0 (.ref p) (y5_ X N' scope s H fp).env) (act p))
  (hs:∀x,foldedSetIterable iter X.env x=pure x:=by intro _;rfl):PS X (.Assign [.Name y py] (.ListComp elt (⟨tg,iter,ifs,0⟩::gs) scope pos) spos) (a5f (a6n wi keep more g tt act) (a5e i)):=by
 intro pins s σ H D I h;rw[exec_Assign_Name_used _ _ _ _ hsw];refine Qq (Xc (Qq ?_));show wpAny _ X.A (do let _←comprehension (.ListComp elt (⟨tg,iter,ifs,0⟩::gs) scope pos) scope X.env _ (newList []) false (eval iter X.env) (some (assign (.Name y py) X.env))) _ _ s
 refine Qq (Yw (wpAny_comprehension_free (use:=some (assign (.Name y py) X.env)) (Q:=fun _ s'=>SP X pins D .next s') rfl hs ok.clos ok.kind (fun x hx hl=>by have:=ok.uniq x hx;rwa [hl]at this) (thn (hi pins s σ H _ I h) fun v s1 h1=>thn h1 fun itv s2 h2=>?_)) (fun _ s' hq=>Qj (Qj hq)) fun _ _ e=>e)
 obtain⟨it,fp,tn,J,H2,e,I2,T,st2,f2,run⟩:=h2;subst e;refine a9W (Qf:=fun p H'=>D.nx (σ.set i (some (.ref p))) H') (RR:=fun acc C=>compPost (model X.prog X.w) X.A X.xe (some (assign (.Name y py) X.env)) (fun _ s'=>SP X pins D .next s') acc C) ok hc hg ht he I2 T st2 f2 run ?_
 intro p C s' H' m IX qf hn hCL hCc hCn turn;refine wpAny_assign_Name (a8f (v:=.ref p) (u:=.ref p) IX hN hy (.inl hyl) rfl (fun s'' I'' hs''=>?_) (.inr hyl))
 obtain⟨a,hsb,ha⟩:=hs'';have hCa:C≠a:=by
  rcases ha with z|z
  ·rw[z];exact hCL
  ·exact fun q=>hCc y a z q.symm
 exact⟨m,hn.sameBut hsb hCa,fun h' hs'=>⟨_,H',turn _ H' s'' h' I'' hCn hs',qf⟩⟩
end
section
variable{X:Cx}{B:OA}{N':List Str}{scope scope0:Scope}{keep:List Bool}{more n d:Nat}{tg iter elt:Expr}{ifs:List Expr}{gens gs:List Comprehension}{g:OZ}{t:Mo Bool}{m:Mo D}{mi:Mo (List D)}{a:Mo (List D)}{pos:Pos}{s:Shared}{H:Hp}{fp:List Addr}{p:Addr}
theorem b6M{i:Nat}{y:Str}{py spos:Pos}(ok:CompOk X N' scope keep more)(hc:X.calm=true)(hN:X.N.Nodup)(hy:X.N[i]? =some y)(hyl:X.env.scope.names.lookup y=some .local)
  (hsw:swapsWith (.ListComp elt (⟨tg,iter,ifs,0⟩::gs) scope pos) (some (.Name y py)) spos.line X.env=pure true)
  (hi:EI X B tg iter mi)(hg:∀s H fp,EG (y5_ X N' scope s H fp) B X.N.length tg g)(ht:∀s H fp,a0p (y5_ X N' scope s H fp) ifs (TTm X.K B t))
  (he:∀s H fp p,EAc (y5_ X N' scope s H fp) B X.N.length elt (⟨tg,iter,ifs,0⟩::gs) scope pos 0 p a)
  (hs:∀x,foldedSetIterable iter X.env x=pure x:=by intro _;rfl):ES X B (.Assign [.Name y py] (.ListComp elt (⟨tg,iter,ifs,0⟩::gs) scope pos) spos) (a0n i (a2I mi keep more g t a)):=by
 intro pins s σ H D I h;obtain⟨G,env,fl,env',rl,e,k⟩:=h;obtain⟨⟨d,env1⟩,e1,e2⟩:=v8_ e;cases e2;exact b6L (act:=TAc X.K B X.N.length a) ok hc hN hy hyl hsw hi hg ht (fun s H fp p=>he s H fp p) hs pins s σ H D I (a9X ok.klen σ H _ I.len ⟨G,env,d,_,rl,e1,fun a xs G' H' ev ha no h' g' r=>k _ G' H' (ev.setOwn (fun z=>rl.old a z ha) ha no h' g' r)⟩)
end
inductive NamesAt (X:Cx):List Expr->List Nat->Prop
 |nil:NamesAt X [] []
 |cons {x:Str}{p:Pos}{i:Nat}{es:List Expr}{is:List Nat}:PE X (.Name x p) (a0x i)->NamesAt X es is->NamesAt X (.Name x p::es) (i::is)
section
variable{K:Qz}{B:OA}{G:Hp}{σ:St}{env:Env'}{H:Hp}
open Classical in
end
section
variable{X:Cx}{B:OA}{pos p:Pos}{e:Expr}{es:List Expr}{is:List Nat}{fn:Fn}{k n:Nat}{x:Str}
end
end L2.Mir
namespace L2.Mir
open PySem PyProof PyProof.Rows L2
variable{X:Cx}{B:OA}
def j5_:OI->OI->Bool
 |[],[]=>false
 |[],_::_=>true
 |_::_,[]=>false
 |x::xs,y::ys=>if x=y then j5_ xs ys else HT.lexLt x y
theorem a4C(x y:List Int)(xs ys:OI):j5_ (x::xs) (y::ys)=if x=y then j5_ xs ys else HT.lexLt x y:=rfl
inductive RowsAre (h:Heap):List Value->OI->Prop
 |nil:RowsAre h [] []
 |cons {a:Addr}{its:Array Value}{k:List Int}{vs:List Value}{ks:OI}(t:IsTup h a its) (i:IntsAre its.toList k) (r:RowsAre h vs ks):RowsAre h (.ref a::vs) (k::ks)
theorem RowsAre.length{h:Heap}{vs:List Value}{ks:OI}(r:RowsAre h vs ks):vs.length=ks.length:=by
 induction r with
 |nil=>rfl
 |cons _ _ _ ih=>simp[ih]
theorem a6p{h:Heap}:∀{vs:List Value}{ns:List Int},IntsAre vs ns->∃as,ReadsAll h vs (ns.map PyData.int) as
 |_,_,.nil=>⟨_,.nil⟩
 |_,_,.cons n t r=>by
  obtain⟨as,q⟩:=a6p (h:=h) r;exact⟨_,.cons (.int n t) q⟩
theorem a2J:∀ns:List Int,PyData.canLayAll0 (ns.map PyData.int)=true
 |[]=>rfl
 |n::ns=>by simp[PyData.canLayAll0,PyData.canLay0,a2J ns]
theorem b0c:∀ns:List Int,PyData.depthAll (ns.map PyData.int)≤1
 |[]=>by simp[PyData.depthAll]
 |n::ns=>by
  have:=b0c ns;simp only[Zz,PyData.depthAll,PyData.depth]
  omega
theorem b0d:∀l k:List Int,PyData.eqvAll (l.map PyData.int) (k.map PyData.int)=decide (l=k)
 |[],[]=>by simp[PyData.eqvAll]
 |[],_::_=>by simp[PyData.eqvAll]
 |_::_,[]=>by simp[PyData.eqvAll]
 |a::l,b::k=>by
  simp only[Zz,PyData.eqvAll,b0d l k,PyData.eqv]
  by_cases h:a=b<;>simp[h]
theorem b6N{A:Around}{s:Shared}{a b:Addr}{xs ys:Array Value}{l k:List Int}(ta:IsTup s.heap a xs)(ia:IntsAre xs.toList l)(tb:IsTup s.heap b ys)(ib:IntsAre ys.toList k)(hu:A.units+8<cLine):
  SeqAt.EqAt A s (.ref a) (.ref b) (decide (l=k)):=by
 obtain⟨o,h1,h2,n,h3⟩:=ta;obtain⟨o',g1,g2,n',g3⟩:=tb;obtain⟨as,ra⟩:=a6p (h:=s.heap) ia;obtain⟨bs,rb⟩:=a6p (h:=s.heap) ib;have c1:(PyData.tuple (l.map .int)).canLay0=true:=by simpa [PyData.canLay0]using a2J l
 have c2:(PyData.tuple (k.map .int)).canLay0=true:=by simpa [PyData.canLay0]using a2J k
 have d1:(PyData.tuple (l.map .int)).depth≤2:=by
  have:=b0c l;simp only[PyData.depth];omega
 have:=SeqAt.eqAt_reads (.tuple (l.map .int)) (.tuple (k.map .int)) A s (.ref a) (.ref b) _ _ (.tuple h1 h2 h3 ra) (.tuple g1 g2 g3 rb) c1 c2 (by
  have:min (PyData.tuple (l.map .int)).depth (PyData.tuple (k.map .int)).depth≤(PyData.tuple (l.map .int)).depth:=Nat.min_le_left _ _
  omega)
 have e:PyData.eqv (.tuple (l.map .int)) (.tuple (k.map .int))=decide (l=k):=by
  rw[←b0d l k];simp[PyData.eqv]
 rw[e]at this;exact this
section
open PySem.SeqAt
open PySem.AutoSeq1 (wpAny_loadPart')
open PySem.MeetsSeq PySem.MeetsSeq2 PySem.MeetsSeq3
theorem b6O(l b:Addr)(items items2:Array Value)(n n2:Nat)(dd dd2:Option Addr)(sl sl2:Array (Option Value))(ns ms:OI):
  Meets (Builtin.«tuple.__lt__» ⟨[.ref l,.ref b],[]⟩)
   (fun A R s=>A.units+16<cLine/\RowsAre s.heap items.toList ns/\RowsAre s.heap items2.toList ms/\s.heap.get? l=some {cls:=.type "tuple",dict:=dd,data:=.seq items n,slots:=sl}/\s.heap.get? b=some {cls:=.type "tuple",dict:=dd2,data:=.seq items2 n2,slots:=sl2}/\
    R (.ok (.ret (.bool (j5_ ns ms)))) s):=
 .of_wp fun prog w A R s h=>by
  obtain⟨hp,g,d,tk,os⟩:=s;obtain⟨hu,hi,hj,hl,hb,h⟩:=h;have f2:=AutoSeq1.sub_tuple_tuple;have z1:items.size=ns.length:=by rw[←hi.length];simp
  have z2:items2.size=ms.length:=by rw[←hj.length];simp
  wp_walk using Ze hl,Ze hb,Yu _ (fun rest b s'=>b.1=none/\s'=⟨hp,g,d,tk,os⟩/\∃(vs ws:List Value) (ns' ms':OI),rest=vs.zip ws/\
   RowsAre hp vs ns'/\RowsAre hp ws ms'/\ns'.length+items2.size=ms'.length+items.size/\R (.ok (.ret (.bool (j5_ ns' ms')))) ⟨hp,g,d,tk,os⟩) _
  case turn=>
   rintro⟨y,x⟩ rest b s' ⟨hb',rfl,vs,ws,ns',ms',hz,hvi,hwi,hlen,hR⟩;cases hvi with
   |nil=>rw[List.zip_nil_left]at hz;cases hz
   |@cons a its k vs ks ta ia hvi'=>
    cases hwi with
    |nil=>rw[List.zip_nil_right]at hz;cases hz
    |@cons a' its' k' ws ks' tb ib hwi'=>
     rw[Up]at hz;injection hz with hyx hrest
     injection hyx with hy hx
     subst hy hx;rw[a4C]at hR;simp only[Zj]at hlen;have he:=b6N (A:=A.in1) (s:=⟨hp,g,d,tk,os⟩) ta ia tb ib (by show A.units+1+8<cLine;omega)
     refine Qq (he prog w _ _ ?_)
     by_cases e:k=k'
     ·rw[Qc e]at hR
      rw[Zt e]
      wp_walk
      exact⟨rfl,rfl,_,_,_,_,hrest,hvi',hwi',by omega,hR⟩
     ·rw[Qp e]at hR
      rw[Qe e];have hri:∀(E:OE) (Q:OE),Q (.bool (HT.lexLt k k')) ⟨hp,g,d,tk,os⟩->wpAny (model prog w) A.in1 (richCompare .Lt (.ref a) (.ref a')) Q E ⟨hp,g,d,tk,os⟩:=fun E Q hq=>
       (HT.lt_tupInts ta tb ia ib (by show A.units+1<cLine;omega) hq:wpAny (model prog w) A.in1 (compareOp .Lt (.ref a) (.ref a')) Q E ⟨hp,g,d,tk,os⟩)
      wp_walk using hri
      exact⟨_,rfl,by simpa using hR⟩
  case fin=>
   rintro⟨b1,b2⟩ s' ⟨hb',rfl,vs,ws,ns',ms',hz,hvi,hwi,hlen,hR⟩;simp only at hb';subst hb';have hv:j5_ ns' ms'=decide (items.size<items2.size):=by
    cases hvi with
    |nil=>
     cases hwi with
     |nil=>
      simp only[Ub]at hlen;show false=_;exact(Qe (by omega)).symm
     |cons _ _ hw=>
      simp only[Ub,Zj]at hlen;show true=_;exact(Zt (by omega)).symm
    |cons _ _ hv=>
     cases hwi with
     |nil=>
      simp only[Ub,Zj]at hlen;show false=_;exact(Qe (by omega)).symm
     |cons _ _ hw=>
      rw[Up]at hz;cases hz
   rw[hv]at hR
   wp_walk
   exact⟨_,rfl,by simpa [Builtin.Tuple.tupleCompareSizes]using hR⟩
  case h=>
   exact⟨rfl,rfl,items.toList,items2.toList,ns,ms,rfl,hi,hj,by omega,h⟩
end
section
variable{prog:Program}{w:World}{A:Around}{E:OE}{s:Shared}
end
def rows?:List D->Option (OI)
 |[]=>some []
 |.tup x::r=>(ints? x).bind fun a=>(rows? r).map fun l=>a::l
 |_::_=>none
section
variable{X:Cx}{B:OA}{pins:OX}{σ:St}{G H:Hp}{s:Shared}
theorem a6q(I:Inv X pins σ H s)(l:Le G H):∀{ds:List D}{xs:List V}{us:List Value}{ks:OI},q0_ xs us->z5_ X.K G xs ds->rows? ds=some ks->RowsAre s.heap us ks
 |[],_,_,_,v,r,e=>by
  simp only[z5_]at r;subst r;cases v;cases e;exact .nil
 |d::ds,_,_,ks,v,r,e=>by
  simp only[z5_]at r;obtain⟨x,t,rfl,q,r⟩:=r;cases d<;>first|(exact absurd (show(none:Option (OI))=some ks from e) (by simp))|skip
  rename_i es;obtain⟨k,e1,e2⟩:=q1_ (show(ints? es).bind _=some ks from e)
  obtain⟨l',e3,e4⟩:=v8_ e2;subst e4;simp only[Rep]at q;obtain⟨a,ys,rfl,hq,rp⟩:=q;have hy:=a1U rp e1;subst hy;cases v with
  |cons v1 v2=>
   cases v1;obtain⟨its,rv,p1,_⟩:=I.tuple (l.sqT hq);exact .cons p1 (by simpa using a3Y rv) (a6q I l v2 r e3)
end
section
variable{X:Cx}{B:OA}{e st:Expr}{ma:Mo D}{pos p2:Pos}
end
section
variable{prog:Program}{w:World}{A:Around}{E:OE}{s:Shared}
variable{h₀:Heap}{L kS D:Addr}{m:OU}{news0:OX}{e1:Nat}{Fin:List Value->Nat->Shared->Prop}
end
section
variable{X:Cx}{pins:OX}{σ:St}{H:Hp}{s:Shared}
end
section
variable{X:Cx}{B:OA}{e:Expr}{ma:Mo D}{p p1 kp1 kp2 pos:Pos}{j:Nat}{p2:Pos}
end
section
open PySem.SeqAt
open PySem.AutoSeq1 (wpAny_loadPart')
open PySem.MeetsSeq PySem.MeetsSeq2 PySem.MeetsSeq3
end
section
variable{X:Cx}{B:OA}{pos:Pos}{o e:Expr}{ma mb:Mo D}
end
abbrev Ro:=Option (OI)
abbrev MoN(α:Type):=Env'->Ro->Option (α×Env'×Ro)
def b6P(H0 G:Hp)(σ:St)(env:Env')(H:Hp)(bs:List Addr)(rows:OI):Prop:=
 Paired (fun b row=>H b=some (.lst (row.map V.int))) bs rows/\∀b∈bs,H0 b=none/\G b=none/\ ¬ Owned σ env b
def Nst(H0 G:Hp)(σ:St)(env:Env')(H:Hp)(r:Nat)(rows:OI):Prop:=
 ∃a bs,σ[r]? =some (some (V.ref a))/\H a=some (.lst (bs.map V.ref))/\(a::bs).Nodup/\b6P H0 G σ env H bs rows/\H0 a=none/\G a=none/\ ¬ Owned σ env a
def NO(H0 G:Hp)(σ:St)(env:Env')(H:Hp)(r:Nat):Ro->Prop
 |none=>True
 |some rows=>Nst H0 G σ env H r rows
section
variable{K:Qz}{B:OA}{H0 G G':Hp}{σ σ':St}{env env':Env'}{H H':Hp}{r:Nat}
end
section
variable(K:Qz)(B:OA)(r:Nat)
def b6Q(G0:Hp)(σ0:St)(env0:Env')(H0 G:Hp)(env':Env')(q':Ro)(D:Ends):Fl->Prop
 |.nx=>∀σ' G' H',Ev K B G0 σ0 env0 H0 G' σ' env' H'->Le G G'->env'[r]? =some .nil->NO H0 G' σ' env' H' r q'->D.nx σ' H'
 |fl=>Post K B G0 σ0 env0 H0 env' D fl
def TN(m:MoN Fl):TS:=fun D σ H=>∃G0 σ0 env0 H0 G env q fl env' q',Ev K B G0 σ0 env0 H0 G σ env H/\env[r]? =some .nil/\NO H0 G σ env H r q/\m env q=some (fl,env',q')/\b6Q K B r G0 σ0 env0 H0 G env' q' D fl
end
section
variable{X:Cx}{B:OA}{r:Nat}{e a b:Expr}{pos:Pos}{st:Stmt}{rest:List Stmt}
end
section
variable{X:Cx}{B:OA}{r:Nat}{e a b tg:Expr}{pos:Pos}{st:Stmt}{rest:List Stmt}
end
mutual
def D.lf:D->Bool
 |.non=>true
 |.bl _=>true
 |.int _=>true
 |.str _=>true
 |.tup ds=>lfL ds
 |_=>false
def lfL:List D->Bool
 |[]=>true
 |d::ds=>d.lf&&lfL ds
end
section
variable{K:Qz}{G G':Hp}
mutual
theorem rep_lf(h:∀b xs,G b=some (.tup xs)->G' b=some (.tup xs)):∀(d:D) {v:V},d.lf=true->Rep K G v d->Rep K G' v d
 |.non,v,_,r=>by simpa only[Rep]using r
 |.bl b,v,_,r=>by simpa only[Rep]using r
 |.int i,v,_,r=>by simpa only[Rep]using r
 |.str x,v,_,r=>by simpa only[Rep]using r
 |.tup ds,v,l,r=>by
  simp only[Rep]at r ⊢;obtain⟨a,xs,e,q,t⟩:=r;exact⟨a,xs,e,q.imp (fun e=>h _ _ e) id,repL_lf h ds (by simpa only[D.lf]using l) t⟩
 |.lst ds,v,l,r=>by simp[D.lf]at l
 |.emp,v,l,r=>by simp[D.lf]at l
 |.obj o,v,l,r=>by simp[D.lf]at l
 |.dct _ _,v,l,r=>by simp[D.lf]at l
theorem repL_lf(h:∀b xs,G b=some (.tup xs)->G' b=some (.tup xs)):∀(ds:List D) {xs:List V},lfL ds=true->z5_ K G xs ds->z5_ K G' xs ds
 |[],_,_,r=>by simpa only[z5_]using r
 |d::ds,_,l,r=>by
  simp only[z5_]at r ⊢;obtain⟨x,t,e,q,u⟩:=r;have l':d.lf=true/\lfL ds=true:=by simpa only[lfL,Qd]using l
  exact⟨x,t,e,rep_lf h d l'.1 q,repL_lf h ds l'.2 u⟩
end
end
section
variable{K:Qz}{B:OA}{H0 G:Hp}{σ:St}{env:Env'}{H:Hp}
end
section
variable{X:Cx}{B:OA}{r:Nat}{pos p px:Pos}{fn:Fn}{k n:Nat}{x y:Str}
end
section
variable{K:Qz}{B:OA}{G G1:Hp}{σ σ1:St}{env env1:Env'}{H H1:Hp}
end
section
variable{X:Cx}{B:OA}{r:Nat}{N':List Str}{scope:Scope}{keep:List Bool}{more:Nat}{tg iter elt:Expr}{g:OZ}{ml mi:Mo (List D)}{pos:Pos}
end
section
variable{X:Cx}{B:OA}{e:Expr}{ma:Mo D}{pos p2:Pos}
end
open PySem.W Builtin Builtin.ObjectAttr Builtin.Getset_descriptor PySem.Calls
theorem fl1:typeLookup (.type "function") "__getattribute__"=pure (some (.builtin "object.__getattribute__")):=by rfl
theorem fl2(self:Value):bindSpecial (Value.builtin "object.__getattribute__") self=pure (Value.builtin "object.__getattribute__",[self]):=by rfl
theorem fl3:typeLookup (.type "function") "__class__"=pure (some (.builtin "object.__class__")):=by rfl
theorem fl4:isSubtype (.type "function") (.type "object")=pure true:=by rfl
theorem fl5:getOf (some (.builtin "object.__class__"))=pure (some (.builtin "getset_descriptor.__get__")):=by rfl
theorem fl6:dataDescriptor? (some (.builtin "object.__class__")) (some (.builtin "getset_descriptor.__get__"))=pure (some (.builtin "getset_descriptor.__get__",.builtin "object.__class__")):=by rfl
section
variable{prog:Program}{w:World}{A:Around}{E:OE}{x:Addr}{h:Heap}{g:Array GenState}{d:Drawn}{t:Nat}{os:OsState}
theorem b6R{R:Result->Shared->Prop}{tp:Value}(I:KitAt x "function" h)
  (hq:R (.ok (.ret (.type "function"))) ⟨h,g,d,t,os⟩):codeAny (model prog w) A (.call (.builtin "getset_descriptor.__get__") ⟨[.builtin "object.__class__",.ref x,tp],[]⟩) R ⟨h,g,d,t,os⟩:=by
 have L0:=kitAt_ty (M:=model prog w) (T:="function") _ I
 refine Xw KF.slot_gs.plain KF.entry_gs (KF.slot_gs.check _ _ _ _ _ _ _ _ KF.type_class (KF.args_gs _ _ _) ?_);unfold Builtin.«getset_descriptor.__get__» descrGet;rw[dga_obj];refine Qq (Qj ?_);unfold descrGetter descrCheckInstance descrNameAndClass isInstance;simp only[KF.owner_class]
 repeat (first|with_reducible refine L0.at ?_|wp_step)
 dsimp only;rw[fl4]
 repeat (first|with_reducible refine L0.at ?_|wp_step)
 refine⟨Code.quiet_builtin _ (by decide+kernel),Ji KF.entry_class ?_⟩
 unfold Builtin.«object.__class__» shownTypeOf
 repeat (first|with_reducible refine L0.at ?_|wp_step)
 exact hq
theorem b6S{tk:Tok}{Q:Fin->Shared->Prop}(I:KitAt x "function" h)(hq:Q (.done (.ret (.type "function"))) ⟨h,g,d,t,os⟩):
  wpAny (model prog w) A (Builtin.«object.__getattribute__» ⟨[.ref x,.str "__class__" tk],[]⟩) Q E ⟨h,g,d,t,os⟩:=by
 have L0:=kitAt_ty (M:=model prog w) (T:="function") _ I
 unfold Builtin.«object.__getattribute__»
 repeat (any_goals (first|assumption|with_reducible refine L0.at ?_|wp_step))
 rw[fl3];refine Qj ?_
 rw[fl5];refine Qq (Qj ?_);rw[fl6]
 repeat (any_goals (first|assumption|with_reducible refine L0.at ?_|wp_step))
 refine b6R I ?_
 repeat (any_goals (first|assumption|wp_step))
theorem b6T{M:Model}{nameV:Value}{Q:Unit->Shared->Prop}(I:KitAt x "function" h)(hq:Q () ⟨h,g,d,t,os⟩):
  wpAny M A (checkBuiltinCall "object.__getattribute__" ⟨[.ref x,nameV],[]⟩) Q E ⟨h,g,d,t,os⟩:=by
 have hk:builtinKind "object.__getattribute__"=some .slot:=by decide+kernel
 have hsplit:splitId "object.__getattribute__"=some ("object","__getattribute__"):=by decide+kernel
 have L0:=kitAt_ty (M:=M) (T:="function") _ I
 simp only[checkBuiltinCall,hk,hsplit];refine Qq ?_
 unfold isInstance
 repeat (first|with_reducible refine L0.at ?_|wp_step)
 rw[fl4]
 repeat (first|with_reducible refine L0.at ?_|wp_step)
 exact hq
theorem b6U{Q:Option Value->Shared->Prop}{s:Shared}(I:KitAt x "function" s.heap)(k:Q (some (.type "function")) ⟨s.heap,s.gens,s.drawn,s.toks+1,s.os⟩):
  wpAny (model prog w) A (getAttr? (.ref x) "__class__") Q E s:=by
 obtain⟨h,g,d,t,os⟩:=s;have L0:=kitAt_ty (M:=model prog w) (T:="function") _ I;unfold getAttr? getAttrBy?
 repeat (any_goals (first|assumption|with_reducible refine L0.at ?_|wp_step))
 rw[fl1]
 repeat (any_goals (first|assumption|with_reducible refine L0.at ?_|wp_step))
 rw[fl2]
 repeat (any_goals (first|assumption|with_reducible refine L0.at ?_|wp_step))
 refine Xw (by decide+kernel) F.entry_object_getattribute (b6T I (b6S I ?_))
 repeat (any_goals (first|assumption|wp_step))
end
theorem b6V{K:Frag}{x:Addr}{o:Obj}(hl:List.lookup x K=some o)(hc:o.cls=.type "function"):KitX K (.ref x) (.type "function") (fun _=>True):=by
 have q:KitX K (.ref x) (.type "function") (KitAt x "function"):=kitx_of (fun M h p=>kitAt_ty M h p) (fun{prog w A E Q s} p k=>b6U p k)
 exact⟨fun M h X _=>q.ty M h X (kitAt_K X hl hc),fun M h X _=>q.it M h X (kitAt_K X hl hc),q.ne,fun{prog w A E Q s} X _ k=>q.ca X (kitAt_K X hl hc) k⟩
def b0e(K:Qz)(f:Addr):Bool:=match List.lookup f K with
 |some o=>o.cls==.type "function"
 |none=>false
theorem a1s{K:Qz}{f:Addr}(h:b0e K f=true):PySem.W.KitX K (.ref f) (.type "function") (fun _=>True):=by
 unfold b0e at h;split at h
 ·rename_i o e
  exact b6V e (Ux h)
 ·cases h
def Nsd(K:Qz)(mg:OU)(x:Str):Prop:=∃f,PySem.W.nsIn K mainGlobals x=some (some (.ref f))/\mg x=some (.ref f)/\PySem.W.KitX K (.ref f) (.type "function") (fun _=>True)
section
variable{X:Cx}{B:OA}{e:Expr}{es:List Expr}{p pos:Pos}{y:Str}{i k n:Nat}{as:Mo (List Ar)}
theorem b6W{CX}{f:Addr}{fd:FuncData}{ps:List Str}{sp:Sp}{ds:List Value}{dvs:List V}{E:XK}{t:TA}(F:FnOk X.prog X.w X.K X.mg X.base CX k f fd ps sp)(hr:Room k X.A)(hv:PE X (.Name y p) (a0x i))(hk:PySem.W.keepIn X.K (.ref f)=true)(hb:u4_ X.K fd ps ds)(hd:q0_ dvs ds)(hx:a2o CX X E)
  (ha:PA X (e::es) t)(he:starEach (e::es) X.env=(false,eval e X.env)::starEach es X.env:=by rfl)(hpl:(backTo pos (starEach es X.env)).any (·.1)=false:=by rfl):
  PE X (.Call (.Name y p) (e::es) [] pos) (fun σ H Q=>σ[i]? =some (some (.ref f))/\a3W sp dvs E t σ H Q):=by
 intro pins s σ H Q I ⟨h0,h⟩;refine Uy (thn (hv pins s σ H (fun v H'=>v=.ref f/\H'=H) I ⟨_,h0,rfl,rfl⟩) fun u s0 ⟨v,H',I',r',q'⟩=>?_)
 obtain⟨rfl,rfl⟩:=q';cases r';refine PySem.W.callWith_K (h₀:=X.base) I'.ok.mod.kin hk (thn (ha pos pins s0 σ _ _ I' h) fun us s1 ⟨vs,H1,I1,r,q⟩=>⟨I1.kIn,?_⟩) he hpl
 exact a5l F hr hb hd hx I1 r q
def a4D(X:Cx)(n:Nat)(l:List (Str×Fn)):Prop:=∀nm fn,l.lookup nm=some fn->∃k,Room k X.A/\Def X.prog X.w X.K X.mg X.base nm k n fn/\Nsd X.K X.mg nm
theorem b6X:a4D X n []:=fun nm fn h=>by cases h
theorem a1t{x:Str}{fn:Fn}{l:List (Str×Fn)}(hr:Room k X.A)(d:Def X.prog X.w X.K X.mg X.base x k n fn)(hn:Nsd X.K X.mg x)(h:a4D X n l):a4D X n ((x,fn)::l):=fun nm fn' e=>by
 rw[List.lookup_cons]at e;split at e
 ·rename_i hb
  cases e;have:nm=x:=Ux hb;subst this;exact⟨k,hr,d,hn⟩
 ·exact h nm fn' e
def mCV(n i:Nat)(l:List (Str×Fn))(as:Mo (List Ar)):Mo D:=fun env=>match env[i]? with
 |some (.dat (.obj (.fn nm)))=>(l.lookup nm).bind fun fn=>mCD n fn as env
 |_=>none
theorem b6Y{G:Hp}{v:V}{nm:Str}{f':Addr}(hn:Nsd X.K X.mg nm)(hm:X.mg nm=some (.ref f'))(q:Rep X.K G v (.obj (.fn nm))):v=.ref f':=by
 obtain⟨f0,h1,h2,_⟩:=hn;simp only[Rep]at q;obtain⟨f,rfl,h3,_⟩:=q;rw[h1]at h3;rw[h2]at hm;cases h3;cases hm
 rfl
theorem b6Z{l:List (Str×Fn)}(ht:a4D X n l)(hv:PE X (.Name y p) (a0x i))(ha:EAr X B (e::es) as)(he:starEach (e::es) X.env=(false,eval e X.env)::starEach es X.env:=by rfl)(hpl:(backTo pos (starEach es X.env)).any (·.1)=false:=by rfl):
  ED X B (.Call (.Name y p) (e::es) [] pos) (mCV n i l as):=by
 intro pins s σ H Q I ⟨G,env,d,env',rl,em,kk⟩;unfold mCV at em;split at em
 case h_2=>cases em
 rename_i nm hen;obtain⟨fn,e1,e2⟩:=q1_ em;obtain⟨k,hr,D,hn⟩:=ht nm fn e1;obtain⟨v,q1,q2⟩:=rl.dat i _ hen;obtain⟨f',fd,ps,F,rfl,hm,hk,hb⟩:=D.ex;have:=b6Y hn hm q2;subst this;obtain⟨⟨r,env1⟩,e3,e4⟩:=q1_ e2;refine b6W F hr hv hk hb .nil a4c ha he hpl pins s σ H Q I ⟨q1,?_⟩;cases r with
 |d d'=>cases e4;exact a4r rl e3 kk
 |l ds=>cases e4
end
section
variable{prog:Program}{w:World}{A:Around}{E:OE}{s:Shared}
end
inductive PairsAt (K:Qz) (G:Hp):List V->List (List Int×V)->Prop
 |nil:PairsAt K G [] []
 |cons {q b:Addr}{k:List Int}{v:V}{xs:List V}{ps:List (List Int×V)}:SqU K G q [.ref b,v]->b6K K G b k->PairsAt K G xs ps->PairsAt K G (.ref q::xs) ((k,v)::ps)
section
variable{X:Cx}{pins:OX}{σ:St}{A:Around}{R:Result->Shared->Prop}{l it d:Addr}{xs:List V}{G:Hp}
end
section
variable{X:Cx}{B:OA}
end
end L2.Mir
namespace L2.Mir
open PySem PySem.Spec PyProof.Rows PySem.W
structure DefT(P:Program)(w:World)(K:Frag)(mg:OU)(base:Heap)(x:Str)(k n:Nat)(fn:Fn)(ts:List Addr):Prop where
 ex:∃(f:Addr) (fd:FuncData) (ps:List Str),FnOk P w K mg base CX0 k f fd ps (SpT K ts n fn)/\ps.length=n/\mg x=some (.ref f)/\keepIn K (.ref f)=true/\u4_ K fd ps []
section
variable{X:Cx}{B:OA}{pos p:Pos}{e:Expr}{es:List Expr}{as:Mo (List Ar)}{fn:Fn}{k n:Nat}{x:Str}{ts:List Addr}{f:Addr}{fd:FuncData}{ps:List Str}{t:TA}{E:XK}
end
theorem x5_{N P:List Str}{sc:Scope}(a:sc.kind=.function:=by rfl)(b:sc.isCoroutine=false:=by rfl)(c:sc.isGenerator=false:=by rfl)(d:N.Nodup:=by decide+kernel)(e:N.take P.length=P:=by rfl)(f:∀x∈P,sc.names.lookup x=some .local∨sc.names.lookup x=some .cell:=by decide+kernel)(g:∀y∈sc.names,y.2≠.free:=by decide+kernel):FnScope N P sc:=⟨a,b,c,d,e,f,g⟩
theorem us1{α:Type}{M:List α->Prop}(h:∀a,M [a]):∀us:List α,us.length=1->M us
 |[a],_=>h a
theorem us2{α:Type}{M:List α->Prop}(h:∀a b,M [a,b]):∀us:List α,us.length=2->M us
 |[a,b],_=>h a b
theorem us3{α:Type}{M:List α->Prop}(h:∀a b c,M [a,b,c]):∀us:List α,us.length=3->M us
 |[a,b,c],_=>h a b c
section
variable{X:Cx}{B:OA}{pos:Pos}{o e:Expr}{ma mb:Mo D}
end
section
variable{X:Cx}{B:OA}{pos:Pos}{o e:Expr}{ma mb:Mo D}
end
section
variable{X:Cx}{B:OA}{tg e:Expr}{ma:Mo D}
end
section
variable{X:Cx}{B:OA}{pos:Pos}{e e2:Expr}{ma mb:Mo D}
end
def lkK:List (Key×Key)->Key->Option Key
 |[],_=>none
 |p::l,k=>if p.1=k then some p.2 else lkK l k
structure DkG(P:Program)(w:World)(K:Qz)(mg:OU)(x:Str)(kvs:List (Key×Key)):Prop where
 ex:∃a,mg x=some (.ref a)/\(a==sysModules)=false/\∀h:Heap,K.In h->(∃o,h.get? a=some o/\o.cls=.type "dict")/\∃g:Key->Option Value,h.MapOf (k4_ P w) a g/\∀k,a3R ((lkK kvs k).map kV) (g k)
def a6r:D->Option Key
 |.int i=>some (.inl i)
 |.str x=>some (.inr x)
 |_=>none
theorem b0f{K:Qz}{G:Hp}{v:V}{d:D}{k:Key}(r:Rep K G v d)(h:a6r d=some k):v=kV k:=by
 cases d<;>first|(exact absurd (show(none:Option Key)=some k from h) (by simp))|skip
 ·cases h
  simp only[Rep]at r;exact r
 ·cases h
  simp only[Rep]at r;exact r.1
section
variable{X:Cx}{B:OA}{pos:Pos}{a b:Expr}{ma mb:Mo D}{kvs:List (Key×Key)}
end
section
variable{X:Cx}{B:OA}{pos:Pos}{k1 k2 k3 v1 v2 v3:Expr}{a1 a2 a3 b1 b2 b3:Key}
end
inductive Ents (P:Program) (w:World):List DictEntry->List (Key×Key)->Prop
 |nil:Ents P w [] []
 |cons {e:DictEntry}{p:Key×Key}{es:List DictEntry}{kvs:List (Key×Key)}:q7_ (kV p.1) e.key->e.hash=(k4_ P w).hash p.1->q7_ (kV p.2) e.val->Ents P w es kvs->Ents P w (e::es) (p::kvs)
section
variable{X:Cx}{B:OA}{a b e st:Expr}{ma mb:Mo D}{pos p2:Pos}
end
def lkF:List (Str×Str)->Key->Option Str
 |[],_=>none
 |p::l,k=>if(.inr p.1:Key)=k then some p.2 else lkF l k
def b0g(mg:OU):Option Str->Option Value->Prop
 |none,o=>o=none
 |some n,o=>∃f,mg n=some (.ref f)/\o=some (.ref f)
structure DfG(P:Program)(w:World)(K:Qz)(mg:OU)(x:Str)(kvs:List (Str×Str)):Prop where
 ex:∃a,mg x=some (.ref a)/\(a==sysModules)=false/\∀h:Heap,K.In h->(∃o,h.get? a=some o/\o.cls=.type "dict")/\∃g:Key->Option Value,h.MapOf (k4_ P w) a g/\∀k,b0g mg (lkF kvs k) (g k)
 wk:(kvs.map fun p=>(.inr p.1:Key)).Nodup->∃a vs ep,mg x=some (.ref a)/\(a==sysModules)=false/\vs.map (·.1)=kvs.map (fun p=>(.inr p.1:Key))/\∀h:Heap,K.In h->h.DictAt (k4_ P w) a vs ep
theorem b0h:∀{kvs:List (Str×Str)}{k:Key}{n:Str},lkF kvs k=some n->∃p∈kvs,p.2=n
 |[],_,_,h=>by cases h
 |p::l,k,n,h=>by
  unfold lkF at h;split at h
  ·cases h
   exact⟨p,Qo ..,rfl⟩
  ·obtain⟨q,hq,e⟩:=b0h h
   exact⟨q,Qt _ hq,e⟩
def b0i(kvs:List (Str×Str))(mb:Mo D):Mo D:=fun env=>(mb env).bind fun p=>(a6r p.1).bind fun k=>(lkF kvs k).map fun n=>(.obj (.fn n),p.2)
def a6s(kvs:List (Str×Str))(ma:Mo D):Mo D:=fun env=>(ma env).bind fun p=>(a6r p.1).map fun k=>(.bl (lkF kvs k).isSome,p.2)
section
variable{X:Cx}{B:OA}{pos:Pos}{a b:Expr}{ma mb:Mo D}{kvs:List (Str×Str)}
theorem b7a{K:Qz}{mg:OU}:∀q∈([]:List (Str×Str)),Nsd K mg q.2:=fun q hq=>by cases hq
theorem a1u{K:Qz}{mg:OU}{k n:Str}{l:List (Str×Str)}(h:Nsd K mg n)(t:∀q∈l,Nsd K mg q.2):∀q∈(k,n)::l,Nsd K mg q.2:=fun q hq=>by
 rcases Qg.mp hq with rfl|hq
 ·exact h
 ·exact t q hq
theorem b7b{x:Str}{p:Pos}(hk:DfG X.prog X.w X.K X.mg x kvs)(hn:∀q∈kvs,Nsd X.K X.mg q.2)(hg:Gl X x)(hb:ED X B b mb)(hs:a3Z b)(hd:(x==("__debug__":Str))=false:=by decide):
  ED X B (.Subscript (.Name x p) b pos) (b0i kvs mb):=by
 intro pins s σ H Q I h;obtain⟨G,env,d,env',rl,em,kk⟩:=h;obtain⟨⟨d1,env1⟩,e1,e2⟩:=q1_ em;obtain⟨key,e3,e4⟩:=q1_ e2;obtain⟨n,e5,e6⟩:=v8_ e4;cases e6;obtain⟨q,hm,hz,hall⟩:=hk.ex;refine b4B PySem.F.slot_dict_getitem.lookup hs (thn (a3S (v:=.ref q) hg hm rfl hd pins s σ H (fun v H1=>v=.ref q/\H1=H) I ⟨rfl,rfl⟩) fun u s1 ⟨y,H1,I1,ry,z1,z2⟩=>?_)
 subst z1 z2;cases ry;refine thn (hb pins s1 σ H1 (fun v H2=>∃G2,Ev X.K B G σ env H1 G2 σ env1 H2/\Rep X.K G2 v d1) I1 ⟨G,env,d1,env1,rl,e1,fun v G2 H2 ev r=>⟨G2,ev,r⟩⟩) fun iv s2 ⟨y,H2,I2,ry,G2,ev,r⟩=>?_
 have hv:=b0f r e3
 subst hv;obtain⟨⟨o,ho,hc⟩,g,hmap,hrel⟩:=hall s2.heap I2.kIn;have hr:=hrel key;rw[e5]at hr;obtain⟨f,hf,hgk⟩:=hr;obtain⟨⟨_,_⟩,hq,rfl⟩:=b0h e5;obtain⟨f',n1,n2,n3⟩:=hn _ hq;dsimp only at hf n1 n2 n3;rw[hf]at n2;cases n2;exact⟨⟨o,ho,hc⟩,wpAny_getItem_of (a2q ry) hmap hgk ⟨.ref f,H2,I2.tok _,rfl,kk _ G2 H2 ev (by simp only[Rep,a3e];exact⟨f,rfl,n1,n3⟩)⟩⟩
theorem b7c{x:Str}{p:Pos}(hk:DfG X.prog X.w X.K X.mg x kvs)(hg:Gl X x)(ha:ED X B a ma)(hd:(x==("__debug__":Str))=false:=by decide):PC X .In a (.Name x p) (TD X.K B (a6s kvs ma)):=by
 intro pins s σ H Q I h;obtain⟨G,env,d,env',rl,em,kk⟩:=h;obtain⟨⟨d1,env1⟩,e1,e2⟩:=q1_ em;obtain⟨key,e3,e4⟩:=v8_ e2;cases e4;obtain⟨q,hm,hn,hall⟩:=hk.ex;refine thn (ha pins s σ H (fun v H1=>∃G1,Ev X.K B G σ env H G1 σ env1 H1/\Rep X.K G1 v d1) I ⟨G,env,d1,env1,rl,e1,fun v G2 H2 ev r=>⟨G2,ev,r⟩⟩) fun iv s1 ⟨y,H1,I1,ry,G1,ev,r⟩=>?_
 refine thn (a3S (v:=.ref q) hg hm rfl hd pins s1 σ H1 (fun v H2=>v=.ref q/\H2=H1) I1 ⟨rfl,rfl⟩) fun u s2 ⟨x',H2,I2,rx,z1,z2⟩=>?_
 subst z1 z2;cases rx;have hv:=b0f r e3;subst hv;obtain⟨_,g,hmap,hrel⟩:=hall s2.heap I2.kIn;have hr:(g key).isSome=(lkF kvs key).isSome:=by
  have h1:=hrel key
  cases hl:lkF kvs key with
  |none=>rw[hl]at h1;rw[show g key=none from h1];rfl
  |some n=>
   rw[hl]at h1;obtain⟨f,_,h2⟩:=h1;rw[h2]
   rfl
 refine wpAny_in_of (a2q ry) hn hmap ⟨.bl (lkF kvs key).isSome,H2,I2.tok _,by rw[←hr];rfl,kk _ G1 H2 ev (by simp only[Rep])⟩
theorem b7d{x:Str}{p:Pos}(hk:DfG X.prog X.w X.K X.mg x kvs)(hg:Gl X x)(ha:ED X B a ma)(hm:behindInMarks .In (.Name x p)=false)(hd:(x==("__debug__":Str))=false:=by decide):ED X B (.Compare a [.In] [.Name x p] pos) (a6s kvs ma):=
 b2T (b7c hk hg ha hd) hm
end
inductive EntF (P:Program) (w:World) (mg:OU):List DictEntry->List (Str×Str)->Prop
 |nil:EntF P w mg [] []
 |cons {e:DictEntry}{p:Str×Str}{f:Addr}{es:List DictEntry}{kvs:List (Str×Str)}:q7_ (.str p.1) e.key->e.hash=(k4_ P w).hash (.inr p.1)->e.val=.ref f->mg p.2=some (.ref f)->EntF P w mg es kvs->EntF P w mg (e::es) (p::kvs)
theorem EntF.keys{P:Program}{w:World}{mg:OU}{es:List DictEntry}{kvs:List (Str×Str)}(h:EntF P w mg es kvs):∀e∈es,∃k,(k4_ P w).is k e.key=true/\e.hash=(k4_ P w).hash k:=by
 induction h with
 |nil=>intro e he;cases he
 |@cons e' p f es kvs h1 h2 h3 h4 _ ih=>
  intro e he
  rcases Qg.mp he with rfl|he
  ·exact⟨.inr p.1,a2q (k:=.inr p.1) h1,h2⟩
  ·exact ih e he
theorem EntF.find{P:Program}{w:World}{mg:OU}{es:List DictEntry}{kvs:List (Str×Str)}(h:EntF P w mg es kvs)(k:Key):b0g mg (lkF kvs k) ((es.find? fun e=>(k4_ P w).is k e.key).map (·.val)):=by
 induction h with
 |nil=>rfl
 |@cons e p f es kvs h1 h2 h3 h4 _ ih=>
  by_cases hk:(.inr p.1:Key)=k
  ·have e1:lkF (p::kvs) k=some p.2:=Qc hk
   have e2:(k4_ P w).is k e.key=true:=by rw[←hk];exact a2q (k:=.inr p.1) h1
   rw[e1,List.find?_cons,e2];exact⟨f,h4,Yy some h3⟩
  ·have e1:lkF (p::kvs) k=lkF kvs k:=Qp hk
   have e2:(k4_ P w).is k e.key=false:=by
    cases hq:(k4_ P w).is k e.key with
    |false=>rfl
    |true=>exact absurd ((k4_ P w).inj _ _ _ (a2q (k:=.inr p.1) h1) hq) hk
   rw[e1,List.find?_cons,e2];exact ih
theorem EntF.pairs{P:Program}{w:World}{mg:OU}{es:List DictEntry}{kvs:List (Str×Str)}(h:EntF P w mg es kvs):∃vs,Pairs (k4_ P w) es vs/\vs.map (·.1)=kvs.map fun p=>(.inr p.1:Key):=by
 induction h with
 |nil=>exact⟨[],.nil,rfl⟩
 |@cons e p f es kvs h1 h2 h3 h4 _ ih=>
  obtain⟨vs,q,e'⟩:=ih;exact⟨((.inr p.1:Key),e.val)::vs,Pairs.cons (kv:=((.inr p.1:Key),e.val)) (a2q (k:=.inr p.1) h1) rfl q,by rw[Zz,Zz,e']⟩
theorem b7e{P:Program}{w:World}{K:Qz}{mg:OU}{x:Str}{kvs:List (Str×Str)}{a:Addr}{es:List DictEntry}{ep:Nat}(hm:mg x=some (.ref a))(hl:K.lookup a=some ⟨.type "dict",none,.dict ⟨es⟩ ep,⟨[]⟩⟩)(hz:(a==sysModules)=false)(he:EntF P w mg es kvs):DfG P w K mg x kvs:=by
 obtain⟨vs,hp,hv⟩:=he.pairs;refine⟨⟨a,hm,hz,fun h hin=>⟨⟨_,hin a _ hl,rfl⟩,findBy (k4_ P w).is ⟨es⟩,⟨_,⟨es⟩,ep,hin a _ hl,⟨rfl,rfl,rfl⟩,rfl,fun e he'=>he.keys e (by simpa using he'),fun _=>rfl⟩,fun k=>?_⟩⟩,fun hn=>⟨a,vs,ep,hm,hz,hv,fun h hin=>⟨_,⟨es⟩,hin a _ hl,⟨rfl,rfl,rfl⟩,rfl,fun e he'=>he.keys e (by simpa using he'),hp,by rw[hv];exact hn⟩⟩⟩
 have:=he.find k;unfold findBy;rw[←Array.find?_toList];exact this
section
variable{K:Qz}{B:OA}{G G':Hp}{σ σ':St}{env env':Env'}{H H':Hp}
end
section
variable{X:Cx}{B:OA}{pos:Pos}{k1 k2 k3 k4 v1 v2 v3 v4:Expr}{a1 a2 a3 a4:Str}{m1 m2 m3 m4:Mo D}
end
section
variable{X:Cx}{B:OA}{pos p:Pos}{fn:Fn}{k:Nat}{x:Str}
theorem b7f(D:Def X.prog X.w X.K X.mg X.base x k 0 fn)(hr:Room k X.A)(hg:Gl X x)(hdb:(x==("__debug__":Str))=false:=by decide):
  EL X B (.Call (.Name x p) [] [] pos) (w0_ 0 fn z8_):=by
 obtain⟨f,fd,ps,F,hl,hm,hk,hb⟩:=D.ex;refine pe_imp (b4g F hr hg hm hk hb .nil a4c hdb) ?_
 rintro σ H Q ⟨G,env,d,env',rl,e,k⟩;obtain⟨⟨r,env1⟩,e1,e2⟩:=q1_ e;cases r with
 |d d'=>cases e2
 |l ds=>
  cases e2;have h:=a4r (E:=fun _ _ _=>False) rl e1 k
  obtain⟨G,env,as,env',rl,e,kk⟩:=h;cases e;exact kk [] G H (.refl rl) rfl
end
theorem b7g{P:Program}{w:World}{k:Key}{u:Value}(h:(k4_ P w).is k u=true):q7_ (kV k) u:=by
 rcases a0w (show a1C k u=true from h)with⟨i,t,rfl,rfl⟩|⟨x,t,rfl,rfl⟩
 ·exact⟨t,rfl⟩
 ·exact⟨t,rfl⟩
def Itk(ks:List Key):It:=⟨fun i _=>i<ks.length,fun i H y H'=>H'=H/\∃k,ks[i]? =some k/\y=kV k,fun i _=>ks.length≤i⟩
theorem b7h{P:Program}{w:World}{K:Qz}{tg:Expr}(it d:Addr)(vs:List (Key×Value))(ep:Nat)(hall:∀h:Heap,K.In h->h.DictAt (k4_ P w) d vs ep):Turn P w K tg (Itk (vs.map (·.1))) [it] it (fun i h=>h.IsKeyIter it d i vs.length ep/\i≤vs.length)where
 mem:=by simp
 obj:=fun i h st b hb=>by
  have e:b=it:=by simpa using hb
  subst e;obtain⟨⟨o,e,c,d⟩,_⟩:=st;exact⟨o,e,fun v z=>by rw[d]at z;cases z⟩
 keep:=fun i h h' st k=>by
  obtain⟨⟨o,e,c,d⟩,hi⟩:=st;exact⟨⟨o,k it (by simp) _ e,c,d⟩,hi⟩
 item:=by
  intro X hP hw hK hc i pins s σ H E I hf st hg;subst hP hw hK;obtain⟨f0,f1,f2,f3,f4,f5⟩:=hf it (by simp)
  have da:=hall s.heap I.kIn
  have hne:d≠it:=fun z=>by
   subst z;obtain⟨⟨o,e,c,_⟩,_⟩:=st;obtain⟨o',_,e',⟨c',_,_⟩,_⟩:=da;rw[e]at e';cases e';rw[c]at c';exact absurd c' (by decide)
  have W:=Walks.dictKeys (prog:=X.prog) (w:=X.w) (knd:=k4_ X.prog X.w) (I.ok.hd hc) it d hne vs ep
  have hi:i<vs.length:=by simpa [Itk]using hg
  refine W.item i s _ _ hi ⟨st.1,da⟩ fun v h' tk hv st' kk=>?_
  obtain⟨k,u,h1,h2⟩:=hv;have I1:Inv X pins σ H {s with heap:=h',toks:=tk}:=I.turned (fun b o hb e=>kk b o (by simpa using hb) e) f0 f1 f3 f4 f5
  obtain⟨o,e,oc,od⟩:=id st'.1;exact⟨_,rfl,a3T (s:={s with heap:=h',toks:=tk}) (n:="dict_keyiterator") e oc od (by decide) ⟨kV k,H,I1,b7g h2,⟨rfl,k,by rw[Zk,h1];rfl,rfl⟩,⟨st'.1,hi⟩,fun b hb=>(hf b hb).1⟩⟩
 done:=by
  intro X hP hw hK hc i pins s σ H E I hf st hg;subst hP hw hK;obtain⟨f0,f1,f2,f3,f4,f5⟩:=hf it (by simp)
  have da:=hall s.heap I.kIn
  have hne:d≠it:=fun z=>by
   subst z;obtain⟨⟨o,e,c,_⟩,_⟩:=st;obtain⟨o',_,e',⟨c',_,_⟩,_⟩:=da;rw[e]at e';cases e';rw[c]at c';exact absurd c' (by decide)
  have W:=Walks.dictKeys (prog:=X.prog) (w:=X.w) (knd:=k4_ X.prog X.w) (I.ok.hd hc) it d hne vs ep
  have hi:vs.length≤i:=by simpa [Itk]using hg
  have e:i=vs.length:=Nat.le_antisymm st.2 hi
  subst e;exact W.done s _ _ ⟨st.1,da⟩ fun h' tk kk=>⟨rfl,I.turned (fun b o hb e=>kk b o (by simpa using hb) e) f0 f1 f3 f4 f5⟩
 self:=fun A i s Q E st h=>wpAny_pyIter_keyiter st.1 h
def a2K(kvs:List (Str×Str)):Mo (List D):=fun env=>if kvs.all fun p=>decide (p.1.length≤1000)then some (kvs.map fun p=>.str p.1,env)else none
theorem b7i{K:Qz}{G:Hp}{kvs:List (Str×Str)}(h:(kvs.all fun p=>decide (p.1.length≤1000))=true):ItD K (Itk (kvs.map fun p=>(.inr p.1:Key))) G (kvs.map fun p=>.str p.1)where
 go:=fun i H l hi=>by
  have h:i<(kvs.map fun p=>(.inr p.1:Key)).length:=by simpa using hi
  exact h
 stop:=fun i H l hi=>by
  have h:(kvs.map fun p=>(.inr p.1:Key)).length≤i:=by simpa using hi
  exact h
 yld:=fun i H y H' d l z e=>by
  obtain⟨rfl,k,h1,rfl⟩:=z;refine .inl ⟨rfl,?_⟩;rw[Zk]at h1 e;cases hp:kvs[i]? with
  |none=>rw[hp]at h1;cases h1
  |some p=>
   rw[hp]at h1 e;cases h1;cases e;have:=Tq (Qb.mp h p (Jj hp));simp only[Rep];exact⟨rfl,Yj this (by decide)⟩
section
variable{X:Cx}{B:OA}{tg:Expr}{kvs:List (Str×Str)}
theorem b0j{x:Str}{p:Pos}(hk:DfG X.prog X.w X.K X.mg x kvs)(hg:Gl X x)(hn:(kvs.map fun p=>(.inr p.1:Key)).Nodup)(hd:(x==("__debug__":Str))=false:=by decide):EI X B tg (.Name x p) (a2K kvs):=by
 intro pins s σ H R I q;obtain⟨G,env,ds,env',rl,em,k⟩:=q;unfold a2K at em;split at em
 case isFalse=>cases em
 rename_i hl;cases em;obtain⟨a,vs,ep,hm,hz,hv,hall⟩:=hk.wk hn;refine thn (a3S (v:=.ref a) hg hm rfl hd pins s σ H (fun v H1=>v=.ref a/\H1=H) I ⟨rfl,rfl⟩) fun u s1 ⟨y,H1,I1,ry,z1,z2⟩=>?_
 subst z1 z2;cases ry;refine wpAny_pyIter_dict hz (hall s1.heap I1.kIn) ?_
 refine⟨s1.heap.objs.size,[s1.heap.objs.size],_,_,H1,rfl,I1.kept (t':=s1.toks) fun b o e=>Qx _ e,b7h _ a vs ep hall,⟨⟨_,Ql _ rfl,rfl,rfl⟩,Jg _⟩,fun b hb=>?_,?_⟩
 ·have e:b=s1.heap.objs.size:=by simpa using hb
  subst e;exact I1.fpOk (Qu _) (I1.hok.fresh (Qu _))
 ·rw[hv]
  exact k _ G H1 (.refl rl) (b7i hl)
end
abbrev b0k(its:Array Value)(c:Nat):Obj:={cls:=.type "list",dict:=none,data:=.seq its c,slots:=#[]}
section
variable{prog:Program}{w:World}{A:Around}{R:Result->Shared->Prop}{I S:Addr}{fp wr:List Addr}{n:Nat}{P:Nat->Value->Prop}{St:Nat->Heap->Prop}{bt:Nat->Nat->Bool}{Z:Heap->Prop}
def a6t(Z:Heap->Prop)(wr:List Addr)(S:Addr):Prop:=∀g g':Heap,Z g->(∀b o,b∉wr->b≠S->g.get? b=some o->g'.get? b=some o)->Z g'
def a6u(prog:Program)(w:World)(A:Around)(Z:Heap->Prop)(P:Nat->Value->Prop)(bt:Nat->Nat->Bool):Prop:=
 ∀(i j:Nat) (x y:Value) (t:Shared) (Q:OE) (E:OE),Z t.heap->P i x->P j y->Q (.bool (bt i j)) t->wpAny (model prog w) A (richCompare .Lt x y) Q E t
theorem a4E:(toString "min"++toString ".loop":String)="min.loop":=by decide
theorem a2d{g:Heap}{S b:Addr}{f:Obj->Obj}{o:Obj}(ne:b≠S)(e:g.get? b=some o):(g.update S f).get? b=some o:=(Vp _ _ (Zl ne)).trans e
theorem a6v(W:Walks prog w A.in1 I fp wr n P St)(hS:S∉fp)(stay:a6t Z wr S)(cmp:a6u prog w A.in1 Z P bt):∀(k j:Nat) (t:Shared) (best:Value) (c:Nat),n-(j+1)=k->j+1≤n->Z t.heap->St (j+1) t.heap->P (argBest bt j) best->t.heap.get? S=some (b0k #[best,best] c)->
  (∀v g tk,P (argBest bt (n-1)) v->(∀b o,b∉wr->b≠S->t.heap.get? b=some o->g.get? b=some o)->R (.ok (.ret v)) {t with heap:=g,toks:=tk})->codeAny (model prog w) A (.builtin "min.loop" ⟨[.ref I,.none,.ref S],[]⟩) R t
 |0,j,t,best,c,hk,hj,z,st,pb,hs,fin=>by
  have out:S∉wr:=fun q=>hS (W.sub _ q)
  have jn:j+1=n:=by omega
  refine Ji Vh ?_
  rw[Uz Yg _];refine Qq (Zf hs rfl (Qq (Xb (W.done t _ _ (jn ▸ st) fun g tk kk=>?_))))
  show wpAny _ A.in1 (updateSeq S (fun _=>#[])>>=_) _ _ _
  refine Qq ?_
  refine wpAny_updateSeq (kk S _ out hs) rfl (Qq (Ue (Qj (fin best _ tk (by rw[←jn];exact pb) fun b o q ne e=>a2d ne (kk b o q e)))))
 |k+1,j,t,best,c,hk,hj,z,st,pb,hs,fin=>by
  have out:S∉wr:=fun q=>hS (W.sub _ q)
  have jn:j+1<n:=by omega
  refine Ji Vh ?_
  rw[Uz Yg _];refine Qq (Zf hs rfl (Qq (Xb (W.item (j+1) t _ _ jn st fun v g tk pv st' kk=>?_))))
  have hs':=kk S _ out hs
  have z':Z g:=stay _ _ z fun b o q _ e=>kk b o q e
  show wpAny _ A.in1 (tryCatch (holding [v,v] (richCompare .Lt v best>>=_)) _>>=_) _ _ _;refine Qq (Xb (Yz (Qq (cmp (j+1) (argBest bt j) v best _ _ _ z' pv pb ?_))));refine Qq (Yz (Yq (Qq (Ue (Qj ?_)))));cases hb:bt (j+1) (argBest bt j)with
  |true=>
   rw[Qc rfl];refine Qq ?_
   refine wpAny_updateSeq hs' rfl (Qq (Ue ?_));rw[a4E];exact Qj ⟨Vn Yg _,a6v W hS stay cmp k (j+1) _ v _ (by omega) jn (stay _ _ z' fun b o _ ne e=>a2d ne e) (W.frame _ _ _ st' fun b q o e=>a2d (fun y=>hS (y ▸ q)) e)
    (by simp only[argBest,hb,Yv];exact pv) (Jr _ hs' rfl) fun v' g' tk' pv' kk'=>fin v' g' tk' pv' fun b o q ne e=>kk' b o q ne (a2d ne (kk b o q e))⟩
  |false=>
   rw[Qp (by simp)]
   refine Qq (Ue ?_);rw[a4E];exact Qj ⟨Vn Yg _,a6v W hS stay cmp k (j+1) _ best c (by omega) jn z' st' (by simp only[argBest,hb,Qh,Zv];exact pb) hs' fun v' g' tk' pv' kk'=>fin v' g' tk' pv' fun b o q ne e=>kk' b o q ne (kk b o q e)⟩
theorem b7j(W:Walks prog w A.in1 I fp wr n P St)(hS:S∉fp)(stay:a6t Z wr S)(cmp:a6u prog w A.in1 Z P bt)(hn:0<n){t:Shared}{c:Nat}(z:Z t.heap)(st:St 0 t.heap)(hs:t.heap.get? S=some (b0k #[] c))
  (fin:∀v g tk,P (argBest bt (n-1)) v->(∀b o,b∉wr->b≠S->t.heap.get? b=some o->g.get? b=some o)->R (.ok (.ret v)) {t with heap:=g,toks:=tk}):codeAny (model prog w) A (.builtin "min.loop" ⟨[.ref I,.none,.ref S],[]⟩) R t:=by
 have out:S∉wr:=fun q=>hS (W.sub _ q)
 refine Ji Vh ?_
 rw[Uz Yg _];refine Qq (Zf hs rfl (Qq (Xb (W.item 0 t _ _ hn st fun v g tk pv st' kk=>?_))))
 have hs':=kk S _ out hs
 have z':Z g:=stay _ _ z fun b o q _ e=>kk b o q e
 show wpAny _ A.in1 (updateSeq S (fun _=>#[v,v])>>=_) _ _ _
 refine Qq ?_
 refine wpAny_updateSeq hs' rfl ?_
 rw[a4E];exact Qj ⟨Vn Yg _,a6v W hS stay cmp _ 0 _ v _ rfl hn (stay _ _ z' fun b o _ ne e=>a2d ne e) (W.frame _ _ _ st' fun b q o e=>a2d (fun y=>hS (y ▸ q)) e) pv (Jr _ hs' rfl) fun v' g' tk' pv' kk'=>fin v' g' tk' pv' fun b o q ne e=>kk' b o q ne (a2d ne (kk b o q e))⟩
theorem b7k{E:OE}{s:Shared}{x:Value}{Q:OE}
  (h:wpAny (model prog w) A.in1 (pyIter x) (fun it t=>∃I fp wr n P St bt Z,it=.ref I/\Walks prog w A.in1 I fp wr n P St/\St 0 t.heap/\(∀b∈fp,b<t.heap.objs.size)/\0<n/\a6u prog w A.in1 Z P bt/\Z t.heap/\(∀S,t.heap.objs.size≤S->a6t Z wr S)/\
   ∀v g tk,P (argBest bt (n-1)) v->(∀b o,b∉wr->t.heap.get? b=some o->g.get? b=some o)->Q v {t with heap:=g,toks:=tk}) E s):wpAny (model prog w) A (call (.builtin "min") [x]) Q E s:=by
 refine call_function_tree PySem.F.kind_min PySem.F.plain_min PySem.F.entry_min (PySem.F.args_min1 _) ?_
 refine Qq (wpAny_of_eq (show Builtin.Builtins.bindParams "min" ["key","default"] 0 ⟨[],[]⟩=pure [none,none]from rfl) (Qq (Qj (Qq (Yw h (fun it t ht=>?_) fun _ _ e=>e)))))
 obtain⟨I,fp,wr,n,P,St,bt,Z,rfl,W,st,low,hn,cmp,z,stay,fin⟩:=ht;refine Qq (Yh ?_);rw[a4E];exact Qj ⟨Vn Yg _,b7j W (fun q=>Yp _ (low _ q)) (stay _ (Qu _)) cmp hn (stay t.heap.objs.size (Qu _) _ _ z fun b o _ _ e=>Qx _ e) (W.frame _ _ _ st fun b _ o e=>Qx _ e) (Ql _ rfl) fun v g tk pv kk=>fin v g tk pv fun b o q e=>kk b o q (Zq (Qw e)) (Qx _ e)⟩
end
theorem a6w{h h':Heap}{a:Addr}{its:Array Value}(t:IsTup h a its)(k:∀b o,h.get? b=some o->h'.get? b=some o):IsTup h' a its:=by
 obtain⟨o,e,r⟩:=t;exact⟨o,k a o e,r⟩
theorem RowsAre.keep{h h':Heap}{vs:List Value}{ks:OI}(r:RowsAre h vs ks)(k:∀b o,h.get? b=some o->h'.get? b=some o):RowsAre h' vs ks:=by
 induction r with
 |nil=>exact .nil
 |cons t i _ ih=>exact .cons (a6w t k) i ih
theorem b0l(bt:Nat->Nat->Bool):∀n,argBest bt n≤n
 |0=>Qu _
 |n+1=>by
  have:=b0l bt n;unfold argBest;split<;>omega
def tabs?:List D->Option (List (OI))
 |[]=>some []
 |.tup as::r=>(rows? as).bind fun t=>(tabs? r).map fun l=>t::l
 |_::_=>none
theorem b0m:∀{ds:List D}{Ts:List (OI)},tabs? ds=some Ts->Ts.length=ds.length
 |[],_,h=>by cases h;rfl
 |d::ds,Ts,h=>by
  unfold tabs? at h;split at h
  ·rename_i z;cases z
  ·rename_i as r z
   cases z;obtain⟨t,e1,e2⟩:=q1_ h;obtain⟨l,e3,e4⟩:=v8_ e2;subst e4;rw[Zj,Zj,b0m e3]
  ·cases h
theorem a6x:∀{ds:List D}{Ts:List (OI)}{i:Nat}{d:D},tabs? ds=some Ts->ds[i]? =some d->∃as,d=.tup as/\rows? as=some (Ts.getD i [])
 |d0::ds,Ts,i,d,h,hd=>by
  unfold tabs? at h;split at h
  ·rename_i z;cases z
  ·rename_i as r z
   cases z;obtain⟨t,e1,e2⟩:=q1_ h;obtain⟨l,e3,e4⟩:=v8_ e2;subst e4;cases i with
   |zero=>cases hd;exact⟨as,rfl,e1⟩
   |succ i=>exact a6x (i:=i) e3 hd
  ·cases h
theorem a6y{K:Qz}{G:Hp}:∀{ds:List D}{xs:List V}{i:Nat}{x:V},z5_ K G xs ds->xs[i]? =some x->∃d,ds[i]? =some d/\Rep K G x d
 |[],xs,i,x,r,h=>by
  simp only[z5_]at r;subst r;cases h
 |d::ds,xs,i,x,r,h=>by
  simp only[z5_]at r;obtain⟨y,t,rfl,q,r⟩:=r;cases i with
  |zero=>cases h;exact⟨d,rfl,q⟩
  |succ i=>exact a6y (i:=i) r h
theorem b0n{K:Qz}{G:Hp}:∀{ds:List D}{xs:List V},z5_ K G xs ds->xs.length=ds.length
 |[],xs,r=>by simp only[z5_]at r;subst r;rfl
 |d::ds,xs,r=>by
  simp only[z5_]at r;obtain⟨y,t,rfl,q,r⟩:=r;rw[Zj,Zj,b0n r]
theorem a6z:∀{xs:List V}{us:List Value}{i:Nat}{u:Value},q0_ xs us->us[i]? =some u->∃x,xs[i]? =some x/\q7_ x u
 |_,_,i,u,.cons h t,e=>by
  cases i with
  |zero=>cases e;exact⟨_,rfl,h⟩
  |succ i=>exact a6z (i:=i) t e
def a0Y(Ts:List (OI))(i j:Nat):Bool:=j5_ (Ts.getD i []) (Ts.getD j [])
section
variable{X:Cx}{B:OA}
theorem b7l{prog:Program}{w:World}{A:Around}{E:OE}{s:Shared}{l b:Addr}{items items2:Array Value}{ns ms:OI}{Q:OE}(hl:IsTup s.heap l items)(hb:IsTup s.heap b items2)(hi:RowsAre s.heap items.toList ns)(hj:RowsAre s.heap items2.toList ms)
  (hu:A.units+40<cLine)(h:Q (.bool (j5_ ns ms)) s):wpAny (model prog w) A (richCompare .Lt (.ref l) (.ref b)) Q E s:=by
 obtain⟨⟨cls,dd,data,sl⟩,ho,hc,n,hd⟩:=id hl;obtain⟨⟨cls2,dd2,data2,sl2⟩,ho2,hc2,n2,hd2⟩:=id hb;simp only at hc hd hc2 hd2;subst hc hd hc2 hd2;exact richCompare_meets_room (op:=.Lt) ⟨_,ho,rfl⟩ ⟨_,ho2,rfl⟩ PySem.F.slot_tuple_lt PySem.F.entry_tuple_lt (PySem.F.args_tuple_lt_2 _ _) (b6O l b items items2 n n2 dd dd2 sl sl2 ns ms)
  ⟨by omega,hi,hj,ho,ho2,show Value.bool (j5_ ns ms)≠Value.notImplemented/\Q (.bool (j5_ ns ms)) s from⟨(fun x=>nomatch x),h⟩⟩ (by omega)
def b0o(X:Cx):List V->Hp->VK->Prop:=fun xs H Q=>∃(p:Addr) (G:Hp) (ys:List V) (ds:List D) (Ts:List (OI)) (y:V),xs=[.ref p]/\Le G H/\SqL X.K G p ys/\z5_ X.K G ys ds/\tabs? ds=some Ts/\ys[argBest (a0Y Ts) (ds.length-1)]? =some y/\Q y H
theorem b7m(hc:X.calm=true)(hu:X.A.units+64<cLine):k5_ X (.builtin "min") (b0o X):=by
 intro pins s σ H xs us Q I r h;obtain⟨p,G,ys,ds,Ts,y,rfl,l,hq,rp,ht,hy,q⟩:=h;obtain⟨u,rfl,rx⟩:=a1h r;cases rx;have hh:X.A.in1.handled=none:=I.ok.hd hc;obtain⟨its,rv,pl,hz⟩:=I.list (l.sqL hq);have hl:=pl.isList;have hlt:p<s.heap.objs.size:=by obtain⟨_,e,_⟩:=hl;exact Qw e
 have W:=Walks.list (prog:=X.prog) (w:=X.w) (A:=X.A.in1) hh s.heap.objs.size p (Zq hlt) its.toArray
 have ly:ys.length=ds.length:=b0n rp
 have li:its.toArray.size=ds.length:=by rw[Qr,←rv.length,ly]
 have h0:0<ds.length:=by
  have:=(Qm.mp hy).1
  omega
 rw[li]at W;have key:∀i v,its.toArray[i]? =some v->∃a tt,v=.ref a/\IsTup s.heap a tt/\RowsAre s.heap tt.toList (Ts.getD i []):=fun i v hv=>by
  have hv':its[i]? =some v:=by simpa using hv
  obtain⟨x,hx,rxv⟩:=a6z rv hv';obtain⟨d,hd,rd⟩:=a6y rp hx;obtain⟨as,rfl,hr⟩:=a6x ht hd;simp only[Rep]at rd;obtain⟨a,zs,rfl,hs,hrep⟩:=rd;cases rxv;obtain⟨t2,r2,p2,_⟩:=I.tuple (l.sqT hs);exact⟨a,t2.toArray,rfl,p2,by simpa using a6q I l r2 hrep hr⟩
 refine b7k (Jo hl ⟨_,_,_,_,_,_,a0Y Ts,fun g=>∀b o,s.heap.get? b=some o->g.get? b=some o,rfl,W,⟨⟨_,Ql _ rfl,rfl,rfl⟩,hl.push _⟩,fun b hb=>?_,h0,?_,fun b o e=>Qx _ e,fun S hS g g' z k b o e=>?_,fun v g tk hP kk=>?_⟩)
 ·have hs:s.heap.objs.size<(s.heap.push {cls:=.type "list_iterator",data:=.fields #[.ref p,.int 0 0]}).objs.size:=by rw[Zs];exact Nat.lt_succ_self _
  rcases Qg.mp hb with rfl|hb
  ·exact hs
  ·rcases Qg.mp hb with rfl|hb
   ·exact Tw hlt hs
   ·cases hb
 ·intro i j x y' t Q' E' z hx hy' hQ
  obtain⟨a,ta,rfl,h1,h2⟩:=key i x hx;obtain⟨a',ta',rfl,h1',h2'⟩:=key j y' hy';exact b7l (a6w h1 z) (a6w h1' z) (h2.keep z) (h2'.keep z) (show X.A.units+1+40<cLine by omega) hQ
 ·have lt:=Qw e
  refine k b o (fun hb=>?_) (fun hb=>?_) (z b o e)
  ·have:b=s.heap.objs.size:=by simpa using hb
   exact Zq lt this
  ·rw[Zs]at hS
   exact Zq (Qa (Jv lt) hS) hb
 ·have hv':its[argBest (a0Y Ts) (ds.length-1)]? =some v:=by simpa using hP
  obtain⟨x,hx,rxv⟩:=a6z rv hv';have e:x=y:=Za (hx.symm.trans hy);rw[e]at rxv;exact⟨y,H,I.kept (t':=tk) (LSm.kept_iter kk),rxv,q⟩
def a0E:List D->Option D
 |[.lst ds]=>(tabs? ds).bind fun Ts=>ds[argBest (a0Y Ts) (ds.length-1)]?
 |_=>none
theorem b0p{K:Qz}{G:Hp}:∀{ds:List D}{xs:List V}{i:Nat}{d:D},z5_ K G xs ds->ds[i]? =some d->∃x,xs[i]? =some x/\Rep K G x d
 |d0::ds,xs,i,d,r,h=>by
  simp only[z5_]at r;obtain⟨y,t,rfl,q,r⟩:=r;cases i with
  |zero=>cases h;exact⟨y,rfl,q⟩
  |succ i=>exact b0p (i:=i) r h
theorem b7n:a0A X B (b0o X) a0E:=by
 intro G σ env H xs ds c Q rl r e k;unfold a0E at e;split at e
 ·rename_i es
  obtain⟨x,rfl,q⟩:=a0l r;obtain⟨Ts,e1,e2⟩:=q1_ e;simp only[Rep]at q;obtain⟨a,ys,rfl,h1,h2⟩:=q;obtain⟨y,hy,ry⟩:=b0p h2 e2;exact⟨a,G,ys,es,Ts,y,rfl,rl.sub,h1,h2,e1,hy,k _ G H (.refl rl) ry⟩
 ·cases e
end
section
variable{X:Cx}{B:OA}{pos p p1:Pos}{e2:Expr}{m:Mo D}{fn:Fn}{k i:Nat}{x y:Str}
end
section
variable{prog:Program}{w:World}{A:Around}{s:Shared}{fin:Bool}{Q:Bool->Shared->Prop}
end
section
variable{X:Cx}{B:OA}{pins:OX}{σ:St}{G H:Hp}{s:Shared}
end
theorem a6A{g:OZ}{t:Mo Bool}{m:Mo D}:∀{ds:List D}{env e:Env'}{r:List D},w5_ g t m ds env=some (r,e)->a0D g t (a0f m) ds env=some (r,e)/\r.length≤ds.length
 |[],env,e,r,h=>by cases h;exact⟨rfl,Qu _⟩
 |d::ds,env,e,r,h=>by
  obtain⟨e1,h1,h⟩:=q1_ h;obtain⟨⟨b,e2⟩,h2,h⟩:=q1_ h;have goal:∀z,((g d env).bind fun e1=>(t e1).bind fun p=>if p.1 then(a0f m p.2).bind fun q'=>(a0D g t (a0f m) ds q'.2).map fun r=>(q'.1++r.1,r.2)else a0D g t (a0f m) ds p.2)=z->a0D g t (a0f m) (d::ds) env=z:=fun z h=>h
  cases b with
  |false=>
   obtain⟨a1,a2⟩:=a6A (show w5_ g t m ds e2=some (r,e)from h)
   exact⟨goal _ (by rw[h1,Qv,h2];exact a1),Nat.le_succ_of_le a2⟩
  |true=>
   obtain⟨⟨x,e3⟩,h3,h⟩:=q1_ (show(m e2).bind (fun q=>(w5_ g t m ds q.2).map fun r=>(q.1::r.1,r.2))=some (r,e)from h)
   obtain⟨⟨r',e4⟩,h4,h5⟩:=v8_ h;cases h5;obtain⟨a1,a2⟩:=a6A h4;refine⟨goal _ ?_,Nat.succ_le_succ a2⟩;have he:a0f m e2=some ([x],e3):=by
    show(m e2).map _=_;rw[h3]
    rfl
   rw[h1,Qv,h2];show(a0f m e2).bind _=_;rw[he];show(a0D g t (a0f m) ds e3).map _=_;rw[a1]
   rfl
theorem b0q{mi:Mo (List D)}{keep:List Bool}{more:Nat}{g:OZ}{t:Mo Bool}{m:Mo D}{env:Env'}{x:List D×Env'}(h:y6_ mi keep more g t m env=some x):a2I mi keep more g t (a0f m) env=some x:=by
 obtain⟨p,h1,h⟩:=q1_ h;split at h
 case isFalse=>cases h
 rename_i hl;obtain⟨⟨r,e⟩,h2,h3⟩:=q1_ h;obtain⟨a1,a2⟩:=a6A h2;unfold a2I;rw[h1,Qv,a1,Qv,Qc (Yj a2 hl)];exact h3
section
variable{X:Cx}{B:OA}{N':List Str}{scope:Scope}{keep:List Bool}{more:Nat}{tg iter elt:Expr}{ifs:List Expr}{g:OZ}{t:Mo Bool}{m:Mo D}{mi:Mo (List D)}{pos:Pos}
theorem a0s(ok:CompOk X N' scope keep more)(hc:X.calm=true)(hi:EI X B tg iter mi)(hg:∀s H fp,EG (y5_ X N' scope s H fp) B X.N.length tg g)(ht:∀s H fp,a0p (y5_ X N' scope s H fp) ifs (TTm X.K B t))(he:∀s H fp,ED (y5_ X N' scope s H fp) B elt m)
  (hs:∀x,foldedSetIterable iter X.env x=pure x:=by intro _;rfl):EL X B (.ListComp elt [⟨tg,iter,ifs,0⟩] scope pos) (y6_ mi keep more g t m):=
 pe_imp (b6F ok hc hi hg ht (fun s H fp p=>a9Y rfl (he s H fp)) hs) fun σ H Q ⟨G,env,d,env',rl,e,k⟩=>⟨G,env,d,env',rl,b0q e,k⟩
theorem b7o{i:Nat}{y:Str}{py spos:Pos}(ok:CompOk X N' scope keep more)(hc:X.calm=true)(hN:X.N.Nodup)(hy:X.N[i]? =some y)(hyl:X.env.scope.names.lookup y=some .local)
  (hsw:swapsWith (.ListComp elt [⟨tg,iter,ifs,0⟩] scope pos) (some (.Name y py)) spos.line X.env=pure true)
  (hi:EI X B tg iter mi)(hg:∀s H fp,EG (y5_ X N' scope s H fp) B X.N.length tg g)(ht:∀s H fp,a0p (y5_ X N' scope s H fp) ifs (TTm X.K B t))(he:∀s H fp,ED (y5_ X N' scope s H fp) B elt m)
  (hs:∀x,foldedSetIterable iter X.env x=pure x:=by intro _;rfl):ES X B (.Assign [.Name y py] (.ListComp elt [⟨tg,iter,ifs,0⟩] scope pos) spos) (a0n i (y6_ mi keep more g t m)):=by
 refine ps_imp (b6M (i:=i) ok hc hN hy hyl hsw hi hg ht (fun s H fp p=>a9Y rfl (he s H fp)) hs) ?_
 rintro D σ H ⟨G,env,fl,env',rl,e,k⟩;obtain⟨⟨d,env1⟩,e1,e2⟩:=v8_ e;cases e2;refine⟨G,env,.nx,env1.set i (.own d),rl,?_,k⟩;show(a2I mi keep more g t (a0f m) env).map _=_;rw[b0q e1]
 rfl
end
section
variable{X:Cx}{k n:Nat}
end
def Ris(xs:Array Nat):Prop:=∀a b,a<b->b<xs.size->xs.getD a 0<xs.getD b 0
theorem b0r{xs:Array Nat}(h:Ris xs){a b:Nat}(l:a≤b)(hb:b<xs.size):xs.getD a 0≤xs.getD b 0:=by
 rcases Ys a b with q|q
 ·exact Jm (h a b q hb)
 ·have:a=b:=by omega
  subst this;exact Qu _
theorem b7p{xs:Array Nat}{i j:Nat}(h:i<xs.size):xs.getD i j=xs.getD i 0:=by simp[Array.getD,h]
theorem a6B{xs:Array Nat}{j:Nat}(hs:Ris xs):∀(f lo hi:Nat),lo≤hi->hi≤xs.size->hi-lo≤f->(∀q,q<lo->xs.getD q 0<j)->(∀q,hi≤q->q<xs.size->j≤xs.getD q 0)->
  SetTable.below.go xs j f lo hi≤xs.size/\(∀q,q<SetTable.below.go xs j f lo hi->xs.getD q 0<j)/\(∀q,SetTable.below.go xs j f lo hi≤q->q<xs.size->j≤xs.getD q 0)
 |0,lo,hi,h1,h2,h3,h4,h5=>by
  have:lo=hi:=by omega
  subst this;exact⟨h2,h4,h5⟩
 |f+1,lo,hi,h1,h2,h3,h4,h5=>by
  unfold SetTable.below.go
  by_cases hl:lo<hi
  ·rw[Qc hl]
   dsimp only;have hm:(lo+hi)/2<xs.size:=by omega
   rw[b7p hm]
   by_cases hc:xs.getD ((lo+hi)/2) 0<j
   ·rw[Qc hc]
    refine a6B hs f _ _ (by omega) h2 (by omega) (fun q hq=>?_) h5
    exact Nat.lt_of_le_of_lt (b0r hs (by omega) hm) hc
   ·rw[Qp hc]
    refine a6B hs f _ _ (by omega) (by omega) (by omega) h4 (fun q hq hq2=>?_)
    exact Yj (Nat.le_of_not_lt hc) (b0r hs hq hq2)
  ·rw[Qp hl]
   have:lo=hi:=by omega
   subst this;exact⟨h2,h4,h5⟩
theorem b0s{xs:Array Nat}(hs:Ris xs)(j:Nat):SetTable.below xs j≤xs.size/\(∀q,q<SetTable.below xs j->xs.getD q 0<j)/\(∀q,SetTable.below xs j≤q->q<xs.size->j≤xs.getD q 0):=
 a6B hs _ _ _ (Jg _) (Qu _) (by omega) (fun q h=>absurd h (Um _)) (fun q h1 h2=>absurd h1 (by omega))
theorem b7q{xs:Array Nat}(hs:Ris xs){q:Nat}(hq:q<xs.size):SetTable.below xs (xs.getD q 0)=q:=by
 obtain⟨h1,h2,h3⟩:=b0s hs (xs.getD q 0)
 rcases Nat.lt_trichotomy (SetTable.below xs (xs.getD q 0)) q with h|h|h
 ·have:=h3 _ (Qu _) (by omega)
  have:=hs _ _ h hq
  omega
 ·exact h
 ·have:=h2 q h
  omega
theorem b0t{xs:Array Nat}{q:Nat}(hq:q<xs.size):xs[q]? =some (xs.getD q 0):=by simp[Array.getD,hq]
theorem a4F{t:SetTable}(hs:Ris t.place){q:Nat}(hq:q<t.place.size):t.slot (t.place.getD q 0)=.live q:=by
 unfold SetTable.slot;dsimp only;rw[b7q hs hq,b0t hq]
 simp
theorem b7r{t:SetTable}(hs:Ris t.place)(hd:t.dummies= #[]){j:Nat}(hj:∀q,q<t.place.size->t.place.getD q 0≠j):t.slot j=.empty:=by
 unfold SetTable.slot;dsimp only;have e:¬ ((t.place[SetTable.below t.place j]? ==some j)=true):=by
  intro h;have h:=Ux h;have hl:SetTable.below t.place j<t.place.size:=by
   rcases Ys (SetTable.below t.place j) t.place.size with q|q
   ·exact q
   ·rw[Array.getElem?_eq_none q]at h;cases h
  rw[b0t hl]at h;exact hj _ hl (Za h)
 rw[Qp e,hd];have e2:SetTable.has #[] j=false:=by
  unfold SetTable.has
  simp
 rw[e2]
 simp
def q6_(t:SetTable):Nat->SetTable.Probe->SetTable.Probe
 |0,p=>p
 |n+1,p=>q6_ t n (t.advance p)
theorem a4G(t:SetTable):∀(n:Nat) (p:SetTable.Probe),q6_ t (n+1) p=t.advance (q6_ t n p)
 |0,_=>rfl
 |n+1,p=>a4G t n (t.advance p)
theorem a4H(t:SetTable)(a:Nat):∀(b:Nat) (p:SetTable.Probe),q6_ t a (q6_ t b p)=q6_ t (b+a) p
 |0,p=>by rw[Nat.zero_add];rfl
 |b+1,p=>by
  show q6_ t a (q6_ t b (t.advance p))=_;rw[a4H t a b];rw[show b+1+a=(b+a)+1 by omega];rfl
theorem b0u(t:SetTable)(p:SetTable.Probe):(t.advance p).dummy=p.dummy:=by
 unfold SetTable.advance;split
 ·rfl
 ·rfl
def gst(mask i perturb:Nat):SetTable.Probe:={j:=i,more:=SetTable.runEnd mask i-i,i:=i,perturb:=perturb,dummy:=none}
theorem a3v(t:SetTable)(h:Int):t.probeStart h=gst t.mask (SetTable.bits h%(t.mask+1)) (SetTable.bits h):=rfl
theorem a6C(t:SetTable)(i pt:Nat):∀n,n≤SetTable.runEnd t.mask i-i->q6_ t n (gst t.mask i pt)={j:=i+n,more:=SetTable.runEnd t.mask i-i-n,i:=i,perturb:=pt,dummy:=none}
 |0,_=>rfl
 |n+1,h=>by
  rw[a4G,a6C t i pt n (by omega)]
  unfold SetTable.advance;rw[Qc (show SetTable.runEnd t.mask i-i-n>0 by omega)]
  simp only[SetTable.Probe.mk.injEq,and_true,true_and]
  omega
theorem b0v(t:SetTable)(i pt:Nat):q6_ t (SetTable.runEnd t.mask i-i+1) (gst t.mask i pt)=gst t.mask (SetTable.leap t.mask i pt).1 (SetTable.leap t.mask i pt).2:=by
 rw[a4G,a6C t i pt _ (Qu _)];unfold SetTable.advance;rw[Qp (by simp)]
 rfl
theorem b7s(mask i:Nat):SetTable.runEnd mask i-i≤9:=by
 unfold SetTable.runEnd;split<;>omega
def k1_(mask:Nat):Nat->Nat×Nat->Nat×Nat
 |0,p=>p
 |n+1,p=>k1_ mask n (SetTable.leap mask p.1 p.2)
theorem a4I(mask:Nat):∀(n:Nat) (p:Nat×Nat),k1_ mask (n+1) p=SetTable.leap mask (k1_ mask n p).1 (k1_ mask n p).2
 |0,_=>rfl
 |n+1,p=>a4I mask n _
theorem groups(t:SetTable)(i pt:Nat):∀n,∃m,m≤10 * n/\q6_ t m (gst t.mask i pt)=gst t.mask (k1_ t.mask n (i,pt)).1 (k1_ t.mask n (i,pt)).2
 |0=>⟨0,Qu _,rfl⟩
 |n+1=>by
  obtain⟨m,h1,h2⟩:=groups t i pt n;refine⟨m+(SetTable.runEnd t.mask (k1_ t.mask n (i,pt)).1-(k1_ t.mask n (i,pt)).1+1),?_,?_⟩
  ·have:=b7s t.mask (k1_ t.mask n (i,pt)).1
   omega
  ·rw[←a4H,h2,b0v,a4I]
theorem b0w(mask:Nat)(i pt:Nat):∀n,(k1_ mask n (i,pt)).2=pt/32^n
 |0=>by simp[k1_]
 |n+1=>by
  rw[a4I];show(k1_ mask n (i,pt)).2/32=_;rw[b0w mask i pt n,Nat.div_div_eq_div_mul,Nat.pow_succ]
theorem b7t(h:Int):SetTable.bits h<2^64:=by
 unfold SetTable.bits;have h1:0≤h%(2^64:Int):=Jt _ (by decide)
 have h2:h%(2^64:Int)<2^64:=Uc _ (by decide)
 omega
def lcg(mask:Nat):Nat->Nat->Nat
 |0,i=>i
 |n+1,i=>lcg mask n ((i * 5+1)%(mask+1))
theorem b0x(mask:Nat):∀(n i:Nat),k1_ mask n (i,0)=(lcg mask n i,0)
 |0,_=>rfl
 |n+1,i=>by
  show k1_ mask n (SetTable.leap mask i 0)=_;have:SetTable.leap mask i 0=((i * 5+1)%(mask+1),0):=by
   unfold SetTable.leap;simp
  rw[this,b0x mask n]
  rfl
theorem b0y(mask a:Nat):∀(b:Nat) (p:Nat×Nat),k1_ mask a (k1_ mask b p)=k1_ mask (b+a) p
 |0,p=>by rw[Nat.zero_add];rfl
 |b+1,p=>by
  show k1_ mask a (k1_ mask b _)=_;rw[b0y mask a b];rw[show b+1+a=(b+a)+1 by omega];rfl
def cov(mask:Nat):Bool:=(List.range (mask+1)).all fun i=>(List.range (mask+1)).all fun k=>(List.range (mask+1)).any fun n=>lcg mask n i==k
theorem b7u(mask n:Nat)(p:Nat×Nat):(k1_ mask (n+1) p).1<mask+1:=by
 rw[a4I];exact Tx _ (Us _)
theorem meets{mask:Nat}(hc:cov mask=true)(h:Int){k:Nat}(hk:k≤mask):∃n,n<mask+14/\(k1_ mask n (SetTable.bits h%(mask+1),SetTable.bits h)).1=k:=by
 have e1:k1_ mask 13 (SetTable.bits h%(mask+1),SetTable.bits h)=((k1_ mask 13 (SetTable.bits h%(mask+1),SetTable.bits h)).1,0):=by
  apply Je
  ·rfl
  ·rw[b0w]
   have:=b7t h;exact Nat.div_eq_of_lt (Qa this (by decide))
 have hl:(k1_ mask 13 (SetTable.bits h%(mask+1),SetTable.bits h)).1<mask+1:=b7u mask 12 _
 unfold cov at hc;have h1:=Qb.mp hc _ (Qy.mpr hl);have h2:=Qb.mp h1 _ (Qy.mpr (show k<mask+1 by omega))
 obtain⟨n,hn,he⟩:=List.any_eq_true.mp h2;refine⟨13+n,by have:=Qy.mp hn;omega,?_⟩
 rw[←b0y,e1,b0x];exact Ux he
theorem b7v:cov 7=true:=by decide+kernel
theorem b0z:cov 31=true:=by decide+kernel
def road(t:SetTable)(h:Int)(n:Nat):Nat:=(q6_ t n (t.probeStart h)).j
theorem b7w{t:SetTable}(hc:cov t.mask=true)(h:Int){k:Nat}(hk:k≤t.mask):∃m,m<10 * SetTable.turns t.mask/\road t h m=k:=by
 obtain⟨n,hn,he⟩:=meets hc h hk;obtain⟨m,hm,hg⟩:=groups t (SetTable.bits h%(t.mask+1)) (SetTable.bits h) n;refine⟨m,?_,?_⟩
 ·unfold SetTable.turns;omega
 ·unfold road
  rw[a3v,hg,he]
  rfl
theorem b0A(t:SetTable):∀(n:Nat) (p:SetTable.Probe),(q6_ t n p).dummy=p.dummy
 |0,_=>rfl
 |n+1,p=>by rw[a4G,b0u,b0A t n p]
theorem b0B{t:SetTable}{hashAt:Nat->Int}{h:Int}(hs:Ris t.place)(hd:t.dummies= #[]):
  ∀(m f:Nat) (p:SetTable.Probe),m<f->p.dummy=none->(∀n,n<m->∃q,q<t.place.size/\t.place.getD q 0=(q6_ t n p).j)->(∀q,q<t.place.size->t.place.getD q 0≠(q6_ t m p).j)->
  (∃n q,n<m/\q<t.place.size/\t.place.getD q 0=(q6_ t n p).j/\hashAt q=h/\SetTable.probe.go t hashAt h f p=some (.candidate (q6_ t n p).j q (q6_ t (n+1) p))/\∀n' q',n'<n->q'<t.place.size->t.place.getD q' 0=(q6_ t n' p).j->hashAt q'≠h)∨
  ((∀n q,n<m->q<t.place.size->t.place.getD q 0=(q6_ t n p).j->hashAt q≠h)/\SetTable.probe.go t hashAt h f p=some (.empty (q6_ t m p).j none))
 |0,f+1,p,_,hp,_,he=>by
  right
  refine⟨fun n q hn=>absurd hn (Um _),?_⟩
  have he:t.slot p.j=.empty:=b7r hs hd he
  unfold SetTable.probe.go;rw[he]
  simp[q6_,hp]
 |m+1,f+1,p,hm,hp,hl,he=>by
  obtain⟨q,hq,ej⟩:=hl 0 (Us _);have ej:t.place.getD q 0=p.j:=ej;have es:t.slot p.j=.live q:=by rw[←ej];exact a4F hs hq
  have uq:∀q',q'<t.place.size->t.place.getD q' 0=p.j->q'=q:=fun q' hq' e'=>by
   have:=a4F hs hq';rw[e',es]at this;exact(SetTable.Slot.live.inj this).symm
  unfold SetTable.probe.go;rw[es];dsimp only
  by_cases hh:hashAt q=h
  ·left
   refine⟨0,q,Us _,hq,ej,hh,?_,fun n' q' hn'=>absurd hn' (Um _)⟩
   rw[Qc (by rw[hh];exact Vd _)]
   rfl
  ·rw[Qp (fun z=>hh (Ux z))]
   rcases b0B hs hd m f (t.advance p) (by omega) (by rw[b0u];exact hp) (fun n hn=>hl (n+1) (by omega)) he with⟨n,q2,h1,h2,h3,h4,h5,h6⟩|⟨h1,h2⟩
   ·left
    refine⟨n+1,q2,by omega,h2,h3,h4,h5,fun n' q' hn' hq' e'=>?_⟩
    cases n' with
    |zero=>rw[uq q' hq' e'];exact hh
    |succ n'=>exact h6 n' q' (by omega) hq' e'
   ·right
    refine⟨fun n q' hn hq' e'=>?_,h2⟩
    cases n with
    |zero=>rw[uq q' hq' e'];exact hh
    |succ n=>exact h1 n q' (by omega) hq' e'
structure Tb(t:SetTable)(es:Array (Int×Value))(L:List (Nat×Int×Value)):Prop where
 pl:t.place.toList=L.map (·.1)
 en:es.toList=L.map (·.2)
 ri:(L.map (·.1)).Pairwise (· < ·)
 le:∀x∈L,x.1≤t.mask
 du:t.dummies= #[]
 rd:∀x∈L,∃n,road t x.2.1 n=x.1/\∀n',n'<n->road t x.2.1 n'∈L.map (·.1)
variable{t:SetTable}{es:Array (Int×Value)}{L:List (Nat×Int×Value)}
theorem a6D{xs:Array Nat}{l:List Nat}(e:xs.toList=l)(q:Nat):xs.getD q 0=l.getD q 0:=by
 subst e
 simp[Array.getD,List.getD]
 split<;>simp_all
theorem Tb.size(h:Tb t es L):t.place.size=L.length:=by
 have:=Yy List.length h.pl
 simpa using this
theorem Tb.esz(h:Tb t es L):es.size=L.length:=by
 have:=Yy List.length h.en
 simpa using this
theorem Tb.ris(h:Tb t es L):Ris t.place:=by
 intro a b hab hb;rw[a6D h.pl,a6D h.pl];have hl:b<(L.map (·.1)).length:=by rw[Qk,←h.size];exact hb
 have:=List.pairwise_iff_getElem.mp h.ri a b (by omega) hl hab
 rw[Zp,Zp,Qi hl,Qi (show a<(L.map (·.1)).length by omega)]
 exact this
theorem Tb.at(h:Tb t es L){q:Nat}(hq:q<L.length):t.place.getD q 0=(L[q]).1/\es[q]? =some (L[q]).2:=by
 refine⟨?_,?_⟩
 ·rw[a6D h.pl,Zp,Zk,Qi hq]
  rfl
 ·rw[←Vt,h.en,Zk,Qi hq]
  rfl
theorem Tb.mem(h:Tb t es L){j:Nat}:(∃q,q<t.place.size/\t.place.getD q 0=j)↔j∈L.map (·.1):=by
 rw[h.size]
 constructor
 ·rintro⟨q,hq,e⟩
  rw[(h.at hq).1]at e;exact Qn.mpr ⟨_,Ye hq,e⟩
 ·intro hj
  obtain⟨x,hx,e⟩:=Qn.mp hj;obtain⟨q,hq,eq⟩:=Uj.mp hx;exact⟨q,hq,by rw[(h.at hq).1,eq];exact e⟩
theorem holes:∀(n:Nat) (l:List Nat),(∀k,k<n->k∈l)->n≤l.length
 |0,_,_=>Jg _
 |n+1,l,h=>by
  have h1:=holes n (l.erase n) fun k hk=>(List.mem_erase_of_ne (by omega)).mpr (h k (by omega))
  have h2:=h n (by omega)
  rw[List.length_erase_of_mem h2]at h1;have:=List.length_pos_of_mem h2
  omega
theorem least{P:Nat->Prop}:∀(m:Nat),P m->∃n,n≤m/\P n/\∀k,k<n-> ¬ P k
 |m,h=>by
  induction m using Nat.strongRecOn with
  |ind m ih=>
   by_cases hk:∃k,k<m/\P k
   ·obtain⟨k,h1,h2⟩:=hk
    obtain⟨n,h3,h4⟩:=ih k h1 h2;exact⟨n,by omega,h4⟩
   ·exact⟨m,Qu _,h,fun k h1 h2=>hk ⟨k,h1,h2⟩⟩
theorem Tb.ends(h:Tb t es L)(hc:cov t.mask=true)(hL:L.length≤t.mask)(hh:Int):∃m,m<10 * SetTable.turns t.mask/\road t hh m∉L.map (·.1)/\∀n,n<m->road t hh n∈L.map (·.1):=by
 have hk:∃k,k≤t.mask/\k∉L.map (·.1):=by
  apply Zd
  intro hn;have all:∀k,k≤t.mask->k∈L.map (·.1):=fun k hk=>Zd fun z=>hn ⟨k,hk,z⟩
  have:=holes (t.mask+1) (L.map (·.1)) fun k hk=>all k (by omega)
  rw[Qk]at this
  omega
 obtain⟨k,hk,hk2⟩:=hk;obtain⟨m,hm,em⟩:=b7w hc hh hk;obtain⟨n,h1,h2,h3⟩:=least (P:=fun m=>road t hh m∉L.map (·.1)) m (by show road t hh m∉_;rw[em];exact hk2)
 exact⟨n,by omega,h2,fun n' hn=>Zd fun z=>h3 n' hn z⟩
theorem b7x{t t':SetTable}(e:t.mask=t'.mask)(p:SetTable.Probe):t.advance p=t'.advance p:=by
 unfold SetTable.advance;rw[e]
theorem b0C{t t':SetTable}(e:t.mask=t'.mask):∀(n:Nat) (p:SetTable.Probe),q6_ t n p=q6_ t' n p
 |0,_=>rfl
 |n+1,p=>by
  show q6_ t n (t.advance p)=q6_ t' n (t'.advance p);rw[b7x e,b0C e n]
theorem a2e{t t':SetTable}(e:t.mask=t'.mask)(h:Int)(n:Nat):road t h n=road t' h n:=by
 unfold road;rw[a3v,a3v,e,b0C e]
theorem a6E{mask i:Nat}(h:i≤mask):i≤SetTable.runEnd mask i/\SetTable.runEnd mask i≤mask:=by
 unfold SetTable.runEnd;split<;>omega
theorem b0D(t:SetTable):∀(n:Nat) (p:SetTable.Probe),p.j+p.more≤t.mask->(q6_ t n p).j+(q6_ t n p).more≤t.mask
 |0,_,h=>h
 |n+1,p,h=>by
  refine b0D t n _ ?_
  unfold SetTable.advance;split
  ·dsimp only;omega
  ·dsimp only
   have h1:(SetTable.leap t.mask p.i p.perturb).1≤t.mask:=Vu (Tx _ (Us _))
   have:=a6E h1
   omega
theorem b7y{mask i:Nat}(h:i≤mask)(pt:Nat):(gst mask i pt).j+(gst mask i pt).more≤mask:=by
 have:=a6E h;show i+(SetTable.runEnd mask i-i)≤mask
 omega
theorem a6F(t:SetTable)(h:Int)(n:Nat):road t h n≤t.mask:=by
 have h1:SetTable.bits h%(t.mask+1)≤t.mask:=Vu (Tx _ (Us _))
 have:=b0D t n (t.probeStart h) (by rw[a3v];exact b7y h1 _)
 unfold road
 omega
theorem b0E{α:Type}(xs:Array α)(p:Nat)(x:α)(hp:p≤xs.size):(SetTable.insertAt xs p x).toList=xs.toList.take p++x::xs.toList.drop p:=by
 unfold SetTable.insertAt
 simp[Array.toList_extract,Vf]
theorem Tb.put{t:SetTable}{es:Array (Int×Value)}{L:List (Nat×Int×Value)}(T:Tb t es L){j m:Nat}{h:Int}{x:Value}(hj:j∉L.map (·.1))(hm:road t h m=j)(hr:∀n,n<m->road t h n∈L.map (·.1)):
  ∃L',Tb (t.put j).1 (SetTable.insertAt es (t.put j).2 (h,x)) L'/\L'.Perm ((j,h,x)::L):=by
 have hp:(t.put j).2=SetTable.below t.place j:=rfl
 obtain⟨b1,b2,b3⟩:=b0s T.ris j;rw[T.size]at b1 b3;have hmask:(t.put j).1.mask=t.mask:=rfl;have perm:(L.take (SetTable.below t.place j)++(j,h,x)::L.drop (SetTable.below t.place j)).Perm ((j,h,x)::L):=by
  refine List.perm_middle.trans ?_
  rw[List.take_append_drop]
 refine⟨L.take (SetTable.below t.place j)++(j,h,x)::L.drop (SetTable.below t.place j),?_,perm⟩;have mem':∀y,y∈L.map (·.1)->y∈(L.take (SetTable.below t.place j)++(j,h,x)::L.drop (SetTable.below t.place j)).map (·.1):=fun y hy=>by
  obtain⟨z,hz,e⟩:=Qn.mp hy;exact Qn.mpr ⟨z,perm.mem_iff.mpr (Qt _ hz),e⟩
 refine⟨?_,?_,?_,?_,?_,?_⟩
 ·show(SetTable.insertAt t.place (SetTable.below t.place j) j).toList=_
  rw[b0E _ _ _ (by rw[T.size];exact b1),T.pl]
  simp[Xr,Vc]
 ·rw[hp,b0E _ _ _ (by rw[T.esz];exact b1),T.en]
  simp[Xr,Vc]
 ·rw[Jx,Zz]
  refine List.pairwise_append.mpr ⟨?_,?_,?_⟩
  ·rw[Xr];exact T.ri.sublist (List.take_sublist _ _)
  ·refine Jq.mpr ⟨?_,by rw[Vc];exact T.ri.sublist (List.drop_sublist _ _)⟩
   intro y hy;rw[Vc]at hy;obtain⟨i,hi,e⟩:=List.mem_drop_iff_getElem.mp hy;rw[Qk]at hi;have h3:=b3 (SetTable.below t.place j+i) (by omega) (by omega)
   rw[(T.at (show SetTable.below t.place j+i<L.length by omega)).1]at h3
   have e':(L[SetTable.below t.place j+i]'(by omega)).1=y:=by rw[←e,Jp]
   rw[e']at h3
   rcases Ys j y with q|q
   ·exact q
   ·have:j=y:=by omega
    subst this;exact absurd (List.mem_of_mem_drop hy) hj
  ·intro y hy z hz
   have hyj:y<j:=by
    rw[Xr]at hy;obtain⟨i,hi,e⟩:=List.mem_take_iff_getElem.mp hy;rw[Qk]at hi;have h2:=b2 i (by omega)
    rw[(T.at (show i<L.length by omega)).1]at h2
    rw[Jp]at e
    omega
   rcases Qg.mp hz with rfl|hz
   ·exact hyj
   ·rw[Vc]at hz
    obtain⟨i,hi,e⟩:=List.mem_drop_iff_getElem.mp hz;rw[Qk]at hi;have h3:=b3 (SetTable.below t.place j+i) (by omega) (by omega)
    rw[(T.at (show SetTable.below t.place j+i<L.length by omega)).1]at h3
    rw[Jp]at e
    omega
 ·intro y hy
  rcases Qg.mp (perm.mem_iff.mp hy)with rfl|hy
  ·show j≤t.mask
   rw[←hm];exact a6F t h m
  ·exact T.le y hy
 ·show(if SetTable.has t.dummies j then _ else t.dummies)= #[]
  rw[T.du];have e2:SetTable.has #[] j=false:=by unfold SetTable.has;simp
  rw[e2];rfl
 ·intro y hy
  rcases Qg.mp (perm.mem_iff.mp hy)with rfl|hy
  ·exact⟨m,by rw[a2e hmask];exact hm,fun n hn=>by rw[a2e hmask];exact mem' _ (hr n hn)⟩
  ·obtain⟨n,h1,h2⟩:=T.rd y hy
   exact⟨n,by rw[a2e hmask];exact h1,fun n' hn=>by rw[a2e hmask];exact mem' _ (h2 n' hn)⟩
abbrev fr(ow:Array (Option Nat))(j:Nat):Bool:=(ow.getD j (some 0)).isNone
theorem b0F{t:SetTable}{ow:Array (Option Nat)}:∀(n f i pt:Nat),n<f->i≤t.mask->fr ow (k1_ t.mask n (i,pt)).1=true->
  ∃m,SetTable.layClean.free t.mask ow f i pt=some (q6_ t m (gst t.mask i pt)).j/\fr ow (q6_ t m (gst t.mask i pt)).j=true/\∀m',m'<m->fr ow (q6_ t m' (gst t.mask i pt)).j=false
 |n,0,i,pt,h,_,_=>absurd h (Um _)
 |n,f+1,i,pt,h,hi,he=>by
  unfold SetTable.layClean.free;obtain⟨r1,r2⟩:=a6E hi;have at':∀k,k≤SetTable.runEnd t.mask i-i->(q6_ t k (gst t.mask i pt)).j=i+k:=fun k hk=>by rw[a6C t i pt k hk]
  cases hf:(List.range (SetTable.runEnd t.mask i+1-i)).find? fun k=>(ow.getD (i+k) (some 0)).isNone with
  |some k=>
   dsimp only;obtain⟨h1,as,bs,h2,h3⟩:=List.find?_eq_some_iff_append.mp hf;have hk:k∈List.range (SetTable.runEnd t.mask i+1-i):=by rw[h2];simp
   have hk':=Qy.mp hk
   refine⟨k,by rw[at' k (by omega)],by rw[at' k (by omega)];exact h1,fun m' hm'=>?_⟩
   rw[at' m' (by omega)]
   have hmem:m'∈as:=by
    have hm:m'∈List.range (SetTable.runEnd t.mask i+1-i):=Qy.mpr (by omega)
    have hpw:(List.range (SetTable.runEnd t.mask i+1-i)).Pairwise (· < ·):=List.pairwise_lt_range
    rw[h2]at hm hpw
    rcases Jd.mp hm with z|z
    ·exact z
    ·rcases Qg.mp z with z|z
     ·omega
     ·have:=(Jq.mp (List.pairwise_append.mp hpw).2.1).1 m' z
      omega
   have:=h3 m' hmem;cases hq:(ow.getD (i+m') (some 0)).isNone with
   |false=>exact hq
   |true=>rw[hq]at this;cases this
  |none=>
   dsimp only;have hall:=List.find?_eq_none.mp hf;have run:∀k,k≤SetTable.runEnd t.mask i-i->fr ow (i+k)=false:=fun k hk=>by
    have:=hall k (Qy.mpr (by omega))
    cases hq:fr ow (i+k)with
    |false=>rfl
    |true=>exact absurd hq this
   cases n with
   |zero=>
    have:=run 0 (Jg _);rw[Nat.add_zero]at this;have he:fr ow i=true:=he;rw[this]at he;cases he
   |succ n=>
    have hl:(SetTable.leap t.mask i pt).1≤t.mask:=Vu (Tx _ (Us _))
    obtain⟨m,h1,h2,h3⟩:=b0F n f (SetTable.leap t.mask i pt).1 (SetTable.leap t.mask i pt).2 (by omega) hl he
    have step:∀q,q6_ t (SetTable.runEnd t.mask i-i+1+q) (gst t.mask i pt)=q6_ t q (gst t.mask (SetTable.leap t.mask i pt).1 (SetTable.leap t.mask i pt).2):=fun q=>by
     rw[←a4H,b0v]
    refine⟨SetTable.runEnd t.mask i-i+1+m,by rw[step];exact h1,by rw[step];exact h2,fun m' hm'=>?_⟩
    rcases Ys m' (SetTable.runEnd t.mask i-i+1)with q|q
    ·rw[at' m' (by omega)];exact run m' (by omega)
    ·obtain⟨d,rfl⟩:∃d,m'=SetTable.runEnd t.mask i-i+1+d:=⟨m'-(SetTable.runEnd t.mask i-i+1),by omega⟩
     rw[step];exact h3 d (by omega)
structure Lay(t:SetTable)(hs:List Int)(k:Nat)(ow:Array (Option Nat)):Prop where
 sz:ow.size=t.mask+1
 rd:∀j q,ow.getD j none=some q->q<k/\∃n,road t (hs.getD q 0) n=j/\∀n',n'<n->(ow.getD (road t (hs.getD q 0) n') none).isSome=true
 al:∀q,q<k->∃j,ow.getD j none=some q
 inj:∀j j' q,ow.getD j none=some q->ow.getD j' none=some q->j=j'
theorem a2L{ow:Array (Option Nat)}{j i:Nat}{v:Option Nat}{d:Option Nat}(h:j<ow.size):(ow.setIfInBounds j v).getD i d=if i=j then v else ow.getD i d:=by
 simp only[Array.getD_eq_getD_getElem?,Array.getElem?_setIfInBounds]
 by_cases e:i=j
 ·subst e
  simp[h]
 ·simp[e,Zl e]
theorem b7z{ow:Array (Option Nat)}{j:Nat}(h:fr ow j=true):j<ow.size/\ow.getD j none=none:=by
 have hj:j<ow.size:=by
  rcases Ys j ow.size with q|q
  ·exact q
  ·have:ow.getD j (some 0)=some 0:=by simp[Array.getD,Nat.not_lt.mpr q]
   unfold fr at h;rw[this]at h;cases h
 refine⟨hj,?_⟩;unfold fr at h;simp only[Array.getD,hj,dif_pos]at h ⊢
 simpa using h
theorem b0G{ow:Array (Option Nat)}{j:Nat}(hj:j<ow.size)(h:fr ow j=false):(ow.getD j none).isSome=true:=by
 have e:ow.getD j (some 0)=ow.getD j none:=by simp only[Array.getD,hj,dif_pos]
 unfold fr at h;rw[e]at h;cases hq:ow.getD j none with
 |none=>rw[hq]at h;cases h
 |some _=>rfl
theorem Lay.free{t:SetTable}{hs:List Int}{k:Nat}{ow:Array (Option Nat)}(l:Lay t hs k ow)(hk:k≤t.mask):∃j,j≤t.mask/\fr ow j=true:=by
 apply Zd
 intro hn;have all:∀j,j≤t.mask->fr ow j=false:=fun j hj=>by
  cases h:fr ow j with
  |false=>rfl
  |true=>exact absurd ⟨j,hj,h⟩ hn
 have hq:∀j,j<t.mask+1->∃q,ow.getD j none=some q:=fun j hj=>by
  have:=b0G (by rw[l.sz];exact hj) (all j (by omega))
  exact Ym.mp this
 have hmap:∀n,n≤t.mask+1->∃qs:List Nat,qs.length=n/\qs.Nodup/\(∀q∈qs,q<k)/\∀q∈qs,∃j,j<n/\ow.getD j none=some q:=by
  intro n
  induction n with
  |zero=>exact fun _=>⟨[],rfl,List.nodup_nil,fun q h=>absurd h Zg,fun q h=>absurd h Zg⟩
  |succ n ih=>
   intro hn;obtain⟨qs,h1,h2,h3,h4⟩:=ih (by omega)
   obtain⟨q,e⟩:=hq n (by omega)
   refine⟨q::qs,by simp[h1],Uu.mpr ⟨fun hm=>?_,h2⟩,fun z hz=>?_,fun z hz=>?_⟩
   ·obtain⟨j,hj,ej⟩:=h4 q hm
    have:=l.inj _ _ _ e ej
    omega
   ·rcases Qg.mp hz with rfl|hz
    ·exact(l.rd _ _ e).1
    ·exact h3 z hz
   ·rcases Qg.mp hz with rfl|hz
    ·exact⟨n,by omega,e⟩
    ·obtain⟨j,hj,ej⟩:=h4 z hz
     exact⟨j,by omega,ej⟩
 obtain⟨qs,h1,h2,h3,_⟩:=hmap (t.mask+1) (Qu _);have pig:∀(k:Nat) (qs:List Nat),qs.Nodup->(∀q∈qs,q<k)->qs.length≤k:=by
  intro k
  induction k with
  |zero=>
   intro qs _ h;cases qs with
   |nil=>exact Qu _
   |cons q _=>exact absurd (h q Qo) (Um _)
  |succ k ih=>
   intro qs hn h;have hl:=ih (qs.erase k) (hn.sublist List.erase_sublist) fun q hq=>by
    have h1:=h q (List.mem_of_mem_erase hq)
    have h2:q≠k:=fun e=>by subst e;exact(List.Nodup.not_mem_erase hn) hq
    omega
   by_cases hm:k∈qs
   ·rw[List.length_erase_of_mem hm]at hl;omega
   ·rw[List.erase_of_not_mem hm]at hl;omega
 have:=pig k qs h2 h3
 omega
theorem Lay.step{t:SetTable}{hs:List Int}{k:Nat}{ow:Array (Option Nat)}(l:Lay t hs k ow)(hc:cov t.mask=true)(hk:k≤t.mask):
  ∃j,SetTable.layClean.free t.mask ow (SetTable.turns t.mask) (SetTable.bits (hs.getD k 0)%(t.mask+1)) (SetTable.bits (hs.getD k 0))=some j/\Lay t hs (k+1) (ow.setIfInBounds j (some k)):=by
 obtain⟨j0,h0,hf⟩:=l.free hk;obtain⟨n,hn,he⟩:=meets hc (hs.getD k 0) h0;have hi:SetTable.bits (hs.getD k 0)%(t.mask+1)≤t.mask:=Vu (Tx _ (Us _));obtain⟨m,h1,h2,h3⟩:=b0F (t:=t) (ow:=ow) n (SetTable.turns t.mask) _ _ (by unfold SetTable.turns;omega) hi (by rw[he];exact hf)
 have hr:∀m,(q6_ t m (gst t.mask (SetTable.bits (hs.getD k 0)%(t.mask+1)) (SetTable.bits (hs.getD k 0)))).j=road t (hs.getD k 0) m:=fun m=>by unfold road;rw[a3v]
 simp only[hr]at h1 h2 h3;refine⟨_,h1,?_⟩;obtain⟨hj,hjn⟩:=b7z h2;refine⟨by rw[Array.size_setIfInBounds];exact l.sz,fun j q e=>?_,fun q hq=>?_,fun j j' q e e'=>?_⟩
 ·rw[a2L hj]at e
  by_cases ej:j=road t (hs.getD k 0) m
  ·rw[Qc ej]at e
   cases e;refine⟨by omega,m,ej.symm,fun n' hn'=>?_⟩
   rw[a2L hj];split
   ·rfl
   ·exact b0G (by rw[l.sz];exact Nat.lt_succ_of_le (a6F _ _ _)) (h3 n' hn')
  ·rw[Qp ej]at e
   obtain⟨q1,n,q2,q3⟩:=l.rd j q e;refine⟨by omega,n,q2,fun n' hn'=>?_⟩
   rw[a2L hj];split
   ·rfl
   ·exact q3 n' hn'
 ·rcases Ys q k with h|h
  ·obtain⟨j,e⟩:=l.al q h
   refine⟨j,?_⟩;rw[a2L hj,Qp,e];intro z;subst z;rw[hjn]at e;cases e
  ·have:q=k:=by omega
   subst this;exact⟨_,by rw[a2L hj,Qc rfl]⟩
 ·rw[a2L hj]at e e'
  by_cases h1:j=road t (hs.getD k 0) m<;>by_cases h2:j'=road t (hs.getD k 0) m
  ·rw[h1,h2]
  ·rw[Qc h1]at e
   rw[Qp h2]at e';cases e;have:=(l.rd _ _ e').1
   omega
  ·rw[Qp h1]at e
   rw[Qc h2]at e';cases e';have:=(l.rd _ _ e).1
   omega
  ·rw[Qp h1]at e
   rw[Qp h2]at e';exact l.inj _ _ _ e e'
theorem Lay.zero(t:SetTable)(hs:List Int):Lay t hs 0 (Array.replicate (t.mask+1) none):=by
 have h:∀j,(Array.replicate (t.mask+1) (none:Option Nat)).getD j none=none:=fun j=>by
  simp only[Array.getD];split
  ·simp
  ·rfl
 refine⟨by simp,fun j q e=>?_,fun q hq=>absurd hq (Um _),fun j j' q e=>?_⟩
 ·rw[h]at e;cases e
 ·rw[h]at e;cases e
theorem b0H{t:SetTable}{hs:List Int}(hc:cov t.mask=true):∀(r:List Int) (k:Nat) (ow:Array (Option Nat)),Lay t hs k ow->hs.drop k=r->k+r.length≤t.mask+1->
  ∃ow',(r.foldl (fun(acc:Option (Array (Option Nat)×Nat)) h=>do
   let (owner,k)←acc
   let j←SetTable.layClean.free t.mask owner (SetTable.turns t.mask) (SetTable.bits h%(t.mask+1)) (SetTable.bits h)
   pure (owner.setIfInBounds j (some k),k+1)) (some (ow,k)))=some (ow',k+r.length)/\Lay t hs (k+r.length) ow'
 |[],k,ow,l,_,_=>⟨ow,rfl,l⟩
 |h::r,k,ow,l,e,hk=>by
  rw[Zj]at hk;obtain⟨j,h1,h2⟩:=l.step hc (by omega)
  have eh:hs.getD k 0=h:=by
   have:=Yy (·[0]?) e
   simp only[List.getElem?_drop,Nat.add_zero,List.getElem?_cons_zero]at this;rw[Zp,this];rfl
  rw[eh]at h1;obtain⟨ow',h3,h4⟩:=b0H hc r (k+1) _ h2 (by have:=Yy List.tail e;simpa using this) (by omega)
  refine⟨ow',?_,?_⟩
  ·rw[List.foldl_cons]
   show List.foldl _ ((SetTable.layClean.free t.mask ow (SetTable.turns t.mask) (SetTable.bits h%(t.mask+1)) (SetTable.bits h)).bind _) r=_;rw[h1];rw[Zj,show k+(r.length+1)=k+1+r.length by omega]
   exact h3
  ·rw[Zj,show k+(r.length+1)=k+1+r.length by omega]
   exact h4
theorem b7A{mask fi mv:Nat}{led plain:Bool}{es:Array (Int×Value)}(hc:cov mask=true)(hn:es.size≤mask+1):
  ∃t' od L,SetTable.laid mask fi mv led plain (es.map (·.1))=some (t',od)/\t'.mask=mask/\t'.led=led/\t'.plain=plain/\Tb t' (od.filterMap (es[·]?)) L/\(L.map (·.2)).Perm es.toList:=by
 let t:SetTable:={mask:=mask,place:=#[],dummies:=#[],finger:=fi,led:=led,moves:=mv,plain:=plain}
 obtain⟨ow,h1,h2⟩:=b0H (t:=t) (hs:=es.toList.map (·.1)) hc (es.toList.map (·.1)) 0 _ (Lay.zero t _) rfl (by simpa using hn)
 rw[Nat.zero_add]at h1 h2;have hcl:SetTable.layClean mask (es.map (·.1))=some ow:=by
  unfold SetTable.layClean;rw[←Array.foldl_toList,Array.toList_map];have:=Yy (Option.map (·.1)) h1
  simpa using this
 have hlen:(es.toList.map (·.1)).length=es.size:=by simp
 rw[hlen]at h2
 let live:=(List.range (mask+1)).filterMap fun j=>(ow.getD j none).map (j,·)
 have hlive:∀x,x∈live↔ow.getD x.1 none=some x.2:=fun x=>by
  obtain⟨j,q⟩:=x
  constructor
  ·intro hx
   obtain⟨i,hi,e⟩:=Jh.mp hx;obtain⟨v,e1,e2⟩:=Vm.mp e;cases e2;exact e1
  ·intro e
   refine Jh.mpr ⟨j,Qy.mpr ?_,by rw[e];rfl⟩
   rcases Ys j ow.size with z|z
   ·have:=h2.sz
    show j<t.mask+1
    omega
   ·have:ow.getD j none=none:=by simp[Array.getD,Nat.not_lt.mpr z]
    rw[this]at e;cases e
 have hlt:∀x∈live,x.2<es.size:=fun x hx=>(h2.rd _ _ ((hlive x).mp hx)).1
 have hsort:(live.map (·.1)).Pairwise (· < ·):=by
  refine Tz.mpr ?_
  refine List.pairwise_filterMap.mpr ?_
  refine List.pairwise_lt_range.imp ?_
  intro a b hab x hx y hy;obtain⟨v,_,rfl⟩:=Vm.mp hx;obtain⟨u,_,rfl⟩:=Vm.mp hy;exact hab
 have hnd:(live.map (·.2)).Nodup:=by
  refine Tz.mpr ?_
  refine(List.pairwise_map.mp hsort).imp_of_mem ?_
  intro a b ha hb hab e;have:=h2.inj _ _ _ ((hlive a).mp ha) (by rw[e];exact(hlive b).mp hb)
  omega
 have hperm:(live.map (·.2)).Perm (List.range es.size):=by
  refine List.perm_iff_count.mpr fun q=>?_
  rw[hnd.count,(List.nodup_range).count];have:(q∈live.map (·.2))↔q∈List.range es.size:=by
   rw[List.mem_range]
   constructor
   ·intro h
    obtain⟨x,hx,e⟩:=Qn.mp h;rw[←e];exact hlt x hx
   ·intro h
    obtain⟨j,e⟩:=h2.al q h;exact Qn.mpr ⟨(j,q),(hlive (j,q)).mpr e,rfl⟩
  simp only[this]
 let g:Nat->Int×Value:=fun q=>es.toList.getD q (0,Value.none)
 have hg:∀q,q<es.size->es[q]? =some (g q):=fun q hq=>by
  rw[←Vt];simp only[g,Zp];rw[Qi (by simpa using hq)]
  rfl
 have hfm:∀l:List (Nat×Nat),(∀x∈l,x.2<es.size)->(l.map (·.2)).filterMap (es[·]?)=l.map fun x=>g x.2:=by
  intro l
  induction l with
  |nil=>intro _;rfl
  |cons x l ih=>
   intro h;rw[Zz,Ju,hg x.2 (h x Qo)];dsimp only;rw[ih fun y hy=>h y (Qt _ hy),Zz]
 refine⟨{mask:=mask,place:=(live.map (·.1)).toArray,dummies:=#[],finger:=fi,led:=led,moves:=mv,plain:=plain},(live.map (·.2)).toArray,live.map fun x=>(x.1,g x.2),?_,rfl,rfl,rfl,?_,?_⟩
 ·unfold SetTable.laid
  rw[hcl]
  rfl
 ·refine⟨?_,?_,?_,?_,rfl,?_⟩
  ·simp
  ·rw[Array.toList_filterMap]
   show(live.map (·.2)).filterMap (es[·]?)=_
   rw[hfm live hlt,Zx]
   rfl
  ·rw[Zx]
   exact hsort
  ·intro x hx
   obtain⟨y,hy,rfl⟩:=Qn.mp hx;obtain⟨_,n,e,_⟩:=h2.rd _ _ ((hlive y).mp hy);show y.1≤mask;rw[←e];exact a6F t _ _
  ·intro x hx
   obtain⟨y,hy,rfl⟩:=Qn.mp hx;obtain⟨hq,n,e,hr⟩:=h2.rd _ _ ((hlive y).mp hy);have eh:(es.toList.map (·.1)).getD y.2 0=(g y.2).1:=by
    simp only[g,Zp,Zk];rw[Qi (by simpa using hq)]
    rfl
   rw[eh]at e hr;have hrc:∀x n,road {mask:=mask,place:=(live.map (·.1)).toArray,dummies:=#[],finger:=fi,led:=led,moves:=mv,plain:=plain} x n=road t x n:=fun x n=>a2e (by rfl) x n
   refine⟨n,(hrc _ _).trans e,fun n' hn'=>?_⟩
   rw[hrc];obtain⟨q',hq'⟩:=Ym.mp (hr n' hn');rw[Zx];exact Qn.mpr ⟨(_,q'),(hlive (_,q')).mpr hq',rfl⟩
 ·rw[Zx]
  have e1:live.map ((·.2)∘fun x=>(x.1,g x.2))=(live.map (·.2)).map g:=by rw[Zx];rfl
  rw[e1];refine(hperm.map g).trans ?_
  have:(List.range es.size).map g=es.toList:=by
   apply List.ext_getElem?
   intro i;rw[Zk]
   rcases Ys i es.size with h|h
   ·rw[List.getElem?_range h,Tp,←hg i h,Vt]
   ·rw[Va (by simpa using h),Va (by simpa using h)];rfl
  rw[this]
section
variable{prog:Program}{w:World}{K:Type}[DecidableEq K](knd:KeyKind prog w K)
def a0F(h:Heap):K ⊕ List K->Value->Prop
 |.inl k,v=>knd.is k v=true
 |.inr ks,v=>∃a,v=.ref a/\IsTupleKey knd h ks a
inductive ItsAre (h:Heap):List (K ⊕ List K)->List Value->Prop
 |nil:ItsAre h [] []
 |cons {k:K ⊕ List K}{v:Value}{ks:List (K ⊕ List K)}{vs:List Value}:a0F knd h k v->ItsAre h ks vs->ItsAre h (k::ks) (v::vs)
def y7_(h:Heap)(ks:List (K ⊕ List K))(a:Addr):Prop:=∃o items n,h.get? a=some o/\o.cls=.type "tuple"/\o.data=.seq items n/\ItsAre knd h ks items.toList
def a2f:K ⊕ List K->Int
 |.inl k=>knd.hash k
 |.inr ks=>tupleKeyHash knd ks
def a6G:K ⊕ List K->Nat
 |.inl _=>1
 |.inr ks=>ks.length+1
def v7_(ks:List (K ⊕ List K)):Int:=reduceHash (Builtin.Tuple.tupleHashOf (ks.map (a2f knd)))
def a6H(ks:List (K ⊕ List K)):Nat:=(ks.map (a6G (K:=K))).sum+1
variable{knd}
theorem a0F.inj{h:Heap}{x y:K ⊕ List K}{v:Value}(hx:a0F knd h x v)(hy:a0F knd h y v):x=y:=by
 cases x with
 |inl k=>
  cases y with
  |inl k'=>rw[knd.inj _ _ _ hx hy]
  |inr ks=>
   obtain⟨a,rfl,_⟩:=hy;have:=knd.byValue _ _ hx
   simp[carriedByValue]at this
 |inr ks=>
  obtain⟨a,rfl,ha⟩:=hx;cases y with
  |inl k'=>
   have:=knd.byValue _ _ hy
   simp[carriedByValue]at this
  |inr ks'=>
   obtain⟨b,e,hb⟩:=hy;cases e;rw[ha.inj hb]
theorem ItsAre.inj{h:Heap}{x y:List (K ⊕ List K)}{vs:List Value}(hx:ItsAre knd h x vs)(hy:ItsAre knd h y vs):x=y:=by
 induction hx generalizing y with
 |nil=>cases hy;rfl
 |cons h1 _ ih=>
  cases hy with
  |cons h2 t2=>rw[h1.inj h2,ih t2]
theorem y7_.inj{h:Heap}{x y:List (K ⊕ List K)}{a:Addr}(hx:y7_ knd h x a)(hy:y7_ knd h y a):x=y:=by
 obtain⟨o,items,n,ho,_,hd,hi⟩:=hx;obtain⟨o',items',n',ho',_,hd',hi'⟩:=hy;rw[ho]at ho';cases ho';rw[hd]at hd';cases hd';exact hi.inj hi'
theorem y7_.typeIs{s:Shared}{ks:List (K ⊕ List K)}{a:Addr}(x:y7_ knd s.heap ks a):s.TypeIs (.ref a) "tuple":=let ⟨o,_,_,ho,hc,_⟩:=x;⟨o,ho,hc⟩
theorem y7_.mono{h h':Heap}(f:∀a o its n,h.get? a=some o->o.data=.seq its n->h'.get? a=some o){ks:List (K ⊕ List K)}{a:Addr}(x:y7_ knd h ks a):y7_ knd h' ks a:=by
 obtain⟨o,items,n,ho,hc,hd,hi⟩:=x;refine⟨o,items,n,f _ _ _ _ ho hd,hc,hd,?_⟩;generalize items.toList=l at hi
 induction hi with
 |nil=>exact .nil
 |@cons k v ks vs h1 _ ih=>
  refine .cons ?_ ih;cases k with
  |inl k=>exact h1
  |inr ks=>
   obtain⟨b,e,o2,i2,n2,q1,q2,q3,q4⟩:=h1;exact⟨b,e,o2,i2,n2,f _ _ _ _ q1 q3,q2,q3,q4⟩
variable{A:Around}{E:OE}{s:Shared}
theorem b7B{k:K ⊕ List K}{v:Value}{Q:Int->Shared->Prop}(hu:A.units<cLine)(hk:a0F knd s.heap k v)(h:Q (a2f knd k) {s with toks:=s.toks+a6G k}):wpAny (model prog w) A (pyHash v) Q E s:=by
 cases k with
 |inl k=>exact knd.pyHash hk h
 |inr ks=>
  obtain⟨a,rfl,ha⟩:=hk;exact wpAny_pyHash_tuple hu ha h
theorem b7C{x y:K ⊕ List K}{u v:Value}{Q:Bool->Shared->Prop}(hu:A.units<cLine)(hx:a0F knd s.heap x u)(hy:a0F knd s.heap y v)(hs:x.isLeft=y.isLeft)(h:Q (decide (x=y)) s):wpAny (model prog w) A (eqBool u v) Q E s:=by
 cases x with
 |inl k=>
  cases y with
  |inl k'=>
   refine knd.eqBool hx hy ?_
   have:decide (k=k')=decide ((Sum.inl k:K ⊕ List K)=Sum.inl k'):=by simp
   rw[this];exact h
  |inr _=>cases hs
 |inr ks=>
  cases y with
  |inl _=>cases hs
  |inr ks'=>
   obtain⟨a,rfl,ha⟩:=hx;obtain⟨b,rfl,hb⟩:=hy;refine wpAny_eqBool_tuple hu ha hb ?_
   have:decide (ks=ks')=decide ((Sum.inr ks:K ⊕ List K)=Sum.inr ks'):=by simp
   rw[this];exact h
theorem b7D{ks:List (K ⊕ List K)}{a:Addr}{Q:Int->Shared->Prop}(hu:A.units+1<cLine)(hk:y7_ knd s.heap ks a)(h:Q (v7_ knd ks) {s with toks:=s.toks+a6H ks}):wpAny (model prog w) A (pyHash (.ref a)) Q E s:=by
 have hT:=hk.typeIs
 obtain⟨o,items,n,ho,_,hd,hi⟩:=hk;unfold pyHash
 first|unfold pyHashByItsType|skip
 first|refine Qq (wpAny_cRoomFor_or (.inr (by omega)) ?_)|skip
 refine Qq (Ug hT Jy.lookup ?_);rw[Qp (by rw[beq_builtin_none];exact Zy)]
 refine Qq (Ug hT Jy.lookup ?_);refine Qq (wpAny_callSpecialIfBoundUnlessNone?_slot hT Jy (Yi Jy hT PySem.F.entry_tuple_hash ?_ (PySem.F.args_tuple_hash_1 _)));show wpAny _ _ (Builtin.Tuple.tupleItemsOf (.ref a)>>=_) _ _ s;refine Qq (Xn ho hd ?_);refine Qq ?_
 rw[←Jc];refine Yu _
  (fun rest (b:Array Int) s'=>∃dn lf,ks=dn++lf/\ItsAre knd s.heap lf rest/\b.toList=dn.map (a2f knd)/\s'={s with toks:=s.toks+(dn.map (a6G (K:=K))).sum})
  _ ?_ ?_ _ _ ⟨[],ks,rfl,hi,rfl,rfl⟩
 ·rintro x rest b s' ⟨dn,lf,rfl,hl,hb,rfl⟩
  cases hl with
  |@cons k _ ks' _ h1 hl'=>
   refine Qq (b7B (knd:=knd) (k:=k) (by show A.in1.units<cLine;exact hu) h1 ?_)
   first
    |exact Qj ⟨dn++[k],ks',by simp,hl',by simp[hb],by simp[Xs]⟩
    |exact Qq (Qj (Qj ⟨dn++[k],ks',by simp,hl',by simp[hb],by simp[Xs]⟩))
 ·rintro b s' ⟨dn,lf,rfl,hl,hb,rfl⟩
  cases hl;rw[Uw]at h;show wpAny _ _ (retInt (Builtin.Tuple.tupleHashOf b.toList)) _ _ _;rw[hb];refine wpAny_ret_mkInt ?_
  show wpAny _ _ (if(decide (-(2:Int)^63≤Builtin.Tuple.tupleHashOf (dn.map (a2f knd)))&&decide (Builtin.Tuple.tupleHashOf (dn.map (a2f knd))<2^63))=true then _ else _) Q E _
  unfold v7_ a6H reduceHash at h
  by_cases hr:(decide (-(2:Int)^63≤Builtin.Tuple.tupleHashOf (dn.map (a2f knd)))&&decide (Builtin.Tuple.tupleHashOf (dn.map (a2f knd))<2^63))=true
  ·rw[Qc hr]
   rw[Qc hr]at h;exact Qj (by simpa [Xs]using h)
  ·rw[Qp hr]
   rw[Qp hr]at h;exact Qq (Xq (Qj (by simpa [Xs]using h)))
def a0Z(x y:List (K ⊕ List K)):Prop:=x.map Sum.isLeft=y.map Sum.isLeft
theorem b7E{x y:List (K ⊕ List K)}{a b:Addr}{P:Fin->Shared->Prop}(hu:A.units<cLine)(al:a0Z x y)(hx:y7_ knd s.heap x a)(hy:y7_ knd s.heap y b)(h:P (.done (.ret (.bool (decide (x=y))))) s):
  wpAny (model prog w) A (Builtin.«tuple.__eq__» ⟨[.ref a,.ref b],[]⟩) P E s:=by
 have hTb:=hy.typeIs
 obtain⟨oa,xs,na,hoa,_,hda,hia⟩:=hx;obtain⟨ob,ys,nb,hob,_,hdb,hib⟩:=hy;show wpAny _ _ (isInstance (.ref b) (.type "tuple")>>=_) _ _ s;refine Qq (Vs hTb Ve ?_);simp only[Yb,Qh,Zv];refine Qq (Xn hoa hda ?_);refine Qq (Xn hob hdb ?_);refine Qq ?_
 refine Yu _
  (fun rest r s'=>r.1=none/\s'=s/\∃x' y' xs' ys',rest=List.zip xs' ys'/\a0Z x' y'/\ItsAre knd s.heap x' xs'/\ItsAre knd s.heap y' ys'/\decide (x'=y')=decide (x=y)/\(xs'.length==ys'.length)=(xs.size==ys.size))
  _ ?_ ?_ _ _ ⟨rfl,rfl,x,y,xs.toList,ys.toList,rfl,al,hia,hib,rfl,by simp⟩
 ·rintro⟨u,v⟩ rest r s' ⟨hr,rfl,x',y',xs',ys',hz,al',hx',hy',hdec,hlen⟩
  cases hx' with
  |nil=>simp at hz
  |@cons k1 u' x'' xs'' h1 hx''=>
   cases hy' with
   |nil=>simp at hz
   |@cons k2 v' y'' ys'' h2 hy''=>
    simp only[Up,List.cons.injEq,Prod.mk.injEq]at hz;obtain⟨⟨rfl,rfl⟩,rfl⟩:=hz;unfold a0Z at al';rw[Zz,Zz]at al';injection al' with al1 al2
    refine Qq (b7C (x:=k1) (y:=k2) hu h1 h2 al1 ?_)
    by_cases hk:k1=k2
    ·subst hk
     rw[Zt rfl];simp only[Yb,Qh,Zv];refine Qj ⟨rfl,rfl,x'',y'',xs'',ys'',rfl,al2,hx'',hy'',?_,by simpa using hlen⟩
     rw[←hdec]
     by_cases hxy:x''=y''
     ·simp[hxy]
     ·simp[hxy]
    ·rw[Qe hk]
     simp only[Xg,Yv];have hf:decide (x=y)=false:=by rw[←hdec];simp[hk]
     rw[hf]at h;exact Qq (Qj (Qj (Qj h)))
 ·rintro⟨r1,r2⟩ s' ⟨hr,rfl,x',y',xs',ys',hz,al',hx',hy',hdec,hlen⟩
  simp only at hr;subst hr;refine Qj ?_
  have hfin:(xs.size==ys.size)=decide (x=y):=by
   rw[←hdec,←hlen];cases hx' with
   |nil=>
    cases hy' with
    |nil=>simp
    |cons _ _=>simp
   |cons _ _=>
    cases hy' with
    |nil=>simp
    |cons _ _=>simp at hz
  show P (.done (.ret (.bool (xs.size==ys.size)))) s';rw[hfin];exact h
theorem b7F{x y:List (K ⊕ List K)}{a b:Addr}{Q:Bool->Shared->Prop}(hu:A.units+1<cLine)(al:a0Z x y)(hx:y7_ knd s.heap x a)(hy:y7_ knd s.heap y b)(h:Q (decide (x=y)) s):
  wpAny (model prog w) A (eqBool (.ref a) (.ref b)) Q E s:=by
 unfold eqBool
 try with_reducible refine Yz ?_
 by_cases hab:(Value.ref a==Value.ref b)=true
 ·rw[Qc hab]
  have e:a=b:=by have:=Ux hab;injection this
  subst e;obtain rfl:=hx.inj hy;exact Qq (Xq (Qj (by simpa using h)))
 ·rw[Qp hab]
  exact Qq (wpAny_richCompare_same_room (op:=.Eq) hx.typeIs hy.typeIs Ui
   (Yi Ui hx.typeIs PySem.F.entry_tuple_eq (b7E (by show A.in1.units<cLine;exact hu) al hx hy ⟨_,rfl,(fun e=>nomatch e),Yq h⟩) (PySem.F.args_tuple_eq_2 _ _)) (by omega))
end
section
variable{prog:Program}{w:World}{K:Type}[DecidableEq K]{knd:KeyKind prog w K}{A:Around}{E:OE}{s:Shared}
theorem b7G{ks:List K}{a:Addr}{n:Nat}{Q:Bool->Shared->Prop}(hk:IsTupleKey knd s.heap ks a)(h:Q true s):wpAny (model prog w) A (eqIsQuiet (n+1) (.ref a)) Q E s:=by
 have hT:=hk.typeIs
 obtain⟨o,items,n,ho,_,hd,hi⟩:=hk;unfold eqIsQuiet;refine Qq (Ug hT Ui.lookup ?_);show wpAny _ _ (isInstance (.ref a) (.type "tuple")>>=_) _ _ s;refine Qq (Vs hT Ve ?_);simp only[Yb,Qh,Zv];refine Qq (Zf ho hd ?_);refine Qq ?_
 show wpAny _ _ (forIn items _ _) _ _ s;rw[←Jc];refine Yu _ (fun rest r s'=>r.1=none/\s'=s/\∀v∈rest,carriedByValue v=true) _ ?_ ?_ _ _ ⟨rfl,rfl,hi.byValue⟩
 ·rintro v rest r s' ⟨hr,rfl,hall⟩
  rw[eqIsQuiet_byValue _ (hall v Qo)];refine Qq (Qj ?_);simp only[Yb,Qh,Zv];exact Qj ⟨rfl,rfl,fun u hu'=>hall u (Qt _ hu')⟩
 ·rintro⟨r1,r2⟩ s' ⟨hr,rfl,_⟩
  simp only at hr;subst hr;exact Qj h
theorem b7H{k:K ⊕ List K}{v:Value}{n:Nat}{Q:Bool->Shared->Prop}(hk:a0F knd s.heap k v)(h:Q true s):wpAny (model prog w) A (eqIsQuiet (n+1) v) Q E s:=by
 cases k with
 |inl k=>rw[eqIsQuiet_byValue _ (knd.byValue _ _ hk)];exact Qj h
 |inr ks=>
  obtain⟨a,rfl,ha⟩:=hk;exact b7G ha h
theorem b0I{ks:List (K ⊕ List K)}{a:Addr}{n:Nat}{Q:Bool->Shared->Prop}(hk:y7_ knd s.heap ks a)(h:Q true s):wpAny (model prog w) A (eqIsQuiet (n+2) (.ref a)) Q E s:=by
 have hT:=hk.typeIs
 obtain⟨o,items,n,ho,_,hd,hi⟩:=hk;unfold eqIsQuiet;refine Qq (Ug hT Ui.lookup ?_);show wpAny _ _ (isInstance (.ref a) (.type "tuple")>>=_) _ _ s;refine Qq (Vs hT Ve ?_);simp only[Yb,Qh,Zv];refine Qq (Zf ho hd ?_);refine Qq ?_
 show wpAny _ _ (forIn items _ _) _ _ s;rw[←Jc];refine Yu _ (fun rest r s'=>r.1=none/\s'=s/\∃ks',ItsAre knd s.heap ks' rest) _ ?_ ?_ _ _ ⟨rfl,rfl,ks,hi⟩
 ·rintro v rest r s' ⟨hr,rfl,ks',hall⟩
  cases hall with
  |cons h1 h2=>
   refine Qq (b7H h1 ?_);simp only[Yb,Qh,Zv];exact Qj ⟨rfl,rfl,_,h2⟩
 ·rintro⟨r1,r2⟩ s' ⟨hr,rfl,_⟩
  simp only at hr;subst hr;exact Qj h
theorem b0J(n:Nat){v:Value}(h:carriedByValue v=true):ofAClassStatement n v=pure false:=by
 cases v with
 |ref a=>simp[carriedByValue]at h
 |_=>cases n<;>rfl
theorem b7I{ks:List K}{a:Addr}{n:Nat}{Q:Bool->Shared->Prop}(hk:IsTupleKey knd s.heap ks a)(h:Q false s):wpAny (model prog w) A (ofAClassStatement (n+1) (.ref a)) Q E s:=by
 have hT:=hk.typeIs
 obtain⟨o,items,n,ho,_,hd,hi⟩:=hk;unfold ofAClassStatement;refine Qq (wpAny_typeOf hT ?_);dsimp only;rw[Qc (by decide)]
 refine Qq (Qj ?_);simp only[Yb,Qh,Zv];refine Qq (Zf ho hd ?_);dsimp only;refine Qq ?_
 rw[←Jc];refine Yu _ (fun rest r s'=>r.1=none/\s'=s/\∀v∈rest,carriedByValue v=true) _ ?_ ?_ _ _ ⟨rfl,rfl,hi.byValue⟩
 ·rintro v rest r s' ⟨hr,rfl,hall⟩
  rw[b0J _ (hall v Qo)];refine Qq (Qj ?_);simp only[Qh,Zv];exact Qj ⟨rfl,rfl,fun u hu'=>hall u (Qt _ hu')⟩
 ·rintro⟨r1,r2⟩ s' ⟨hr,rfl,_⟩
  simp only at hr;subst hr;exact Qj h
theorem b7J{k:K ⊕ List K}{v:Value}{n:Nat}{Q:Bool->Shared->Prop}(hk:a0F knd s.heap k v)(h:Q false s):wpAny (model prog w) A (ofAClassStatement (n+1) v) Q E s:=by
 cases k with
 |inl k=>rw[b0J _ (knd.byValue _ _ hk)];exact Qj h
 |inr ks=>
  obtain⟨a,rfl,ha⟩:=hk;exact b7I ha h
theorem b0K{ks:List (K ⊕ List K)}{a:Addr}{n:Nat}{Q:Bool->Shared->Prop}(hk:y7_ knd s.heap ks a)(h:Q false s):wpAny (model prog w) A (ofAClassStatement (n+2) (.ref a)) Q E s:=by
 have hT:=hk.typeIs
 obtain⟨o,items,n,ho,_,hd,hi⟩:=hk;unfold ofAClassStatement;refine Qq (wpAny_typeOf hT ?_);dsimp only;rw[Qc (by decide)]
 refine Qq (Qj ?_);simp only[Yb,Qh,Zv];refine Qq (Zf ho hd ?_);dsimp only;refine Qq ?_
 rw[←Jc];refine Yu _ (fun rest r s'=>r.1=none/\s'=s/\∃ks',ItsAre knd s.heap ks' rest) _ ?_ ?_ _ _ ⟨rfl,rfl,ks,hi⟩
 ·rintro v rest r s' ⟨hr,rfl,ks',hall⟩
  cases hall with
  |cons h1 h2=>
   refine Qq (b7J h1 ?_);simp only[Qh,Zv];exact Qj ⟨rfl,rfl,_,h2⟩
 ·rintro⟨r1,r2⟩ s' ⟨hr,rfl,_⟩
  simp only at hr;subst hr;exact Qj h
theorem unseen{kx:List (K ⊕ List K)}{ax:Addr}{Q:Bool->Shared->Prop}(hx:y7_ knd s.heap kx ax)(h:Q false s):∀(l:List Value),(∀v∈l,∃k b,v=.ref b/\y7_ knd s.heap k b)->wpAny (model prog w) A (searchCouldBeSeen (.ref ax) l) Q E s:=by
 intro l hl;unfold searchCouldBeSeen;refine Qq ?_
 refine Yu _ (fun rest r s'=>r.1=none/\s'=s/\∀v∈rest,∃k b,v=.ref b/\y7_ knd s.heap k b) _ ?_ ?_ _ _ ⟨rfl,rfl,hl⟩
 ·rintro v rest r s' ⟨hr,rfl,hall⟩
  obtain⟨k,b,rfl,hb⟩:=hall v Qo;have hrest:∀v∈rest,∃k b,v=.ref b/\y7_ knd s'.heap k b:=fun u hu=>hall u (Qt _ hu)
  dsimp only;split
  ·exact Qj ⟨rfl,rfl,hrest⟩
  ·refine Qq (b0I (n:=6) hx ?_)
   simp only[Yb,Qh,Zv];refine Qq (b0I (n:=6) hb ?_);simp only[Yb,Qh,Zv];refine Qq (b0K (n:=6) hx ?_);simp only[Qh,Zv];refine Qq (b0K (n:=6) hb ?_);simp only[Qh,Zv];exact Qj ⟨rfl,rfl,hrest⟩
 ·rintro⟨r1,r2⟩ s' ⟨hr,rfl,_⟩
  simp only at hr;subst hr;exact Qj h
end
section
variable{prog:Program}{w:World}{K:Type}[DecidableEq K]{knd:KeyKind prog w K}{A:Around}{E:OE}{s:Shared}
theorem b0L(n:Nat){v:Value}(h:carriedByValue v=true):∃b,hashByValue n v=pure b:=by
 cases v with
 |ref a=>simp[carriedByValue]at h
 |_=>cases n<;>exact⟨_,rfl⟩
theorem b0M{n:Nat}{o:Obj}{a:Addr}{items:Array Value}{m:Nat}{Q:Bool->Shared->Prop}(hT:s.TypeIs (.ref a) "tuple")(ho:s.heap.get? a=some o)(hd:o.data=.seq items m)
  (hi:∀v∈items.toList,∀Q':Bool->Shared->Prop,(∀b,Q' b s)->wpAny (model prog w) A (hashByValue n v) Q' E s)(h:∀b,Q b s):wpAny (model prog w) A (hashByValue (n+1) (.ref a)) Q E s:=by
 unfold hashByValue;refine Qq (Ug hT Jy.lookup ?_);dsimp only;refine Qq (Zf ho hd ?_);refine Qq ?_
 show wpAny _ _ (forIn items _ _) _ _ s;rw[←Jc];refine Yu _ (fun rest r s'=>r.1=none/\s'=s/\∀v∈rest,v∈items.toList) _ ?_ ?_ _ _ ⟨rfl,rfl,fun _ hv=>hv⟩
 ·rintro v rest r s' ⟨hr,rfl,hall⟩
  refine Qq (hi v (hall v Qo) _ fun b=>?_)
  cases b with
  |true=>
   simp only[Yb,Qh,Zv];exact Qj ⟨rfl,rfl,fun u hu'=>hall u (Qt _ hu')⟩
  |false=>
   simp only[Xg,Yv];exact Qj (Qj (h false))
 ·rintro⟨r1,r2⟩ s' ⟨hr,rfl,_⟩
  simp only at hr;subst hr;exact Qj (h true)
theorem b7K{ks:List K}{a:Addr}{n:Nat}{Q:Bool->Shared->Prop}(hk:IsTupleKey knd s.heap ks a)(h:∀b,Q b s):wpAny (model prog w) A (hashByValue (n+1) (.ref a)) Q E s:=by
 have hT:=hk.typeIs
 obtain⟨o,items,m,ho,_,hd,hi⟩:=hk;refine b0M hT ho hd (fun v hv Q' h'=>?_) h
 obtain⟨b,e⟩:=b0L n (hi.byValue v hv);rw[e];exact Qj (h' b)
theorem b7L{h:Heap}{ks:List (K ⊕ List K)}{vs:List Value}(hi:ItsAre knd h ks vs):∀v∈vs,∃k,a0F knd h k v:=by
 induction hi with
 |nil=>intro v hv;cases hv
 |@cons k v ks vs h1 _ ih=>
  intro u hu
  rcases Qg.mp hu with rfl|hu
  ·exact⟨k,h1⟩
  ·exact ih u hu
theorem b7M{ks:List (K ⊕ List K)}{a:Addr}{n:Nat}{Q:Bool->Shared->Prop}(hk:y7_ knd s.heap ks a)(h:∀b,Q b s):wpAny (model prog w) A (hashByValue (n+2) (.ref a)) Q E s:=by
 have hT:=hk.typeIs
 obtain⟨o,items,m,ho,_,hd,hi⟩:=hk;refine b0M hT ho hd (fun v hv Q' h'=>?_) h
 obtain⟨k,hk⟩:=b7L hi v hv;cases k with
 |inl k=>
  obtain⟨b,e⟩:=b0L (n+1) (knd.byValue _ _ hk);rw[e];exact Qj (h' b)
 |inr ks=>
  obtain⟨b,rfl,hb⟩:=hk;exact b7K hb h'
variable{S:Addr}{o:Obj}{es:Array (Int×Value)}{ep:Nat}{t:SetTable}{L:List (Nat×Int×Value)}{kx:List (K ⊕ List K)}{ax:Addr}
theorem Tb.fits(T:Tb t es L)(hL:L.length≤t.mask):t.fits es.size=true:=by
 unfold SetTable.fits SetTable.fill;rw[T.du,T.size,T.esz]
 simp[hL]
def b0N(knd:KeyKind prog w K)(h:Heap)(kx:List (K ⊕ List K))(L:List (Nat×Int×Value)):Prop:=∀e∈L,∃k b,e.2=(v7_ knd k,.ref b)/\y7_ knd h k b/\a0Z k kx
theorem b7N(hu:A.units+1<cLine)(ho:s.heap.get? S=some o)(hd:o.data=.set es ep t)(T:Tb t es L)(hL:L.length≤t.mask)(hm2:t.mask%2=1)(hk:b0N knd s.heap kx L)(hx:y7_ knd s.heap kx ax):
  ∀(m f:Nat) (st:Option SetTable.Probe) (p:SetTable.Probe) {Q:SetFound->Shared->Prop},st.getD (t.probeStart (v7_ knd kx))=p->m<f->m<10 * SetTable.turns t.mask->p.dummy=none->
   (∀n,n<m->(q6_ t n p).j∈L.map (·.1))->(q6_ t m p).j∉L.map (·.1)->
   ((∃n,n<m/\∃e∈L,e.1=(q6_ t n p).j/\∃b,e.2.2=.ref b/\y7_ knd s.heap kx b)->Q (.there none) s)->
   ((∀n,n<m->∀e∈L,e.1=(q6_ t n p).j->∀b,e.2.2=.ref b-> ¬ y7_ knd s.heap kx b)->Q (.free (q6_ t m p).j false) s)->
   wpAny (model prog w) A (setSearchFrom S (.ref ax) (v7_ knd kx) true f st) Q E s:=by
 intro m
 induction m using Nat.strongRecOn with
 |ind m ih=>
  intro f st p Q hp hf hm hdm hin hout hT hF;cases f with
  |zero=>omega
  |succ f=>
   have hfit:=T.fits hL
   unfold setSearchFrom;refine Qq (Ud ho hd hfit ?_);dsimp only;have hg:t.gaveWay=false:=by unfold SetTable.gaveWay;rw[hm2];rfl
   rw[hg];simp only[Qh,Zv];rw[hp];unfold SetTable.probe;have q1:∀n,n<m->∃q,q<t.place.size/\t.place.getD q 0=(q6_ t n p).j:=fun n hn=>T.mem.mpr (hin n hn)
   have q2:∀q,q<t.place.size->t.place.getD q 0≠(q6_ t m p).j:=fun q hq e=>hout (T.mem.mp ⟨q,hq,e⟩)
   rcases b0B (hashAt:=_) (h:=v7_ knd kx) T.ris T.du m (10 * SetTable.turns t.mask) p hm hdm q1 q2 with⟨n,q,h1,h2,h3,h4,h5,h6⟩|⟨h1,h2⟩
   ·rw[h5]
    dsimp only;have hq:q<L.length:=by rw[←T.size];exact h2
    obtain⟨a1,a2⟩:=T.at hq;obtain⟨k,b,e1,e2,e3⟩:=hk (L[q]) (Ye hq);have mid:∀{R:Prop},R->True:=fun _=>trivial
    suffices hrest:wpAny (model prog w) A (do
      let some (_,y):=es[q]? |unsupported "internal:set-entry"
      let equal←holding [y] (eqBool y (.ref ax))
      let (es',_,t')←setState S
      if true&&equal then return .there none
      let some sme:=t'.sameMemory t.moves t.mask|unsupported "set.changed-during-lookup:is-the-new-block-at-the-old-address"
      let still←match (if sme then t'.slot (q6_ t n p).j else .empty)with
       |.live i'=>match es'[i']? with
        |some (_,y')=>do pure (if←isSame y' y then some i' else none)
        |none=>pure none
       |_=>pure none
      match still with
      |none=>rule "set.search.anew";setSearchFrom S (.ref ax) (v7_ knd kx) true f none
      |some i'=>if equal then return .there (some i')else setSearchFrom S (.ref ax) (v7_ knd kx) true f (some (q6_ t (n+1) p))) Q E s by
     split
     ·refine Qq (unseen (knd:=knd) hx ?_ _ fun v hv=>?_)
      ·simp only[Qh,Zv]
       exact hrest
      ·obtain⟨z,hz,rfl⟩:=Qn.mp hv
       have hz':z∈es.toList:=by
        have:=(Array.mem_toList_iff.mp hz);have:=Array.mem_filter.mp this;exact Array.mem_toList_iff.mpr this.1
       rw[T.en]at hz';obtain⟨e,he,rfl⟩:=Qn.mp hz';obtain⟨k',b',f1,f2,_⟩:=hk e he;exact⟨k',b',by rw[f1],f2⟩
     ·exact hrest
    rw[a2,e1];dsimp only;refine Qq (Yz (b7F hu e3 e2 hx ?_));refine Qq (Ud ho hd hfit ?_);dsimp only
    by_cases hkk:k=kx
    ·rw[Zt hkk]
     simp only[Bool.and_self,Yv];subst hkk;exact Qj (hT ⟨n,h1,L[q],Ye hq,by rw[←a1];exact h3,b,by rw[e1],e2⟩)
    ·rw[Qe hkk]
     simp only[Bool.and_false,Qh,Zv];have hsm:t.sameMemory t.moves t.mask=some true:=by unfold SetTable.sameMemory;simp
     rw[hsm];dsimp only;rw[Qc rfl];have hsl:t.slot (q6_ t n p).j=.live q:=by rw[←h3];exact a4F T.ris h2
     rw[hsl];dsimp only;rw[a2,e1];dsimp only;refine Qq (wpAny_isSame_ref_self ?_);simp only[Yv];refine Qq (Qj ?_);dsimp only;have hadd:∀n',q6_ t n' (q6_ t (n+1) p)=q6_ t (n+1+n') p:=fun n'=>a4H t n' (n+1) p
     refine ih (m-(n+1)) (by omega) f (some (q6_ t (n+1) p)) (q6_ t (n+1) p) rfl (by omega) (by omega) (by rw[b0A];exact hdm) (fun n' hn'=>?_) ?_ (fun⟨n',hn',z⟩=>?_) fun z=>?_
     ·rw[hadd];exact hin _ (by omega)
     ·rw[hadd,show n+1+(m-(n+1))=m by omega];exact hout
     ·rw[hadd]at z
      exact hT ⟨n+1+n',by omega,z⟩
     ·rw[hadd,show n+1+(m-(n+1))=m by omega]
      refine hF fun n' hn' e he ej b' eb ib=>?_
      rcases Nat.lt_trichotomy n' n with hlt|rfl|hgt
      ·obtain⟨i,hi,ei⟩:=Uj.mp he
       have hne:=h6 n' i hlt (by rw[T.size];exact hi) (by rw[(T.at hi).1,ei];exact ej)
       obtain⟨k',b2,f1,f2,_⟩:=hk e he;rw[f1]at eb;cases eb;have:=f2.inj ib;subst this
       apply hne
       show(es[i]?.map (·.1)).getD 0=_
       rw[(T.at hi).2,ei,f1]
       rfl
      ·have:e=L[q]:=by
        have hu1:e.1=(L[q]).1:=by rw[ej,←h3,a1]
        obtain⟨i,hi,ei⟩:=Uj.mp he;have:i=q:=by
         have s1:=a4F T.ris (show i<t.place.size by rw[T.size];exact hi)
         rw[(T.at hi).1,ei,hu1,←a1,h3,hsl]at s1;exact(SetTable.Slot.live.inj s1).symm
        subst this;exact ei.symm
       subst this;rw[e1]at eb;cases eb;exact hkk (e2.inj ib)
      ·exact z (n'-(n+1)) (by omega) e he (by rw[hadd,show n+1+(n'-(n+1))=n' by omega];exact ej) b' eb ib
   ·rw[h2]
    dsimp only;refine Qj (hF fun n hn e he ej b eb ib=>?_)
    obtain⟨i,hi,ei⟩:=Uj.mp he;have hne:=h1 n i hn (by rw[T.size];exact hi) (by rw[(T.at hi).1,ei];exact ej)
    obtain⟨k',b2,f1,f2,_⟩:=hk e he;rw[f1]at eb;cases eb;have:=f2.inj ib;subst this
    apply hne
    show(es[i]?.map (·.1)).getD 0=_
    rw[(T.at hi).2,ei,f1]
    rfl
end
section
variable{prog:Program}{w:World}{K:Type}[DecidableEq K]{knd:KeyKind prog w K}{A:Around}{E:OE}{s:Shared}
def a6I(t:SetTable)(n:Nat):Prop:=(t.mask=7/\n≤4)∨(t.mask=31/\n≤18)
theorem a6I.cov{t:SetTable}{n:Nat}(h:a6I t n):cov t.mask=true/\n≤t.mask/\t.mask%2=1:=by
 rcases h with⟨e,h⟩|⟨e,h⟩
 ·rw[e];exact⟨b7v,by omega,rfl⟩
 ·rw[e];exact⟨b0z,by omega,rfl⟩
def a0t(knd:KeyKind prog w K)(h:Heap)(S:Addr)(ks:List (List (K ⊕ List K))):Prop:=
 ∃(o:Obj) (es:Array (Int×Value)) (ep:Nat) (t:SetTable) (L:List (Nat×Int×Value)) (ps:List (List (K ⊕ List K)×Addr)),h.get? S=some o/\o.ExactSet/\o.data=.set es ep t/\Tb t es L/\a6I t L.length/\(L.map (·.2)).Perm (ps.map fun p:List (K ⊕ List K)×Addr=>(v7_ knd p.1,Value.ref p.2))/\ps.map (·.1)=ks/\ks.Nodup/\∀p∈ps,y7_ knd h p.1 p.2
theorem Tb.plain{t t':SetTable}{es:Array (Int×Value)}{L:List (Nat×Int×Value)}(T:Tb t es L)(h1:t'.place=t.place)(h2:t'.mask=t.mask)(h3:t'.dummies=t.dummies):Tb t' es L:=
 ⟨by rw[h1];exact T.pl,T.en,T.ri,fun x hx=>by rw[h2];exact T.le x hx,by rw[h3];exact T.du,fun x hx=>by
  obtain⟨n,a,b⟩:=T.rd x hx;exact⟨n,by rw[a2e h2];exact a,fun n' hn=>by rw[a2e h2];exact b n' hn⟩⟩
theorem b0O{h:Heap}{S:Addr}{o:Obj}{es:Array (Int×Value)}{ep:Nat}{t:SetTable}(ho:h.get? S=some o)(hd:o.data=.set es ep t)(es':Array (Int×Value))(t':SetTable):
  (h.update S (Obj.putSet es' t')).get? S=some {o with data:=.set es' (ep+1) t'}:=by
 have:=Jr (Obj.putSet es' t') ho (by rw[putSet_of es' t' hd];rfl)
 rw[putSet_of es' t' hd]at this;exact this
theorem b0P{h h':Heap}{S:Addr}{o:Obj}{es:Array (Int×Value)}{ep:Nat}{t:SetTable}(ho:h.get? S=some o)(hd:o.data=.set es ep t)(hs:Heap.SameBut S h h'){k:List (K ⊕ List K)}{a:Addr}(x:y7_ knd h k a):y7_ knd h' k a:=by
 refine x.mono fun b u its n hb hu=>?_
 refine(hs.2 b ?_).trans hb;rintro rfl;rw[ho]at hb;cases hb;rw[hd]at hu;cases hu
theorem b0Q{n:Nat}(h:n≤1000):n≤sizeLine:=by rw[Jb];omega
theorem b7O{S ax:Addr}{ks:List (List (K ⊕ List K))}{kx:List (K ⊕ List K)}{Q:Bool->Shared->Prop}(hu:A.units+1<cLine)(hS:a0t knd s.heap S ks)(hx:y7_ knd s.heap kx ax)(hal:∀k∈ks,a0Z k kx)(hn:ks.length+1≤18)
  (h:∀b h' ks',Heap.SameBut S s.heap h'->a0t knd h' S ks'->(∀k,k∈ks'↔k∈ks∨k=kx)->ks'.length≤ks.length+1->Q b {s with heap:=h'}):wpAny (model prog w) A (setAddHashed S (.ref ax) (v7_ knd kx)) Q E s:=by
 obtain⟨o,es,ep,t,L,ps,ho,hex,hd,T,hM,hP,hks,hnd,hps⟩:=id hS;obtain⟨hc,hL,hm2⟩:=hM.cov;have hlen:L.length=ks.length:=by
  have:=hP.length_eq;rw[Qk,Qk]at this;rw[this,←hks,Qk]
 have hfit:=T.fits hL
 have hk:b0N knd s.heap kx L:=fun e he=>by
  have:=hP.mem_iff.mp (Qn.mpr ⟨e,he,rfl⟩);obtain⟨p,hp,ep⟩:=Qn.mp this;exact⟨p.1,p.2,ep.symm,hps p hp,hal _ (hks ▸ Qn.mpr ⟨p,hp,rfl⟩)⟩
 unfold setAddHashed setAddHashedIn;refine Yz (Qq (Ud ho hd hfit ?_));dsimp only;have hb:byScan (.ref ax) es=false:=rfl;rw[hb];simp only[Qh,Zv];obtain⟨m,hm,hout,hin⟩:=T.ends hc hL (v7_ knd kx);unfold setSearch;have hturn:10 * SetTable.turns t.mask<100000:=by
  rcases hM with⟨e,_⟩|⟨e,_⟩<;>rw[e]<;>decide
 refine Qq (b7N hu ho hd T hL hm2 hk hx m 100000 none (t.probeStart (v7_ knd kx)) rfl (by omega) hm rfl hin hout (fun hT=>?_) fun hF=>?_)
 ·obtain⟨n,_,e,he,_,b,eb,ib⟩:=hT
  have:kx∈ks:=by
   have:=hP.mem_iff.mp (Qn.mpr ⟨e,he,rfl⟩);obtain⟨p,hp,ep⟩:=Qn.mp this;have e2:e.2.2=.ref p.2:=by rw[←ep]
   rw[eb]at e2;cases e2;rw[ib.inj (hps p hp)];exact hks ▸ Qn.mpr ⟨p,hp,rfl⟩
  dsimp only;refine Qj ?_
  have e:s={s with heap:=s.heap}:=by cases s;rfl
  rw[e];exact h _ s.heap ks (Heap.SameBut.refl S s.heap) hS (fun k=>⟨.inl,fun z=>z.elim id fun z=>z ▸ this⟩) (by omega)
 ·have hni:kx∉ks:=fun hi=>by
   rw[←hks]at hi;obtain⟨p,hp,ep⟩:=Qn.mp hi;have:=hP.mem_iff.mpr (Qn.mpr ⟨p,hp,rfl⟩);obtain⟨e,he,ee⟩:=Qn.mp this;obtain⟨n,r1,r2⟩:=T.rd e he;rw[show e.2.1=v7_ knd kx by rw[ee,ep]]at r1 r2
   have hnm:n<m:=by
    rcases Ys n m with z|z
    ·exact z
    ·exfalso
     rcases Nat.lt_or_eq_of_le z with z|z
     ·exact hout (r2 m z)
     ·subst z
      apply hout
      show road t (v7_ knd kx) m∈_;rw[r1];exact Qn.mpr ⟨e,he,rfl⟩
   exact hF n hnm e he r1.symm p.2 (by rw[ee]) (ep ▸ hps p hp)
  dsimp only;refine Qq (Ud ho hd hfit ?_);obtain⟨L1,T1,P1⟩:=T.put (x:=.ref ax) hout rfl hin;have hl1:L1.length=L.length+1:=by rw[P1.length_eq];rfl
  have hP1:(L1.map (·.2)).Perm ((ps++[(kx,ax)]).map fun p:List (K ⊕ List K)×Addr=>(v7_ knd p.1,Value.ref p.2)):=by
   refine(P1.map (·.2)).trans ?_
   rw[Zz,Jx];refine(List.Perm.cons _ hP).trans ?_
   exact(List.perm_append_comm (l₁:=[_])).trans (List.Perm.refl _)
  have hks1:(ps++[(kx,ax)]).map (·.1)=ks++[kx]:=by rw[Jx,hks];rfl
  have hnd1:(ks++[kx]).Nodup:=List.nodup_append.mpr ⟨hnd,by simp,fun a ha b hb e=>by
   rw[List.mem_singleton]at hb;subst hb;subst e;exact hni ha⟩
  have hps1:∀{h'},Heap.SameBut S s.heap h'->∀p∈ps++[(kx,ax)],y7_ knd h' p.1 p.2:=fun hs p hp=>by
   rcases Jd.mp hp with hp|hp
   ·exact b0P ho hd hs (hps p hp)
   ·rw[List.mem_singleton]at hp
    subst hp;exact b0P ho hd hs hx
  have key:∀t1:SetTable,t1.place=(t.put (q6_ t m (t.probeStart (v7_ knd kx))).j).1.place->t1.mask=t.mask->t1.dummies=(t.put (q6_ t m (t.probeStart (v7_ knd kx))).j).1.dummies->
    wpAny (model prog w) A (do
     storeSet S (SetTable.insertAt es (t.put (q6_ t m (t.probeStart (v7_ knd kx))).j).2 (v7_ knd kx,.ref ax)) t1
     if !false&&t1.tooFull then setRelay S (SetTable.grown (es.size+1))
     return true) Q E s:=by
   intro t1 z1 z2 z3;have T2:Tb t1 (SetTable.insertAt es (t.put (q6_ t m (t.probeStart (v7_ knd kx))).j).2 (v7_ knd kx,.ref ax)) L1:=T1.plain z1 z2 z3;have hz:(SetTable.insertAt es (t.put (q6_ t m (t.probeStart (v7_ knd kx))).j).2 (v7_ knd kx,.ref ax)).size=L.length+1:=by rw[T2.esz,hl1]
   refine Qq (wpAny_storeSet_of ho hd ?_ (b0Q (by rw[hz];omega)))
   have g1:=b0O ho hd (SetTable.insertAt es (t.put (q6_ t m (t.probeStart (v7_ knd kx))).j).2 (v7_ knd kx,.ref ax)) t1
   have sb1:=Uo s.heap S (Obj.putSet (SetTable.insertAt es (t.put (q6_ t m (t.probeStart (v7_ knd kx))).j).2 (v7_ knd kx,.ref ax)) t1)
   have hfill:t1.fill=L.length+1:=by
    unfold SetTable.fill;rw[T2.du,T2.size,hl1];rfl
   have htf:t1.tooFull=decide ((L.length+1) * 5 ≥ t.mask * 3):=by
    unfold SetTable.tooFull;rw[hfill,z2]
   by_cases hfull:(L.length+1) * 5 ≥ t.mask * 3
   ·rw[htf,Zt hfull]
    simp only[Xg,Bool.and_self,Yv];have hm7:t.mask=7/\L.length=4:=by
     rcases hM with⟨e,z⟩|⟨e,z⟩
     ·rw[e]at hfull;exact⟨e,by omega⟩
     ·rw[e]at hfull;omega
    have e5:SetTable.grown (es.size+1)=20:=by rw[T.esz,hm7.2];rfl
    rw[e5];refine Qq ?_
    unfold setRelay;refine Qq (Ud g1 rfl (T2.fits (by rw[hl1,z2,hm7.1];omega)) ?_)
    dsimp only;have hsa:SetTable.sizeAbove 20=32:=by decide
    rw[hsa];rw[Qp (by rw[Jb];omega)]
    obtain⟨t3,od,L3,h1,h2,h3,h4,T3,P3⟩:=b7A (mask:=31) (fi:=t1.finger) (mv:=t1.movedTo 31) (led:=t1.led) (plain:=t1.plain) (es:=SetTable.insertAt es (t.put (q6_ t m (t.probeStart (v7_ knd kx))).j).2 (v7_ knd kx,.ref ax)) b0z (by rw[hz];omega)
    have hrl:t1.relaid ((SetTable.insertAt es (t.put (q6_ t m (t.probeStart (v7_ knd kx))).j).2 (v7_ knd kx,.ref ax)).map (·.1)) 20=some (t3,od):=by
     unfold SetTable.relaid;rw[hsa];exact h1
    rw[hrl];have hl3:L3.length=L.length+1:=by
     have:=P3.length_eq;rw[Qk]at this;exact this.trans ((Xu).trans hz)
    refine Qq (m:=_) ?_
    show wpAny _ _ (do
     if(od.filterMap ((SetTable.insertAt es (t.put (q6_ t m (t.probeStart (v7_ knd kx))).j).2 (v7_ knd kx,Value.ref ax))[·]?)).size !=(SetTable.insertAt es (t.put (q6_ t m (t.probeStart (v7_ knd kx))).j).2 (v7_ knd kx,Value.ref ax)).size then unsupported "internal:set-table-lost-an-element"
     pure (od.filterMap ((SetTable.insertAt es (t.put (q6_ t m (t.probeStart (v7_ knd kx))).j).2 (v7_ knd kx,Value.ref ax))[·]?),t3)) _ _ _
    have hsz3:(od.filterMap ((SetTable.insertAt es (t.put (q6_ t m (t.probeStart (v7_ knd kx))).j).2 (v7_ knd kx,Value.ref ax))[·]?)).size=L.length+1:=by rw[T3.esz,hl3]
    rw[hsz3,hz];simp only[bne_self_eq_false,Qh,Zv];refine Qq (Qj ?_);refine Qj ?_
    dsimp only;refine wpAny_storeSet_of g1 rfl ?_ (b0Q (by rw[hsz3];omega))
    have g2:=b0O g1 rfl (od.filterMap ((SetTable.insertAt es (t.put (q6_ t m (t.probeStart (v7_ knd kx))).j).2 (v7_ knd kx,Value.ref ax))[·]?)) t3
    have sb2:=sb1.trans (Uo _ S (Obj.putSet (od.filterMap ((SetTable.insertAt es (t.put (q6_ t m (t.probeStart (v7_ knd kx))).j).2 (v7_ knd kx,Value.ref ax))[·]?)) t3))
    refine Qj (h _ _ (ks++[kx]) sb2 ?_ (fun k=>by simp) (by simp))
    refine⟨_,_,_,t3,L3,ps++[(kx,ax)],g2,hex,rfl,T3,.inr ⟨h2,by rw[hl3];omega⟩,?_,hks1,hnd1,hps1 sb2⟩
    refine P3.trans ?_
    rw[T2.en];exact hP1
   ·rw[htf,Qe hfull]
    simp only[Xg,Bool.and_false,Qh,Zv];refine Qj (h _ _ (ks++[kx]) sb1 ?_ (fun k=>by simp) (by simp))
    refine⟨_,_,_,t1,L1,ps++[(kx,ax)],g1,hex,rfl,T2,?_,hP1,hks1,hnd1,hps1 sb1⟩;rw[hl1]
    rcases hM with⟨e,z⟩|⟨e,z⟩
    ·rw[e]at hfull
     exact .inl ⟨z2.trans e,by omega⟩
    ·exact .inr ⟨z2.trans e,by omega⟩
  dsimp only;split
  ·refine Qq (b7M (n:=6) hx fun b=>?_)
   cases b with
   |true=>
    rw[Qc rfl];exact key _ rfl rfl rfl
   |false=>
    rw[Qp Zy];exact key _ rfl rfl rfl
  ·refine Qq (Qj ?_)
   rw[Qc rfl];exact key _ rfl rfl rfl
end
section
variable{prog:Program}{w:World}{K:Type}[DecidableEq K]{knd:KeyKind prog w K}{A:Around}{E:OE}{s:Shared}
theorem a0t.mono{h h':Heap}{S:Addr}{ks:List (List (K ⊕ List K))}(x:a0t knd h S ks)(hS:∀o,h.get? S=some o->h'.get? S=some o)(f:∀a o its n,h.get? a=some o->o.data=.seq its n->h'.get? a=some o):a0t knd h' S ks:=by
 obtain⟨o,es,ep,t,L,ps,ho,hex,hd,T,hM,hP,hks,hnd,hps⟩:=x;exact⟨o,es,ep,t,L,ps,hS o ho,hex,hd,T,hM,hP,hks,hnd,fun p hp=>(hps p hp).mono f⟩
theorem b7P{R:Result->Shared->Prop}{l it S:Addr}{items:Array Value}{kys:List (List (K ⊕ List K))}{s0:Shared}(hh:A.handled=none)(hu:A.units+2<cLine)(hl:s0.heap.IsList l items)(hne:it≠S)(hni:s0.heap.get? it=none)(hnS:s0.heap.get? S=none)
  (hk:∀(i:Nat) (v:Value),items[i]? =some v->∃(k:List (K ⊕ List K)) (a:Addr),v=.ref a/\kys[i]? =some k/\y7_ knd s0.heap k a)(hlen:kys.length=items.size)(hal:∀k∈kys,∀k'∈kys,a0Z k k')(hn:items.size≤17):
  ∀(r i:Nat) (h:Heap) (tk:Nat) (ks:List (List (K ⊕ List K))),items.size-i=r->i≤items.size->(∀b o,s0.heap.get? b=some o->h.get? b=some o)->h.IsListIter it l i->a0t knd h S ks->(∀k,k∈ks↔k∈kys.take i)->ks.length≤i->
   (∀h' tk' ks',(∀b o,s0.heap.get? b=some o->h'.get? b=some o)->a0t knd h' S ks'->(∀k,k∈ks'↔k∈kys)->R (.ok (.ret .none)) {s0 with heap:=h',toks:=tk'})->
   codeAny (model prog w) A (.builtin "set.update.loop" ⟨[.ref S,.ref it],[]⟩) R {s0 with heap:=h,toks:=tk}:=by
 intro r;have kpl:∀{h:Heap},(∀b o,s0.heap.get? b=some o->h.get? b=some o)->h.IsList l items:=fun kp=>by
  obtain⟨o,h1,h2⟩:=hl;exact⟨o,kp _ _ h1,h2⟩
 induction r with
 |zero=>
  intro i h tk ks hr hi kp st hS hmem hz hR;refine Ji Vj ?_
  rw[Uz Jl _];show wpAny _ A.in1 (pyNext (.ref it)>>=_) _ _ _;refine Qq (wpAny_pyNext_list_end (s:={s0 with heap:=h,toks:=tk}) (show A.in1.handled=none from hh) st (kpl kp) (Array.getElem?_eq_none (by omega)) fun h' eb=>?_)
  refine Qj ?_
  have e:i=kys.length:=by omega
  refine hR h' tk ks (fun b o hb=>eb b o (fun z=>by subst z;rw[hni]at hb;cases hb) (kp b o hb)) (hS.mono (fun o ho=>eb S o (Zl hne) ho) fun a o its n ha hd=>eb a o (fun z=>?_) ha) fun k=>by rw[hmem,e,List.take_length]
  subst z;obtain⟨oi,i1,_,i3⟩:=st;rw[ha]at i1;cases i1;rw[hd]at i3;cases i3
 |succ r ih=>
  intro i h tk ks hr hi kp st hS hmem hz hR;have hlt:i<items.size:=by omega
  obtain⟨k,a,hv,hki,ha⟩:=hk i items[i] (Array.getElem?_eq_getElem hlt);refine Ji Vj ?_
  rw[Uz Jl _];show wpAny _ A.in1 (pyNext (.ref it)>>=_) _ _ _;refine Qq (wpAny_pyNext_list_item (s:={s0 with heap:=h,toks:=tk}) st (kpl kp) (x:=.ref a) (by rw[Array.getElem?_eq_getElem hlt,hv]) fun h1 st1 sb=>?_)
  have kp1:∀b o,s0.heap.get? b=some o->h1.get? b=some o:=fun b o hb=>(sb.2 b (fun z=>by subst z;rw[hni]at hb;cases hb)).trans (kp b o hb)
  have hS1:a0t knd h1 S ks:=hS.mono (fun o ho=>(sb.2 S (Zl hne)).trans ho) fun b o its n hb hd=>by
   refine(sb.2 b (fun z=>?_)).trans hb
   subst z;obtain⟨oi,i1,_,i3⟩:=st;rw[hb]at i1;cases i1;rw[hd]at i3;cases i3
  have ha1:y7_ knd h1 k a:=ha.mono fun b o its n hb hd=>kp1 b o hb
  have hkm:k∈kys:=Jj hki
  show wpAny _ A.in1 (holding [Value.ref a] (setAdd S (.ref a))>>=_) _ _ _;refine Qq (Yz ?_);unfold setAdd;refine Yz ?_
  have hu1:A.in1.units+1<cLine:=by show A.units+1+1<cLine;omega
  refine Qq (b7D (knd:=knd) hu1 ha1 ?_);refine b7O (s:={s0 with heap:=h1,toks:=tk+a6H k}) hu1 hS1 ha1 (fun k' hk'=>hal k' (List.mem_of_mem_take ((hmem k').mp hk')) k hkm) (by omega) fun b h2 ks' sb2 hS2 hm2 hl2=>?_
  have hSg:∃o,h1.get? S=some o:=by obtain⟨o,es,ep,t,L,ps,ho,_⟩:=hS1;exact⟨o,ho⟩
  refine Qj ⟨Vn Jl _,ih (i+1) h2 _ ks' (by omega) (by omega) (fun b o hb=>(sb2.2 b (fun z=>by subst z;rw[hnS]at hb;cases hb)).trans (kp1 b o hb)) (It1.at' (k:=false) (show It1 false h1 it l (i+1)from st1) fun o e=>(sb2.2 it hne).trans e) hS2 (fun k'=>?_) (by omega) hR⟩
  rw[hm2,hmem,List.take_add_one,hki]
  simp[Jd]
theorem b7Q{l:Addr}{items:Array Value}{kys:List (List (K ⊕ List K))}{Q:OE}(hh:A.handled=none)(hu:A.units+64<cLine)(hl:s.heap.IsList l items)
  (hk:∀(i:Nat) (v:Value),items[i]? =some v->∃(k:List (K ⊕ List K)) (a:Addr),v=.ref a/\kys[i]? =some k/\y7_ knd s.heap k a)(hlen:kys.length=items.size)(hal:∀k∈kys,∀k'∈kys,a0Z k k')(hn:items.size≤17)
  (h:∀h' tk ks,(∀b o,s.heap.get? b=some o->h'.get? b=some o)->a0t knd h' s.heap.objs.size ks->(∀k,k∈ks↔k∈kys)->Q (.ref s.heap.objs.size) {s with heap:=h',toks:=tk}):
  wpAny (model prog w) A (call (.type "set") [.ref l]) Q E s:=by
 obtain⟨c,tl,hmro⟩:=PySem.F.called_set.mro;have hmade:=PySem.F.called_set.made;have hsub:=PySem.F.called_set.sub;refine wpAny_call (codeAny_of_tree ?_);show wpAny _ _ (callAny (.type "set") _) _ _ _;refine Qj ⟨Code.quiet_builtin _ (by decide+kernel),Ji PySem.F.entry_type_call ?_⟩
 rw[Around.under_plain (weight_type_call_type "set" [.ref l] []) rfl];have h1:=PySem.F.called_set.notType;have h2:=PySem.F.called_set.canCreate;have hct:=PySem.F.typeCall_set_1 (.ref l)
 repeat (any_goals (first|assumption|wp_step))
 refine Xz (code_set_new_1 (.ref l) (E:=E) (Q₁:=fun obj s₁=>∃led:Bool,obj=.ref s.heap.objs.size/\s₁={s with heap:=s.heap.push {cls:=.type "set",dict:=none,data:=.set #[] 0 (.fresh 0 0 led)}}) fun led=>⟨led,rfl,rfl⟩) fun r s₁ hr=>?_
 cases r with
 |error e=>exact hr
 |ok fl=>
  cases fl with
  |ret obj=>
   obtain⟨led,rfl,rfl⟩:=hr;have hS:(s.heap.push {cls:=.type "set",dict:=none,data:=.set #[] 0 (.fresh 0 0 led)}).get? s.heap.objs.size=some {cls:=.type "set",dict:=none,data:=.set #[] 0 (.fresh 0 0 led)}:=Ql _ rfl;have hT:Shared.TypeIs {s with heap:=s.heap.push {cls:=.type "set",dict:=none,data:=.set #[] 0 (.fresh 0 0 led)}} (.ref s.heap.objs.size) "set":=⟨_,hS,rfl⟩
   have hli:=PySem.F.called_set.init.lookup
   have hbi:=PySem.F.called_set.init.bind (.ref s.heap.objs.size)
   repeat (any_goals (first|assumption|wp_step))
   refine Xz (Xw (R:=wants (fun r s₂=>r=.none/\∃h' tk ks,s₂={s with heap:=h',toks:=tk}/\(∀b o,s.heap.get? b=some o->h'.get? b=some o)/\a0t knd h' s.heap.objs.size ks/\(∀k,k∈ks↔k∈kys)) E) PySem.F.called_set.init.plain PySem.F.entry_set_init (check_set_init_1 hT ?_)) fun r₂ s₂ hr₂=>?_
   ·obtain⟨ol,hol,hcl,nl,hdl⟩:=hl
    obtain⟨ocls,odict,odata,oslots⟩:=ol;simp only at hcl hdl;subst hcl;subst hdl;have hol':(s.heap.push {cls:=.type "set",dict:=none,data:=.set #[] 0 (.fresh 0 0 led)}).get? l=some {cls:=.type "list",dict:=odict,data:=.seq items nl,slots:=oslots}:=Qx _ hol;have hsls:=PySem.F.sub_list_set;have hslf:=PySem.F.sub_list_frozenset;have hne:(Value.type "list"==Value.type "dict")=false:=by decide
    have hl1:(s.heap.push {cls:=.type "set",dict:=none,data:=.set #[] 0 (.fresh 0 0 led)}).IsList l items:=⟨_,hol',rfl,nl,rfl⟩
    unfold Builtin.«set.__init__» noKeywords Builtin.Frozenset.updateFrom;generalize hPI:pyIter=PI
    wp_walk
    subst hPI;refine Jo hl1 ?_
    refine Qq (wpAny_runValue ?_);have hss:(s.heap.push {cls:=.type "set",dict:=none,data:=.set #[] 0 (.fresh 0 0 led)}).objs.size=s.heap.objs.size+1:=Zs ..;have no:∀{b},s.heap.objs.size≤b->s.heap.get? b=none:=fun{b} hb=>by
     cases hq:s.heap.get? b with
     |none=>rfl
     |some o=>exact absurd (Qw hq) (Nat.not_lt.mpr hb)
    have fr0:a0t knd ((s.heap.push {cls:=.type "set",dict:=none,data:=.set #[] 0 (.fresh 0 0 led)}).push {cls:=.type "list_iterator",data:=.fields #[.ref l,.int 0 0]}) s.heap.objs.size []:=by
     refine⟨_,#[],0,.fresh 0 0 led,[],[],Qx _ hS,⟨rfl,rfl,rfl⟩,rfl,⟨rfl,rfl,List.Pairwise.nil,(fun x hx=>nomatch hx),rfl,(fun x hx=>nomatch hx)⟩,.inl ⟨rfl,by simp⟩,List.Perm.nil,rfl,List.nodup_nil,(fun p hp=>nomatch hp)⟩
    refine b7P (s0:=s) (knd:=knd) (l:=l) (items:=items) (kys:=kys) (A:=A.in1.in1) (by simp[hh]) (by show A.units+1+1+2<cLine;omega) ⟨_,hol,rfl,nl,rfl⟩ (by show(s.heap.push {cls:=.type "set",dict:=none,data:=.set #[] 0 (.fresh 0 0 led)}).objs.size≠_;rw[hss];exact Nat.succ_ne_self _) (no (by show _≤(s.heap.push {cls:=.type "set",dict:=none,data:=.set #[] 0 (.fresh 0 0 led)}).objs.size;rw[hss];exact Nat.le_succ _)) (no (Qu _)) hk hlen hal hn items.size 0 _ s.toks [] (by omega) (Jg _)
     (fun b o hb=>Qx _ (Qx _ hb)) ⟨_,Ql _ rfl,rfl,rfl⟩ fr0 (fun k=>by simp) (Jg _) fun h' tk' ks' kp hS' hm'=>?_
    show wpAny _ _ _ _ _ _;refine Qj ?_
    show wpAny _ _ (ret Value.none) _ _ _;exact Qj ⟨rfl,h',tk',ks',rfl,kp,hS',hm'⟩
   ·cases r₂ with
    |error e=>exact hr₂
    |ok fl₂=>
     cases fl₂ with
     |ret r=>
      obtain⟨rfl,h',tk,ks,rfl,kp,hS',hm⟩:=hr₂
      repeat (any_goals (first|assumption|wp_step))
      exact h _ _ _ kp hS' hm
     |_=>exact hr₂.elim
  |_=>exact hr.elim
end
section
variable{P:Program}{w:World}
theorem b7R{h:Heap}{a:Addr}{its:Array Value}{k:List Int}(t:IsTup h a its)(i:IntsAre its.toList k):IsTupleKey (intKind P w) h k a:=by
 obtain⟨o,h1,h2,n,h3⟩:=t;refine⟨o,its,n,h1,h2,h3,?_⟩;generalize its.toList=l at i
 induction i with
 |nil=>exact .nil
 |cons n t _ ih=>exact .cons (intKind_is _ _ _ _) ih
theorem b7S{h:Heap}{a:Addr}{its:Array Value}{T:OI}(t:IsTup h a its)(r:RowsAre h its.toList T):y7_ (intKind P w) h (T.map Sum.inr) a:=by
 obtain⟨o,h1,h2,n,h3⟩:=t;refine⟨o,its,n,h1,h2,h3,?_⟩;generalize its.toList=l at r
 induction r with
 |nil=>exact .nil
 |cons t i _ ih=>exact .cons ⟨_,rfl,b7R t i⟩ ih
end
def a3w(h:Heap)(p:Addr)(n:Nat):Prop:=∃(o:Obj) (es:Array (Int×Value)) (ep:Nat) (t:SetTable),h.get? p=some o/\o.ExactSet/\o.data=.set es ep t/\t.fits es.size=true/\es.size=n
def ddup{α:Type}[DecidableEq α]:List α->List α
 |[]=>[]
 |x::r=>if x∈r then ddup r else x::ddup r
theorem a4J{α:Type}[DecidableEq α]{x:α}:∀{l:List α},x∈ddup l↔x∈l
 |[]=>Iff.rfl
 |y::l=>by
  unfold ddup;split
  ·rename_i h
   rw[a4J,Qg];exact⟨.inr,fun z=>z.elim (fun e=>e ▸ h) id⟩
  ·rw[Qg,Qg,a4J]
theorem a6J{α:Type}[DecidableEq α]:∀{l:List α},(ddup l).Nodup
 |[]=>List.nodup_nil
 |y::l=>by
  unfold ddup;split
  ·exact a6J
  ·rename_i h
   exact Uu.mpr ⟨fun z=>h (a4J.mp z),a6J⟩
theorem b7T{α:Type}[DecidableEq α]{l m:List α}(h1:l.Nodup)(h2:m.Nodup)(h:∀x,x∈l↔x∈m):l.length=m.length:=by
 refine(List.perm_iff_count.mpr fun x=>?_:l.Perm m).length_eq
 rw[h1.count,h2.count];simp only[h x]
theorem b0R:∀{T U:OI},T.map (Sum.inr:List Int->Int ⊕ List Int)=U.map Sum.inr->T=U
 |[],[],_=>rfl
 |[],_::_,h=>by cases h
 |_::_,[],h=>by cases h
 |a::T,b::U,h=>by
  injection h with h1 h2
  cases h1;rw[b0R h2]
section
variable{X:Cx}{B:OA}{pins:OX}{σ:St}{G H:Hp}{s:Shared}
theorem b7U(I:Inv X pins σ H s)(l:Le G H){x:V}{u:Value}{as:List D}{T:OI}(rv:q7_ x u)(q:Rep X.K G x (.tup as))(e:rows? as=some T):∃a,u=.ref a/\y7_ (intKind X.prog X.w) s.heap (T.map Sum.inr) a:=by
 simp only[Rep]at q;obtain⟨a,ys,rfl,hq,rp⟩:=q;cases rv;obtain⟨its,rv,p1,_⟩:=I.tuple (l.sqT hq);exact⟨a,rfl,b7S p1 (by simpa using a6q I l rv rp e)⟩
def a3x(Ts:List (OI)):Bool:=Ts.all fun T=>T.length==(Ts.headD []).length
def b7V(X:Cx):List V->Hp->VK->Prop:=fun xs H Q=>∃(l:Addr) (G:Hp) (ys:List V) (ds:List D) (Ts:List (OI)),xs=[.ref l]/\Le G H/\SqL X.K G l ys/\z5_ X.K G ys ds/\tabs? ds=some Ts/\Ts.length≤17/\a3x Ts=true/\
 ∀p,H p=none->Q (.ref p) (upd H p (.ext fun h=>a3w h p (ddup Ts).length))
theorem b7W(hc:X.calm=true)(hu:X.A.units+64<cLine):k5_ X (.type "set") (b7V X):=by
 intro pins s σ H xs us Q I rv h;obtain⟨l,G,ys,ds,Ts,rfl,le,hl,rp,ht,hn,hlk,k⟩:=h;cases rv with
 |cons r1 rv=>
 cases rv;cases r1;have hh:X.A.handled=none:=I.ok.hd hc;obtain⟨its,rvs,pl,hz⟩:=I.list (le.sqL hl);have hlen:=b0m ht;have hlen2:=rp.length;have hlen3:=rvs.length;refine b7Q (knd:=intKind X.prog X.w) (items:=its.toArray) (kys:=Ts.map (List.map Sum.inr)) hh hu pl.isList (fun i v hv=>?_) (by simp;omega) (fun a ha b hb=>?_) (by simp;omega) fun h' tk ks kp hS hm=>?_
 ·have hv':its[i]? =some v:=by simpa using hv
  have hi:i<its.length:=(Qm.mp hv').1
  have hy:ys[i]? =some ys[i]:=Qi (by omega)
  obtain⟨u,hu',ru⟩:=rvs.get hy;rw[hv']at hu';cases hu';obtain⟨d,hd,rd⟩:=a6y rp hy;obtain⟨as,rfl,ea⟩:=a6x ht hd;obtain⟨a,rfl,ka⟩:=b7U I le ru rd ea;refine⟨_,a,rfl,?_,ka⟩;rw[Zk,Qi (show i<Ts.length by omega),Zp,Qi (show i<Ts.length by omega)]
  rfl
 ·obtain⟨T,hT,rfl⟩:=Qn.mp ha
  obtain⟨U,hU,rfl⟩:=Qn.mp hb;have q1:=Qb.mp hlk T hT;have q2:=Qb.mp hlk U hU;have:T.length=U.length:=(Ux q1).trans (Ux q2).symm;unfold a0Z;rw[Zx,Zx];refine Ua (by simpa using this) fun i h1 h2=>?_
  rw[Jp,Jp]
  rfl
 ·obtain⟨o,es,ep,t,L,ps,ho,hex,hd,T,hM,hP,hks,hnd,hps⟩:=hS
  have hsz:es.size=(ddup Ts).length:=by
   rw[T.esz];have h1:=hP.length_eq;rw[Qk,Qk]at h1;rw[h1];have h2:ps.length=ks.length:=by rw[←hks,Qk]
   rw[h2];have h3:(ks).length=((ddup Ts).map (List.map (Sum.inr:List Int->Int ⊕ List Int))).length:=by
    refine b7T hnd ?_ fun x=>?_
    ·refine Tz.mpr (a6J.imp fun hne e=>hne (b0R e))
    ·rw[hm,Qn,Qn]
     simp only[a4J]
   rw[h3,Qk]
  have hset:a3w h' s.heap.objs.size (ddup Ts).length:=⟨o,es,ep,t,ho,hex,hd,T.fits hM.cov.2.1,hsz⟩
  exact⟨.ref s.heap.objs.size,_,I.laid (a:=s.heap.objs.size) (o:=.ext fun h=>a3w h s.heap.objs.size (ddup Ts).length) (t':=tk) kp (Qu _) ⟨hset,⟨_,ho⟩,fun h1 h2 ⟨o,es,ep,t,e,r⟩ k=>⟨o,es,ep,t,k o e,r⟩⟩,rfl,k _ (I.hok.fresh (Qu _))⟩
def b7X:List V->Hp->VK->Prop:=fun xs H Q=>∃(p:Addr) (n:Nat),xs=[.ref p]/\n≤1000/\H p=some (.ext fun h=>a3w h p n)/\Q (.int n) H
theorem b7Y:k5_ X (.builtin "len") b7X:=by
 intro pins s σ H xs us Q I r h;obtain⟨p,n,rfl,hn,hp,q⟩:=h;obtain⟨u,rfl,rx⟩:=a1h r;cases rx;obtain⟨o,es,ep,t,ho,hex,hd,hf,rfl⟩:a3w s.heap p n:=(show k2_ X.prog X.w H s.heap p (.ext _)from I.hok p _ hp).1
 refine call_len_set ho hex hd hf (by omega) ?_
 exact⟨.int es.size,H,I.tok _,⟨_,rfl⟩,q⟩
def a3y:List D->Option D
 |[.lst ds]=>(tabs? ds).bind fun Ts=>if Ts.length≤17/\a3x Ts=true then some (.int (ddup Ts).length)else none
 |_=>none
theorem b0S{α:Type}[DecidableEq α]:∀l:List α,(ddup l).length≤l.length
 |[]=>Qu _
 |y::l=>by
  have:=b0S l;unfold ddup;split
  ·rw[Zj];omega
  ·rw[Zj,Zj];omega
theorem b7Z{e:Expr}{ms:Mo (List D)}{p p1 pos a1v:Pos}(hc:X.calm=true)(hu:X.A.units+64<cLine)(hg:Gl X "len")(hm:X.mg "len"=none)(hg1:Gl X "set")(hm1:X.mg "set"=none)(ha:EDs X B [e] ms)
  (he:starEach [e] X.env=(false,eval e X.env)::starEach [] X.env:=by rfl)(hpl:(backTo a1v (starEach [] X.env)).any (·.1)=false:=by rfl)
  (he1:starEach [.Call (.Name "set" p1) [e] [] a1v] X.env=[(false,eval (.Call (.Name "set" p1) [e] [] a1v) X.env)]:=by rfl):
  ED X B (.Call (.Name "len" p) [.Call (.Name "set" p1) [e] [] a1v] [] pos) (mCB a3y ms):=by
 have hv:=a8A (pos:=a1v) (p:=p1) (b7W hc hu) hg1 hm1 (show bootBuiltins "set"=some (.type "set") by decide+kernel) ha (by decide) (by decide) he hpl
 refine pe_imp (a3X b7Y hg hm Yx (a1F hv a3c he1)) ?_
 rintro σ H Q ⟨G,env,d,env',rl,e,k⟩;obtain⟨⟨ds,env1⟩,e1,e2⟩:=q1_ e;obtain⟨d1,e3,e4⟩:=v8_ e2;cases e4;obtain⟨ds',rfl⟩:∃ds',ds=[.lst ds']:=by
  dsimp only at e3;unfold a3y at e3;split at e3
  ·exact⟨_,rfl⟩
  ·cases e3
 obtain⟨Ts,t1,t2⟩:=q1_ (show(tabs? ds').bind _=some d from e3)
 split at t2
 ·rename_i hc
  cases t2;refine⟨G,env,_,_,rl,e1,fun vs G1 H1 ev r1=>?_⟩
  obtain⟨x,rfl,q⟩:=a0l r1;simp only[Rep]at q;obtain⟨a,ys,rfl,h1,h2⟩:=q;refine⟨a,G1,ys,ds',Ts,rfl,ev.rel.sub,h1,h2,t1,hc.1,hc.2,fun p hp=>?_⟩
  refine⟨p,(ddup Ts).length,rfl,by have:=b0S Ts;omega,y3_,?_⟩
  exact k _ G1 _ (ev.trans (ev.rel.allocM hp)) (by simp only[Rep])
 ·cases t2
end
section
variable{X:Cx}{B:OA}{pos:Pos}{a:Expr}
def u2_(k:Nat)(m:Mo (List D)):Mo (List D):=fun env=>(m env).bind fun p=>if p.1.length * k≤10000 then some ((List.replicate k p.1).flatten,p.2)else none
theorem b0T{K:Qz}{G:Hp}{xs:List V}{ds:List D}(h:z5_ K G xs ds):∀k,z5_ K G (List.replicate k xs).flatten (List.replicate k ds).flatten
 |0=>repL_nil
 |k+1=>by rw[Zm,Zm,Jk,Jk];exact h.append (b0T h k)
theorem a3z{k j:Nat}{p:Pos}{ml:Mo (List D)}(hk:k≤1000)(ha:EL X B a ml):EL X B (.BinOp a .Mult (.Constant (.int k) j p) pos) (u2_ k ml):=by
 refine pe_imp (a8l b4w ha a5b) ?_
 rintro σ H Q ⟨G,env,ds,env',rl,e,q⟩;obtain⟨⟨d1,env1⟩,e1,e2⟩:=q1_ e;dsimp only at e2;split at e2
 ·rename_i hl
  cases e2;refine⟨G,env,d1,_,rl,e1,fun b xs G' H' ev hb ho h1 h2 r=>?_⟩
  have hlen:=r.length
  refine⟨b,(k:Int),xs,rfl,rfl,h1,by omega,by omega,by rw[Yl,hlen];exact a5U hl,fun l hp=>?_⟩
  rw[Yl];exact a5y ev hp (b0T r k) q
 ·cases e2
end
end L2.Mir
namespace L2.Mir
open PySem L2
abbrev rgD(n:Nat):List D:=(List.range n).map fun(i:Nat)=>D.int (i:Int)
theorem b8a(n:Nat):u5_ 0 n=rgD n:=by
 unfold u5_ rgD;exact Zn fun i _=>by simp
theorem b8b{M:Mo D}{e e1:Env'}{n:Nat}{j:Int}(hM:M e=some (.int j,e1))(hj:j=(n:Int))(hn:n≤10000):a0o (z2_ M z7_) e=some (rgD n,e1):=by
 subst hj;have:=a6g (ms:=z2_ M z7_) (env:=e) (e1:=e1) (j:=(n:Int)) (by unfold z2_ z7_;rw[hM];rfl) (by omega) (by omega)
 rw[this,Yl,b8a]
theorem b8c{base:Env'}{w v:W}{k:Nat}(h:base.length=k):(base++[w]).set k v=base++[v]:=by
 subst h;simp
theorem b0U{α:Type}{t:Mo Bool}{m:Mo D}{base:Env'}{q f:α->D}{p:α->Bool}{k:Nat}(hk:base.length=k):∀{l:List α},(∀a∈l,t (base++[.dat (q a)])=some (p a,base++[.dat (q a)])/\(p a=true->m (base++[.dat (q a)])=some (f a,base++[.dat (q a)])))->∀w,∃w',w5_ (gN k) t m (l.map q) (base++[w])=some ((l.filter p).map f,base++[w'])
 |[],_,w=>⟨w,rfl⟩
 |a::l,h,w=>by
  obtain⟨h1,h2⟩:=h a (by simp)
  obtain⟨w',e⟩:=b0U hk (l:=l) (fun x hx=>h x (by simp[hx])) (.dat (q a))
  refine⟨w',?_⟩;rw[Zz];unfold w5_ gN;rw[Qv,b8c hk,h1,Qv];cases hp:p a with
  |false=>simp only[Qh,Zv];rw[List.filter_cons_of_neg (by simp[hp])];exact e
  |true=>
   simp only[Yv];rw[h2 hp,Qv,List.filter_cons_of_pos hp,Zz];show(w5_ (gN k) t m (l.map q) (base++[.dat (q a)])).map _=_;rw[e];rfl
theorem b0V{α:Type}{mi:Mo (List D)}{keep:List Bool}{t:Mo Bool}{m:Mo D}{env base:Env'}{l:List α}{q f:α->D}{p:α->Bool}{k:Nat}(hi:mi env=some (l.map q,env))(hl:l.length≤100000)(hb:g6_ keep 0 env=base)(hk:base.length=k)
  (h:∀a∈l,t (base++[.dat (q a)])=some (p a,base++[.dat (q a)])/\(p a=true->m (base++[.dat (q a)])=some (f a,base++[.dat (q a)])))(ho:∀w,w1_ keep env (base++[w])=some env):y6_ mi keep 1 (gN k) t m env=some ((l.filter p).map f,env):=by
 obtain⟨w',e⟩:=b0U hk h .nil;refine a6f hi (by simpa using hl) (e2:=base++[w']) ?_ (ho w')
 have:g6_ keep 1 env=base++[.nil]:=by rw[←hb];unfold g6_;simp
 rw[this];exact e
theorem a4K{α:Type}{mi:Mo (List D)}{keep:List Bool}{m:Mo D}{env base:Env'}{l:List α}{q f:α->D}{k:Nat}(hi:mi env=some (l.map q,env))(hl:l.length≤100000)(hb:g6_ keep 0 env=base)(hk:base.length=k)
  (h:∀a∈l,m (base++[.dat (q a)])=some (f a,base++[.dat (q a)]))(ho:∀w,w1_ keep env (base++[w])=some env):y6_ mi keep 1 (gN k) x4_ m env=some (l.map f,env):=by
 have:=b0V (p:=fun _=>true) (t:=x4_) hi hl hb hk (fun a ha=>⟨rfl,fun _=>h a ha⟩) ho
 rw[this,List.filter_eq_self.mpr (fun _ _=>rfl)]
theorem b0W{g:OZ}{b:Mo Fl}:∀{ds:List D}{P:Nat->Env'->Prop}{env:Env'},(∀i d e,ds[i]? =some d->P i e->∃e1 e2,g d e=some e1/\b e1=some (.nx,e2)/\P (i+1) e2)->P 0 env->∃env',loop g b ds env=some (.nx,env')/\P ds.length env'
 |[],P,env,_,p=>⟨env,rfl,p⟩
 |d::ds,P,env,h,p=>by
  obtain⟨e1,e2,h1,h2,h3⟩:=h 0 d env rfl p;obtain⟨e3,h4,h5⟩:=b0W (ds:=ds) (P:=fun i e=>P (i+1) e) (fun i x e hi q=>h (i+1) x e (by simpa using hi) q) h3
  refine⟨e3,?_,h5⟩;unfold loop;rw[h1];simp only[Qv];rw[h2];exact h4
theorem b8d{g:OZ}{b:Mo Fl}{n:Nat}(P:Nat->Env'->Prop){env:Env'}(h:∀i<n,∀e,P i e->∃e1 e2,g (.int (i:Int)) e=some e1/\b e1=some (.nx,e2)/\P (i+1) e2)(p:P 0 env):∃env',loop g b (rgD n) env=some (.nx,env')/\P n env':=by
 obtain⟨e',h1,h2⟩:=b0W (ds:=rgD n) (g:=g) (b:=b) (P:=P) (env:=env) (fun i d e hi q=>by
  unfold rgD at hi;rw[Zk]at hi
  by_cases hl:i<n
  ·rw[List.getElem?_range hl]at hi
   cases hi;exact h i hl e q
  ·rw[Va (by simpa using hl)]at hi;cases hi) p
 refine⟨e',h1,?_⟩;have:(rgD n).length=n:=by simp[rgD]
 rw[this]at h2;exact h2
theorem a6K(l:List Int):ints? (l.map D.int)=some l:=by
 induction l with
 |nil=>rfl
 |cons a l ih=>show(ints? (l.map D.int)).map _=_;rw[ih];rfl
theorem w8_{m n:Mo Fl}{e e1:Env'}{r:Option (Fl×Env')}(h:m e=some (.nx,e1))(h2:n e1=r):q3_ m n e=r:=by unfold q3_;rw[h];exact h2
theorem a1a{t:Mo Bool}{m n:Mo Fl}{e e1:Env'}{r:Option (Fl×Env')}(h:t e=some (false,e1))(h2:n e1=r):y4_ t m n e=r:=by unfold y4_;rw[h];exact h2
theorem a2M{t u:Mo Bool}{e e1:Env'}{r:Option (Bool×Env')}(h:t e=some (false,e1))(h2:u e1=r):x9_ t u e=r:=by unfold x9_;rw[h];exact h2
theorem a0g{n:Nat}{f:Fn}{as:Mo (List Ar)}{env e1:Env'}{av:List Ar}{r:D}{ws':List W}(h:as env=some (av,e1))(hn:av.length=n)(hs:slots av=[])(hf:f (av.map (g4_ (.l [])))=some (.d r,ws')):mCD n f as env=some (r,e1):=a2H (a1p h hn hs hf)
theorem b8e{C N:Nat}(hC:1≤C)(hC2:C≤900){body last:Mo Fl}{ns:List Int}(hb:∀k:Nat,k<1000->∀ws:List W,ws.length=N->∃ws':List W,ws'.length=N+1/\body (.dat (.lst (ns.map D.int))::.dat (.int (k:Int))::ws)=some (.nx,.dat (.lst (ns.map D.int))::ws'))
  (hl:∀ws:List W,ws.length=N+1->∃e,last (.dat (.lst (ns.map D.int))::ws)=some (.ret (.bl true),e)):
  ∃ws',fnM (N+2) (q3_ (g3_ (a0o (z2_ (mCB a2D (z2_ (mC (.int 1)) (z2_ (mCB a2E (z2_ (mCB x2_ (z2_ (z0_ 0) z7_)) (z2_ (mC (.int (C:Int))) z7_))) z7_))) z7_)) (gN 1) body) last) [.dat (.lst (ns.map D.int))]=some (.d (.bl true),ws'):=by
 obtain⟨K,hK,hr⟩:∃K:Nat,K≤C/\(a0o (z2_ (mCB a2D (z2_ (mC (.int 1)) (z2_ (mCB a2E (z2_ (mCB x2_ (z2_ (z0_ 0) z7_)) (z2_ (mC (.int (C:Int))) z7_))) z7_))) z7_)) (.dat (.lst (ns.map D.int))::List.replicate (N+1) .nil)=some (rgD K,.dat (.lst (ns.map D.int))::List.replicate (N+1) .nil):=by
  let q:Int:=if(C:Int)<(ns.length:Int)then C else(ns.length:Int)
  let p:Int:=if q>1 then q else 1
  have hq:q≤C:=by simp only[q];split<;>omega
  have hp:1≤p/\p≤C:=by simp only[p];split<;>omega
  refine⟨p.toNat,by omega,b8b (j:=p) (a0e (w7_ rfl (w7_ (a0e (w7_ (a0e (w7_ rfl rfl) (show x2_ [.lst (ns.map .int)]=some (.int (ns.length:Int))from ?_)) (w7_ rfl rfl)) (show a2E [.int (ns.length:Int),.int C]=some (.int q)from rfl)) rfl)) (show a2D [.int 1,.int q]=some (.int p)from rfl)) (by omega) (by omega)⟩
  show some (D.int ((ns.map D.int).length:Nat))=_;rw[Qk]
 obtain⟨e',h1,ws,hws,rfl⟩:=b8d (g:=gN 1) (b:=body) (n:=K) (fun _ e=>∃ws:List W,ws.length=N+1/\e=.dat (.lst (ns.map D.int))::ws) (env:=.dat (.lst (ns.map D.int))::List.replicate (N+1) .nil)
  (fun i hi e ⟨ws,hw,he⟩=>by
   subst he
   match ws,hw with
   |w::ws,hw=>
    obtain⟨ws',h1,h2⟩:=hb i (by omega) ws (by simpa using hw)
    exact⟨_,_,rfl,h2,ws',h1,rfl⟩) ⟨_,by simp,rfl⟩
 obtain⟨e2,h2⟩:=hl ws hws;refine⟨_,g8_ (d:=.bl true) (env:=e2) ?_⟩;show q3_ _ _ (.dat (.lst (ns.map D.int))::List.replicate (N+1) .nil)=_;exact w8_ ((a3r hr).trans h1) h2
theorem b8f(l:List Int):a4A [.lst (l.map D.int)]=some (.int l.sum):=by
 show(ints? _).map _=_;rw[a6K];rfl
theorem b0X{m n:Mo D}{e e1:Env'}{r:Option (D×Env')}(h:m e=some (.bl true,e1))(h2:n e1=r):a0b m n e=r:=by unfold a0b;rw[h];exact h2
theorem b0Y{m n:Mo D}{e e1:Env'}(h:m e=some (.bl false,e1)):a0b m n e=some (.bl false,e1):=by unfold a0b;rw[h];rfl
theorem a6L{i:Nat}{m:Mo D}{env e1 e2:Env'}{d:D}(h:m env=some (d,e1))(he:e1.set i (.dat d)=e2):y2_ i m env=some (.nx,e2):=by rw[a0r h,he]
theorem b0Z{i:Nat}{m:Mo (List D)}{env e1 e2:Env'}{d:List D}(h:m env=some (d,e1))(he:e1.set i (.own d)=e2):a0n i m env=some (.nx,e2):=by rw[b6l h,he]
theorem b8g{i j:Nat}{ms:Mo (List D)}{env e1 e2:Env'}{a b:D}(h:ms env=some ([a,b],e1))(he:(e1.set i (.dat a)).set j (.dat b)=e2):a3i i j ms env=some (.nx,e2):=by
 unfold a3i;rw[h,←he];rfl
theorem a0h{N:Nat}{mb:Mo Fl}{ws env ws':List W}{d:D}(h:mb (ws++List.replicate (N-ws.length) .nil)=some (.ret d,env))(he:u6_ ws env=ws'):fnM N mb ws=some (.d d,ws'):=by rw[g8_ h,he]
theorem b8h{N:Nat}{mb:Mo Fl}{ws env ws':List W}{d:List D}(h:mb (ws++List.replicate (N-ws.length) .nil)=some (.retL d,env))(he:u6_ ws env=ws'):fnM N mb ws=some (.l d,ws'):=by rw[a6e h,he]
abbrev up(a n:Nat):List Nat:=(List.range (n-a)).map (a+ ·)
end L2.Mir
namespace L2.Mir
open PySem PySem.W
structure DfAt(K:Frag)(x:Str)(st:Stmt)(f:Addr)(pm:Value)(cd:Addr):Prop where
 a:nsIn K mainGlobals x=some (some (.ref f))
 l:K.lookup f=some ⟨.type "function",none,.func (fnOf x x (a1H st) (a0M st) (v6_ st) .none .none .none pm none (.ref cd) .none),⟨[]⟩⟩
 c:codeIn K (.ref cd) x=true
 k:keepIn K (.ref f)=true
theorem DfAt.f{K:Frag}{x:Str}{st:Stmt}{f:Addr}{pm:Value}{cd:Addr}(A:DfAt K x st f pm cd):Fun K x x st f (fnOf x x (a1H st) (a0M st) (v6_ st) .none .none .none pm none (.ref cd) .none):=b4z A.l A.c A.k
theorem DfAt.g{K:Frag}{x:Str}{st:Stmt}{f:Addr}{pm:Value}{cd:Addr}{h:Heap}{mg:OU}(A:DfAt K x st f pm cd)(X:K.In h)(G:h.Ns mainGlobals mg):mg x=some (.ref f):=mg_of X G A.a
theorem dM(P:Program)(w:World)(base:Heap){K:Frag}{x:Str}{st:Stmt}{f cd:Addr}{pm:Value}{k n:Nat}{fn:Fn}{fd:FuncData}{ps:List Str}{h:Heap}{mg:OU}(o:FnOk P w K mg base CX0 k f fd ps (SpF K n fn))(A:DfAt K x st f pm cd)(X:K.In h)(G:h.Ns mainGlobals mg)(b:u4_ K fd ps [])(e:ps.length=n:=by rfl):Def P w K mg base x k n fn:=⟨_,_,_,o,e,A.g X G,A.k,b⟩
end L2.Mir
namespace K53
open PySem L2 L2.Mir
def top(i:Nat):Stmt:=PySem.Challenge.pw_turnsigns_k53_whole_turned.main.body.getD i (.Pass ⟨0,0,0,0⟩)
abbrev a6M:Stmt:=top 5
abbrev a6N:Stmt:=top 6
abbrev a6O:Stmt:=top 7
abbrev a6P:Stmt:=top 8
abbrev a6Q:Stmt:=top 9
abbrev a6R:Stmt:=top 12
abbrev a6S:Stmt:=top 13
abbrev a6T:Stmt:=top 14
abbrev a6U:Stmt:=top 16
abbrev a6V:Stmt:=top 17
abbrev a6W:Stmt:=top 18
abbrev a6X:Stmt:=top 19
abbrev a6Y:Stmt:=top 20
abbrev a6Z:Stmt:=top 21
abbrev a7a:Stmt:=top 22
abbrev a7b:Stmt:=top 23
abbrev a7c:Stmt:=top 25
abbrev a7d:Stmt:=top 26
abbrev a7e:Stmt:=top 27
abbrev a7f:Stmt:=top 28
abbrev a7g:Stmt:=top 29
abbrev a7h:Stmt:=top 30
abbrev a7i:Stmt:=top 32
abbrev a7j:Stmt:=top 34
abbrev a7k:Stmt:=top 35
abbrev a7l:Stmt:=top 36
abbrev a7m:Stmt:=top 37
abbrev a7n:Stmt:=top 38
abbrev a7o:Stmt:=top 39
abbrev a7p:Stmt:=top 40
abbrev a2N:Stmt:=top 41
structure Txt(K:Qz)(mg:OU):Prop where
 g_isinstance:mg "isinstance"=none
 g_int:mg "int"=none
 g_bool:mg "bool"=none
 g_all:mg "all"=none
 g_tuple:mg "tuple"=none
 g_len:mg "len"=none
 g_range:mg "range"=none
 g_str:mg "str"=none
 g_min:mg "min"=none
 g_sum:mg "sum"=none
 g_sorted:mg "sorted"=none
 g_zip:mg "zip"=none
 g_max:mg "max"=none
 g_set:mg "set"=none
 n_told_other:Nsd K mg "told_other"
 n_told_slant:Nsd K mg "told_slant"
 n_told_flat:Nsd K mg "told_flat"
 n_told_upright:Nsd K mg "told_upright"
 n_turned_right:Nsd K mg "turned_right"
 n_turned_half:Nsd K mg "turned_half"
 n_turned_left:Nsd K mg "turned_left"
 n_stayed:Nsd K mg "stayed"
 c_GREATEST_SIDE:∃t,mg "GREATEST_SIDE"=some (.int 6 t)
section
variable{P:Program}{w:World}{K:Qz}{mg:OU}{base:Heap}
theorem b8i:FnScope ["thing"] ["thing"] (v6_ a6M):=x5_
def b8j:Mo Fl:=(v0_ (a0b (mIs "int" (z0_ 0)) (a5v (mIs "bool" (z0_ 0)))))
def a1w:Fn:=fnM 1 b8j
theorem b8k{f:Addr}{fd:FuncData}(F:Fun K "is_whole" "is_whole" a6M f fd)(T:Txt K mg):FnOk P w K mg base CX0 1 f fd ["thing"] (SpF K 1 a1w):=
 x3_ F b8i fun cdv A outer s H E hr=>(@q8_ _ _ _ _ (@y0_ _ _ _ _ _ (@a8Q _ _ _ _ _ _ _ _ (@a2B _ _ _ _ _ _ _ _ _ (by exact b5n) (@z3_ _ _ _ _ _ (pv 0)) (by exact rfl) (by exact T.g_isinstance) (by exact rfl) (by exact T.g_int) (by exact b6f) (by decide) (by decide) (by exact se2 rfl rfl)) (@a8P _ _ _ _ _ _ (@b4M _ _ _ _ _ (@a2B _ _ _ _ _ _ _ _ _ (by exact b5o) (@z3_ _ _ _ _ _ (pv 0)) (by exact rfl) (by exact T.g_isinstance) (by exact rfl) (by exact T.g_bool) (by exact b6g) (by decide) (by decide) (by exact se2 rfl rfl)))))))
theorem b8l:FnScope ["thing","width"] ["thing","width"] (v6_ a6N):=x5_
theorem nd1:(["-0","-1","number"]:List Str).Nodup:=by decide+kernel
def a7q:Mo Fl:=(q3_ (y4_ (x9_ (w9_ (mT (mIs "tuple" (z0_ 0)))) (mT (z4_ (dEq true) (mCB x2_ (z2_ (z0_ 0) z7_)) (z0_ 1)))) (v0_ (mC (.bl false))) mNx) (v0_ (mCB a2C (z2_ (mF (y6_ (y9_ (z0_ 0)) [false,false] 1 (gN 2) x4_ (mCD 1 a1w (z6_ (z0_ 2) z8_)))) z7_))))
def a1b:Fn:=fnM 2 a7q
theorem b8m{f:Addr}{fd:FuncData}(F:Fun K "is_row" "is_row" a6N f fd)(T:Txt K mg)(d_is_whole:Def P w K mg base "is_whole" 1 1 a1w):FnOk P w K mg base CX0 2 f fd ["thing","width"] (SpF K 2 a1b):=
 x3_ F b8l fun cdv A outer s H E hr=>(@v5_ _ _ _ _ _ _ (@w4_ _ _ _ _ _ _ _ _ _ (@a0z _ _ _ _ (@a0O _ _ _ _ _ _ _ _ (@a1M _ _ _ _ _ (@a1L _ _ _ _ (@a2B _ _ _ _ _ _ _ _ _ (by exact a5P) (@z3_ _ _ _ _ _ (pv 0)) (by exact rfl) (by exact T.g_isinstance) (by exact rfl) (by exact T.g_tuple) (by exact a1Z) (by decide) (by decide) (by exact se2 rfl rfl)) (by intro _;rfl))) (@a0N _ _ _ _ _ (@k9_ _ _ _ _ _ _ _ _ _ _ (by exact(op_neD hr.units)) (by exact opd_eq) (@j0_ _ _ _ _ _ _ _ _ _ _ _ (by exact a0j) (by exact a0m) (by exact rfl) (by exact T.g_len) (by exact Yx) (@z9_ _ _ _ _ _ _ (@z3_ _ _ _ _ _ (pv 0)) (@q9_ _ _) (by exact z1_ rfl)) (by decide) (by decide) (by exact z1_ rfl) (by exact q2_ rfl)) (@z3_ _ _ _ _ _ (pv 1)) (by exact(nomark _)))))) (@q8_ _ _ _ _ (@y0_ _ _ _ _ _ (@j7_ _ _ _ _ _))) (@w3_ _ _)) (@q8_ _ _ _ _ (@y0_ _ _ _ _ _ (@j0_ _ _ _ _ _ _ _ _ _ _ _ (by exact(a5Q rfl)) (by exact a5R) (by exact rfl) (by exact T.g_all) (by exact a6a) (@z9_ _ _ _ _ _ _ (@x6_ _ _ _ _ (@a0s _ _ ["-0","-1","number"] _ [false,false] 1 _ _ _ _ _ _ _ _ _ (by exact(a0d rfl rfl)) (by exact rfl) (@g9_ _ _ _ _ _ (@z3_ _ _ _ _ _ (pv 0))) (fun s H fp=>(@k3_ _ _ _ _ 2 _ (by exact(show 2≤2 by decide)) (by exact nd1) (by exact rfl) (by first|exact Or.inl rfl|exact Or.inr rfl) (by first|exact .inl rfl|exact .inr rfl|assumption))) (fun s H fp=>(@a0C _ _)) (fun s H fp=>(@v9_ _ _ _ _ _ _ _ _ _ _ _ (by exact d_is_whole) (by exact(hr.mono (show 1≤1 by decide))) (by exact rfl) (@q5_ _ _ _ _ _ _ (@z3_ _ _ _ _ _ (pv 2)) (@v3_ _ _) (by exact z1_ rfl)) (by decide) (by exact z1_ rfl) (by exact q2_ rfl))) (by intro _;rfl))) (@q9_ _ _) (by exact z1_ rfl)) (by decide) (by decide) (by exact z1_ rfl) (by exact q2_ rfl)))))
theorem b8n:FnScope ["thing","many","width"] ["thing","many","width"] (v6_ a6O):=x5_
theorem nd2:(["-0","-1","width","row"]:List Str).Nodup:=by decide+kernel
def a3A:Mo Fl:=(q3_ (y4_ (x9_ (w9_ (mT (mIs "tuple" (z0_ 0)))) (mT (z4_ (dEq true) (mCB x2_ (z2_ (z0_ 0) z7_)) (z0_ 1)))) (v0_ (mC (.bl false))) mNx) (v0_ (mCB a2C (z2_ (mF (y6_ (y9_ (z0_ 0)) [false,false,true] 1 (gN 3) x4_ (mCD 2 a1b (z6_ (z0_ 3) (z6_ (z0_ 2) z8_))))) z7_))))
def a3B:Fn:=fnM 3 a3A
theorem b8o{f:Addr}{fd:FuncData}(F:Fun K "is_grid" "is_grid" a6O f fd)(T:Txt K mg)(d_is_row:Def P w K mg base "is_row" 2 2 a1b):FnOk P w K mg base CX0 3 f fd ["thing","many","width"] (SpF K 3 a3B):=
 x3_ F b8n fun cdv A outer s H E hr=>(@v5_ _ _ _ _ _ _ (@w4_ _ _ _ _ _ _ _ _ _ (@a0z _ _ _ _ (@a0O _ _ _ _ _ _ _ _ (@a1M _ _ _ _ _ (@a1L _ _ _ _ (@a2B _ _ _ _ _ _ _ _ _ (by exact a5P) (@z3_ _ _ _ _ _ (pv 0)) (by exact rfl) (by exact T.g_isinstance) (by exact rfl) (by exact T.g_tuple) (by exact a1Z) (by decide) (by decide) (by exact se2 rfl rfl)) (by intro _;rfl))) (@a0N _ _ _ _ _ (@k9_ _ _ _ _ _ _ _ _ _ _ (by exact(op_neD hr.units)) (by exact opd_eq) (@j0_ _ _ _ _ _ _ _ _ _ _ _ (by exact a0j) (by exact a0m) (by exact rfl) (by exact T.g_len) (by exact Yx) (@z9_ _ _ _ _ _ _ (@z3_ _ _ _ _ _ (pv 0)) (@q9_ _ _) (by exact z1_ rfl)) (by decide) (by decide) (by exact z1_ rfl) (by exact q2_ rfl)) (@z3_ _ _ _ _ _ (pv 1)) (by exact(nomark _)))))) (@q8_ _ _ _ _ (@y0_ _ _ _ _ _ (@j7_ _ _ _ _ _))) (@w3_ _ _)) (@q8_ _ _ _ _ (@y0_ _ _ _ _ _ (@j0_ _ _ _ _ _ _ _ _ _ _ _ (by exact(a5Q rfl)) (by exact a5R) (by exact rfl) (by exact T.g_all) (by exact a6a) (@z9_ _ _ _ _ _ _ (@x6_ _ _ _ _ (@a0s _ _ ["-0","-1","width","row"] _ [false,false,true] 1 _ _ _ _ _ _ _ _ _ (by exact(a0d rfl rfl)) (by exact rfl) (@g9_ _ _ _ _ _ (@z3_ _ _ _ _ _ (pv 0))) (fun s H fp=>(@k3_ _ _ _ _ 3 _ (by exact(show 3≤3 by decide)) (by exact nd2) (by exact rfl) (by first|exact Or.inl rfl|exact Or.inr rfl) (by first|exact .inl rfl|exact .inr rfl|assumption))) (fun s H fp=>(@a0C _ _)) (fun s H fp=>(@v9_ _ _ _ _ _ _ _ _ _ _ _ (by exact d_is_row) (by exact(hr.mono (show 2≤2 by decide))) (by exact rfl) (@q5_ _ _ _ _ _ _ (@z3_ _ _ _ _ _ (pv 3)) (@q5_ _ _ _ _ _ _ (@z3_ _ _ _ _ _ (pv 2)) (@v3_ _ _) (by exact z1_ rfl)) (by exact z1_ rfl)) (by decide) (by exact z1_ rfl) (by exact q2_ rfl))) (by intro _;rfl))) (@q9_ _ _) (by exact z1_ rfl)) (by decide) (by decide) (by exact z1_ rfl) (by exact q2_ rfl)))))
theorem b8p:FnScope ["thing","least","greatest"] ["thing","least","greatest"] (v6_ a6P):=x5_
def a3C:Mo Fl:=(q3_ (y4_ (x9_ (w9_ (mT (mIs "tuple" (z0_ 0)))) (w9_ (mT (a1N dLe dLe (z0_ 1) (mCB x2_ (z2_ (z0_ 0) z7_)) (z0_ 2))))) (v0_ (mC (.bl false))) mNx) (v0_ (mCD 3 a3B (z6_ (z0_ 0) (z6_ (mCB x2_ (z2_ (z0_ 0) z7_)) (z6_ (mCB x2_ (z2_ (z0_ 0) z7_)) z8_))))))
def a2O:Fn:=fnM 3 a3C
theorem b8q{f:Addr}{fd:FuncData}(F:Fun K "is_square" "is_square" a6P f fd)(T:Txt K mg)(d_is_grid:Def P w K mg base "is_grid" 3 3 a3B):FnOk P w K mg base CX0 4 f fd ["thing","least","greatest"] (SpF K 3 a2O):=
 x3_ F b8p fun cdv A outer s H E hr=>(@v5_ _ _ _ _ _ _ (@w4_ _ _ _ _ _ _ _ _ _ (@a0z _ _ _ _ (@a0O _ _ _ _ _ _ _ _ (@a1M _ _ _ _ _ (@a1L _ _ _ _ (@a2B _ _ _ _ _ _ _ _ _ (by exact a5P) (@z3_ _ _ _ _ _ (pv 0)) (by exact rfl) (by exact T.g_isinstance) (by exact rfl) (by exact T.g_tuple) (by exact a1Z) (by decide) (by decide) (by exact se2 rfl rfl)) (by intro _;rfl))) (@a0N _ _ _ _ _ (@a1M _ _ _ _ _ (@a5w _ _ _ _ _ _ _ _ _ _ _ _ _ _ _ (by exact a2m) (by exact a2m) (by exact a2t) (by exact a2t) (@z3_ _ _ _ _ _ (pv 1)) (@j0_ _ _ _ _ _ _ _ _ _ _ _ (by exact a0j) (by exact a0m) (by exact rfl) (by exact T.g_len) (by exact Yx) (@z9_ _ _ _ _ _ _ (@z3_ _ _ _ _ _ (pv 0)) (@q9_ _ _) (by exact z1_ rfl)) (by decide) (by decide) (by exact z1_ rfl) (by exact q2_ rfl)) (@z3_ _ _ _ _ _ (pv 2)) (by with_unfolding_all rfl)))))) (@q8_ _ _ _ _ (@y0_ _ _ _ _ _ (@j7_ _ _ _ _ _))) (@w3_ _ _)) (@q8_ _ _ _ _ (@y0_ _ _ _ _ _ (@v9_ _ _ _ _ _ _ _ _ _ _ _ (by exact d_is_grid) (by exact(hr.mono (show 3≤3 by decide))) (by exact rfl) (@q5_ _ _ _ _ _ _ (@z3_ _ _ _ _ _ (pv 0)) (@q5_ _ _ _ _ _ _ (@j0_ _ _ _ _ _ _ _ _ _ _ _ (by exact a0j) (by exact a0m) (by exact rfl) (by exact T.g_len) (by exact Yx) (@z9_ _ _ _ _ _ _ (@z3_ _ _ _ _ _ (pv 0)) (@q9_ _ _) (by exact z1_ rfl)) (by decide) (by decide) (by exact z1_ rfl) (by exact q2_ rfl)) (@q5_ _ _ _ _ _ _ (@j0_ _ _ _ _ _ _ _ _ _ _ _ (by exact a0j) (by exact a0m) (by exact rfl) (by exact T.g_len) (by exact Yx) (@z9_ _ _ _ _ _ _ (@z3_ _ _ _ _ _ (pv 0)) (@q9_ _ _) (by exact z1_ rfl)) (by decide) (by decide) (by exact z1_ rfl) (by exact q2_ rfl)) (@v3_ _ _) (by exact z1_ rfl)) (by exact z1_ rfl)) (by exact z1_ rfl)) (by decide) (by exact z1_ rfl) (by exact q2_ rfl)))))
theorem b8r:FnScope ["grid"] ["grid"] (v6_ a6Q):=x5_
theorem nd3:(["grid","at"]:List Str).Nodup:=by decide+kernel
theorem nd4:(["-0","at","row"]:List Str).Nodup:=by decide+kernel
def a7r:Mo Fl:=(v0_ (mCB a0B (z2_ (mF (y6_ (a0o (z2_ (mCB x2_ (z2_ (z4_ dIx (z0_ 0) (mC (.int 0))) z7_)) z7_)) [true] 1 (gN 1) x4_ (mCB a0B (z2_ (mF (y6_ (y9_ (z0_ 0)) [false,true] 1 (gN 2) x4_ (z4_ dIx (z0_ 2) (z0_ 1)))) z7_)))) z7_)))
def u9_:Fn:=fnM 1 a7r
theorem b8s{f:Addr}{fd:FuncData}(F:Fun K "flipped" "flipped" a6Q f fd)(T:Txt K mg):FnOk P w K mg base CX0 1 f fd ["grid"] (SpF K 1 u9_):=
 x3_ F b8r fun cdv A outer s H E hr=>(@q8_ _ _ _ _ (@y0_ _ _ _ _ _ (@a4m _ _ _ _ _ _ _ _ _ _ _ (by exact a4b) (by exact a4o) (by exact rfl) (by exact T.g_tuple) (by exact a1Z) (@z9_ _ _ _ _ _ _ (@x6_ _ _ _ _ (@a0s _ _ ["grid","at"] _ [true] 1 _ _ _ _ _ _ _ _ _ (by exact(a0d rfl rfl)) (by exact rfl) (@a5G _ _ _ _ _ _ _ (by exact rfl) (by exact T.g_range) (@z9_ _ _ _ _ _ _ (@j0_ _ _ _ _ _ _ _ _ _ _ _ (by exact a0j) (by exact a0m) (by exact rfl) (by exact T.g_len) (by exact Yx) (@z9_ _ _ _ _ _ _ (@a0Q _ _ _ _ _ _ _ (@z3_ _ _ _ _ _ (pv 0)) (@v1_ _ _ _ _ _) (fun _ _=>rfl)) (@q9_ _ _) (by exact z1_ rfl)) (by decide) (by decide) (by exact z1_ rfl) (by exact q2_ rfl)) (@q9_ _ _) (by exact z1_ rfl)) (by exact se1 rfl)) (fun s H fp=>(@k3_ _ _ _ _ 1 _ (by exact(show 1≤1 by decide)) (by exact nd3) (by exact rfl) (by first|exact Or.inl rfl|exact Or.inr rfl) (by first|exact .inl rfl|exact .inr rfl|assumption))) (fun s H fp=>(@a0C _ _)) (fun s H fp=>(@a4m _ _ _ _ _ _ _ _ _ _ _ (by exact a4b) (by exact a4o) (by exact rfl) (by exact T.g_tuple) (by exact a1Z) (@z9_ _ _ _ _ _ _ (@x6_ _ _ _ _ (@a0s _ _ ["-0","at","row"] _ [false,true] 1 _ _ _ _ _ _ _ _ _ (by exact(a0d rfl rfl)) (by exact rfl) (@g9_ _ _ _ _ _ (@z3_ _ _ _ _ _ (pv 0))) (fun s H fp=>(@k3_ _ _ _ _ 2 _ (by exact(show 2≤2 by decide)) (by exact nd4) (by exact rfl) (by first|exact Or.inl rfl|exact Or.inr rfl) (by first|exact .inl rfl|exact .inr rfl|assumption))) (fun s H fp=>(@a0C _ _)) (fun s H fp=>(@a0Q _ _ _ _ _ _ _ (@z3_ _ _ _ _ _ (pv 2)) (@z3_ _ _ _ _ _ (pv 1)) (fun _ _=>rfl))) (by intro _;rfl))) (@q9_ _ _) (by exact z1_ rfl)) (by decide) (by decide) (by exact z1_ rfl) (by exact q2_ rfl))) (by intro _;rfl))) (@q9_ _ _) (by exact z1_ rfl)) (by decide) (by decide) (by exact z1_ rfl) (by exact q2_ rfl))))
theorem a4L:FnScope ["line","total","number"] ["line"] (v6_ a6R):=x5_
def a3D:Mo Fl:=(q3_ (y2_ 1 (mC (.int 0))) (q3_ (g3_ (y9_ (z0_ 0)) (gN 2) (q3_ (a4p 1 a4j (z0_ 2)) (y4_ (mT (z4_ (dIn true) (z0_ 1) (g1_ (z2_ (mC (.int 0)) (z2_ (mC (.int 1)) z7_))))) (v0_ (mC (.bl false))) mNx))) (v0_ (z4_ (dEq false) (z0_ 1) (mC (.int 1))))))
def a2g:Fn:=fnM 3 a3D
theorem b8t{f:Addr}{fd:FuncData}(F:Fun K "takes_turns" "takes_turns" a6R f fd)(T:Txt K mg):FnOk P w K mg base CX0 1 f fd ["line"] (SpF K 1 a2g):=
 x3_ F a4L fun cdv A outer s H E hr=>(@v5_ _ _ _ _ _ _ (@j9_ _ _ _ _ _ 1 _ _ (by exact a4L.nd) (by exact rfl) (by first|exact Or.inl rfl|exact Or.inr rfl) (@v1_ _ _ _ _ _) (by rfl) (by first|exact .inl rfl|exact .inr rfl|assumption)) (@v5_ _ _ _ _ _ _ (@a0S _ _ _ _ _ _ _ _ _ (by exact Yd) (by exact rfl) (@g9_ _ _ _ _ _ (@z3_ _ _ _ _ _ (pv 0))) (@k3_ _ _ _ _ 2 _ (by exact(show 0≤2 by decide)) (by exact a4L.nd) (by exact rfl) (by first|exact Or.inl rfl|exact Or.inr rfl) (by first|exact .inl rfl|exact .inr rfl|assumption)) (@v5_ _ _ _ _ _ _ (@b4R _ _ _ _ _ 1 _ _ _ _ _ (by exact a4L.nd) (by exact rfl) (by first|exact Or.inl rfl|exact Or.inr rfl) (@z3_ _ _ _ _ _ (pv 2)) (by exact b3R) (by exact a8M) (by first|exact .inl rfl|exact .inr rfl|assumption)) (@q8_ _ _ _ _ (@w4_ _ _ _ _ _ _ _ _ _ (@k9_ _ _ _ _ _ _ _ _ _ _ (by exact b4q) (by exact b5v) (@z3_ _ _ _ _ _ (pv 1)) (@a0P _ _ _ _ _ _ (@z9_ _ _ _ _ _ _ (@v1_ _ _ _ _ _) (@z9_ _ _ _ _ _ _ (@v1_ _ _ _ _ _) (@q9_ _ _) (by exact z1_ rfl)) (by exact z1_ rfl))) (by with_unfolding_all rfl)) (@q8_ _ _ _ _ (@y0_ _ _ _ _ _ (@j7_ _ _ _ _ _))) (@w3_ _ _)))) (by intro _;rfl)) (@q8_ _ _ _ _ (@y0_ _ _ _ _ _ (@b4E _ _ _ _ _ _ _ _ _ _ (by exact(op_eqD hr.units)) (by exact opd_eq) (@z3_ _ _ _ _ _ (pv 1)) (@v1_ _ _ _ _ _) (by exact(nomark _)))))))
theorem b8u:FnScope ["thing"] ["thing"] (v6_ a6S):=x5_
theorem nd5:(["-0","line"]:List Str).Nodup:=by decide+kernel
def a7s:Mo Fl:=(q3_ (y4_ (w9_ (mT (mCD 3 a2O (z6_ (z0_ 0) (z6_ (mC (.int 1)) (z6_ (mC (.int 6)) z8_)))))) (v0_ (mC (.bl false))) mNx) (v0_ (mCB a2C (z2_ (mF (y6_ (y9_ (z4_ x0_ (z0_ 0) (mCD 1 u9_ (z6_ (z0_ 0) z8_)))) [false] 1 (gN 1) x4_ (mCD 1 a2g (z6_ (z0_ 1) z8_)))) z7_))))
def a2h:Fn:=fnM 1 a7s
theorem b8v{f:Addr}{fd:FuncData}(F:Fun K "is_table" "is_table" a6S f fd)(T:Txt K mg)(d_is_square:Def P w K mg base "is_square" 4 3 a2O)(d_takes_turns:Def P w K mg base "takes_turns" 1 1 a2g)(d_flipped:Def P w K mg base "flipped" 1 1 u9_):FnOk P w K mg base CX0 5 f fd ["thing"] (SpF K 1 a2h):=
 x3_ F b8u fun cdv A outer s H E hr=>(@v5_ _ _ _ _ _ _ (@w4_ _ _ _ _ _ _ _ _ _ (@a1M _ _ _ _ _ (@a1L _ _ _ _ (@v9_ _ _ _ _ _ _ _ _ _ _ _ (by exact d_is_square) (by exact(hr.mono (show 4≤4 by decide))) (by exact rfl) (@q5_ _ _ _ _ _ _ (@z3_ _ _ _ _ _ (pv 0)) (@q5_ _ _ _ _ _ _ (@v1_ _ _ _ _ _) (@q5_ _ _ _ _ _ _ (@b6e _ _ _ _ _ (by exact rfl) (by exact T.c_GREATEST_SIDE) (by decide)) (@v3_ _ _) (by exact z1_ rfl)) (by exact z1_ rfl)) (by exact z1_ rfl)) (by decide) (by exact z1_ rfl) (by exact q2_ rfl)) (by intro _;rfl))) (@q8_ _ _ _ _ (@y0_ _ _ _ _ _ (@j7_ _ _ _ _ _))) (@w3_ _ _)) (@q8_ _ _ _ _ (@y0_ _ _ _ _ _ (@j0_ _ _ _ _ _ _ _ _ _ _ _ (by exact(a5Q rfl)) (by exact a5R) (by exact rfl) (by exact T.g_all) (by exact a6a) (@z9_ _ _ _ _ _ _ (@x6_ _ _ _ _ (@a0s _ _ ["-0","line"] _ [false] 1 _ _ _ _ _ _ _ _ _ (by exact(a0d rfl rfl)) (by exact rfl) (@g9_ _ _ _ _ _ (@y8_ _ _ _ _ _ _ _ _ _ _ (by exact u7_) (by exact u8_) (@z3_ _ _ _ _ _ (pv 0)) (@v9_ _ _ _ _ _ _ _ _ _ _ _ (by exact d_flipped) (by exact(hr.mono (show 1≤4 by decide))) (by exact rfl) (@q5_ _ _ _ _ _ _ (@z3_ _ _ _ _ _ (pv 0)) (@v3_ _ _) (by exact z1_ rfl)) (by decide) (by exact z1_ rfl) (by exact q2_ rfl)))) (fun s H fp=>(@k3_ _ _ _ _ 1 _ (by exact(show 1≤1 by decide)) (by exact nd5) (by exact rfl) (by first|exact Or.inl rfl|exact Or.inr rfl) (by first|exact .inl rfl|exact .inr rfl|assumption))) (fun s H fp=>(@a0C _ _)) (fun s H fp=>(@v9_ _ _ _ _ _ _ _ _ _ _ _ (by exact d_takes_turns) (by exact(hr.mono (show 1≤4 by decide))) (by exact rfl) (@q5_ _ _ _ _ _ _ (@z3_ _ _ _ _ _ (pv 1)) (@v3_ _ _) (by exact z1_ rfl)) (by decide) (by exact z1_ rfl) (by exact q2_ rfl))) (by intro _;rfl))) (@q9_ _ _) (by exact z1_ rfl)) (by decide) (by decide) (by exact z1_ rfl) (by exact q2_ rfl)))))
theorem b8w:FnScope ["thing"] ["thing"] (v6_ a6T):=x5_
def a7t:Mo Fl:=(y4_ (w9_ (mT (mCD 1 a2h (z6_ (z0_ 0) z8_)))) a5B mNx)
def a0G:Fn:=fnM 1 a7t
theorem b8x{f:Addr}{fd:FuncData}(F:Fun K "must_be_table" "must_be_table" a6T f fd)(T:Txt K mg)(d_is_table:Def P w K mg base "is_table" 5 1 a2h):FnOk P w K mg base CX0 6 f fd ["thing"] (SpF K 1 a0G):=
 x3_ F b8w fun cdv A outer s H E hr=>(@q8_ _ _ _ _ (@w4_ _ _ _ _ _ _ _ _ _ (@a1M _ _ _ _ _ (@a1L _ _ _ _ (@v9_ _ _ _ _ _ _ _ _ _ _ _ (by exact d_is_table) (by exact(hr.mono (show 5≤5 by decide))) (by exact rfl) (@q5_ _ _ _ _ _ _ (@z3_ _ _ _ _ _ (pv 0)) (@v3_ _ _) (by exact z1_ rfl)) (by decide) (by exact z1_ rfl) (by exact q2_ rfl)) (by intro _;rfl))) (@q8_ _ _ _ _ (@a8U _ _ _)) (@w3_ _ _)))
theorem b8y:FnScope ["table"] ["table"] (v6_ a6U):=x5_
def b8z:Mo Fl:=(v0_ (z0_ 0))
def a2P:Fn:=fnM 1 b8z
theorem b8A{f:Addr}{fd:FuncData}(F:Fun K "stayed" "stayed" a6U f fd)(T:Txt K mg):FnOk P w K mg base CX0 1 f fd ["table"] (SpF K 1 a2P):=
 x3_ F b8y fun cdv A outer s H E hr=>(@q8_ _ _ _ _ (@y0_ _ _ _ _ _ (@z3_ _ _ _ _ _ (pv 0))))
theorem b8B:FnScope ["table"] ["table"] (v6_ a6V):=x5_
def a7u:Mo Fl:=(v0_ (a1X (mCD 1 u9_ (z6_ (z0_ 0) z8_))))
def a0u:Fn:=fnM 1 a7u
theorem b8C{f:Addr}{fd:FuncData}(F:Fun K "turned_left" "turned_left" a6V f fd)(T:Txt K mg)(d_flipped:Def P w K mg base "flipped" 1 1 u9_):FnOk P w K mg base CX0 2 f fd ["table"] (SpF K 1 a0u):=
 x3_ F b8B fun cdv A outer s H E hr=>(@q8_ _ _ _ _ (@y0_ _ _ _ _ _ (@a5W _ _ _ _ _ _ _ (@v9_ _ _ _ _ _ _ _ _ _ _ _ (by exact d_flipped) (by exact(hr.mono (show 1≤1 by decide))) (by exact rfl) (@q5_ _ _ _ _ _ _ (@z3_ _ _ _ _ _ (pv 0)) (@v3_ _ _) (by exact z1_ rfl)) (by decide) (by exact z1_ rfl) (by exact q2_ rfl)) (by exact a5X))))
theorem b8D:FnScope ["table"] ["table"] (v6_ a6W):=x5_
def a7v:Mo Fl:=(v0_ (mCD 1 a0u (z6_ (mCD 1 a0u (z6_ (z0_ 0) z8_)) z8_)))
def a0H:Fn:=fnM 1 a7v
theorem b8E{f:Addr}{fd:FuncData}(F:Fun K "turned_half" "turned_half" a6W f fd)(T:Txt K mg)(d_turned_left:Def P w K mg base "turned_left" 2 1 a0u):FnOk P w K mg base CX0 3 f fd ["table"] (SpF K 1 a0H):=
 x3_ F b8D fun cdv A outer s H E hr=>(@q8_ _ _ _ _ (@y0_ _ _ _ _ _ (@v9_ _ _ _ _ _ _ _ _ _ _ _ (by exact d_turned_left) (by exact(hr.mono (show 2≤2 by decide))) (by exact rfl) (@q5_ _ _ _ _ _ _ (@v9_ _ _ _ _ _ _ _ _ _ _ _ (by exact d_turned_left) (by exact(hr.mono (show 2≤2 by decide))) (by exact rfl) (@q5_ _ _ _ _ _ _ (@z3_ _ _ _ _ _ (pv 0)) (@v3_ _ _) (by exact z1_ rfl)) (by decide) (by exact z1_ rfl) (by exact q2_ rfl)) (@v3_ _ _) (by exact z1_ rfl)) (by decide) (by exact z1_ rfl) (by exact q2_ rfl))))
theorem b8F:FnScope ["table"] ["table"] (v6_ a6X):=x5_
def a7w:Mo Fl:=(v0_ (mCD 1 a0u (z6_ (mCD 1 a0H (z6_ (z0_ 0) z8_)) z8_)))
def a2Q:Fn:=fnM 1 a7w
theorem b8G{f:Addr}{fd:FuncData}(F:Fun K "turned_right" "turned_right" a6X f fd)(T:Txt K mg)(d_turned_left:Def P w K mg base "turned_left" 2 1 a0u)(d_turned_half:Def P w K mg base "turned_half" 3 1 a0H):FnOk P w K mg base CX0 4 f fd ["table"] (SpF K 1 a2Q):=
 x3_ F b8F fun cdv A outer s H E hr=>(@q8_ _ _ _ _ (@y0_ _ _ _ _ _ (@v9_ _ _ _ _ _ _ _ _ _ _ _ (by exact d_turned_left) (by exact(hr.mono (show 2≤3 by decide))) (by exact rfl) (@q5_ _ _ _ _ _ _ (@v9_ _ _ _ _ _ _ _ _ _ _ _ (by exact d_turned_half) (by exact(hr.mono (show 3≤3 by decide))) (by exact rfl) (@q5_ _ _ _ _ _ _ (@z3_ _ _ _ _ _ (pv 0)) (@v3_ _ _) (by exact z1_ rfl)) (by decide) (by exact z1_ rfl) (by exact q2_ rfl)) (@v3_ _ _) (by exact z1_ rfl)) (by decide) (by exact z1_ rfl) (by exact q2_ rfl))))
theorem b8H:FnScope ["table"] ["table"] (v6_ a6Y):=x5_
theorem nd6:(["-0","row"]:List Str).Nodup:=by decide+kernel
def a7x:Mo Fl:=(v0_ (mCB a0B (z2_ (mF (y6_ (y9_ (z0_ 0)) [false] 1 (gN 1) x4_ (a1X (z0_ 1)))) z7_)))
def a2R:Fn:=fnM 1 a7x
theorem b8I{f:Addr}{fd:FuncData}(F:Fun K "told_upright" "told_upright" a6Y f fd)(T:Txt K mg):FnOk P w K mg base CX0 1 f fd ["table"] (SpF K 1 a2R):=
 x3_ F b8H fun cdv A outer s H E hr=>(@q8_ _ _ _ _ (@y0_ _ _ _ _ _ (@a4m _ _ _ _ _ _ _ _ _ _ _ (by exact a4b) (by exact a4o) (by exact rfl) (by exact T.g_tuple) (by exact a1Z) (@z9_ _ _ _ _ _ _ (@x6_ _ _ _ _ (@a0s _ _ ["-0","row"] _ [false] 1 _ _ _ _ _ _ _ _ _ (by exact(a0d rfl rfl)) (by exact rfl) (@g9_ _ _ _ _ _ (@z3_ _ _ _ _ _ (pv 0))) (fun s H fp=>(@k3_ _ _ _ _ 1 _ (by exact(show 1≤1 by decide)) (by exact nd6) (by exact rfl) (by first|exact Or.inl rfl|exact Or.inr rfl) (by first|exact .inl rfl|exact .inr rfl|assumption))) (fun s H fp=>(@a0C _ _)) (fun s H fp=>(@a5W _ _ _ _ _ _ _ (@z3_ _ _ _ _ _ (pv 1)) (by exact a5X))) (by intro _;rfl))) (@q9_ _ _) (by exact z1_ rfl)) (by decide) (by decide) (by exact z1_ rfl) (by exact q2_ rfl))))
theorem b8J:FnScope ["table"] ["table"] (v6_ a6Z):=x5_
def a7y:Mo Fl:=(v0_ (a1X (z0_ 0)))
def a2S:Fn:=fnM 1 a7y
theorem b8K{f:Addr}{fd:FuncData}(F:Fun K "told_flat" "told_flat" a6Z f fd)(T:Txt K mg):FnOk P w K mg base CX0 1 f fd ["table"] (SpF K 1 a2S):=
 x3_ F b8J fun cdv A outer s H E hr=>(@q8_ _ _ _ _ (@y0_ _ _ _ _ _ (@a5W _ _ _ _ _ _ _ (@z3_ _ _ _ _ _ (pv 0)) (by exact a5X))))
theorem b8L:FnScope ["table"] ["table"] (v6_ a7a):=x5_
def a7z:Mo Fl:=(v0_ (mCD 1 u9_ (z6_ (z0_ 0) z8_)))
def a1x:Fn:=fnM 1 a7z
theorem b8M{f:Addr}{fd:FuncData}(F:Fun K "told_slant" "told_slant" a7a f fd)(T:Txt K mg)(d_flipped:Def P w K mg base "flipped" 1 1 u9_):FnOk P w K mg base CX0 2 f fd ["table"] (SpF K 1 a1x):=
 x3_ F b8L fun cdv A outer s H E hr=>(@q8_ _ _ _ _ (@y0_ _ _ _ _ _ (@v9_ _ _ _ _ _ _ _ _ _ _ _ (by exact d_flipped) (by exact(hr.mono (show 1≤1 by decide))) (by exact rfl) (@q5_ _ _ _ _ _ _ (@z3_ _ _ _ _ _ (pv 0)) (@v3_ _ _) (by exact z1_ rfl)) (by decide) (by exact z1_ rfl) (by exact q2_ rfl))))
theorem b8N:FnScope ["table"] ["table"] (v6_ a7b):=x5_
def a7A:Mo Fl:=(v0_ (mCD 1 a0H (z6_ (mCD 1 a1x (z6_ (z0_ 0) z8_)) z8_)))
def a2T:Fn:=fnM 1 a7A
theorem b8O{f:Addr}{fd:FuncData}(F:Fun K "told_other" "told_other" a7b f fd)(T:Txt K mg)(d_turned_half:Def P w K mg base "turned_half" 3 1 a0H)(d_told_slant:Def P w K mg base "told_slant" 2 1 a1x):FnOk P w K mg base CX0 4 f fd ["table"] (SpF K 1 a2T):=
 x3_ F b8N fun cdv A outer s H E hr=>(@q8_ _ _ _ _ (@y0_ _ _ _ _ _ (@v9_ _ _ _ _ _ _ _ _ _ _ _ (by exact d_turned_half) (by exact(hr.mono (show 3≤3 by decide))) (by exact rfl) (@q5_ _ _ _ _ _ _ (@v9_ _ _ _ _ _ _ _ _ _ _ _ (by exact d_told_slant) (by exact(hr.mono (show 2≤3 by decide))) (by exact rfl) (@q5_ _ _ _ _ _ _ (@z3_ _ _ _ _ _ (pv 0)) (@v3_ _ _) (by exact z1_ rfl)) (by decide) (by exact z1_ rfl) (by exact q2_ rfl)) (@v3_ _ _) (by exact z1_ rfl)) (by decide) (by exact z1_ rfl) (by exact q2_ rfl))))
theorem b8P:FnScope ["thing"] ["thing"] (v6_ a7c):=x5_
def a7B:Mo Fl:=(v0_ (a0b (mIs "str" (z0_ 0)) (a6s [("stay","stayed"),("left","turned_left"),("half","turned_half"),("right","turned_right"),("upright","told_upright"),("flat","told_flat"),("slant","told_slant"),("other","told_other")] (z0_ 0))))
def a4M:Fn:=fnM 1 a7B
theorem b8Q{f:Addr}{fd:FuncData}(F:Fun K "is_turn" "is_turn" a7c f fd)(T:Txt K mg)(k_TURNS:DfG P w K mg "TURNS" [("stay","stayed"),("left","turned_left"),("half","turned_half"),("right","turned_right"),("upright","told_upright"),("flat","told_flat"),("slant","told_slant"),("other","told_other")]):FnOk P w K mg base CX0 1 f fd ["thing"] (SpF K 1 a4M):=
 x3_ F b8P fun cdv A outer s H E hr=>(@q8_ _ _ _ _ (@y0_ _ _ _ _ _ (@a8Q _ _ _ _ _ _ _ _ (@a2B _ _ _ _ _ _ _ _ _ (by exact b5p) (@z3_ _ _ _ _ _ (pv 0)) (by exact rfl) (by exact T.g_isinstance) (by exact rfl) (by exact T.g_str) (by exact b6h) (by decide) (by decide) (by exact se2 rfl rfl)) (@a8P _ _ _ _ _ _ (@b7d _ _ _ _ _ _ _ _ (by exact k_TURNS) (by exact rfl) (@z3_ _ _ _ _ _ (pv 0)) (by with_unfolding_all rfl) (by decide))))))
theorem b8R:FnScope ["thing"] ["thing"] (v6_ a7d):=x5_
def a7C:Mo Fl:=(y4_ (w9_ (mT (mCD 1 a4M (z6_ (z0_ 0) z8_)))) a5B mNx)
def a4N:Fn:=fnM 1 a7C
theorem b8S{f:Addr}{fd:FuncData}(F:Fun K "must_be_turn" "must_be_turn" a7d f fd)(T:Txt K mg)(d_is_turn:Def P w K mg base "is_turn" 1 1 a4M):FnOk P w K mg base CX0 2 f fd ["thing"] (SpF K 1 a4N):=
 x3_ F b8R fun cdv A outer s H E hr=>(@q8_ _ _ _ _ (@w4_ _ _ _ _ _ _ _ _ _ (@a1M _ _ _ _ _ (@a1L _ _ _ _ (@v9_ _ _ _ _ _ _ _ _ _ _ _ (by exact d_is_turn) (by exact(hr.mono (show 1≤1 by decide))) (by exact rfl) (@q5_ _ _ _ _ _ _ (@z3_ _ _ _ _ _ (pv 0)) (@v3_ _ _) (by exact z1_ rfl)) (by decide) (by exact z1_ rfl) (by exact q2_ rfl)) (by intro _;rfl))) (@q8_ _ _ _ _ (@a8U _ _ _)) (@w3_ _ _)))
theorem b1a:FnScope ["table","turn","deed"] ["table","turn"] (v6_ a7e):=x5_
def a7D:Mo Fl:=(q3_ (y2_ 2 (b0i [("stay","stayed"),("left","turned_left"),("half","turned_half"),("right","turned_right"),("upright","told_upright"),("flat","told_flat"),("slant","told_slant"),("other","told_other")] (z0_ 1))) (v0_ (mCV 1 2 [("stayed",a2P),("turned_left",a0u),("turned_half",a0H),("turned_right",a2Q),("told_upright",a2R),("told_flat",a2S),("told_slant",a1x),("told_other",a2T)] (z6_ (z0_ 0) z8_))))
def a1c:Fn:=fnM 3 a7D
theorem b8T{f:Addr}{fd:FuncData}(F:Fun K "brought" "brought" a7e f fd)(T:Txt K mg)(d_stayed:Def P w K mg base "stayed" 1 1 a2P)(d_turned_left:Def P w K mg base "turned_left" 2 1 a0u)(d_turned_half:Def P w K mg base "turned_half" 3 1 a0H)(d_turned_right:Def P w K mg base "turned_right" 4 1 a2Q)(d_told_upright:Def P w K mg base "told_upright" 1 1 a2R)(d_told_flat:Def P w K mg base "told_flat" 1 1 a2S)(d_told_slant:Def P w K mg base "told_slant" 2 1 a1x)(d_told_other:Def P w K mg base "told_other" 4 1 a2T)(k_TURNS:DfG P w K mg "TURNS" [("stay","stayed"),("left","turned_left"),("half","turned_half"),("right","turned_right"),("upright","told_upright"),("flat","told_flat"),("slant","told_slant"),("other","told_other")]):FnOk P w K mg base CX0 5 f fd ["table","turn"] (SpF K 2 a1c):=
 x3_ F b1a fun cdv A outer s H E hr=>(@v5_ _ _ _ _ _ _ (@j9_ _ _ _ _ _ 2 _ _ (by exact b1a.nd) (by exact rfl) (by first|exact Or.inl rfl|exact Or.inr rfl) (@b7b _ _ _ _ _ _ _ _ (by exact k_TURNS) (by exact(a1u T.n_stayed (a1u T.n_turned_left (a1u T.n_turned_half (a1u T.n_turned_right (a1u T.n_told_upright (a1u T.n_told_flat (a1u T.n_told_slant (a1u T.n_told_other b7a))))))))) (by exact rfl) (@z3_ _ _ _ _ _ (pv 1)) (fun _ _=>rfl) (by decide)) (by rfl) (by first|exact .inl rfl|exact .inr rfl|assumption)) (@q8_ _ _ _ _ (@y0_ _ _ _ _ _ (@b6Z _ _ _ _ _ _ _ _ _ _ _ (@a1t _ _ _ _ _ _ (by exact(hr.mono (show 1≤4 by decide))) (by exact d_stayed) (by exact T.n_stayed) (@a1t _ _ _ _ _ _ (by exact(hr.mono (show 2≤4 by decide))) (by exact d_turned_left) (by exact T.n_turned_left) (@a1t _ _ _ _ _ _ (by exact(hr.mono (show 3≤4 by decide))) (by exact d_turned_half) (by exact T.n_turned_half) (@a1t _ _ _ _ _ _ (by exact(hr.mono (show 4≤4 by decide))) (by exact d_turned_right) (by exact T.n_turned_right) (@a1t _ _ _ _ _ _ (by exact(hr.mono (show 1≤4 by decide))) (by exact d_told_upright) (by exact T.n_told_upright) (@a1t _ _ _ _ _ _ (by exact(hr.mono (show 1≤4 by decide))) (by exact d_told_flat) (by exact T.n_told_flat) (@a1t _ _ _ _ _ _ (by exact(hr.mono (show 2≤4 by decide))) (by exact d_told_slant) (by exact T.n_told_slant) (@a1t _ _ _ _ _ _ (by exact(hr.mono (show 4≤4 by decide))) (by exact d_told_other) (by exact T.n_told_other) (@b6X _ _))))))))) (pv 2) (@q5_ _ _ _ _ _ _ (@z3_ _ _ _ _ _ (pv 0)) (@v3_ _ _) (by exact z1_ rfl)) (by exact z1_ rfl) (by exact q2_ rfl)))))
theorem b8U:FnScope ["table","turn"] ["table","turn"] (v6_ a7f):=x5_
def a7E:Mo Fl:=(q3_ (a1q (mCD 1 a0G (z6_ (z0_ 0) z8_))) (q3_ (a1q (mCD 1 a4N (z6_ (z0_ 1) z8_))) (v0_ (mCD 2 a1c (z6_ (z0_ 0) (z6_ (z0_ 1) z8_))))))
def a0I:Fn:=fnM 2 a7E
theorem b8V{f:Addr}{fd:FuncData}(F:Fun K "turned" "turned" a7f f fd)(T:Txt K mg)(d_must_be_table:Def P w K mg base "must_be_table" 6 1 a0G)(d_must_be_turn:Def P w K mg base "must_be_turn" 2 1 a4N)(d_brought:Def P w K mg base "brought" 5 2 a1c):FnOk P w K mg base CX0 7 f fd ["table","turn"] (SpF K 2 a0I):=
 x3_ F b8U fun cdv A outer s H E hr=>(@v5_ _ _ _ _ _ _ (@a3t _ _ _ _ _ (@v9_ _ _ _ _ _ _ _ _ _ _ _ (by exact d_must_be_table) (by exact(hr.mono (show 6≤6 by decide))) (by exact rfl) (@q5_ _ _ _ _ _ _ (@z3_ _ _ _ _ _ (pv 0)) (@v3_ _ _) (by exact z1_ rfl)) (by decide) (by exact z1_ rfl) (by exact q2_ rfl)) (by rfl)) (@v5_ _ _ _ _ _ _ (@a3t _ _ _ _ _ (@v9_ _ _ _ _ _ _ _ _ _ _ _ (by exact d_must_be_turn) (by exact(hr.mono (show 2≤6 by decide))) (by exact rfl) (@q5_ _ _ _ _ _ _ (@z3_ _ _ _ _ _ (pv 1)) (@v3_ _ _) (by exact z1_ rfl)) (by decide) (by exact z1_ rfl) (by exact q2_ rfl)) (by rfl)) (@q8_ _ _ _ _ (@y0_ _ _ _ _ _ (@v9_ _ _ _ _ _ _ _ _ _ _ _ (by exact d_brought) (by exact(hr.mono (show 5≤6 by decide))) (by exact rfl) (@q5_ _ _ _ _ _ _ (@z3_ _ _ _ _ _ (pv 0)) (@q5_ _ _ _ _ _ _ (@z3_ _ _ _ _ _ (pv 1)) (@v3_ _ _) (by exact z1_ rfl)) (by exact z1_ rfl)) (by decide) (by exact z1_ rfl) (by exact q2_ rfl))))))
theorem b8W:FnScope ["table"] ["table"] (v6_ a7g):=x5_
theorem nd7:(["table","turn"]:List Str).Nodup:=by decide+kernel
def a7F:Mo Fl:=(q3_ (a1q (mCD 1 a0G (z6_ (z0_ 0) z8_))) (a0R (y6_ (a2K [("stay","stayed"),("left","turned_left"),("half","turned_half"),("right","turned_right"),("upright","told_upright"),("flat","told_flat"),("slant","told_slant"),("other","told_other")]) [true] 1 (gN 1) (mT (z4_ (dEq false) (mCD 2 a1c (z6_ (z0_ 0) (z6_ (z0_ 1) z8_))) (z0_ 0))) (z0_ 1))))
def a1d:Fn:=fnM 1 a7F
theorem b8X{f:Addr}{fd:FuncData}(F:Fun K "own_turns" "own_turns" a7g f fd)(T:Txt K mg)(d_must_be_table:Def P w K mg base "must_be_table" 6 1 a0G)(d_brought:Def P w K mg base "brought" 5 2 a1c)(k_TURNS:DfG P w K mg "TURNS" [("stay","stayed"),("left","turned_left"),("half","turned_half"),("right","turned_right"),("upright","told_upright"),("flat","told_flat"),("slant","told_slant"),("other","told_other")]):FnOk P w K mg base CX0 7 f fd ["table"] (SpF K 1 a1d):=
 x3_ F b8W fun cdv A outer s H E hr=>(@v5_ _ _ _ _ _ _ (@a3t _ _ _ _ _ (@v9_ _ _ _ _ _ _ _ _ _ _ _ (by exact d_must_be_table) (by exact(hr.mono (show 6≤6 by decide))) (by exact rfl) (@q5_ _ _ _ _ _ _ (@z3_ _ _ _ _ _ (pv 0)) (@v3_ _ _) (by exact z1_ rfl)) (by decide) (by exact z1_ rfl) (by exact q2_ rfl)) (by rfl)) (@q8_ _ _ _ _ (@a3h _ _ _ _ _ (@a0s _ _ ["table","turn"] _ [true] 1 _ _ _ _ _ _ _ _ _ (by exact(a0d rfl rfl)) (by exact rfl) (@b0j _ _ _ _ _ _ (by exact k_TURNS) (by exact rfl) (by decide+kernel) (by decide)) (fun s H fp=>(@k3_ _ _ _ _ 1 _ (by exact(show 1≤1 by decide)) (by exact nd7) (by exact rfl) (by first|exact Or.inl rfl|exact Or.inr rfl) (by first|exact .inl rfl|exact .inr rfl|assumption))) (fun s H fp=>(@a9m _ _ _ _ (@k9_ _ _ _ _ _ _ _ _ _ _ (by exact(op_eqD hr.units)) (by exact opd_eq) (@v9_ _ _ _ _ _ _ _ _ _ _ _ (by exact d_brought) (by exact(hr.mono (show 5≤6 by decide))) (by exact rfl) (@q5_ _ _ _ _ _ _ (@z3_ _ _ _ _ _ (pv 0)) (@q5_ _ _ _ _ _ _ (@z3_ _ _ _ _ _ (pv 1)) (@v3_ _ _) (by exact z1_ rfl)) (by exact z1_ rfl)) (by decide) (by exact z1_ rfl) (by exact q2_ rfl)) (@z3_ _ _ _ _ _ (pv 0)) (by exact(nomark _))))) (fun s H fp=>(@z3_ _ _ _ _ _ (pv 1))) (by intro _;rfl)))))
theorem b8Y:FnScope ["table"] ["table"] (v6_ a7h):=x5_
theorem nd8:(["table","turn"]:List Str).Nodup:=by decide+kernel
def a7G:Mo Fl:=(q3_ (a1q (mCD 1 a0G (z6_ (z0_ 0) z8_))) (v0_ (mCB a0E (z2_ (mF (y6_ (a2K [("stay","stayed"),("left","turned_left"),("half","turned_half"),("right","turned_right"),("upright","told_upright"),("flat","told_flat"),("slant","told_slant"),("other","told_other")]) [true] 1 (gN 1) x4_ (mCD 2 a1c (z6_ (z0_ 0) (z6_ (z0_ 1) z8_))))) z7_))))
def a2i:Fn:=fnM 1 a7G
theorem b8Z{f:Addr}{fd:FuncData}(F:Fun K "least_turned" "least_turned" a7h f fd)(T:Txt K mg)(d_must_be_table:Def P w K mg base "must_be_table" 6 1 a0G)(d_brought:Def P w K mg base "brought" 5 2 a1c)(k_TURNS:DfG P w K mg "TURNS" [("stay","stayed"),("left","turned_left"),("half","turned_half"),("right","turned_right"),("upright","told_upright"),("flat","told_flat"),("slant","told_slant"),("other","told_other")]):FnOk P w K mg base CX0 7 f fd ["table"] (SpF K 1 a2i):=
 x3_ F b8Y fun cdv A outer s H E hr=>(@v5_ _ _ _ _ _ _ (@a3t _ _ _ _ _ (@v9_ _ _ _ _ _ _ _ _ _ _ _ (by exact d_must_be_table) (by exact(hr.mono (show 6≤6 by decide))) (by exact rfl) (@q5_ _ _ _ _ _ _ (@z3_ _ _ _ _ _ (pv 0)) (@v3_ _ _) (by exact z1_ rfl)) (by decide) (by exact z1_ rfl) (by exact q2_ rfl)) (by rfl)) (@q8_ _ _ _ _ (@y0_ _ _ _ _ _ (@j0_ _ _ _ _ _ _ _ _ _ _ _ (by exact(b7m rfl hr.units)) (by exact b7n) (by exact rfl) (by exact T.g_min) (by exact a9G) (@z9_ _ _ _ _ _ _ (@x6_ _ _ _ _ (@a0s _ _ ["table","turn"] _ [true] 1 _ _ _ _ _ _ _ _ _ (by exact(a0d rfl rfl)) (by exact rfl) (@b0j _ _ _ _ _ _ (by exact k_TURNS) (by exact rfl) (by decide+kernel) (by decide)) (fun s H fp=>(@k3_ _ _ _ _ 1 _ (by exact(show 1≤1 by decide)) (by exact nd8) (by exact rfl) (by first|exact Or.inl rfl|exact Or.inr rfl) (by first|exact .inl rfl|exact .inr rfl|assumption))) (fun s H fp=>(@a0C _ _)) (fun s H fp=>(@v9_ _ _ _ _ _ _ _ _ _ _ _ (by exact d_brought) (by exact(hr.mono (show 5≤6 by decide))) (by exact rfl) (@q5_ _ _ _ _ _ _ (@z3_ _ _ _ _ _ (pv 0)) (@q5_ _ _ _ _ _ _ (@z3_ _ _ _ _ _ (pv 1)) (@v3_ _ _) (by exact z1_ rfl)) (by exact z1_ rfl)) (by decide) (by exact z1_ rfl) (by exact q2_ rfl))) (by intro _;rfl))) (@q9_ _ _) (by exact z1_ rfl)) (by decide) (by decide) (by exact z1_ rfl) (by exact q2_ rfl)))))
theorem b9a:FnScope ["table"] ["table"] (v6_ a7i):=x5_
theorem nd9:(["-0","row"]:List Str).Nodup:=by decide+kernel
def a7H:Mo Fl:=(q3_ (a1q (mCD 1 a0G (z6_ (z0_ 0) z8_))) (v0_ (mCB a4A (z2_ (mF (y6_ (y9_ (z0_ 0)) [false] 1 (gN 1) x4_ (z4_ a6o (z0_ 1) (a4l (mC (.int 1)))))) z7_))))
def a2j:Fn:=fnM 1 a7H
theorem b9b{f:Addr}{fd:FuncData}(F:Fun K "minus_many" "minus_many" a7i f fd)(T:Txt K mg)(d_must_be_table:Def P w K mg base "must_be_table" 6 1 a0G):FnOk P w K mg base CX0 7 f fd ["table"] (SpF K 1 a2j):=
 x3_ F b9a fun cdv A outer s H E hr=>(@v5_ _ _ _ _ _ _ (@a3t _ _ _ _ _ (@v9_ _ _ _ _ _ _ _ _ _ _ _ (by exact d_must_be_table) (by exact(hr.mono (show 6≤6 by decide))) (by exact rfl) (@q5_ _ _ _ _ _ _ (@z3_ _ _ _ _ _ (pv 0)) (@v3_ _ _) (by exact z1_ rfl)) (by decide) (by exact z1_ rfl) (by exact q2_ rfl)) (by rfl)) (@q8_ _ _ _ _ (@y0_ _ _ _ _ _ (@j0_ _ _ _ _ _ _ _ _ _ _ _ (by exact(b6p rfl)) (by exact b6q) (by exact rfl) (by exact T.g_sum) (by exact b6r) (@z9_ _ _ _ _ _ _ (@x6_ _ _ _ _ (@a0s _ _ ["-0","row"] _ [false] 1 _ _ _ _ _ _ _ _ _ (by exact(a0d rfl rfl)) (by exact rfl) (@g9_ _ _ _ _ _ (@z3_ _ _ _ _ _ (pv 0))) (fun s H fp=>(@k3_ _ _ _ _ 1 _ (by exact(show 1≤1 by decide)) (by exact nd9) (by exact rfl) (by first|exact Or.inl rfl|exact Or.inr rfl) (by first|exact .inl rfl|exact .inr rfl|assumption))) (fun s H fp=>(@a0C _ _)) (fun s H fp=>(@b6H _ _ _ _ _ _ _ _ (@z3_ _ _ _ _ _ (pv 1)) (@a8R _ _ _ _ _ (@v1_ _ _ _ _ _)) (by rfl) (by rfl) (by rfl) (by exact z1_ rfl) (by exact q2_ rfl))) (by intro _;rfl))) (@q9_ _ _) (by exact z1_ rfl)) (by decide) (by decide) (by exact z1_ rfl) (by exact q2_ rfl)))))
theorem b9c:FnScope ["_law_script","_law_k"] ["_law_script","_law_k"] (v6_ a7j):=x5_
def a3E:Mo Fl:=(q3_ (y4_ (mT (z4_ dLt (z0_ 1) (mCB x2_ (z2_ (z0_ 0) z7_)))) (v0_ (z4_ dIx (z0_ 0) (z0_ 1))) mNx) (v0_ (mC (.int 0))))
def a3F:Fn:=fnM 2 a3E
theorem b9d{f:Addr}{fd:FuncData}(F:Fun K "_law_cell_at" "_law_cell_at" a7j f fd)(T:Txt K mg):FnOk P w K mg base CX0 1 f fd ["_law_script","_law_k"] (SpF K 2 a3F):=
 x3_ F b9c fun cdv A outer s H E hr=>(@v5_ _ _ _ _ _ _ (@w4_ _ _ _ _ _ _ _ _ _ (@k9_ _ _ _ _ _ _ _ _ _ _ (by exact b3S) (by exact b4G) (@z3_ _ _ _ _ _ (pv 1)) (@j0_ _ _ _ _ _ _ _ _ _ _ _ (by exact a0j) (by exact a0m) (by exact rfl) (by exact T.g_len) (by exact Yx) (@z9_ _ _ _ _ _ _ (@z3_ _ _ _ _ _ (pv 0)) (@q9_ _ _) (by exact z1_ rfl)) (by decide) (by decide) (by exact z1_ rfl) (by exact q2_ rfl)) (by exact(nomark _))) (@q8_ _ _ _ _ (@y0_ _ _ _ _ _ (@a0Q _ _ _ _ _ _ _ (@z3_ _ _ _ _ _ (pv 0)) (@z3_ _ _ _ _ _ (pv 1)) (fun _ _=>rfl)))) (@w3_ _ _)) (@q8_ _ _ _ _ (@y0_ _ _ _ _ _ (@v1_ _ _ _ _ _))))
theorem b1b:FnScope ["_law_script","_law_k","_law_cell"] ["_law_script","_law_k"] (v6_ a7k):=x5_
def a3G:Mo Fl:=(q3_ (y2_ 2 (mCD 2 a3F (z6_ (z0_ 0) (z6_ (z0_ 1) z8_)))) (q3_ (y4_ (mT (z4_ dGe (z0_ 2) (z4_ a1i (mC (.int 10)) (mC (.int 18))))) (a0R (y1_ (z2_ (z4_ a1J (z0_ 2) (z4_ a1i (mC (.int 10)) (mC (.int 18)))) (z2_ (mC (.bl true)) z7_)))) mNx) (a0R (y1_ (z2_ (z4_ g0_ (z0_ 2) (mC (.int 2147483647))) (z2_ (mC (.bl false)) z7_))))))
def a3H:Fn:=fnM 3 a3G
theorem b9e{f:Addr}{fd:FuncData}(F:Fun K "_law_state" "_law_state" a7k f fd)(T:Txt K mg)(d__law_cell_at:Def P w K mg base "_law_cell_at" 1 2 a3F):FnOk P w K mg base CX0 2 f fd ["_law_script","_law_k"] (SpF K 2 a3H):=
 x3_ F b1b fun cdv A outer s H E hr=>(@v5_ _ _ _ _ _ _ (@j9_ _ _ _ _ _ 2 _ _ (by exact b1b.nd) (by exact rfl) (by first|exact Or.inl rfl|exact Or.inr rfl) (@v9_ _ _ _ _ _ _ _ _ _ _ _ (by exact d__law_cell_at) (by exact(hr.mono (show 1≤1 by decide))) (by exact rfl) (@q5_ _ _ _ _ _ _ (@z3_ _ _ _ _ _ (pv 0)) (@q5_ _ _ _ _ _ _ (@z3_ _ _ _ _ _ (pv 1)) (@v3_ _ _) (by exact z1_ rfl)) (by exact z1_ rfl)) (by decide) (by exact z1_ rfl) (by exact q2_ rfl)) (by rfl) (by first|exact .inl rfl|exact .inr rfl|assumption)) (@v5_ _ _ _ _ _ _ (@w4_ _ _ _ _ _ _ _ _ _ (@k9_ _ _ _ _ _ _ _ _ _ _ (by exact b3T) (by exact b4H) (@z3_ _ _ _ _ _ (pv 2)) (@y8_ _ _ _ _ _ _ _ _ _ _ (by exact a8p) (by exact a8O) (@v1_ _ _ _ _ _) (@v1_ _ _ _ _ _)) (by exact(nomark _))) (@q8_ _ _ _ _ (@a3h _ _ _ _ _ (@j8_ _ _ _ _ _ (@z9_ _ _ _ _ _ _ (@y8_ _ _ _ _ _ _ _ _ _ _ (by exact a8n) (by exact a8L) (@z3_ _ _ _ _ _ (pv 2)) (@y8_ _ _ _ _ _ _ _ _ _ _ (by exact a8p) (by exact a8O) (@v1_ _ _ _ _ _) (@v1_ _ _ _ _ _))) (@z9_ _ _ _ _ _ _ (@j7_ _ _ _ _ _) (@q9_ _ _) (by exact z1_ rfl)) (by exact z1_ rfl))))) (@w3_ _ _)) (@q8_ _ _ _ _ (@a3h _ _ _ _ _ (@j8_ _ _ _ _ _ (@z9_ _ _ _ _ _ _ (@y8_ _ _ _ _ _ _ _ _ _ _ (by exact a1E) (by exact a1K) (@z3_ _ _ _ _ _ (pv 2)) (@v1_ _ _ _ _ _)) (@z9_ _ _ _ _ _ _ (@j7_ _ _ _ _ _) (@q9_ _ _) (by exact z1_ rfl)) (by exact z1_ rfl)))))))
theorem a4O:FnScope ["_law_state_here","_law_many","_law_mixed","_law_found"] ["_law_state_here","_law_many"] (v6_ a7l):=x5_
def a3I:Mo Fl:=(q3_ (y4_ (mT (g2_ 0 (mC (.int 1)))) (q3_ (y2_ 3 (z4_ g0_ (g2_ 0 (mC (.int 0))) (z0_ 1))) (q3_ (a1P (z4_ a3g (g2_ 0 (mC (.int 0))) (z0_ 1)) (gS 0 (mC (.int 0)))) (v0_ (z0_ 3)))) mNx) (q3_ (a1P (z4_ g0_ (z4_ x0_ (z4_ w6_ (g2_ 0 (mC (.int 0))) (mC (.int 48271))) (mC (.int 29))) (mC (.int 2147483647))) (gS 0 (mC (.int 0)))) (q3_ (y2_ 2 (z4_ g0_ (z4_ x0_ (z4_ x0_ (z4_ w6_ (g2_ 0 (mC (.int 0))) (g2_ 0 (mC (.int 0)))) (z4_ w6_ (mC (.int 39373)) (g2_ 0 (mC (.int 0))))) (mC (.int 7))) (mC (.int 2147483629)))) (q3_ (y2_ 2 (z4_ g0_ (z4_ x0_ (z4_ w6_ (z0_ 2) (z0_ 2)) (z4_ w6_ (mC (.int 16807)) (z0_ 2))) (mC (.int 2147483587)))) (v0_ (z4_ g0_ (z4_ a3g (z0_ 2) (mC (.int 8))) (z0_ 1)))))))
def a0J:Fn:=fnM 4 a3I
theorem b9f{f:Addr}{fd:FuncData}(F:Fun K "_law_take" "_law_take" a7l f fd)(T:Txt K mg):FnOk P w K mg base CX0 1 f fd ["_law_state_here","_law_many"] (SpF K 2 a0J):=
 x3_ F a4O fun cdv A outer s H E hr=>(@v5_ _ _ _ _ _ _ (@w4_ _ _ _ _ _ _ _ _ _ (@a1L _ _ _ _ (@a1O _ _ _ _ _ _ _ _ (pv 0) (@v1_ _ _ _ _ _) (fun _ _=>rfl) (by exact a1Y)) (by intro _;rfl)) (@v5_ _ _ _ _ _ _ (@j9_ _ _ _ _ _ 3 _ _ (by exact a4O.nd) (by exact rfl) (by first|exact Or.inl rfl|exact Or.inr rfl) (@y8_ _ _ _ _ _ _ _ _ _ _ (by exact a1E) (by exact a1K) (@a1O _ _ _ _ _ _ _ _ (pv 0) (@v1_ _ _ _ _ _) (fun _ _=>rfl) (by exact a1Y)) (@z3_ _ _ _ _ _ (pv 1))) (by rfl) (by first|exact .inl rfl|exact .inr rfl|assumption)) (@v5_ _ _ _ _ _ _ (@a8Z _ _ _ _ _ _ _ (@y8_ _ _ _ _ _ _ _ _ _ _ (by exact a8o) (by exact a8N) (@a1O _ _ _ _ _ _ _ _ (pv 0) (@v1_ _ _ _ _ _) (fun _ _=>rfl) (by exact a1Y)) (@z3_ _ _ _ _ _ (pv 1))) (@a8Y _ _ _ _ _ _ _ _ _ (pv 0) (@v1_ _ _ _ _ _) (by intro _;rfl)) (by rfl) (by rfl) (by rfl)) (@q8_ _ _ _ _ (@y0_ _ _ _ _ _ (@z3_ _ _ _ _ _ (pv 3)))))) (@w3_ _ _)) (@v5_ _ _ _ _ _ _ (@a8Z _ _ _ _ _ _ _ (@y8_ _ _ _ _ _ _ _ _ _ _ (by exact a1E) (by exact a1K) (@y8_ _ _ _ _ _ _ _ _ _ _ (by exact u7_) (by exact u8_) (@y8_ _ _ _ _ _ _ _ _ _ _ (by exact a1V) (by exact a1W) (@a1O _ _ _ _ _ _ _ _ (pv 0) (@v1_ _ _ _ _ _) (fun _ _=>rfl) (by exact a1Y)) (@v1_ _ _ _ _ _)) (@v1_ _ _ _ _ _)) (@v1_ _ _ _ _ _)) (@a8Y _ _ _ _ _ _ _ _ _ (pv 0) (@v1_ _ _ _ _ _) (by intro _;rfl)) (by rfl) (by rfl) (by rfl)) (@v5_ _ _ _ _ _ _ (@j9_ _ _ _ _ _ 2 _ _ (by exact a4O.nd) (by exact rfl) (by first|exact Or.inl rfl|exact Or.inr rfl) (@y8_ _ _ _ _ _ _ _ _ _ _ (by exact a1E) (by exact a1K) (@y8_ _ _ _ _ _ _ _ _ _ _ (by exact u7_) (by exact u8_) (@y8_ _ _ _ _ _ _ _ _ _ _ (by exact u7_) (by exact u8_) (@y8_ _ _ _ _ _ _ _ _ _ _ (by exact a1V) (by exact a1W) (@a1O _ _ _ _ _ _ _ _ (pv 0) (@v1_ _ _ _ _ _) (fun _ _=>rfl) (by exact a1Y)) (@a1O _ _ _ _ _ _ _ _ (pv 0) (@v1_ _ _ _ _ _) (fun _ _=>rfl) (by exact a1Y))) (@y8_ _ _ _ _ _ _ _ _ _ _ (by exact a1V) (by exact a1W) (@v1_ _ _ _ _ _) (@a1O _ _ _ _ _ _ _ _ (pv 0) (@v1_ _ _ _ _ _) (fun _ _=>rfl) (by exact a1Y)))) (@v1_ _ _ _ _ _)) (@v1_ _ _ _ _ _)) (by rfl) (by first|exact .inl rfl|exact .inr rfl|assumption)) (@v5_ _ _ _ _ _ _ (@j9_ _ _ _ _ _ 2 _ _ (by exact a4O.nd) (by exact rfl) (by first|exact Or.inl rfl|exact Or.inr rfl) (@y8_ _ _ _ _ _ _ _ _ _ _ (by exact a1E) (by exact a1K) (@y8_ _ _ _ _ _ _ _ _ _ _ (by exact u7_) (by exact u8_) (@y8_ _ _ _ _ _ _ _ _ _ _ (by exact a1V) (by exact a1W) (@z3_ _ _ _ _ _ (pv 2)) (@z3_ _ _ _ _ _ (pv 2))) (@y8_ _ _ _ _ _ _ _ _ _ _ (by exact a1V) (by exact a1W) (@v1_ _ _ _ _ _) (@z3_ _ _ _ _ _ (pv 2)))) (@v1_ _ _ _ _ _)) (by rfl) (by first|exact .inl rfl|exact .inr rfl|assumption)) (@q8_ _ _ _ _ (@y0_ _ _ _ _ _ (@y8_ _ _ _ _ _ _ _ _ _ _ (by exact a1E) (by exact a1K) (@y8_ _ _ _ _ _ _ _ _ _ _ (by exact a8o) (by exact a8N) (@z3_ _ _ _ _ _ (pv 2)) (@v1_ _ _ _ _ _)) (@z3_ _ _ _ _ _ (pv 1)))))))))
theorem a1y:FnScope ["_law_held","_law_found","_law_one","_law_longer","_law_far","_law_row","_law_number"] ["_law_held"] (v6_ a7m):=x5_
theorem b1c:(["-0","-1","-2","-3","-4","-5","-6","_law_far","_law_row"]:List Str).Nodup:=by decide+kernel
def b9g:Mo Fl:=(q3_ (y2_ 1 (mF (y1_ (z2_ (g1_ (z2_ (mC (.int 0)) (z2_ (g1_ z7_) z7_))) z7_)))) (q3_ (g3_ (y9_ (z0_ 0)) (gN 2) (q3_ (a0n 3 (y1_ z7_)) (q3_ (g3_ (y9_ (z0_ 1)) (gT 2 (gCn (gN 4) (gCn (gN 5) gNl))) (g3_ (y9_ (g1_ (z2_ (a4l (mC (.int 1))) (z2_ (mC (.int 0)) (z2_ (mC (.int 1)) z7_))))) (gN 6) (y4_ (a4k (mT (a1N dLe dLe (mC (.int 0)) (z4_ x0_ (z0_ 4) (z0_ 6)) (mC (.int 1)))) (mT (a1N dLe dLe (mC (.int 0)) (z4_ x0_ (z0_ 2) (z0_ 6)) (mC (.int 1))))) (a8W 3 (g1_ (z2_ (z4_ x0_ (z0_ 4) (z0_ 6)) (z2_ (z4_ x0_ (z0_ 5) (g1_ (z2_ (z0_ 6) z7_))) z7_)))) mNx))) (y2_ 1 (z0_ 3))))) (a0R (mCL a6k (z2_ (mF (y6_ (y9_ (z0_ 1)) [false,false,false,false,false,false,false] 2 (gT 2 (gCn (gN 7) (gCn (gN 8) gNl))) (mT (z4_ (dEq false) (z0_ 7) (mC (.int 1)))) (z0_ 8))) z7_)))))
def a2k:Fn:=fnM 7 b9g
theorem b9h{f:Addr}{fd:FuncData}(F:Fun K "_law_lines" "_law_lines" a7m f fd)(T:Txt K mg):FnOk P w K mg base CX0 1 f fd ["_law_held"] (SpF K 1 a2k):=
 x3_ F a1y fun cdv A outer s H E hr=>(@v5_ _ _ _ _ _ _ (@j9_ _ _ _ _ _ 1 _ _ (by exact a1y.nd) (by exact rfl) (by first|exact Or.inl rfl|exact Or.inr rfl) (@x6_ _ _ _ _ (@j8_ _ _ _ _ _ (@z9_ _ _ _ _ _ _ (@a0P _ _ _ _ _ _ (@z9_ _ _ _ _ _ _ (@v1_ _ _ _ _ _) (@z9_ _ _ _ _ _ _ (@a0P _ _ _ _ _ _ (@q9_ _ _)) (@q9_ _ _) (by exact z1_ rfl)) (by exact z1_ rfl))) (@q9_ _ _) (by exact z1_ rfl)))) (by rfl) (by first|exact .inl rfl|exact .inr rfl|assumption)) (@v5_ _ _ _ _ _ _ (@a0S _ _ _ _ _ _ _ _ _ (by exact Yd) (by exact rfl) (@g9_ _ _ _ _ _ (@z3_ _ _ _ _ _ (pv 0))) (@k3_ _ _ _ _ 2 _ (by exact(show 0≤2 by decide)) (by exact a1y.nd) (by exact rfl) (by first|exact Or.inl rfl|exact Or.inr rfl) (by first|exact .inl rfl|exact .inr rfl|assumption)) (@v5_ _ _ _ _ _ _ (@a8V _ _ _ _ _ 3 _ _ (by exact a1y.nd) (by exact rfl) (by first|exact Or.inl rfl|exact Or.inr rfl) (@j8_ _ _ _ _ _ (@q9_ _ _)) (by rfl) (by first|exact .inl rfl|exact .inr rfl|assumption)) (@v5_ _ _ _ _ _ _ (@a0S _ _ _ _ _ _ _ _ _ (by exact Yd) (by exact rfl) (@g9_ _ _ _ _ _ (@z3_ _ _ _ _ _ (pv 1))) (@a5E _ _ _ _ _ _ _ _ (by exact rfl) (@a2v _ _ _ _ _ _ _ (@k3_ _ _ _ _ 4 _ (by exact(show 0≤4 by decide)) (by exact a1y.nd) (by exact rfl) (by first|exact Or.inl rfl|exact Or.inr rfl) (by first|exact .inl rfl|exact .inr rfl|assumption)) (@a2v _ _ _ _ _ _ _ (@k3_ _ _ _ _ 5 _ (by exact(show 0≤5 by decide)) (by exact a1y.nd) (by exact rfl) (by first|exact Or.inl rfl|exact Or.inr rfl) (by first|exact .inl rfl|exact .inr rfl|assumption)) (@a5D _ _ _) (by rfl)) (by rfl)) (by rfl) (by rfl)) (@q8_ _ _ _ _ (@a0S _ _ _ _ _ _ _ _ _ (by exact Yd) (by exact rfl) (@g9_ _ _ _ _ _ (@a0P _ _ _ _ _ _ (@z9_ _ _ _ _ _ _ (@a8R _ _ _ _ _ (@v1_ _ _ _ _ _)) (@z9_ _ _ _ _ _ _ (@v1_ _ _ _ _ _) (@z9_ _ _ _ _ _ _ (@v1_ _ _ _ _ _) (@q9_ _ _) (by exact z1_ rfl)) (by exact z1_ rfl)) (by exact z1_ rfl)))) (@k3_ _ _ _ _ 6 _ (by exact(show 0≤6 by decide)) (by exact a1y.nd) (by exact rfl) (by first|exact Or.inl rfl|exact Or.inr rfl) (by first|exact .inl rfl|exact .inr rfl|assumption)) (@q8_ _ _ _ _ (@w4_ _ _ _ _ _ _ _ _ _ (@a0z _ _ _ _ (@b4L _ _ _ _ _ _ _ _ (@a5w _ _ _ _ _ _ _ _ _ _ _ _ _ _ _ (by exact a2m) (by exact a2m) (by exact a2t) (by exact a2t) (@v1_ _ _ _ _ _) (@y8_ _ _ _ _ _ _ _ _ _ _ (by exact u7_) (by exact u8_) (@z3_ _ _ _ _ _ (pv 4)) (@z3_ _ _ _ _ _ (pv 6))) (@v1_ _ _ _ _ _) (by with_unfolding_all rfl)) (@b4K _ _ _ _ _ (@a5w _ _ _ _ _ _ _ _ _ _ _ _ _ _ _ (by exact a2m) (by exact a2m) (by exact a2t) (by exact a2t) (@v1_ _ _ _ _ _) (@y8_ _ _ _ _ _ _ _ _ _ _ (by exact u7_) (by exact u8_) (@z3_ _ _ _ _ _ (pv 2)) (@z3_ _ _ _ _ _ (pv 6))) (@v1_ _ _ _ _ _) (by with_unfolding_all rfl))))) (@q8_ _ _ _ _ (@b4S _ _ _ _ _ _ _ _ _ _ (pv 3) (@z9_ _ _ _ _ _ _ (@a0P _ _ _ _ _ _ (@z9_ _ _ _ _ _ _ (@y8_ _ _ _ _ _ _ _ _ _ _ (by exact u7_) (by exact u8_) (@z3_ _ _ _ _ _ (pv 4)) (@z3_ _ _ _ _ _ (pv 6))) (@z9_ _ _ _ _ _ _ (@y8_ _ _ _ _ _ _ _ _ _ _ (by exact u7_) (by exact u8_) (@z3_ _ _ _ _ _ (pv 5)) (@a0P _ _ _ _ _ _ (@z9_ _ _ _ _ _ _ (@z3_ _ _ _ _ _ (pv 6)) (@q9_ _ _) (by exact z1_ rfl)))) (@q9_ _ _) (by exact z1_ rfl)) (by exact z1_ rfl))) (@q9_ _ _) (by exact z1_ rfl)) (by rfl) (by rfl) (by rfl) (by exact z1_ rfl) (by exact q2_ rfl) (by rfl))) (@w3_ _ _))) (by intro _;rfl))) (by intro _;rfl)) (@q8_ _ _ _ _ (@j9_ _ _ _ _ _ 1 _ _ (by exact a1y.nd) (by exact rfl) (by first|exact Or.inl rfl|exact Or.inr rfl) (@z3_ _ _ _ _ _ (pv 3)) (by rfl) (by first|exact .inl rfl|exact .inr rfl|assumption))))) (by intro _;rfl)) (@q8_ _ _ _ _ (@a3h _ _ _ _ _ (@b4Q _ _ _ _ _ _ _ _ _ _ _ (by exact b6n) (by exact b6o) (by exact rfl) (by exact T.g_sorted) (by exact b6j) (@z9_ _ _ _ _ _ _ (@x6_ _ _ _ _ (@a0s _ _ ["-0","-1","-2","-3","-4","-5","-6","_law_far","_law_row"] _ [false,false,false,false,false,false,false] 2 _ _ _ _ _ _ _ _ _ (by exact(a0d rfl rfl)) (by exact rfl) (@g9_ _ _ _ _ _ (@z3_ _ _ _ _ _ (pv 1))) (fun s H fp=>(@a5E _ _ _ _ _ _ _ _ (by exact rfl) (@a2v _ _ _ _ _ _ _ (@k3_ _ _ _ _ 7 _ (by exact(show 7≤7 by decide)) (by exact b1c) (by exact rfl) (by first|exact Or.inl rfl|exact Or.inr rfl) (by first|exact .inl rfl|exact .inr rfl|assumption)) (@a2v _ _ _ _ _ _ _ (@k3_ _ _ _ _ 8 _ (by exact(show 7≤8 by decide)) (by exact b1c) (by exact rfl) (by first|exact Or.inl rfl|exact Or.inr rfl) (by first|exact .inl rfl|exact .inr rfl|assumption)) (@a5D _ _ _) (by rfl)) (by rfl)) (by rfl) (by rfl))) (fun s H fp=>(@a9m _ _ _ _ (@k9_ _ _ _ _ _ _ _ _ _ _ (by exact(op_eqD hr.units)) (by exact opd_eq) (@z3_ _ _ _ _ _ (pv 7)) (@v1_ _ _ _ _ _) (by exact(nomark _))))) (fun s H fp=>(@z3_ _ _ _ _ _ (pv 8))) (by intro _;rfl))) (@q9_ _ _) (by exact z1_ rfl)) (by decide) (by decide) (by exact z1_ rfl) (by exact q2_ rfl))))))
theorem a1e:FnScope ["_law_state_here","_law_least","_law_most","_law_side","_law_held","_law_found","_law_turn","_law_rows","_law_row"] ["_law_state_here","_law_least","_law_most"] (v6_ a7n):=x5_
theorem b1d:(["-0","-1","-2","-3","-4","-5","-6","-7","-8","_law_one","_law_number"]:List Str).Nodup:=by decide+kernel
def a7I:Mo Fl:=(q3_ (y2_ 3 (z4_ x0_ (z0_ 1) (mCD 2 a0J (a0k 0 (z6_ (z4_ x0_ (z4_ a1J (z0_ 2) (z0_ 1)) (mC (.int 1))) z8_))))) (q3_ (y2_ 4 (z4_ w6_ (g1_ (z2_ (mC (.int 0)) z7_)) (z0_ 3))) (q3_ (y2_ 5 (g1_ z7_)) (q3_ (g3_ (a0o (z2_ (z0_ 3) z7_)) (gN 6) (q3_ (y2_ 7 (mF (w0_ 1 a2k (z6_ (z0_ 4) z8_)))) (q3_ (y2_ 8 (z4_ dIx (z0_ 7) (mCD 2 a0J (a0k 0 (z6_ (mCB x2_ (z2_ (z0_ 7) z7_)) z8_))))) (q3_ (y2_ 4 (mCB a0B (z2_ (mF (y6_ (a2G (z2_ (z0_ 4) (z2_ (z0_ 8) z7_))) [false,false,false,false,false,false,false,false,false] 2 (gT 2 (gCn (gN 9) (gCn (gN 10) gNl))) x4_ (z4_ x0_ (z0_ 9) (z0_ 10)))) z7_))) (y2_ 5 (z4_ x0_ (z0_ 5) (g1_ (z2_ (z0_ 8) z7_)))))))) (v0_ (z0_ 5))))))
def a3J:Fn:=fnM 9 a7I
theorem b9i{f:Addr}{fd:FuncData}(F:Fun K "_law_table" "_law_table" a7n f fd)(T:Txt K mg)(d__law_take:Def P w K mg base "_law_take" 1 2 a0J)(d__law_lines:Def P w K mg base "_law_lines" 1 1 a2k):FnOk P w K mg base CX0 2 f fd ["_law_state_here","_law_least","_law_most"] (SpF K 3 a3J):=
 x3_ F a1e fun cdv A outer s H E hr=>(@v5_ _ _ _ _ _ _ (@j9_ _ _ _ _ _ 3 _ _ (by exact a1e.nd) (by exact rfl) (by first|exact Or.inl rfl|exact Or.inr rfl) (@y8_ _ _ _ _ _ _ _ _ _ _ (by exact u7_) (by exact u8_) (@z3_ _ _ _ _ _ (pv 1)) (@v9_ _ _ _ _ _ _ _ _ _ _ _ (by exact d__law_take) (by exact(hr.mono (show 1≤1 by decide))) (by exact rfl) (@a5x _ _ _ _ _ _ _ (pv 0) (@q5_ _ _ _ _ _ _ (@y8_ _ _ _ _ _ _ _ _ _ _ (by exact u7_) (by exact u8_) (@y8_ _ _ _ _ _ _ _ _ _ _ (by exact a8n) (by exact a8L) (@z3_ _ _ _ _ _ (pv 2)) (@z3_ _ _ _ _ _ (pv 1))) (@v1_ _ _ _ _ _)) (@v3_ _ _) (by exact z1_ rfl)) (by exact z1_ rfl)) (by decide) (by exact z1_ rfl) (by exact q2_ rfl))) (by rfl) (by first|exact .inl rfl|exact .inr rfl|assumption)) (@v5_ _ _ _ _ _ _ (@j9_ _ _ _ _ _ 4 _ _ (by exact a1e.nd) (by exact rfl) (by first|exact Or.inl rfl|exact Or.inr rfl) (@y8_ _ _ _ _ _ _ _ _ _ _ (by exact a1V) (by exact a1W) (@a0P _ _ _ _ _ _ (@z9_ _ _ _ _ _ _ (@v1_ _ _ _ _ _) (@q9_ _ _) (by exact z1_ rfl))) (@z3_ _ _ _ _ _ (pv 3))) (by rfl) (by first|exact .inl rfl|exact .inr rfl|assumption)) (@v5_ _ _ _ _ _ _ (@j9_ _ _ _ _ _ 5 _ _ (by exact a1e.nd) (by exact rfl) (by first|exact Or.inl rfl|exact Or.inr rfl) (@a0P _ _ _ _ _ _ (@q9_ _ _)) (by rfl) (by first|exact .inl rfl|exact .inr rfl|assumption)) (@v5_ _ _ _ _ _ _ (@a0S _ _ _ _ _ _ _ _ _ (by exact Yd) (by exact rfl) (@a5G _ _ _ _ _ _ _ (by exact rfl) (by exact T.g_range) (@z9_ _ _ _ _ _ _ (@z3_ _ _ _ _ _ (pv 3)) (@q9_ _ _) (by exact z1_ rfl)) (by exact se1 rfl)) (@k3_ _ _ _ _ 6 _ (by exact(show 0≤6 by decide)) (by exact a1e.nd) (by exact rfl) (by first|exact Or.inl rfl|exact Or.inr rfl) (by first|exact .inl rfl|exact .inr rfl|assumption)) (@v5_ _ _ _ _ _ _ (@j9_ _ _ _ _ _ 7 _ _ (by exact a1e.nd) (by exact rfl) (by first|exact Or.inl rfl|exact Or.inr rfl) (@x6_ _ _ _ _ (@a3o _ _ _ _ _ _ _ _ _ _ _ (by exact d__law_lines) (by exact(hr.mono (show 1≤1 by decide))) (by exact rfl) (@q5_ _ _ _ _ _ _ (@z3_ _ _ _ _ _ (pv 4)) (@v3_ _ _) (by exact z1_ rfl)) (by decide) (by exact z1_ rfl) (by exact q2_ rfl))) (by rfl) (by first|exact .inl rfl|exact .inr rfl|assumption)) (@v5_ _ _ _ _ _ _ (@j9_ _ _ _ _ _ 8 _ _ (by exact a1e.nd) (by exact rfl) (by first|exact Or.inl rfl|exact Or.inr rfl) (@a0Q _ _ _ _ _ _ _ (@z3_ _ _ _ _ _ (pv 7)) (@v9_ _ _ _ _ _ _ _ _ _ _ _ (by exact d__law_take) (by exact(hr.mono (show 1≤1 by decide))) (by exact rfl) (@a5x _ _ _ _ _ _ _ (pv 0) (@q5_ _ _ _ _ _ _ (@j0_ _ _ _ _ _ _ _ _ _ _ _ (by exact a0j) (by exact a0m) (by exact rfl) (by exact T.g_len) (by exact Yx) (@z9_ _ _ _ _ _ _ (@z3_ _ _ _ _ _ (pv 7)) (@q9_ _ _) (by exact z1_ rfl)) (by decide) (by decide) (by exact z1_ rfl) (by exact q2_ rfl)) (@v3_ _ _) (by exact z1_ rfl)) (by exact z1_ rfl)) (by decide) (by exact z1_ rfl) (by exact q2_ rfl)) (fun _ _=>rfl)) (by rfl) (by first|exact .inl rfl|exact .inr rfl|assumption)) (@v5_ _ _ _ _ _ _ (@j9_ _ _ _ _ _ 4 _ _ (by exact a1e.nd) (by exact rfl) (by first|exact Or.inl rfl|exact Or.inr rfl) (@a4m _ _ _ _ _ _ _ _ _ _ _ (by exact a4b) (by exact a4o) (by exact rfl) (by exact T.g_tuple) (by exact a1Z) (@z9_ _ _ _ _ _ _ (@x6_ _ _ _ _ (@a0s _ _ ["-0","-1","-2","-3","-4","-5","-6","-7","-8","_law_one","_law_number"] _ [false,false,false,false,false,false,false,false,false] 2 _ _ _ _ _ _ _ _ _ (by exact(a0d rfl rfl)) (by exact rfl) (@b5X _ _ _ _ _ _ _ _ _ _ (by exact rfl) (by exact T.g_zip) (@z9_ _ _ _ _ _ _ (@z3_ _ _ _ _ _ (pv 4)) (@z9_ _ _ _ _ _ _ (@z3_ _ _ _ _ _ (pv 8)) (@q9_ _ _) (by exact z1_ rfl)) (by exact z1_ rfl)) (by exact se2 rfl rfl) (by exact se1 rfl)) (fun s H fp=>(@a5E _ _ _ _ _ _ _ _ (by exact rfl) (@a2v _ _ _ _ _ _ _ (@k3_ _ _ _ _ 9 _ (by exact(show 9≤9 by decide)) (by exact b1d) (by exact rfl) (by first|exact Or.inl rfl|exact Or.inr rfl) (by first|exact .inl rfl|exact .inr rfl|assumption)) (@a2v _ _ _ _ _ _ _ (@k3_ _ _ _ _ 10 _ (by exact(show 9≤10 by decide)) (by exact b1d) (by exact rfl) (by first|exact Or.inl rfl|exact Or.inr rfl) (by first|exact .inl rfl|exact .inr rfl|assumption)) (@a5D _ _ _) (by rfl)) (by rfl)) (by rfl) (by rfl))) (fun s H fp=>(@a0C _ _)) (fun s H fp=>(@y8_ _ _ _ _ _ _ _ _ _ _ (by exact u7_) (by exact u8_) (@z3_ _ _ _ _ _ (pv 9)) (@z3_ _ _ _ _ _ (pv 10)))) (by intro _;rfl))) (@q9_ _ _) (by exact z1_ rfl)) (by decide) (by decide) (by exact z1_ rfl) (by exact q2_ rfl)) (by rfl) (by first|exact .inl rfl|exact .inr rfl|assumption)) (@q8_ _ _ _ _ (@j9_ _ _ _ _ _ 5 _ _ (by exact a1e.nd) (by exact rfl) (by first|exact Or.inl rfl|exact Or.inr rfl) (@y8_ _ _ _ _ _ _ _ _ _ _ (by exact u7_) (by exact u8_) (@z3_ _ _ _ _ _ (pv 5)) (@a0P _ _ _ _ _ _ (@z9_ _ _ _ _ _ _ (@z3_ _ _ _ _ _ (pv 8)) (@q9_ _ _) (by exact z1_ rfl)))) (by rfl) (by first|exact .inl rfl|exact .inr rfl|assumption)))))) (by intro _;rfl)) (@q8_ _ _ _ _ (@y0_ _ _ _ _ _ (@z3_ _ _ _ _ _ (pv 5))))))))
theorem b9j:FnScope [] [] (v6_ a7o):=x5_
def b9k:Mo Fl:=(a0R (y1_ (z2_ (mC (.str "stay")) (z2_ (mC (.str "left")) (z2_ (mC (.str "half")) (z2_ (mC (.str "right")) (z2_ (mC (.str "upright")) (z2_ (mC (.str "flat")) (z2_ (mC (.str "slant")) (z2_ (mC (.str "other")) z7_))))))))))
def a2U:Fn:=fnM 0 b9k
theorem b9l{f:Addr}{fd:FuncData}(F:Fun K "_law_turn_words" "_law_turn_words" a7o f fd)(T:Txt K mg):FnOk P w K mg base CX0 1 f fd [] (SpF K 0 a2U):=
 x3_ F b9j fun cdv A outer s H E hr=>(@q8_ _ _ _ _ (@a3h _ _ _ _ _ (@j8_ _ _ _ _ _ (@z9_ _ _ _ _ _ _ (@x8_ _ _ _ _ _ (by decide)) (@z9_ _ _ _ _ _ _ (@x8_ _ _ _ _ _ (by decide)) (@z9_ _ _ _ _ _ _ (@x8_ _ _ _ _ _ (by decide)) (@z9_ _ _ _ _ _ _ (@x8_ _ _ _ _ _ (by decide)) (@z9_ _ _ _ _ _ _ (@x8_ _ _ _ _ _ (by decide)) (@z9_ _ _ _ _ _ _ (@x8_ _ _ _ _ _ (by decide)) (@z9_ _ _ _ _ _ _ (@x8_ _ _ _ _ _ (by decide)) (@z9_ _ _ _ _ _ _ (@x8_ _ _ _ _ _ (by decide)) (@q9_ _ _) (by exact z1_ rfl)) (by exact z1_ rfl)) (by exact z1_ rfl)) (by exact z1_ rfl)) (by exact z1_ rfl)) (by exact z1_ rfl)) (by exact z1_ rfl)) (by exact z1_ rfl)))))
theorem a7J:FnScope ["_law_table_here","_law_turns","_law_turn"] ["_law_table_here","_law_turns"] (v6_ a7p):=x5_
def a7K:Mo Fl:=(q3_ (g3_ (y9_ (z0_ 1)) (gN 2) (y2_ 0 (mCD 2 a0I (z6_ (z0_ 0) (z6_ (z0_ 2) z8_))))) (v0_ (z0_ 0)))
def k7_:Fn:=fnM 3 a7K
theorem b9m{f:Addr}{fd:FuncData}(F:Fun K "_law_along" "_law_along" a7p f fd)(T:Txt K mg)(d_turned:Def P w K mg base "turned" 7 2 a0I):FnOk P w K mg base CX0 8 f fd ["_law_table_here","_law_turns"] (SpF K 2 k7_):=
 x3_ F a7J fun cdv A outer s H E hr=>(@v5_ _ _ _ _ _ _ (@a0S _ _ _ _ _ _ _ _ _ (by exact Yd) (by exact rfl) (@g9_ _ _ _ _ _ (@z3_ _ _ _ _ _ (pv 1))) (@k3_ _ _ _ _ 2 _ (by exact(show 0≤2 by decide)) (by exact a7J.nd) (by exact rfl) (by first|exact Or.inl rfl|exact Or.inr rfl) (by first|exact .inl rfl|exact .inr rfl|assumption)) (@q8_ _ _ _ _ (@j9_ _ _ _ _ _ 0 _ _ (by exact a7J.nd) (by exact rfl) (by first|exact Or.inl rfl|exact Or.inr rfl) (@v9_ _ _ _ _ _ _ _ _ _ _ _ (by exact d_turned) (by exact(hr.mono (show 7≤7 by decide))) (by exact rfl) (@q5_ _ _ _ _ _ _ (@z3_ _ _ _ _ _ (pv 0)) (@q5_ _ _ _ _ _ _ (@z3_ _ _ _ _ _ (pv 2)) (@v3_ _ _) (by exact z1_ rfl)) (by exact z1_ rfl)) (by decide) (by exact z1_ rfl) (by exact q2_ rfl)) (by rfl) (by first|exact .inl rfl|exact .inr rfl|assumption))) (by intro _;rfl)) (@q8_ _ _ _ _ (@y0_ _ _ _ _ _ (@z3_ _ _ _ _ _ (pv 0)))))
theorem a1z:FnScope ["_law_script","_law_k","_law_state_here","_law_table_here","_law_every","_law_there","_law_turns","_law_least","_law_many"] ["_law_script"] (v6_ a2N):=x5_
theorem b9n:(["-0","-1","-2","_law_table_here","-4","-5","-6","-7","-8","_law_turn"]:List Str).Nodup:=by decide+kernel
def b9o:Mo Fl:=(q3_ (g3_ (a0o (z2_ (mCB a2D (z2_ (mC (.int 1)) (z2_ (mCB a2E (z2_ (mCB x2_ (z2_ (z0_ 0) z7_)) (z2_ (mC (.int 6)) z7_))) z7_))) z7_)) (gN 1) (q3_ (a0n 2 (w0_ 2 a3H (z6_ (z0_ 0) (z6_ (z0_ 1) z8_)))) (q3_ (y2_ 3 (mCD 3 a3J (a0k 2 (z6_ (mC (.int 1)) (z6_ (mC (.int 6)) z8_))))) (q3_ (a3i 7 8 (z2_ (mCD 1 a2i (z6_ (z0_ 3) z8_)) (z2_ (mCB x2_ (z2_ (mF (w0_ 1 a1d (z6_ (z0_ 3) z8_))) z7_)) z7_))) (q3_ (y4_ (x9_ (mT (z4_ (dEq true) (z4_ g0_ (mC (.int 8)) (z0_ 8)) (mC (.int 0)))) (mT (z4_ (dEq true) (z4_ dIx (mF (w0_ 1 a1d (z6_ (z0_ 3) z8_))) (mC (.int 0))) (mC (.str "stay"))))) (v0_ (mC (.bl false))) mNx) (q3_ (a0n 4 (y6_ (y9_ (mF (w0_ 0 a2U z8_))) [false,false,false,true,false,false,false,false,false] 1 (gN 9) x4_ (mCD 2 a0I (z6_ (z0_ 3) (z6_ (z0_ 9) z8_))))) (q3_ (g3_ (y9_ (z0_ 4)) (gN 5) (q3_ (y4_ (x9_ (mT (z4_ a5S (mCD 1 a2h (z6_ (z0_ 5) z8_)) (mC (.bl true)))) (mT (z4_ (dEq true) (mCD 1 a2j (z6_ (z0_ 5) z8_)) (mCD 1 a2j (z6_ (z0_ 3) z8_))))) (v0_ (mC (.bl false))) mNx) (y4_ (x9_ (mT (z4_ (dEq true) (mCD 1 a2i (z6_ (z0_ 5) z8_)) (z0_ 7))) (mT (z4_ (dEq true) (mCB x2_ (z2_ (mF (w0_ 1 a1d (z6_ (z0_ 5) z8_))) z7_)) (z0_ 8)))) (v0_ (mC (.bl false))) mNx))) (q3_ (y4_ (x9_ (mT (z4_ (a4B true) (z0_ 7) (z0_ 4))) (mT (z4_ (dEq true) (z4_ w6_ (mCB a3y (z2_ (z0_ 4) z7_)) (z0_ 8)) (mC (.int 8))))) (v0_ (mC (.bl false))) mNx) (q3_ (g3_ (y9_ (mF (y1_ (z2_ (mF (u2_ 4 (y1_ (z2_ (mC (.str "left")) z7_)))) (z2_ (mF (y1_ (z2_ (mC (.str "right")) (z2_ (mC (.str "left")) z7_)))) (z2_ (mF (y1_ (z2_ (mC (.str "half")) (z2_ (mC (.str "half")) z7_)))) (z2_ (mF (u2_ 2 (y1_ (z2_ (mC (.str "upright")) z7_)))) (z2_ (mF (u2_ 2 (y1_ (z2_ (mC (.str "flat")) z7_)))) (z2_ (mF (u2_ 2 (y1_ (z2_ (mC (.str "slant")) z7_)))) z7_))))))))) (gN 6) (y4_ (mT (z4_ (dEq true) (mCD 2 k7_ (z6_ (z0_ 3) (z6_ (z0_ 6) z8_))) (z0_ 3))) (v0_ (mC (.bl false))) mNx)) (q3_ (y4_ (x9_ (mT (z4_ (dEq true) (mCD 2 k7_ (z6_ (z0_ 3) (z6_ (mF (y1_ (z2_ (mC (.str "other")) (z2_ (mC (.str "other")) z7_)))) z8_))) (z0_ 3))) (mT (z4_ (dEq true) (mCD 2 k7_ (z6_ (z0_ 3) (z6_ (mF (y1_ (z2_ (mC (.str "left")) (z2_ (mC (.str "left")) z7_)))) z8_))) (z4_ dIx (z0_ 4) (mC (.int 2)))))) (v0_ (mC (.bl false))) mNx) (q3_ (y4_ (x9_ (mT (z4_ (dEq true) (mCD 2 k7_ (z6_ (z0_ 3) (z6_ (mF (y1_ (z2_ (mC (.str "upright")) (z2_ (mC (.str "flat")) z7_)))) z8_))) (z4_ dIx (z0_ 4) (mC (.int 2))))) (mT (z4_ (dEq true) (mCD 2 k7_ (z6_ (z0_ 3) (z6_ (mF (y1_ (z2_ (mC (.str "slant")) (z2_ (mC (.str "half")) z7_)))) z8_))) (z4_ dIx (z0_ 4) (mC (.int 7)))))) (v0_ (mC (.bl false))) mNx) (y4_ (mT (z4_ (dEq true) (mCD 2 k7_ (z6_ (z0_ 3) (z6_ (mF (u2_ 3 (y1_ (z2_ (mC (.str "left")) z7_)))) z8_))) (z4_ dIx (z0_ 4) (mC (.int 3))))) (v0_ (mC (.bl false))) mNx)))))))))))) (v0_ (mC (.bl true))))
def a4P:Fn:=fnM 9 b9o
theorem b9p{f:Addr}{fd:FuncData}(F:Fun K "law" "law" a2N f fd)(T:Txt K mg)(d__law_state:Def P w K mg base "_law_state" 2 2 a3H)(d__law_table:Def P w K mg base "_law_table" 2 3 a3J)(d_least_turned:Def P w K mg base "least_turned" 7 1 a2i)(d_turned:Def P w K mg base "turned" 7 2 a0I)(d__law_along:Def P w K mg base "_law_along" 8 2 k7_)(d_own_turns:Def P w K mg base "own_turns" 7 1 a1d)(d__law_turn_words:Def P w K mg base "_law_turn_words" 1 0 a2U)(d_is_table:Def P w K mg base "is_table" 5 1 a2h)(d_minus_many:Def P w K mg base "minus_many" 7 1 a2j):FnOk P w K mg base CX0 9 f fd ["_law_script"] (SpF K 1 a4P):=
 x3_ F a1z fun cdv A outer s H E hr=>(@v5_ _ _ _ _ _ _ (@a0S _ _ _ _ _ _ _ _ _ (by exact Yd) (by exact rfl) (@a5G _ _ _ _ _ _ _ (by exact rfl) (by exact T.g_range) (@z9_ _ _ _ _ _ _ (@j0_ _ _ _ _ _ _ _ _ _ _ _ (by exact(b3X rfl)) (by exact b5q) (by exact rfl) (by exact T.g_max) (by exact b6i) (@z9_ _ _ _ _ _ _ (@v1_ _ _ _ _ _) (@z9_ _ _ _ _ _ _ (@j0_ _ _ _ _ _ _ _ _ _ _ _ (by exact(b3Y rfl)) (by exact b5r) (by exact rfl) (by exact T.g_min) (by exact a9G) (@z9_ _ _ _ _ _ _ (@j0_ _ _ _ _ _ _ _ _ _ _ _ (by exact a0j) (by exact a0m) (by exact rfl) (by exact T.g_len) (by exact Yx) (@z9_ _ _ _ _ _ _ (@z3_ _ _ _ _ _ (pv 0)) (@q9_ _ _) (by exact z1_ rfl)) (by decide) (by decide) (by exact z1_ rfl) (by exact q2_ rfl)) (@z9_ _ _ _ _ _ _ (@v1_ _ _ _ _ _) (@q9_ _ _) (by exact z1_ rfl)) (by exact z1_ rfl)) (by decide) (by decide) (by exact z1_ rfl) (by exact q2_ rfl)) (@q9_ _ _) (by exact z1_ rfl)) (by exact z1_ rfl)) (by decide) (by decide) (by exact z1_ rfl) (by exact q2_ rfl)) (@q9_ _ _) (by exact z1_ rfl)) (by exact se1 rfl)) (@k3_ _ _ _ _ 1 _ (by exact(show 0≤1 by decide)) (by exact a1z.nd) (by exact rfl) (by first|exact Or.inl rfl|exact Or.inr rfl) (by first|exact .inl rfl|exact .inr rfl|assumption)) (@v5_ _ _ _ _ _ _ (@a8V _ _ _ _ _ 2 _ _ (by exact a1z.nd) (by exact rfl) (by first|exact Or.inl rfl|exact Or.inr rfl) (@a3o _ _ _ _ _ _ _ _ _ _ _ (by exact d__law_state) (by exact(hr.mono (show 2≤8 by decide))) (by exact rfl) (@q5_ _ _ _ _ _ _ (@z3_ _ _ _ _ _ (pv 0)) (@q5_ _ _ _ _ _ _ (@z3_ _ _ _ _ _ (pv 1)) (@v3_ _ _) (by exact z1_ rfl)) (by exact z1_ rfl)) (by decide) (by exact z1_ rfl) (by exact q2_ rfl)) (by rfl) (by first|exact .inl rfl|exact .inr rfl|assumption)) (@v5_ _ _ _ _ _ _ (@j9_ _ _ _ _ _ 3 _ _ (by exact a1z.nd) (by exact rfl) (by first|exact Or.inl rfl|exact Or.inr rfl) (@v9_ _ _ _ _ _ _ _ _ _ _ _ (by exact d__law_table) (by exact(hr.mono (show 2≤8 by decide))) (by exact rfl) (@a5x _ _ _ _ _ _ _ (pv 2) (@q5_ _ _ _ _ _ _ (@v1_ _ _ _ _ _) (@q5_ _ _ _ _ _ _ (@v1_ _ _ _ _ _) (@v3_ _ _) (by exact z1_ rfl)) (by exact z1_ rfl)) (by exact z1_ rfl)) (by decide) (by exact z1_ rfl) (by exact q2_ rfl)) (by rfl) (by first|exact .inl rfl|exact .inr rfl|assumption)) (@v5_ _ _ _ _ _ _ (@b4U _ _ _ _ _ _ 7 8 _ _ _ _ _ _ _ _ (by exact rfl) (by exact a1z.nd) (by exact rfl) (by exact rfl) (by decide) (by exact rfl) (by exact rfl) (@z9_ _ _ _ _ _ _ (@v9_ _ _ _ _ _ _ _ _ _ _ _ (by exact d_least_turned) (by exact(hr.mono (show 7≤8 by decide))) (by exact rfl) (@q5_ _ _ _ _ _ _ (@z3_ _ _ _ _ _ (pv 3)) (@v3_ _ _) (by exact z1_ rfl)) (by decide) (by exact z1_ rfl) (by exact q2_ rfl)) (@z9_ _ _ _ _ _ _ (@j0_ _ _ _ _ _ _ _ _ _ _ _ (by exact a0j) (by exact a0m) (by exact rfl) (by exact T.g_len) (by exact Yx) (@z9_ _ _ _ _ _ _ (@x6_ _ _ _ _ (@a3o _ _ _ _ _ _ _ _ _ _ _ (by exact d_own_turns) (by exact(hr.mono (show 7≤8 by decide))) (by exact rfl) (@q5_ _ _ _ _ _ _ (@z3_ _ _ _ _ _ (pv 3)) (@v3_ _ _) (by exact z1_ rfl)) (by decide) (by exact z1_ rfl) (by exact q2_ rfl))) (@q9_ _ _) (by exact z1_ rfl)) (by decide) (by decide) (by exact z1_ rfl) (by exact q2_ rfl)) (@q9_ _ _) (by exact z1_ rfl)) (by exact z1_ rfl)) (by exact rfl) (by rfl)) (@v5_ _ _ _ _ _ _ (@w4_ _ _ _ _ _ _ _ _ _ (@a0z _ _ _ _ (@a0O _ _ _ _ _ _ _ _ (@k9_ _ _ _ _ _ _ _ _ _ _ (by exact(op_neD hr.units)) (by exact opd_eq) (@y8_ _ _ _ _ _ _ _ _ _ _ (by exact a1E) (by exact a1K) (@v1_ _ _ _ _ _) (@z3_ _ _ _ _ _ (pv 8))) (@v1_ _ _ _ _ _) (by exact(nomark _))) (@a0N _ _ _ _ _ (@k9_ _ _ _ _ _ _ _ _ _ _ (by exact(op_neD hr.units)) (by exact opd_eq) (@a0Q _ _ _ _ _ _ _ (@x6_ _ _ _ _ (@a3o _ _ _ _ _ _ _ _ _ _ _ (by exact d_own_turns) (by exact(hr.mono (show 7≤8 by decide))) (by exact rfl) (@q5_ _ _ _ _ _ _ (@z3_ _ _ _ _ _ (pv 3)) (@v3_ _ _) (by exact z1_ rfl)) (by decide) (by exact z1_ rfl) (by exact q2_ rfl))) (@v1_ _ _ _ _ _) (fun _ _=>rfl)) (@x8_ _ _ _ _ _ (by decide)) (by exact(nomark _)))))) (@q8_ _ _ _ _ (@y0_ _ _ _ _ _ (@j7_ _ _ _ _ _))) (@w3_ _ _)) (@v5_ _ _ _ _ _ _ (@b7o _ _ ["-0","-1","-2","_law_table_here","-4","-5","-6","-7","-8","_law_turn"] _ [false,false,false,true,false,false,false,false,false] 1 _ _ _ _ _ _ _ _ _ 4 _ _ _ (by exact(a0d rfl rfl)) (by exact rfl) (by exact a1z.nd) (by exact rfl) (by exact rfl) (by exact rfl) (@g9_ _ _ _ _ _ (@x6_ _ _ _ _ (@b7f _ _ _ _ _ _ _ (by exact d__law_turn_words) (by exact(hr.mono (show 1≤8 by decide))) (by exact rfl) (by decide)))) (fun s H fp=>(@k3_ _ _ _ _ 9 _ (by exact(show 9≤9 by decide)) (by exact b9n) (by exact rfl) (by first|exact Or.inl rfl|exact Or.inr rfl) (by first|exact .inl rfl|exact .inr rfl|assumption))) (fun s H fp=>(@a0C _ _)) (fun s H fp=>(@v9_ _ _ _ _ _ _ _ _ _ _ _ (by exact d_turned) (by exact(hr.mono (show 7≤8 by decide))) (by exact rfl) (@q5_ _ _ _ _ _ _ (@z3_ _ _ _ _ _ (pv 3)) (@q5_ _ _ _ _ _ _ (@z3_ _ _ _ _ _ (pv 9)) (@v3_ _ _) (by exact z1_ rfl)) (by exact z1_ rfl)) (by decide) (by exact z1_ rfl) (by exact q2_ rfl))) (by intro _;rfl)) (@v5_ _ _ _ _ _ _ (@a0S _ _ _ _ _ _ _ _ _ (by exact Yd) (by exact rfl) (@g9_ _ _ _ _ _ (@z3_ _ _ _ _ _ (pv 4))) (@k3_ _ _ _ _ 5 _ (by exact(show 0≤5 by decide)) (by exact a1z.nd) (by exact rfl) (by first|exact Or.inl rfl|exact Or.inr rfl) (by first|exact .inl rfl|exact .inr rfl|assumption)) (@v5_ _ _ _ _ _ _ (@w4_ _ _ _ _ _ _ _ _ _ (@a0z _ _ _ _ (@a0O _ _ _ _ _ _ _ _ (@k9_ _ _ _ _ _ _ _ _ _ _ (by exact b5s) (by exact b5t) (@v9_ _ _ _ _ _ _ _ _ _ _ _ (by exact d_is_table) (by exact(hr.mono (show 5≤8 by decide))) (by exact rfl) (@q5_ _ _ _ _ _ _ (@z3_ _ _ _ _ _ (pv 5)) (@v3_ _ _) (by exact z1_ rfl)) (by decide) (by exact z1_ rfl) (by exact q2_ rfl)) (@j7_ _ _ _ _ _) (by exact(nomark _))) (@a0N _ _ _ _ _ (@k9_ _ _ _ _ _ _ _ _ _ _ (by exact(op_neD hr.units)) (by exact opd_eq) (@v9_ _ _ _ _ _ _ _ _ _ _ _ (by exact d_minus_many) (by exact(hr.mono (show 7≤8 by decide))) (by exact rfl) (@q5_ _ _ _ _ _ _ (@z3_ _ _ _ _ _ (pv 5)) (@v3_ _ _) (by exact z1_ rfl)) (by decide) (by exact z1_ rfl) (by exact q2_ rfl)) (@v9_ _ _ _ _ _ _ _ _ _ _ _ (by exact d_minus_many) (by exact(hr.mono (show 7≤8 by decide))) (by exact rfl) (@q5_ _ _ _ _ _ _ (@z3_ _ _ _ _ _ (pv 3)) (@v3_ _ _) (by exact z1_ rfl)) (by decide) (by exact z1_ rfl) (by exact q2_ rfl)) (by exact(nomark _)))))) (@q8_ _ _ _ _ (@y0_ _ _ _ _ _ (@j7_ _ _ _ _ _))) (@w3_ _ _)) (@q8_ _ _ _ _ (@w4_ _ _ _ _ _ _ _ _ _ (@a0z _ _ _ _ (@a0O _ _ _ _ _ _ _ _ (@k9_ _ _ _ _ _ _ _ _ _ _ (by exact(op_neD hr.units)) (by exact opd_eq) (@v9_ _ _ _ _ _ _ _ _ _ _ _ (by exact d_least_turned) (by exact(hr.mono (show 7≤8 by decide))) (by exact rfl) (@q5_ _ _ _ _ _ _ (@z3_ _ _ _ _ _ (pv 5)) (@v3_ _ _) (by exact z1_ rfl)) (by decide) (by exact z1_ rfl) (by exact q2_ rfl)) (@z3_ _ _ _ _ _ (pv 7)) (by exact(nomark _))) (@a0N _ _ _ _ _ (@k9_ _ _ _ _ _ _ _ _ _ _ (by exact(op_neD hr.units)) (by exact opd_eq) (@j0_ _ _ _ _ _ _ _ _ _ _ _ (by exact a0j) (by exact a0m) (by exact rfl) (by exact T.g_len) (by exact Yx) (@z9_ _ _ _ _ _ _ (@x6_ _ _ _ _ (@a3o _ _ _ _ _ _ _ _ _ _ _ (by exact d_own_turns) (by exact(hr.mono (show 7≤8 by decide))) (by exact rfl) (@q5_ _ _ _ _ _ _ (@z3_ _ _ _ _ _ (pv 5)) (@v3_ _ _) (by exact z1_ rfl)) (by decide) (by exact z1_ rfl) (by exact q2_ rfl))) (@q9_ _ _) (by exact z1_ rfl)) (by decide) (by decide) (by exact z1_ rfl) (by exact q2_ rfl)) (@z3_ _ _ _ _ _ (pv 8)) (by exact(nomark _)))))) (@q8_ _ _ _ _ (@y0_ _ _ _ _ _ (@j7_ _ _ _ _ _))) (@w3_ _ _)))) (by intro _;rfl)) (@v5_ _ _ _ _ _ _ (@w4_ _ _ _ _ _ _ _ _ _ (@a0z _ _ _ _ (@a0O _ _ _ _ _ _ _ _ (@k9_ _ _ _ _ _ _ _ _ _ _ (by exact(b6I hr.units)) (by exact b6J) (@z3_ _ _ _ _ _ (pv 7)) (@z3_ _ _ _ _ _ (pv 4)) (by with_unfolding_all rfl)) (@a0N _ _ _ _ _ (@k9_ _ _ _ _ _ _ _ _ _ _ (by exact(op_neD hr.units)) (by exact opd_eq) (@y8_ _ _ _ _ _ _ _ _ _ _ (by exact a1V) (by exact a1W) (by exact(b7Z rfl hr.units rfl T.g_len rfl T.g_set (@z9_ _ _ _ _ _ _ (@z3_ _ _ _ _ _ (pv 4)) (@q9_ _ _) (by exact z1_ rfl)) (he:=z1_ rfl) (hpl:=q2_ rfl) (he1:=se1 rfl))) (@z3_ _ _ _ _ _ (pv 8))) (@v1_ _ _ _ _ _) (by exact(nomark _)))))) (@q8_ _ _ _ _ (@y0_ _ _ _ _ _ (@j7_ _ _ _ _ _))) (@w3_ _ _)) (@v5_ _ _ _ _ _ _ (@a0S _ _ _ _ _ _ _ _ _ (by exact Yd) (by exact rfl) (@g9_ _ _ _ _ _ (@x6_ _ _ _ _ (@j8_ _ _ _ _ _ (@z9_ _ _ _ _ _ _ (@x6_ _ _ _ _ (by exact(a3z (k:=4) (by decide) (@j8_ _ _ _ _ _ (@z9_ _ _ _ _ _ _ (@x8_ _ _ _ _ _ (by decide)) (@q9_ _ _) (by exact z1_ rfl)))))) (@z9_ _ _ _ _ _ _ (@x6_ _ _ _ _ (@j8_ _ _ _ _ _ (@z9_ _ _ _ _ _ _ (@x8_ _ _ _ _ _ (by decide)) (@z9_ _ _ _ _ _ _ (@x8_ _ _ _ _ _ (by decide)) (@q9_ _ _) (by exact z1_ rfl)) (by exact z1_ rfl)))) (@z9_ _ _ _ _ _ _ (@x6_ _ _ _ _ (@j8_ _ _ _ _ _ (@z9_ _ _ _ _ _ _ (@x8_ _ _ _ _ _ (by decide)) (@z9_ _ _ _ _ _ _ (@x8_ _ _ _ _ _ (by decide)) (@q9_ _ _) (by exact z1_ rfl)) (by exact z1_ rfl)))) (@z9_ _ _ _ _ _ _ (@x6_ _ _ _ _ (by exact(a3z (k:=2) (by decide) (@j8_ _ _ _ _ _ (@z9_ _ _ _ _ _ _ (@x8_ _ _ _ _ _ (by decide)) (@q9_ _ _) (by exact z1_ rfl)))))) (@z9_ _ _ _ _ _ _ (@x6_ _ _ _ _ (by exact(a3z (k:=2) (by decide) (@j8_ _ _ _ _ _ (@z9_ _ _ _ _ _ _ (@x8_ _ _ _ _ _ (by decide)) (@q9_ _ _) (by exact z1_ rfl)))))) (@z9_ _ _ _ _ _ _ (@x6_ _ _ _ _ (by exact(a3z (k:=2) (by decide) (@j8_ _ _ _ _ _ (@z9_ _ _ _ _ _ _ (@x8_ _ _ _ _ _ (by decide)) (@q9_ _ _) (by exact z1_ rfl)))))) (@q9_ _ _) (by exact z1_ rfl)) (by exact z1_ rfl)) (by exact z1_ rfl)) (by exact z1_ rfl)) (by exact z1_ rfl)) (by exact z1_ rfl))))) (@k3_ _ _ _ _ 6 _ (by exact(show 0≤6 by decide)) (by exact a1z.nd) (by exact rfl) (by first|exact Or.inl rfl|exact Or.inr rfl) (by first|exact .inl rfl|exact .inr rfl|assumption)) (@q8_ _ _ _ _ (@w4_ _ _ _ _ _ _ _ _ _ (@k9_ _ _ _ _ _ _ _ _ _ _ (by exact(op_neD hr.units)) (by exact opd_eq) (@v9_ _ _ _ _ _ _ _ _ _ _ _ (by exact d__law_along) (by exact(hr.mono (show 8≤8 by decide))) (by exact rfl) (@q5_ _ _ _ _ _ _ (@z3_ _ _ _ _ _ (pv 3)) (@q5_ _ _ _ _ _ _ (@z3_ _ _ _ _ _ (pv 6)) (@v3_ _ _) (by exact z1_ rfl)) (by exact z1_ rfl)) (by decide) (by exact z1_ rfl) (by exact q2_ rfl)) (@z3_ _ _ _ _ _ (pv 3)) (by exact(nomark _))) (@q8_ _ _ _ _ (@y0_ _ _ _ _ _ (@j7_ _ _ _ _ _))) (@w3_ _ _))) (by intro _;rfl)) (@v5_ _ _ _ _ _ _ (@w4_ _ _ _ _ _ _ _ _ _ (@a0z _ _ _ _ (@a0O _ _ _ _ _ _ _ _ (@k9_ _ _ _ _ _ _ _ _ _ _ (by exact(op_neD hr.units)) (by exact opd_eq) (@v9_ _ _ _ _ _ _ _ _ _ _ _ (by exact d__law_along) (by exact(hr.mono (show 8≤8 by decide))) (by exact rfl) (@q5_ _ _ _ _ _ _ (@z3_ _ _ _ _ _ (pv 3)) (@q5_ _ _ _ _ _ _ (@x6_ _ _ _ _ (@j8_ _ _ _ _ _ (@z9_ _ _ _ _ _ _ (@x8_ _ _ _ _ _ (by decide)) (@z9_ _ _ _ _ _ _ (@x8_ _ _ _ _ _ (by decide)) (@q9_ _ _) (by exact z1_ rfl)) (by exact z1_ rfl)))) (@v3_ _ _) (by exact z1_ rfl)) (by exact z1_ rfl)) (by decide) (by exact z1_ rfl) (by exact q2_ rfl)) (@z3_ _ _ _ _ _ (pv 3)) (by exact(nomark _))) (@a0N _ _ _ _ _ (@k9_ _ _ _ _ _ _ _ _ _ _ (by exact(op_neD hr.units)) (by exact opd_eq) (@v9_ _ _ _ _ _ _ _ _ _ _ _ (by exact d__law_along) (by exact(hr.mono (show 8≤8 by decide))) (by exact rfl) (@q5_ _ _ _ _ _ _ (@z3_ _ _ _ _ _ (pv 3)) (@q5_ _ _ _ _ _ _ (@x6_ _ _ _ _ (@j8_ _ _ _ _ _ (@z9_ _ _ _ _ _ _ (@x8_ _ _ _ _ _ (by decide)) (@z9_ _ _ _ _ _ _ (@x8_ _ _ _ _ _ (by decide)) (@q9_ _ _) (by exact z1_ rfl)) (by exact z1_ rfl)))) (@v3_ _ _) (by exact z1_ rfl)) (by exact z1_ rfl)) (by decide) (by exact z1_ rfl) (by exact q2_ rfl)) (@a0Q _ _ _ _ _ _ _ (@z3_ _ _ _ _ _ (pv 4)) (@v1_ _ _ _ _ _) (fun _ _=>rfl)) (by exact(nomark _)))))) (@q8_ _ _ _ _ (@y0_ _ _ _ _ _ (@j7_ _ _ _ _ _))) (@w3_ _ _)) (@v5_ _ _ _ _ _ _ (@w4_ _ _ _ _ _ _ _ _ _ (@a0z _ _ _ _ (@a0O _ _ _ _ _ _ _ _ (@k9_ _ _ _ _ _ _ _ _ _ _ (by exact(op_neD hr.units)) (by exact opd_eq) (@v9_ _ _ _ _ _ _ _ _ _ _ _ (by exact d__law_along) (by exact(hr.mono (show 8≤8 by decide))) (by exact rfl) (@q5_ _ _ _ _ _ _ (@z3_ _ _ _ _ _ (pv 3)) (@q5_ _ _ _ _ _ _ (@x6_ _ _ _ _ (@j8_ _ _ _ _ _ (@z9_ _ _ _ _ _ _ (@x8_ _ _ _ _ _ (by decide)) (@z9_ _ _ _ _ _ _ (@x8_ _ _ _ _ _ (by decide)) (@q9_ _ _) (by exact z1_ rfl)) (by exact z1_ rfl)))) (@v3_ _ _) (by exact z1_ rfl)) (by exact z1_ rfl)) (by decide) (by exact z1_ rfl) (by exact q2_ rfl)) (@a0Q _ _ _ _ _ _ _ (@z3_ _ _ _ _ _ (pv 4)) (@v1_ _ _ _ _ _) (fun _ _=>rfl)) (by exact(nomark _))) (@a0N _ _ _ _ _ (@k9_ _ _ _ _ _ _ _ _ _ _ (by exact(op_neD hr.units)) (by exact opd_eq) (@v9_ _ _ _ _ _ _ _ _ _ _ _ (by exact d__law_along) (by exact(hr.mono (show 8≤8 by decide))) (by exact rfl) (@q5_ _ _ _ _ _ _ (@z3_ _ _ _ _ _ (pv 3)) (@q5_ _ _ _ _ _ _ (@x6_ _ _ _ _ (@j8_ _ _ _ _ _ (@z9_ _ _ _ _ _ _ (@x8_ _ _ _ _ _ (by decide)) (@z9_ _ _ _ _ _ _ (@x8_ _ _ _ _ _ (by decide)) (@q9_ _ _) (by exact z1_ rfl)) (by exact z1_ rfl)))) (@v3_ _ _) (by exact z1_ rfl)) (by exact z1_ rfl)) (by decide) (by exact z1_ rfl) (by exact q2_ rfl)) (@a0Q _ _ _ _ _ _ _ (@z3_ _ _ _ _ _ (pv 4)) (@v1_ _ _ _ _ _) (fun _ _=>rfl)) (by exact(nomark _)))))) (@q8_ _ _ _ _ (@y0_ _ _ _ _ _ (@j7_ _ _ _ _ _))) (@w3_ _ _)) (@q8_ _ _ _ _ (@w4_ _ _ _ _ _ _ _ _ _ (@k9_ _ _ _ _ _ _ _ _ _ _ (by exact(op_neD hr.units)) (by exact opd_eq) (@v9_ _ _ _ _ _ _ _ _ _ _ _ (by exact d__law_along) (by exact(hr.mono (show 8≤8 by decide))) (by exact rfl) (@q5_ _ _ _ _ _ _ (@z3_ _ _ _ _ _ (pv 3)) (@q5_ _ _ _ _ _ _ (@x6_ _ _ _ _ (by exact(a3z (k:=3) (by decide) (@j8_ _ _ _ _ _ (@z9_ _ _ _ _ _ _ (@x8_ _ _ _ _ _ (by decide)) (@q9_ _ _) (by exact z1_ rfl)))))) (@v3_ _ _) (by exact z1_ rfl)) (by exact z1_ rfl)) (by decide) (by exact z1_ rfl) (by exact q2_ rfl)) (@a0Q _ _ _ _ _ _ _ (@z3_ _ _ _ _ _ (pv 4)) (@v1_ _ _ _ _ _) (fun _ _=>rfl)) (by exact(nomark _))) (@q8_ _ _ _ _ (@y0_ _ _ _ _ _ (@j7_ _ _ _ _ _))) (@w3_ _ _))))))))))))) (by intro _;rfl)) (@q8_ _ _ _ _ (@y0_ _ _ _ _ _ (@j7_ _ _ _ _ _))))
end
def isW:D->Bool
 |.int _=>true
 |_=>false
theorem b9q(d:D):a1w [.dat d]=some (.d (.bl (isW d)),[.dat d]):=by cases d<;>rfl
def isR(d:D)(n:Int):Bool:=match d with
 |.tup es=>(es.length:Int)==n&&es.all isW
 |_=>false
theorem b9r(d:D)(n:Int)(hn:n≤1000):a1b [.dat d,.dat (.int n)]=some (.d (.bl (isR d n)),[.dat d,.dat (.int n)]):=by
 cases d with
 |tup es=>
  by_cases h:(es.length:Int)=n
  ·have t:(x9_ (w9_ (mT (mIs "tuple" (z0_ 0)))) (mT (z4_ (dEq true) (mCB x2_ (z2_ (z0_ 0) z7_)) (z0_ 1)))) [.dat (.tup es),.dat (.int n)]=some (false,[.dat (.tup es),.dat (.int n)]):=by
    show some (!((es.length:Int)==n),_)=_;rw[h];simp
   obtain⟨e',h1,w,rfl⟩:=a6c (g:=gN 2) (m:=mCD 1 a1w (z6_ (z0_ 2) z8_)) (P:=fun e=>∃w,e=[.nil,.nil,w]) (f:=fun d=>.bl (isW d)) (ds:=es) (env:=[.nil,.nil,.nil])
    (fun d _ e ⟨w,he⟩=>by
     subst he;refine⟨[.nil,.nil,.dat d],[.nil,.nil,.dat d],rfl,?_,_,rfl⟩;show((a1w [.dat d]).map fun q=>(q.1,_)).bind asD=_
     rw[b9q];rfl) ⟨.nil,rfl⟩
   have hl:es.length≤100000:=by omega
   have c:(y6_ (y9_ (z0_ 0)) [false,false] 1 (gN 2) x4_ (mCD 1 a1w (z6_ (z0_ 2) z8_))) [.dat (.tup es),.dat (.int n)]=some (es.map fun d=>.bl (isW d),[.dat (.tup es),.dat (.int n)]):=by
    show(if es.length≤100000 then(w5_ _ _ _ es [.nil,.nil,.nil]).bind _ else none)=_
    rw[Qc hl,h1];rfl
   unfold a1b fnM a7q;show(match q3_ _ _ [.dat (.tup es),.dat (.int n)]with|some (.ret d,env)=>_|some (.retL ds,env)=>_|some (.nx,env)=>_|_=>none)=_
   rw[k0_ (by rw[a0U t];rfl)]
   have r:(v0_ (mCB a2C (z2_ (mF (y6_ (y9_ (z0_ 0)) [false,false] 1 (gN 2) x4_ (mCD 1 a1w (z6_ (z0_ 2) z8_)))) z7_))) [.dat (.tup es),.dat (.int n)]=some (.ret (.bl (es.all isW)),[.dat (.tup es),.dat (.int n)]):=by
    unfold v0_ mCB z2_ mF;rw[c];show(((a0q (es.map fun d=>.bl (isW d))).map fun k=>D.bl k).map _).map _=_
    rw[a4z];rfl
   rw[r];show some (Rr.d (.bl (es.all isW)),_)=_
   simp[isR,h];rfl
  ·have t:(x9_ (w9_ (mT (mIs "tuple" (z0_ 0)))) (mT (z4_ (dEq true) (mCB x2_ (z2_ (z0_ 0) z7_)) (z0_ 1)))) [.dat (.tup es),.dat (.int n)]=some (true,[.dat (.tup es),.dat (.int n)]):=by
    show some (!((es.length:Int)==n),_)=_
    simp[h]
   unfold a1b fnM a7q;show(match q3_ _ _ [.dat (.tup es),.dat (.int n)]with|some (.ret d,env)=>_|some (.retL ds,env)=>_|some (.nx,env)=>_|_=>none)=_
   rw[a2a (d:=.bl false) (by rw[a1o t];rfl)]
   simp[isR,h];rfl
 |_=>rfl
def isG(d:D)(m n:Int):Bool:=match d with
 |.tup es=>(es.length:Int)==m&&es.all fun r=>isR r n
 |_=>false
theorem b9s(d:D)(k n:Int)(hk:k≤1000)(hn:n≤1000):a3B [.dat d,.dat (.int k),.dat (.int n)]=some (.d (.bl (isG d k n)),[.dat d,.dat (.int k),.dat (.int n)]):=by
 cases d with
 |tup es=>
  by_cases h:(es.length:Int)=k
  ·have t:(x9_ (w9_ (mT (mIs "tuple" (z0_ 0)))) (mT (z4_ (dEq true) (mCB x2_ (z2_ (z0_ 0) z7_)) (z0_ 1)))) [.dat (.tup es),.dat (.int k),.dat (.int n)]=some (false,[.dat (.tup es),.dat (.int k),.dat (.int n)]):=by
    show some (!((es.length:Int)==k),_)=_;rw[h];simp
   obtain⟨e',h1,w,rfl⟩:=a6c (g:=gN 3) (m:=mCD 2 a1b (z6_ (z0_ 3) (z6_ (z0_ 2) z8_))) (P:=fun e=>∃w,e=[.nil,.nil,.dat (.int n),w]) (f:=fun d=>.bl (isR d n)) (ds:=es) (env:=[.nil,.nil,.dat (.int n),.nil])
    (fun d _ e ⟨w,he⟩=>by
     subst he;refine⟨[.nil,.nil,.dat (.int n),.dat d],[.nil,.nil,.dat (.int n),.dat d],rfl,?_,_,rfl⟩;show((a1b [.dat d,.dat (.int n)]).map fun q=>(q.1,_)).bind asD=_
     rw[b9r d n hn];rfl) ⟨.nil,rfl⟩
   have hl:es.length≤100000:=by omega
   have c:(y6_ (y9_ (z0_ 0)) [false,false,true] 1 (gN 3) x4_ (mCD 2 a1b (z6_ (z0_ 3) (z6_ (z0_ 2) z8_)))) [.dat (.tup es),.dat (.int k),.dat (.int n)]=some (es.map fun d=>.bl (isR d n),[.dat (.tup es),.dat (.int k),.dat (.int n)]):=by
    show(if es.length≤100000 then(w5_ _ _ _ es [.nil,.nil,.dat (.int n),.nil]).bind _ else none)=_
    rw[Qc hl,h1];rfl
   refine(g8_ (d:=.bl (isG (.tup es) k n)) (env:=[.dat (.tup es),.dat (.int k),.dat (.int n)]) ?_).trans rfl;show a3A [.dat (.tup es),.dat (.int k),.dat (.int n)]=_;unfold a3A;rw[k0_ (by rw[a0U t];rfl)]
   unfold v0_ mCB z2_ mF;rw[c];show(((a0q (es.map fun d=>.bl (isR d n))).map fun k=>D.bl k).map _).map _=_
   rw[a4z]
   simp[isG,h]
  ·have t:(x9_ (w9_ (mT (mIs "tuple" (z0_ 0)))) (mT (z4_ (dEq true) (mCB x2_ (z2_ (z0_ 0) z7_)) (z0_ 1)))) [.dat (.tup es),.dat (.int k),.dat (.int n)]=some (true,[.dat (.tup es),.dat (.int k),.dat (.int n)]):=by
    show some (!((es.length:Int)==k),_)=_
    simp[h]
   refine(g8_ (d:=.bl (isG (.tup es) k n)) (env:=[.dat (.tup es),.dat (.int k),.dat (.int n)]) ?_).trans rfl;show a3A [.dat (.tup es),.dat (.int k),.dat (.int n)]=_;unfold a3A;rw[a2a (d:=.bl false) (by rw[a1o t];rfl)]
   simp[isG,h]
 |_=>rfl
def isS(d:D)(a b:Int):Bool:=match d with
 |.tup es=>(decide (a≤(es.length:Int))&&decide ((es.length:Int)≤b))&&es.all fun r=>isR r es.length
 |_=>false
theorem b9t(d:D)(a b:Int)(hb:b≤1000):a2O [.dat d,.dat (.int a),.dat (.int b)]=some (.d (.bl (isS d a b)),[.dat d,.dat (.int a),.dat (.int b)]):=by
 cases d with
 |tup es=>
  have t:(x9_ (w9_ (mT (mIs "tuple" (z0_ 0)))) (w9_ (mT (a1N dLe dLe (z0_ 1) (mCB x2_ (z2_ (z0_ 0) z7_)) (z0_ 2))))) [.dat (.tup es),.dat (.int a),.dat (.int b)]=some (!(decide (a≤(es.length:Int))&&decide ((es.length:Int)≤b)),[.dat (.tup es),.dat (.int a),.dat (.int b)]):=by
   by_cases h1:a≤(es.length:Int)
   ·have e1:dLe (.int a) (.int es.length)=some (.bl true):=by show some (D.bl (decide _))=_;simp[h1]
    show(((match dLe (.int a) (.int es.length)with|some (.bl true)=>_|some (.bl false)=>_|_=>none:Option (D×Env')).bind asB).map _)=_
    rw[e1,Zt h1];rfl
   ·have e1:dLe (.int a) (.int es.length)=some (.bl false):=by show some (D.bl (decide _))=_;simp[h1]
    show(((match dLe (.int a) (.int es.length)with|some (.bl true)=>_|some (.bl false)=>_|_=>none:Option (D×Env')).bind asB).map _)=_
    rw[e1,Qe h1];rfl
  by_cases h:(decide (a≤(es.length:Int))&&decide ((es.length:Int)≤b))=true
  ·rw[h]at t
   refine(g8_ (d:=.bl (isS (.tup es) a b)) (env:=[.dat (.tup es),.dat (.int a),.dat (.int b)]) ?_).trans rfl;show a3C [.dat (.tup es),.dat (.int a),.dat (.int b)]=_;unfold a3C;rw[k0_ (by rw[a0U t];rfl)]
   have hl:(es.length:Int)≤1000:=by
    rw[Qd,Zi,Zi]at h
    omega
   show(((a3B [.dat (.tup es),.dat (.int es.length),.dat (.int es.length)]).map fun q=>(q.1,_)).bind asD).map _=_
   rw[b9s _ _ _ hl hl]
   simp[isS,isG,h,asD]
  ·have h':(decide (a≤(es.length:Int))&&decide ((es.length:Int)≤b))=false:=by simpa using h
   rw[h']at t;refine(g8_ (d:=.bl (isS (.tup es) a b)) (env:=[.dat (.tup es),.dat (.int a),.dat (.int b)]) ?_).trans rfl;show a3C [.dat (.tup es),.dat (.int a),.dat (.int b)]=_;unfold a3C;rw[a2a (d:=.bl false) (by rw[a1o t];rfl)]
   simp[isS,h']
 |_=>rfl
def dR(l:List Int):D:=.tup (l.map .int)
def dT(R:OI):D:=.tup (R.map dR)
def unI:D->Int
 |.int i=>i
 |_=>0
def unR:D->List Int
 |.tup es=>es.map unI
 |.lst es=>es.map unI
 |_=>[]
def unT:D->OI
 |.tup es=>es.map unR
 |_=>[]
theorem b9u{d:D}(h:isW d=true):d=.int (unI d):=by cases d<;>first|rfl|cases h
theorem b9v{es:List D}(h:es.all isW=true):es=(es.map unI).map .int:=by
 induction es with
 |nil=>rfl
 |cons d es ih=>
  rw[Xl,Qd]at h;rw[Zz,Zz,←b9u h.1,←ih h.2]
theorem a7L{d:D}{n:Int}(h:isR d n=true):d=dR (unR d)/\((unR d).length:Int)=n:=by
 cases d<;>first|cases h|skip
 rename_i es;simp only[isR,Qd,Xy]at h;refine⟨?_,by simp[unR,h.1]⟩
 show D.tup es=.tup ((es.map unI).map .int);rw[←b9v h.2]
theorem b1e{d:D}{a b:Int}(h:isS d a b=true):d=dT (unT d)/\a≤((unT d).length:Int)/\((unT d).length:Int)≤b/\∀r∈unT d,r.length=(unT d).length:=by
 cases d<;>first|cases h|skip
 rename_i es;simp only[isS,Qd,Zi,Qb]at h;refine⟨?_,by simpa [unT]using h.1.1,by simpa [unT]using h.1.2,fun r hr=>?_⟩
 ·show D.tup es=.tup ((es.map unR).map dR)
  congr 1
  rw[Zx]
  conv=>lhs;rw[←Tn es]
  exact Zn fun x hx=>(a7L (h.2 x hx)).1
 ·obtain⟨x,hx,rfl⟩:=Qn.mp hr
  have:=(a7L (h.2 x hx)).2;simp only[unT,Qk]
  omega
theorem b9w(l:List Int):(l.map D.int).map unI=l:=by rw[Zx];exact Tn l
theorem b9x(l:List Int):unR (dR l)=l:=b9w l
theorem a4Q(R:OI):unT (dT R)=R:=by
 show(R.map dR).map unR=R;rw[Zx]
 conv=>rhs;rw[←Tn R]
 exact Zn fun r _=>b9x r
theorem b9y(l:List Int):isR (dR l) l.length=true:=by
 simp[isR,dR,isW]
theorem b1f{R:OI}{a b:Int}(h1:a≤R.length)(h2:(R.length:Int)≤b)(h:∀r∈R,r.length=R.length):isS (dT R) a b=true:=by
 simp only[isS,dT,Qk,Qd,Zi,Qb];refine⟨⟨h1,h2⟩,fun x hx=>?_⟩
 obtain⟨r,hr,rfl⟩:=Qn.mp hx;have:=b9y r;rw[h r hr]at this;exact this
theorem a2p{α:Type}{xs:List α}{j:Nat}{x:α}(h:xs[j]? =some x):atI xs (j:Int)=some x:=by
 have hj:j<xs.length:=(Qm.mp h).1
 unfold atI ixN;rw[Qc (by omega),Qc (by omega)]
 simpa using h
theorem a4R(n:Nat):u5_ 0 n=(List.range n).map fun(i:Nat)=>D.int i:=by
 unfold u5_;exact Zn fun i _=>by simp
theorem a4S{α:Type}{g:OZ}{m:Mo D}{P:Env'->Prop}{q:α->D}{f:α->D}{l:List α}{env:Env'}(h:∀a∈l,∀e,P e->∃e1 e2,g (q a) e=some e1/\m e1=some (f a,e2)/\P e2)(p:P env):
  ∃env',w5_ g x4_ m (l.map q) env=some (l.map f,env')/\P env':=by
 induction l generalizing env with
 |nil=>exact⟨env,rfl,p⟩
 |cons a l ih=>
  obtain⟨e1,e2,h1,h2,h3⟩:=h a (by simp) env p
  obtain⟨e3,h4,h5⟩:=ih (fun x hx=>h x (by simp[hx])) h3
  refine⟨e3,?_,h5⟩;rw[Zz,Zz];unfold w5_;rw[h1];simp only[Qv,x4_,Yv];rw[h2];simp only[Qv];rw[h4];rfl
def flip(n:Nat)(R:OI):OI:=(List.range n).map fun j=>R.map fun r=>r.getD j 0
theorem b9z{R:OI}{n:Nat}(h:∀r∈R,r.length=n){j:Nat}(hj:j<n){r:List Int}(hr:r∈R):dIx (dR r) (.int (j:Int))=some (.int (r.getD j 0)):=by
 show atI (r.map D.int) (j:Int)=_
 apply a2p
 have:=h r hr
 simp[Qi (show j<r.length by omega)]
theorem b1g{R:OI}{n:Nat}(hR:R≠[])(h:∀r∈R,r.length=n)(hn:n≤1000)(hl:R.length≤1000):u9_ [.dat (dT R)]=some (.d (dT (flip n R)),[.dat (dT R)]):=by
 obtain⟨r0,R',rfl⟩:∃r0 R',R=r0::R':=by
  cases R with
  |nil=>exact absurd rfl hR
  |cons a b=>exact⟨a,b,rfl⟩
 have h0:r0.length=n:=h r0 (by simp)
 have inner:∀j,j<n->(mCB a0B (z2_ (mF (y6_ (y9_ (z0_ 0)) [false,true] 1 (gN 2) x4_ (z4_ dIx (z0_ 2) (z0_ 1)))) z7_)) [.dat (dT (r0::R')),.dat (.int (j:Int))]=some (dR ((r0::R').map fun r=>r.getD j 0),[.dat (dT (r0::R')),.dat (.int (j:Int))]):=fun j hj=>by
  obtain⟨e',h1,w',rfl⟩:=a4S (g:=gN 2) (m:=z4_ dIx (z0_ 2) (z0_ 1)) (P:=fun e=>∃w,e=[.nil,.dat (.int (j:Int)),w]) (q:=dR) (f:=fun r=>.int (r.getD j 0)) (l:=r0::R') (env:=[.nil,.dat (.int (j:Int)),.nil])
   (fun r hr e ⟨w,he⟩=>by
    subst he;refine⟨[.nil,.dat (.int (j:Int)),.dat (dR r)],[.nil,.dat (.int (j:Int)),.dat (dR r)],rfl,?_,_,rfl⟩;show(dIx (dR r) (.int (j:Int))).map _=_;rw[b9z h hj hr];rfl) ⟨.nil,rfl⟩
  have hl':((r0::R').map dR).length≤100000:=by rw[Qk];omega
  have c:(y6_ (y9_ (z0_ 0)) [false,true] 1 (gN 2) x4_ (z4_ dIx (z0_ 2) (z0_ 1))) [.dat (dT (r0::R')),.dat (.int (j:Int))]=some ((r0::R').map fun r=>.int (r.getD j 0),[.dat (dT (r0::R')),.dat (.int (j:Int))]):=by
   show(if((r0::R').map dR).length≤100000 then(w5_ _ _ _ ((r0::R').map dR) [.nil,.dat (.int (j:Int)),.nil]).bind _ else none)=_
   rw[Qc hl',h1];rfl
  unfold mCB z2_ mF;rw[c];show some (D.tup _,_)=_;unfold dR;rw[Zx];rfl
 obtain⟨e',h1,w,rfl⟩:=a4S (g:=gN 1) (m:=mCB a0B (z2_ (mF (y6_ (y9_ (z0_ 0)) [false,true] 1 (gN 2) x4_ (z4_ dIx (z0_ 2) (z0_ 1)))) z7_)) (P:=fun e=>∃w,e=[.dat (dT (r0::R')),w]) (q:=fun(j:Nat)=>D.int j) (f:=fun j=>dR ((r0::R').map fun r=>r.getD j 0)) (l:=List.range n) (env:=[.dat (dT (r0::R')),.nil])
  (fun j hj e ⟨w,he⟩=>by
   subst he;exact⟨_,_,rfl,inner j (Qy.mp hj),_,rfl⟩) ⟨.nil,rfl⟩
 refine(g8_ (d:=dT (flip n (r0::R'))) (env:=[.dat (dT (r0::R'))]) ?_).trans rfl;show a7r [.dat (dT (r0::R'))]=_;unfold a7r;have hrg:(a0o (z2_ (mCB x2_ (z2_ (z4_ dIx (z0_ 0) (mC (.int 0))) z7_)) z7_)) [.dat (dT (r0::R'))]=some (u5_ 0 n,[.dat (dT (r0::R'))]):=by
  have e:(z2_ (mCB x2_ (z2_ (z4_ dIx (z0_ 0) (mC (.int 0))) z7_)) z7_) [.dat (dT (r0::R'))]=some ([.int (n:Int)],[.dat (dT (r0::R'))]):=by
   refine w7_ (a0e (w7_ (v2_ rfl rfl (show dIx (dT (r0::R')) (.int 0)=some (dR r0)from a2p (xs:=(r0::R').map dR) (j:=0) rfl)) rfl) ?_) rfl
   show some (D.int ((r0.map D.int).length:Nat))=_;rw[Qk,h0]
  have:=a6g e (by omega) (by omega)
  rwa [Yl]at this
 have c:(y6_ (a0o (z2_ (mCB x2_ (z2_ (z4_ dIx (z0_ 0) (mC (.int 0))) z7_)) z7_)) [true] 1 (gN 1) x4_ (mCB a0B (z2_ (mF (y6_ (y9_ (z0_ 0)) [false,true] 1 (gN 2) x4_ (z4_ dIx (z0_ 2) (z0_ 1)))) z7_))) [.dat (dT (r0::R'))]=some ((List.range n).map fun j=>dR ((r0::R').map fun r=>r.getD j 0),[.dat (dT (r0::R'))]):=by
  refine a6f (e2:=[.dat (dT (r0::R')),w]) hrg (by rw[a4R];simp;omega) ?_ rfl
  rw[a4R];exact h1
 refine j3_ (a0e (w7_ (a0V c) rfl) ?_);show some (D.tup _)=_;unfold dT flip;rw[Zx];rfl
def tt:Int->List Int->Bool
 |s,[]=>s==1
 |s,x::l=>(s+x==0||s+x==1)&&tt (s+x) l
abbrev a0i:Mo Fl:=(q3_ (a4p 1 a4j (z0_ 2)) (y4_ (mT (z4_ (dIn true) (z0_ 1) (g1_ (z2_ (mC (.int 0)) (z2_ (mC (.int 1)) z7_))))) (v0_ (mC (.bl false))) mNx))
theorem b9A(L:D)(s x:Int):a0i [.dat L,.dat (.int s),.dat (.int x)]=some (stop (s+x==0||s+x==1) (.bl false),[.dat L,.dat (.int (s+x)),.dat (.int x)]):=by
 have t:(mT (z4_ (dIn true) (z0_ 1) (g1_ (z2_ (mC (.int 0)) (z2_ (mC (.int 1)) z7_))))) [.dat L,.dat (.int (s+x)),.dat (.int x)]=some (!(s+x==0||s+x==1),[.dat L,.dat (.int (s+x)),.dat (.int x)]):=by
  show some (!(List.contains [(0:Int),1] (s+x)),_)=_;rw[Xm,Xm,List.contains_nil,Bool.or_false]
 unfold a0i;rw[k0_ (e1:=[.dat L,.dat (.int (s+x)),.dat (.int x)]) rfl];cases hb:(s+x==0||s+x==1)with
 |true=>rw[hb]at t;rw[a0U t];rfl
 |false=>rw[hb]at t;rw[a1o t];rfl
theorem b1h(L:D):∀(l:List Int) (s:Int) (w:W),(∃s' w',loop (gN 2) a0i (l.map .int) [.dat L,.dat (.int s),w]=some (.nx,[.dat L,.dat (.int s'),w'])/\tt s l=(s'==1))∨(tt s l=false/\∃e,loop (gN 2) a0i (l.map .int) [.dat L,.dat (.int s),w]=some (.ret (.bl false),e)/\e.length=3/\e[0]? =some (.dat L))
 |[],s,w=>.inl ⟨s,w,rfl,rfl⟩
 |x::l,s,w=>by
  have h:=b9A L s x
  cases hb:(s+x==0||s+x==1)with
  |true=>
   rw[hb]at h;have e:∀r,loop (gN 2) a0i ((x::l).map .int) [.dat L,.dat (.int s),w]=r↔loop (gN 2) a0i (l.map .int) [.dat L,.dat (.int (s+x)),.dat (.int x)]=r:=fun r=>by
    rw[Zz];have:loop (gN 2) a0i (D.int x::l.map .int) [.dat L,.dat (.int s),w]=loop (gN 2) a0i (l.map .int) [.dat L,.dat (.int (s+x)),.dat (.int x)]:=by
     show(a0i [.dat L,.dat (.int s),.dat (.int x)]).bind _=_;rw[h];rfl
    rw[this]
   have et:tt s (x::l)=tt (s+x) l:=by simp[tt,hb]
   rw[et]
   rcases b1h L l (s+x) (.dat (.int x))with⟨s',w',h1,h2⟩|⟨h1,e',h2,h3⟩
   ·exact .inl ⟨s',w',(e _).mpr h1,h2⟩
   ·exact .inr ⟨h1,e',(e _).mpr h2,h3⟩
  |false=>
   rw[hb]at h;refine .inr ⟨by simp[tt,hb],[.dat L,.dat (.int (s+x)),.dat (.int x)],?_,rfl,rfl⟩
   rw[Zz];show(a0i [.dat L,.dat (.int s),.dat (.int x)]).bind _=_;rw[h];rfl
theorem b9B(l:List Int):a2g [.dat (dR l)]=some (.d (.bl (tt 0 l)),[.dat (dR l)]):=by
 have hi:(g3_ (y9_ (z0_ 0)) (gN 2) a0i) [.dat (dR l),.dat (.int 0),.nil]=loop (gN 2) a0i (l.map .int) [.dat (dR l),.dat (.int 0),.nil]:=rfl
 rcases b1h (dR l) l 0 .nil with⟨s',w',h1,h2⟩|⟨h1,e',h2,h3,h4⟩
 ·refine(g8_ (d:=.bl (tt 0 l)) (env:=[.dat (dR l),.dat (.int s'),w']) ?_).trans rfl
  show a3D [.dat (dR l),.nil,.nil]=_;unfold a3D;rw[k0_ (e1:=[.dat (dR l),.dat (.int 0),.nil]) rfl,k0_ (hi.trans h1)];show some (Fl.ret (.bl (s'==1)),_)=_;rw[h2]
 ·refine(g8_ (d:=.bl (tt 0 l)) (env:=e') ?_).trans ?_
  ·show a3D [.dat (dR l),.nil,.nil]=_
   unfold a3D;rw[k0_ (e1:=[.dat (dR l),.dat (.int 0),.nil]) rfl,a2a (hi.trans h2),h1]
  ·match e',h3,h4 with
   |[a,b,c],_,h4=>cases h4;rfl
def isT(d:D):Bool:=isS d 1 6&&(unT d++flip (unT d).length (unT d)).all (tt 0)
theorem b1i{n:Nat}{R:OI}:(flip n R).length=n:=by simp[flip]
theorem b1j(d:D):a2h [.dat d]=some (.d (.bl (isT d)),[.dat d]):=by
 have t:(w9_ (mT (mCD 3 a2O (z6_ (z0_ 0) (z6_ (mC (.int 1)) (z6_ (mC (.int 6)) z8_)))))) [.dat d]=some (!isS d 1 6,[.dat d]):=by
  show((((a2O [.dat d,.dat (.int 1),.dat (.int 6)]).map fun q=>(q.1,_)).bind asD).bind asB).map _=_
  rw[b9t d 1 6 (by decide)];rfl
 refine(g8_ (d:=.bl (isT d)) (env:=[.dat d]) ?_).trans rfl;show a7s [.dat d]=_;unfold a7s;cases hs:isS d 1 6 with
 |false=>
  rw[hs]at t;rw[a2a (d:=.bl false) (by rw[a1o t];rfl)]
  simp[isT,hs]
 |true=>
  rw[hs]at t;rw[k0_ (by rw[a0U t];rfl)]
  obtain⟨h1,h2,h3,h4⟩:=b1e hs;generalize unT d=R at h1 h2 h3 h4;subst h1;have fl:u9_ [.dat (dT R)]=some (.d (dT (flip R.length R)),[.dat (dT R)]):=b1g (by intro z;subst z;simp at h2) h4 (by omega) (by omega)
  have it:(y9_ (z4_ x0_ (z0_ 0) (mCD 1 u9_ (z6_ (z0_ 0) z8_)))) [.dat (dT R)]=some ((R++flip R.length R).map dR,[.dat (dT R)]):=by
   show(((((u9_ [.dat (dT R)]).map fun q=>(q.1,_)).bind asD).bind fun q=>(x0_ (dT R) q.1).map fun d=>(d,q.2)).bind _)=_
   rw[fl];show((x0_ (dT R) (dT (flip R.length R))).map fun d=>(d,([.dat (dT R)]:Env'))).bind _=_
   have:x0_ (dT R) (dT (flip R.length R))=some (.tup ((R++flip R.length R).map dR)):=by
    show(if(R.map dR).length+((flip R.length R).map dR).length≤10000 then _ else none)=_
    rw[Qc (by rw[Qk,Qk,b1i];omega),Jx]
   rw[this];rfl
  obtain⟨e',h5,w,rfl⟩:=a4S (g:=gN 1) (m:=mCD 1 a2g (z6_ (z0_ 1) z8_)) (P:=fun e=>∃w,e=[.nil,w]) (q:=dR) (f:=fun r=>.bl (tt 0 r)) (l:=R++flip R.length R) (env:=[.nil,.nil])
   (fun r _ e ⟨w,he⟩=>by
    subst he;refine⟨[.nil,.dat (dR r)],[.nil,.dat (dR r)],rfl,?_,_,rfl⟩;show((a2g [.dat (dR r)]).map fun q=>(q.1,_)).bind asD=_
    rw[b9B];rfl) ⟨.nil,rfl⟩
  have c:(y6_ (y9_ (z4_ x0_ (z0_ 0) (mCD 1 u9_ (z6_ (z0_ 0) z8_)))) [false] 1 (gN 1) x4_ (mCD 1 a2g (z6_ (z0_ 1) z8_))) [.dat (dT R)]=some ((R++flip R.length R).map fun r=>.bl (tt 0 r),[.dat (dT R)]):=by
   unfold y6_;rw[it];show(if((R++flip R.length R).map dR).length≤100000 then(w5_ _ _ _ ((R++flip R.length R).map dR) [.nil,.nil]).bind _ else none)=_
   rw[Qc (by rw[Qk,Zr,b1i];omega),h5];rfl
  unfold v0_ mCB z2_ mF;rw[c];show(((a0q ((R++flip R.length R).map fun r=>.bl (tt 0 r))).map fun k=>D.bl k).map _).map _=_
  rw[a4z];simp only[isT,hs,a4Q,Vl];rfl
theorem a3K{i j:Int}(h:a1I i j=true):w6_ (.int i) (.int j)=some (.int (i * j)):=by
 unfold w6_ fOr a5t fI;simp only[h,Yv]
theorem a4T{i j:Int}(h1: -18446744073709551616<i)(h2:i<18446744073709551616):a1I i j=true:=by
 unfold a1I;rw[show((2:Int)^64)=18446744073709551616 from rfl]
 simp[h1,h2]
theorem b9C{i j:Int}(h1: -18446744073709551616<j)(h2:j<18446744073709551616):a1I i j=true:=by
 unfold a1I;rw[show((2:Int)^64)=18446744073709551616 from rfl]
 simp[h1,h2]
theorem a3L:∀l:List Int,v4_ (l.map D.int)=l.map PyData.int
 |[]=>rfl
 |x::l=>by show PyData.int x::v4_ (l.map D.int)=_;rw[a3L l];rfl
theorem a2J:∀l:List Int,PyData.canLayAll0 (l.map PyData.int)=true
 |[]=>rfl
 |x::l=>by show(true&&PyData.canLayAll0 (l.map PyData.int))=true;rw[a2J l];rfl
theorem b1k:∀l:List Int,PyData.depthAll (l.map PyData.int)=0
 |[]=>rfl
 |x::l=>by show max 0 (PyData.depthAll (l.map PyData.int))=0;rw[b1k l];rfl
theorem b1l:∀l k:List Int,PyData.eqvAll (l.map PyData.int) (k.map PyData.int)=decide (l=k)
 |[],[]=>rfl
 |[],_::_=>rfl
 |_::_,[]=>rfl
 |x::l,y::k=>by
  show((x==y)&&PyData.eqvAll (l.map PyData.int) (k.map PyData.int))=_;rw[b1l l k]
  by_cases h:x=y
  ·subst h;simp
  ·simp[h]
theorem b9D{i j k:Int}(h:a4i i j=true)(e:i^j.toNat=k):a1i (.int i) (.int j)=some (.int k):=by
 show(if a4i i j=true then some (D.int (i^j.toNat))else none)=_
 rw[Qc h,e]
theorem b1m:a1i (.int 10) (.int 18)=some (.int 1000000000000000000):=b9D (by decide+kernel) (by decide+kernel)
theorem b1n{a m:Int}{b:Bool}(ha:0≤a)(h1:1≤m)(h2:m<1073741824):∃v a',a0J [.par [.int a,.bl b],.dat (.int m)]=some (.d (.int v),[.par [.int a',.bl b],.dat (.int m)])/\0≤v/\v<m/\0≤a':=by
 have dm:∀x:Int,g0_ (.int x) (.int m)=some (.int (x%m)):=fun x=>by
  show(if decide (0<m)=true then _ else none)=_
  rw[Qc (by simp;omega)]
 have dd:∀x:Int,a3g (.int x) (.int m)=some (.int (x/m)):=fun x=>by
  show(if a4h x m=true then _ else none)=_
  rw[Qc (by unfold a4h;simp;omega)]
 cases b with
 |true=>
  refine⟨a%m,a/m,?_,Jt _ (by omega),Uc _ (by omega),Int.ediv_nonneg ha (by omega)⟩
  refine(g8_ (d:=.int (a%m)) (env:=[.par [.int (a/m),.bl true],.dat (.int m),.nil,.dat (.int (a%m))]) ?_).trans rfl;show a3I [.par [.int a,.bl true],.dat (.int m),.nil,.nil]=_;unfold a3I;have t:(mT (g2_ 0 (mC (.int 1)))) [.par [.int a,.bl true],.dat (.int m),.nil,.nil]=some (true,[.par [.int a,.bl true],.dat (.int m),.nil,.nil]):=rfl;have s1:(y2_ 3 (z4_ g0_ (g2_ 0 (mC (.int 0))) (z0_ 1))) [.par [.int a,.bl true],.dat (.int m),.nil,.nil]=some (.nx,[.par [.int a,.bl true],.dat (.int m),.nil,.dat (.int (a%m))]):=a0r (e1:=[.par [.int a,.bl true],.dat (.int m),.nil,.nil]) (v2_ rfl rfl (dm a));have s2:(a1P (z4_ a3g (g2_ 0 (mC (.int 0))) (z0_ 1)) (gS 0 (mC (.int 0)))) [.par [.int a,.bl true],.dat (.int m),.nil,.dat (.int (a%m))]=some (.nx,[.par [.int (a/m),.bl true],.dat (.int m),.nil,.dat (.int (a%m))]):=by
   unfold a1P;rw[v2_ (c:=.int (a/m)) rfl rfl (dd a)];rfl
  rw[a2a (d:=.int (a%m)) (by rw[a1o t,k0_ s1,k0_ s2];rfl)]
 |false=>
  have e1:∀x:Int,w6_ (.int x) (.int 48271)=some (.int (x * 48271)):=fun x=>a3K (b9C (by decide) (by decide))
  have md:∀(x k:Int),0<k->g0_ (.int x) (.int k)=some (.int (x%k)):=fun x k hk=>by
   show(if decide (0<k)=true then _ else none)=_
   rw[Qc (by simp;omega)]
  let p:Int:=(a * 48271+29)%2147483647
  have hp:0≤p/\p<2147483647:=⟨Jt _ (by decide),Uc _ (by decide)⟩
  let q:Int:=(p * p+39373 * p+7)%2147483629
  have hq:0≤q/\q<2147483629:=⟨Jt _ (by decide),Uc _ (by decide)⟩
  let r:Int:=(q * q+16807 * q)%2147483587
  have hr:0≤r:=Jt _ (by decide)
  refine⟨r/8%m,p,?_,Jt _ (by omega),Uc _ (by omega),hp.1⟩
  refine(g8_ (d:=.int (r/8%m)) (env:=[.par [.int p,.bl false],.dat (.int m),.dat (.int r),.nil]) ?_).trans rfl;show a3I [.par [.int a,.bl false],.dat (.int m),.nil,.nil]=_;unfold a3I;have t:(mT (g2_ 0 (mC (.int 1)))) [.par [.int a,.bl false],.dat (.int m),.nil,.nil]=some (false,[.par [.int a,.bl false],.dat (.int m),.nil,.nil]):=rfl;have s1:(a1P (z4_ g0_ (z4_ x0_ (z4_ w6_ (g2_ 0 (mC (.int 0))) (mC (.int 48271))) (mC (.int 29))) (mC (.int 2147483647))) (gS 0 (mC (.int 0)))) [.par [.int a,.bl false],.dat (.int m),.nil,.nil]=some (.nx,[.par [.int p,.bl false],.dat (.int m),.nil,.nil]):=by
   unfold a1P;rw[v2_ (c:=.int p) (v2_ (c:=.int (a * 48271+29)) (v2_ rfl rfl (e1 a)) rfl rfl) rfl (md _ _ (by decide))];rfl
  have s2:(y2_ 2 (z4_ g0_ (z4_ x0_ (z4_ x0_ (z4_ w6_ (g2_ 0 (mC (.int 0))) (g2_ 0 (mC (.int 0)))) (z4_ w6_ (mC (.int 39373)) (g2_ 0 (mC (.int 0))))) (mC (.int 7))) (mC (.int 2147483629)))) [.par [.int p,.bl false],.dat (.int m),.nil,.nil]=some (.nx,[.par [.int p,.bl false],.dat (.int m),.dat (.int q),.nil]):=
   a0r (e1:=[.par [.int p,.bl false],.dat (.int m),.nil,.nil]) (v2_ (c:=.int q) (v2_ (c:=.int (p * p+39373 * p+7)) (v2_ (c:=.int (p * p+39373 * p)) (v2_ rfl rfl (a3K (i:=p) (j:=p) (a4T (by omega) (by omega)))) (v2_ rfl rfl (a3K (i:=39373) (j:=p) (a4T (by decide) (by decide)))) rfl) rfl rfl) rfl (md _ _ (by decide)))
  have s3:(y2_ 2 (z4_ g0_ (z4_ x0_ (z4_ w6_ (z0_ 2) (z0_ 2)) (z4_ w6_ (mC (.int 16807)) (z0_ 2))) (mC (.int 2147483587)))) [.par [.int p,.bl false],.dat (.int m),.dat (.int q),.nil]=some (.nx,[.par [.int p,.bl false],.dat (.int m),.dat (.int r),.nil]):=
   a0r (e1:=[.par [.int p,.bl false],.dat (.int m),.dat (.int q),.nil]) (v2_ (c:=.int r) (v2_ (c:=.int (q * q+16807 * q)) (v2_ rfl rfl (a3K (i:=q) (j:=q) (a4T (by omega) (by omega)))) (v2_ rfl rfl (a3K (i:=16807) (j:=q) (a4T (by decide) (by decide)))) rfl) rfl (md _ _ (by decide)))
  rw[k0_ (by rw[a0U t];rfl),k0_ s1,k0_ s2,k0_ s3]
  exact j3_ (v2_ (c:=.int (r/8%m)) (v2_ (c:=.int (r/8)) rfl rfl rfl) rfl (dm _))
theorem b9E(ns:List Int)(k:Nat)(hk:k<1000):∃c,a3F [.dat (.lst (ns.map .int)),.dat (.int k)]=some (.d (.int c),[.dat (.lst (ns.map .int)),.dat (.int k)]):=by
 have t:(mT (z4_ dLt (z0_ 1) (mCB x2_ (z2_ (z0_ 0) z7_)))) [.dat (.lst (ns.map .int)),.dat (.int k)]=some (decide ((k:Int)<(ns.length:Int)),[.dat (.lst (ns.map .int)),.dat (.int k)]):=by
  show some (decide ((k:Int)<((ns.map D.int).length:Nat)),_)=_;rw[Qk]
 by_cases h:k<ns.length
 ·have hd:decide ((k:Int)<(ns.length:Int))=true:=by simp;omega
  rw[hd]at t;refine⟨ns[k],(g8_ (d:=.int ns[k]) (env:=[.dat (.lst (ns.map .int)),.dat (.int k)]) ?_).trans rfl⟩;show a3E [.dat (.lst (ns.map .int)),.dat (.int k)]=_;unfold a3E;rw[a2a (d:=.int ns[k]) (by
   rw[a1o t];exact j3_ (v2_ rfl rfl (show atI (ns.map D.int) (k:Int)=_ from a2p (by simp[h]))))]
 ·have hd:decide ((k:Int)<(ns.length:Int))=false:=by simp;omega
  rw[hd]at t;refine⟨0,(g8_ (d:=.int 0) (env:=[.dat (.lst (ns.map .int)),.dat (.int k)]) ?_).trans rfl⟩;show a3E [.dat (.lst (ns.map .int)),.dat (.int k)]=_;unfold a3E;rw[k0_ (by rw[a0U t];rfl)];rfl
theorem b9F(ns:List Int)(k:Nat)(hk:k<1000):∃a b,0≤a/\a3H [.dat (.lst (ns.map .int)),.dat (.int k)]=some (.l [.int a,.bl b],[.dat (.lst (ns.map .int)),.dat (.int k)]):=by
 obtain⟨c,hc⟩:=b9E ns k hk;have s1:(y2_ 2 (mCD 2 a3F (z6_ (z0_ 0) (z6_ (z0_ 1) z8_)))) [.dat (.lst (ns.map .int)),.dat (.int k),.nil]=some (.nx,[.dat (.lst (ns.map .int)),.dat (.int k),.dat (.int c)]):=
  a0r (e1:=[.dat (.lst (ns.map .int)),.dat (.int k),.nil]) (a2H (a1p (av:=[.d (.lst (ns.map .int)),.d (.int k)]) rfl rfl rfl hc))
 have t:(mT (z4_ dGe (z0_ 2) (z4_ a1i (mC (.int 10)) (mC (.int 18))))) [.dat (.lst (ns.map .int)),.dat (.int k),.dat (.int c)]=some (decide (1000000000000000000≤c),[.dat (.lst (ns.map .int)),.dat (.int k),.dat (.int c)]):=by
  refine j4_ (v2_ (b:=.int 1000000000000000000) rfl ?_ rfl);exact v2_ rfl rfl b1m
 by_cases h:1000000000000000000≤c
 ·rw[Zt h]at t
  refine⟨c-1000000000000000000,true,by omega,(a6e (d:=[.int (c-1000000000000000000),.bl true]) (env:=[.dat (.lst (ns.map .int)),.dat (.int k),.dat (.int c)]) ?_).trans rfl⟩
  show a3G [.dat (.lst (ns.map .int)),.dat (.int k),.nil]=_;unfold a3G;rw[k0_ s1];have r:(a0R (y1_ (z2_ (z4_ a1J (z0_ 2) (z4_ a1i (mC (.int 10)) (mC (.int 18)))) (z2_ (mC (.bl true)) z7_)))) [.dat (.lst (ns.map .int)),.dat (.int k),.dat (.int c)]=some (.retL [.int (c-1000000000000000000),.bl true],[.dat (.lst (ns.map .int)),.dat (.int k),.dat (.int c)]):=by
   have b:=v2_ (f:=a1J) (ma:=z0_ 2) (mb:=z4_ a1i (mC (.int 10)) (mC (.int 18))) (env:=[.dat (.lst (ns.map .int)),.dat (.int k),.dat (.int c)]) (b:=.int 1000000000000000000) (c:=.int (c-1000000000000000000)) rfl (v2_ rfl rfl b1m) rfl
   refine a9I ?_
   unfold y1_;rw[w7_ b (w7_ rfl rfl)];rfl
  unfold q3_;rw[a1o t,r];rfl
 ·rw[Qe h]at t
  refine⟨c%2147483647,false,Jt _ (by decide),(a6e (d:=[.int (c%2147483647),.bl false]) (env:=[.dat (.lst (ns.map .int)),.dat (.int k),.dat (.int c)]) ?_).trans rfl⟩
  show a3G [.dat (.lst (ns.map .int)),.dat (.int k),.nil]=_;unfold a3G;rw[k0_ s1,k0_ (by rw[a0U t];rfl)];rfl
def bits:Nat->OI
 |0=>[[]]
 |n+1=>(bits n).map (fun l=>0::l)++(bits n).map (fun l=>1::l)
def w2_(h r:List Int):List Int:=List.zipWith (· + ·) h r
def b1o(h:List Int)(d:D):Bool:=isR d h.length&&(tt 0 (unR d)&&(w2_ h (unR d)).all fun x=>x==0||x==1)
def chk(h:List Int):Bool:=match a2k [.dat (dR h)]with
 |some (.l ds,_)=>ds.all (b1o h)&&((h.all fun x=>x==1)||(decide (1≤ds.length)&&decide (ds.length≤1000)))
 |_=>false
theorem b9G:(bits 1).all chk=true:=by decide+kernel
theorem b9H:(bits 2).all chk=true:=by decide+kernel
theorem b9I:(bits 3).all chk=true:=by decide+kernel
theorem b9J:(bits 4).all chk=true:=by decide+kernel
theorem b9K:(bits 5).all chk=true:=by decide+kernel
def b8(i:Nat):OI:=((bits 6).drop (16 * i)).take 16
theorem c60:(b8 0).all chk=true:=by decide+kernel
theorem c61:(b8 1).all chk=true:=by decide+kernel
theorem c62:(b8 2).all chk=true:=by decide+kernel
theorem c63:(b8 3).all chk=true:=by decide+kernel
theorem b9L:(bits 6).all chk=true:=by
 have h:(b8 0++(b8 1++(b8 2++b8 3))).all chk=true:=by
  simp only[Th,c60,c61,c62,c63];rfl
 exact h
structure HB(h:List Int)(n:Nat):Prop where
 len:h.length=n
 bit:∀x∈h,x=0∨x=1
theorem HB.mem:∀{n:Nat}{h:List Int},HB h n->h∈bits n
 |0,h,H=>by
  have:=H.len;cases h with
  |nil=>simp[bits]
  |cons _ _=>simp at this
 |n+1,h,H=>by
  cases h with
  |nil=>have:=H.len;simp at this
  |cons x l=>
   have hl:HB l n:=⟨by have:=H.len;simpa using this,fun y hy=>H.bit y (by simp[hy])⟩
   have:=hl.mem;unfold bits;rw[Jd,Qn,Qn]
   rcases H.bit x (by simp)with rfl|rfl
   ·exact .inl ⟨l,this,rfl⟩
   ·exact .inr ⟨l,this,rfl⟩
theorem b9M{n:Nat}{h:List Int}(h1:1≤n)(h6:n≤6)(H:HB h n):chk h=true:=by
 have hm:=H.mem
 match n,h1,h6 with
 |1,_,_=>exact Qb.mp b9G h hm
 |2,_,_=>exact Qb.mp b9H h hm
 |3,_,_=>exact Qb.mp b9I h hm
 |4,_,_=>exact Qb.mp b9J h hm
 |5,_,_=>exact Qb.mp b9K h hm
 |6,_,_=>exact Qb.mp b9L h hm
structure LineOk(h r:List Int):Prop where
 len:r.length=h.length
 tt:tt 0 r=true
 bit:∀x∈w2_ h r,x=0∨x=1
theorem b9N{n:Nat}{h:List Int}(h1:1≤n)(h6:n≤6)(H:HB h n)(hs:∃x∈h,x≠1):∃(rows:OI) (ws':List W),a2k [.dat (dR h)]=some (.l (rows.map dR),ws')/\1≤rows.length/\rows.length≤1000/\∀r∈rows,LineOk h r:=by
 have hc:=b9M h1 h6 H
 unfold chk at hc;split at hc
 ·rename_i ds ws' e
  rw[Qd]at hc;have hl:1≤ds.length/\ds.length≤1000:=by
   have h2:=hc.2
   rw[Tf]at h2
   rcases h2 with h2|h2
   ·obtain⟨x,hx,hne⟩:=hs
    have:=Qb.mp h2 x hx
    simp at this
    exact absurd this hne
   ·rw[Qd,Zi,Zi]at h2
    exact h2
  have ok:∀d∈ds,d=dR (unR d)/\LineOk h (unR d):=fun d hd=>by
   have:=Qb.mp hc.1 d hd;unfold b1o at this;rw[Qd,Qd]at this;obtain⟨a1,a2⟩:=a7L this.1;exact⟨a1,by omega,this.2.1,fun x hx=>by simpa using Qb.mp this.2.2 x hx⟩
  refine⟨ds.map unR,ws',?_,by rw[Qk];exact hl.1,by rw[Qk];exact hl.2,fun r hr=>?_⟩
  ·rw[e,Zx]
   have:ds.map (dR∘unR)=ds:=by
    conv=>rhs;rw[←Tn ds]
    exact Zn fun d hd=>(ok d hd).1.symm
   rw[this]
  ·obtain⟨d,hd,rfl⟩:=Qn.mp hr
   exact(ok d hd).2
 ·cases hc
theorem b9O(l:List Int):∀s,tt s l=true->s+l.sum=1:=by
 induction l with
 |nil=>intro s h;simpa [tt]using h
 |cons x l ih=>
  intro s h;simp only[tt,Qd]at h;have:=ih (s+x) h.2;simp only[Xi]
  omega
theorem b1p{h r:List Int}(e:r.length=h.length):(w2_ h r).length=h.length:=by simp[w2_,e]
theorem b1q:∀{h r:List Int},r.length=h.length->(w2_ h r).sum=h.sum+r.sum
 |[],[],_=>rfl
 |x::h,y::r,e=>by
  have:=b1q (h:=h) (r:=r) (by simpa using e)
  simp only[w2_,List.zipWith_cons_cons,Xi]at this ⊢
  omega
 |[],_::_,e=>by simp at e
 |_::_,[],e=>by simp at e
def run:Int->List Int->Option Int
 |s,[]=>some s
 |s,x::l=>if s+x=0∨s+x=1 then run (s+x) l else none
theorem b9P(l:List Int):∀s,tt s l=(run s l==some 1):=by
 induction l with
 |nil=>intro s;rfl
 |cons x l ih=>
  intro s;simp only[tt,run]
  by_cases h:s+x=0∨s+x=1
  ·rw[Qc h,←ih]
   have:(s+x==0||s+x==1)=true:=by simpa using h
   rw[this,Vl]
  ·rw[Qp h]
   have:(s+x==0||s+x==1)=false:=by simpa using h
   rw[this];rfl
theorem b9Q(l:List Int)(x:Int):∀s t,run s l=some t->(t+x=0∨t+x=1)->run s (l++[x])=some (t+x):=by
 induction l with
 |nil=>intro s t h hx;cases h;simp[run,hx]
 |cons y l ih=>
  intro s t h hx;simp only[run,List.cons_append]at h ⊢;split at h
  ·rename_i hy
   rw[Qc hy];exact ih (s+y) t h hx
  ·cases h
theorem b1r:∀{h:List Int},(∀x∈h,x=0∨x=1)->h.sum≤h.length/\(h.sum=h.length->∀x∈h,x=1)
 |[],_=>⟨by simp,fun _ x hx=>by cases hx⟩
 |y::h,H=>by
  obtain⟨h1,h2⟩:=b1r (h:=h) fun x hx=>H x (by simp[hx])
  have hy:=H y (by simp)
  simp only[Xi,Zj];refine⟨by omega,fun e x hx=>?_⟩
  rcases Qg.mp hx with rfl|hx
  ·omega
  ·exact h2 (by omega) x hx
theorem b1s{g:OZ}{b:Mo Fl}:∀{ds:List D}{P:Nat->Env'->Prop}{env:Env'},(∀i d e,ds[i]? =some d->P i e->∃e1 e2,g d e=some e1/\b e1=some (.nx,e2)/\P (i+1) e2)->P 0 env->∃env',loop g b ds env=some (.nx,env')/\P ds.length env'
 |[],P,env,_,p=>⟨env,rfl,p⟩
 |d::ds,P,env,h,p=>by
  obtain⟨e1,e2,h1,h2,h3⟩:=h 0 d env rfl p;obtain⟨e3,h4,h5⟩:=b1s (ds:=ds) (P:=fun i e=>P (i+1) e) (fun i x e hi q=>h (i+1) x e (by simpa using hi) q) h3
  refine⟨e3,?_,h5⟩;unfold loop;rw[h1];simp only[Qv];rw[h2];exact h4
abbrev a7M:Mo Fl:=(q3_ (y2_ 7 (mF (w0_ 1 a2k (z6_ (z0_ 4) z8_)))) (q3_ (y2_ 8 (z4_ dIx (z0_ 7) (mCD 2 a0J (a0k 0 (z6_ (mCB x2_ (z2_ (z0_ 7) z7_)) z8_))))) (q3_ (y2_ 4 (mCB a0B (z2_ (mF (y6_ (a2G (z2_ (z0_ 4) (z2_ (z0_ 8) z7_))) [false,false,false,false,false,false,false,false,false] 2 (gT 2 (gCn (gN 9) (gCn (gN 10) gNl))) x4_ (z4_ x0_ (z0_ 9) (z0_ 10)))) z7_))) (y2_ 5 (z4_ x0_ (z0_ 5) (g1_ (z2_ (z0_ 8) z7_)))))))
structure TbI(b:Bool)(l m:Int)(n i:Nat)(e:Env')(a:Int)(h:List Int)(rows:OI)(w6 w7 w8:W):Prop where
 eq:e=[.par [.int a,.bl b],.dat (.int l),.dat (.int m),.dat (.int n),.dat (dR h),.dat (dT rows),w6,w7,w8]
 a0:0≤a
 hb:HB h n
 len:rows.length=i
 row:∀r∈rows,r.length=n/\tt 0 r=true
 sum:h.sum=i
 col:∀j,j<n->run 0 (rows.map fun r=>r.getD j 0)=some (h.getD j 0)
theorem b1t{h r:List Int}{j:Nat}(e:r.length=h.length)(hj:j<h.length):(w2_ h r).getD j 0=h.getD j 0+r.getD j 0:=by
 have hj2:j<r.length:=by omega
 simp[w2_,Js,Qi hj,Qi hj2]
theorem b9R{h r:List Int}:a1l (h.map D.int) (r.map D.int)=(h.zip r).map fun p=>.tup [.int p.1,.int p.2]:=by
 unfold a1l;rw[List.zip_map,Zx];rfl
theorem b9S{b:Bool}{l m:Int}{n i:Nat}{e:Env'}{a:Int}{h:List Int}{rows:OI}{w6 w7 w8:W}(h1:1≤n)(h6:n≤6)(hi:i<n)(I:TbI b l m n i e a h rows w6 w7 w8):
  ∃e2 a' h' rows' x6 x7 x8,a7M e=some (.nx,e2)/\TbI b l m n (i+1) e2 a' h' rows' x6 x7 x8:=by
 obtain⟨rfl,a0,hb,hlen,hrow,hsum,hcol⟩:=I;have hs:∃x∈h,x≠1:=by
  refine Zd fun hn=>?_
  have hall:∀x∈h,x=1:=fun x hx=>Zd fun z=>hn ⟨x,hx,z⟩
  have:h.sum=h.length:=by
   clear hcol hsum hn hb
   induction h with
   |nil=>rfl
   |cons y h ih=>
    have h1:=hall y (by simp)
    have:=ih fun x hx=>hall x (by simp[hx])
    simp only[Xi,Zj]
    omega
  have:=hb.len
  omega
 obtain⟨lines,ws',el,l1,l2,lok⟩:=b9N h1 h6 hb hs;obtain⟨v,a',et,v0,v1,a0'⟩:=b1n (a:=a) (m:=(lines.length:Int)) (b:=b) a0 (by omega) (by omega)
 have hv:v.toNat<lines.length:=by omega
 have hvv:((v.toNat:Nat):Int)=v:=by omega
 generalize hr:lines[v.toNat]=r;have rok:LineOk h r:=lok r (by rw[←hr];exact Ye hv)
 have rl:r.length=n:=by rw[rok.len,hb.len]
 have hnl:h.length=n:=hb.len
 refine⟨[.par [.int a',.bl b],.dat (.int l),.dat (.int m),.dat (.int n),.dat (dR (w2_ h r)),.dat (dT (rows++[r])),w6,.dat (.lst (lines.map dR)),.dat (dR r)],a',w2_ h r,rows++[r],w6,.dat (.lst (lines.map dR)),.dat (dR r),?_,rfl,a0',⟨by rw[b1p rok.len];exact hnl,rok.bit⟩,by simp[hlen],?_,?_,?_⟩
 ·have s1:(y2_ 7 (mF (w0_ 1 a2k (z6_ (z0_ 4) z8_)))) [.par [.int a,.bl b],.dat (.int l),.dat (.int m),.dat (.int n),.dat (dR h),.dat (dT rows),w6,w7,w8]=some (.nx,[.par [.int a,.bl b],.dat (.int l),.dat (.int m),.dat (.int n),.dat (dR h),.dat (dT rows),w6,.dat (.lst (lines.map dR)),w8]):=
   a0r (e1:=[.par [.int a,.bl b],.dat (.int l),.dat (.int m),.dat (.int n),.dat (dR h),.dat (dT rows),w6,w7,w8]) (a0V (a3s (a1p (av:=[.d (dR h)]) rfl rfl rfl el)))
  have tk:(mCD 2 a0J (a0k 0 (z6_ (mCB x2_ (z2_ (z0_ 7) z7_)) z8_))) [.par [.int a,.bl b],.dat (.int l),.dat (.int m),.dat (.int n),.dat (dR h),.dat (dT rows),w6,.dat (.lst (lines.map dR)),w8]=some (.int v,[.par [.int a',.bl b],.dat (.int l),.dat (.int m),.dat (.int n),.dat (dR h),.dat (dT rows),w6,.dat (.lst (lines.map dR)),w8]):=by
   refine a2H ((a6h (e1:=[.par [.int a,.bl b],.dat (.int l),.dat (.int m),.dat (.int n),.dat (dR h),.dat (dT rows),w6,.dat (.lst (lines.map dR)),w8]) (w:=.par [.int a,.bl b]) (av:=[.sl 0,.d (.int (lines.length:Int))]) (i:=0) (c:=[.int a,.bl b]) (c':=[.int a',.bl b]) ?_ rfl rfl rfl rfl et rfl).trans rfl);show some ([Ar.sl 0,Ar.d (.int ((lines.map dR).length:Nat))],_)=_;rw[Qk]
  have s2:(y2_ 8 (z4_ dIx (z0_ 7) (mCD 2 a0J (a0k 0 (z6_ (mCB x2_ (z2_ (z0_ 7) z7_)) z8_))))) [.par [.int a,.bl b],.dat (.int l),.dat (.int m),.dat (.int n),.dat (dR h),.dat (dT rows),w6,.dat (.lst (lines.map dR)),w8]=some (.nx,[.par [.int a',.bl b],.dat (.int l),.dat (.int m),.dat (.int n),.dat (dR h),.dat (dT rows),w6,.dat (.lst (lines.map dR)),.dat (dR r)]):=by
   refine a0r (e1:=[.par [.int a',.bl b],.dat (.int l),.dat (.int m),.dat (.int n),.dat (dR h),.dat (dT rows),w6,.dat (.lst (lines.map dR)),w8]) (v2_ rfl tk ?_);rw[←hvv];exact a2p (xs:=lines.map dR) (by rw[Zk,Qi hv,hr];rfl)
  obtain⟨e',g1,wx,wy,rfl⟩:=a4S (g:=gT 2 (gCn (gN 9) (gCn (gN 10) gNl))) (m:=z4_ x0_ (z0_ 9) (z0_ 10)) (P:=fun e=>∃x y,e=[.nil,.nil,.nil,.nil,.nil,.nil,.nil,.nil,.nil,x,y]) (q:=fun(p:Int×Int)=>D.tup [.int p.1,.int p.2]) (f:=fun p=>.int (p.1+p.2)) (l:=h.zip r) (env:=[.nil,.nil,.nil,.nil,.nil,.nil,.nil,.nil,.nil,.nil,.nil])
   (fun p _ e ⟨x,y,he⟩=>by
    subst he;exact⟨[.nil,.nil,.nil,.nil,.nil,.nil,.nil,.nil,.nil,.dat (.int p.1),.dat (.int p.2)],[.nil,.nil,.nil,.nil,.nil,.nil,.nil,.nil,.nil,.dat (.int p.1),.dat (.int p.2)],rfl,rfl,_,_,rfl⟩) ⟨_,_,rfl⟩
  have zs:(a2G (z2_ (z0_ 4) (z2_ (z0_ 8) z7_))) [.par [.int a',.bl b],.dat (.int l),.dat (.int m),.dat (.int n),.dat (dR h),.dat (dT rows),w6,.dat (.lst (lines.map dR)),.dat (dR r)]=some ((h.zip r).map fun p=>.tup [.int p.1,.int p.2],[.par [.int a',.bl b],.dat (.int l),.dat (.int m),.dat (.int n),.dat (dR h),.dat (dT rows),w6,.dat (.lst (lines.map dR)),.dat (dR r)]):=by
   show some (a1l (h.map D.int) (r.map D.int),_)=_;rw[b9R]
  have ez:(h.zip r).map (fun p=>D.int (p.1+p.2))=(w2_ h r).map D.int:=by
   unfold w2_;rw[List.map_zipWith,List.zip_eq_zipWith,List.map_zipWith]
  have c:(y6_ (a2G (z2_ (z0_ 4) (z2_ (z0_ 8) z7_))) [false,false,false,false,false,false,false,false,false] 2 (gT 2 (gCn (gN 9) (gCn (gN 10) gNl))) x4_ (z4_ x0_ (z0_ 9) (z0_ 10))) [.par [.int a',.bl b],.dat (.int l),.dat (.int m),.dat (.int n),.dat (dR h),.dat (dT rows),w6,.dat (.lst (lines.map dR)),.dat (dR r)]=some ((w2_ h r).map .int,[.par [.int a',.bl b],.dat (.int l),.dat (.int m),.dat (.int n),.dat (dR h),.dat (dT rows),w6,.dat (.lst (lines.map dR)),.dat (dR r)]):=by
   rw[←ez];refine a6f (e2:=[.nil,.nil,.nil,.nil,.nil,.nil,.nil,.nil,.nil,wx,wy]) zs ?_ g1 rfl;rw[Qk,List.length_zip];omega
  have s3:(y2_ 4 (mCB a0B (z2_ (mF (y6_ (a2G (z2_ (z0_ 4) (z2_ (z0_ 8) z7_))) [false,false,false,false,false,false,false,false,false] 2 (gT 2 (gCn (gN 9) (gCn (gN 10) gNl))) x4_ (z4_ x0_ (z0_ 9) (z0_ 10)))) z7_))) [.par [.int a',.bl b],.dat (.int l),.dat (.int m),.dat (.int n),.dat (dR h),.dat (dT rows),w6,.dat (.lst (lines.map dR)),.dat (dR r)]=some (.nx,[.par [.int a',.bl b],.dat (.int l),.dat (.int m),.dat (.int n),.dat (dR (w2_ h r)),.dat (dT rows),w6,.dat (.lst (lines.map dR)),.dat (dR r)]):=
   a0r (e1:=[.par [.int a',.bl b],.dat (.int l),.dat (.int m),.dat (.int n),.dat (dR h),.dat (dT rows),w6,.dat (.lst (lines.map dR)),.dat (dR r)]) (a0e (w7_ (a0V c) rfl) rfl)
  have s4:(y2_ 5 (z4_ x0_ (z0_ 5) (g1_ (z2_ (z0_ 8) z7_)))) [.par [.int a',.bl b],.dat (.int l),.dat (.int m),.dat (.int n),.dat (dR (w2_ h r)),.dat (dT rows),w6,.dat (.lst (lines.map dR)),.dat (dR r)]=some (.nx,[.par [.int a',.bl b],.dat (.int l),.dat (.int m),.dat (.int n),.dat (dR (w2_ h r)),.dat (dT (rows++[r])),w6,.dat (.lst (lines.map dR)),.dat (dR r)]):=by
   refine a0r (e1:=[.par [.int a',.bl b],.dat (.int l),.dat (.int m),.dat (.int n),.dat (dR (w2_ h r)),.dat (dT rows),w6,.dat (.lst (lines.map dR)),.dat (dR r)]) (v2_ rfl rfl ?_);show(if(rows.map dR).length+[dR r].length≤10000 then _ else none)=_
   rw[Qc (by rw[Qk];simp;omega)]
   unfold dT;rw[Jx];rfl
  unfold a7M;rw[k0_ s1,k0_ s2,k0_ s3];exact s4
 ·intro r' hr'
  rcases Jd.mp hr' with z|z
  ·exact hrow r' z
  ·have:r'=r:=by simpa using z
   subst this;exact⟨rl,rok.tt⟩
 ·have:=b9O r 0 rok.tt
  rw[b1q rok.len]
  omega
 ·intro j hj
  rw[Jx,Zz,List.map_nil,b1t rok.len (by omega)]
  refine b9Q _ _ 0 _ (hcol j hj) ?_
  rw[←b1t rok.len (by omega)]
  have hjl:j<(w2_ h r).length:=by rw[b1p rok.len];omega
  have:(w2_ h r).getD j 0=(w2_ h r)[j]:=by simp[hjl]
  rw[this];exact rok.bit _ (Ye hjl)
structure Tab(T:OI):Prop where
 lo:1≤T.length
 hi:T.length≤6
 len:∀r∈T,r.length=T.length
 ok:isT (dT T)=true
theorem b9T{a l m:Int}{b:Bool}(ha:0≤a)(hl:1≤l)(hm:l≤m)(h6:m≤6):∃T a',a3J [.par [.int a,.bl b],.dat (.int l),.dat (.int m)]=some (.d (dT T),[.par [.int a',.bl b],.dat (.int l),.dat (.int m)])/\0≤a'/\Tab T/\l≤T.length/\(T.length:Int)≤m:=by
 obtain⟨v,a1,et,v0,v1,a10⟩:=b1n (a:=a) (m:=m-l+1) (b:=b) ha (by omega) (by omega)
 obtain⟨n,hn⟩:∃n:Nat,(n:Int)=l+v:=⟨(l+v).toNat,by omega⟩
 have n1:1≤n:=by omega
 have n6:n≤6:=by omega
 have s1:(y2_ 3 (z4_ x0_ (z0_ 1) (mCD 2 a0J (a0k 0 (z6_ (z4_ x0_ (z4_ a1J (z0_ 2) (z0_ 1)) (mC (.int 1))) z8_))))) [.par [.int a,.bl b],.dat (.int l),.dat (.int m),.nil,.nil,.nil,.nil,.nil,.nil]=some (.nx,[.par [.int a1,.bl b],.dat (.int l),.dat (.int m),.dat (.int n),.nil,.nil,.nil,.nil,.nil]):=by
  have tk:(mCD 2 a0J (a0k 0 (z6_ (z4_ x0_ (z4_ a1J (z0_ 2) (z0_ 1)) (mC (.int 1))) z8_))) [.par [.int a,.bl b],.dat (.int l),.dat (.int m),.nil,.nil,.nil,.nil,.nil,.nil]=some (.int v,[.par [.int a1,.bl b],.dat (.int l),.dat (.int m),.nil,.nil,.nil,.nil,.nil,.nil]):=
   a2H ((a6h (e1:=[.par [.int a,.bl b],.dat (.int l),.dat (.int m),.nil,.nil,.nil,.nil,.nil,.nil]) (w:=.par [.int a,.bl b]) (av:=[.sl 0,.d (.int (m-l+1))]) (i:=0) (c:=[.int a,.bl b]) (c':=[.int a1,.bl b]) rfl rfl rfl rfl rfl et rfl).trans rfl)
  refine a0r (e1:=[.par [.int a1,.bl b],.dat (.int l),.dat (.int m),.nil,.nil,.nil,.nil,.nil,.nil]) (v2_ rfl tk ?_);rw[hn];rfl
 have s2:(y2_ 4 (z4_ w6_ (g1_ (z2_ (mC (.int 0)) z7_)) (z0_ 3))) [.par [.int a1,.bl b],.dat (.int l),.dat (.int m),.dat (.int n),.nil,.nil,.nil,.nil,.nil]=some (.nx,[.par [.int a1,.bl b],.dat (.int l),.dat (.int m),.dat (.int n),.dat (dR (List.replicate n 0)),.nil,.nil,.nil,.nil]):=by
  refine a0r (e1:=[.par [.int a1,.bl b],.dat (.int l),.dat (.int m),.dat (.int n),.nil,.nil,.nil,.nil,.nil]) (v2_ rfl rfl ?_);show(if 1≤(n:Int)/\(n:Int)≤1000 then some (D.tup (List.replicate (n:Int).toNat (.int 0)))else none)=_
  rw[Qc (by omega),Yl]
  unfold dR;rw[List.map_replicate]
 have s3:(y2_ 5 (g1_ z7_)) [.par [.int a1,.bl b],.dat (.int l),.dat (.int m),.dat (.int n),.dat (dR (List.replicate n 0)),.nil,.nil,.nil,.nil]=some (.nx,[.par [.int a1,.bl b],.dat (.int l),.dat (.int m),.dat (.int n),.dat (dR (List.replicate n 0)),.dat (dT []),.nil,.nil,.nil]):=rfl
 have start:TbI b l m n 0 [.par [.int a1,.bl b],.dat (.int l),.dat (.int m),.dat (.int n),.dat (dR (List.replicate n 0)),.dat (dT []),.nil,.nil,.nil] a1 (List.replicate n 0) [] .nil .nil .nil:=by
  refine⟨rfl,a10,⟨by simp,fun x hx=>.inl (List.eq_of_mem_replicate hx)⟩,rfl,fun r hr=>(by cases hr),by simp,fun j hj=>?_⟩
  simp[run,Vk,hj]
 obtain⟨e',h1,a',h',rows',x6,x7,x8,I⟩:=b1s (g:=gN 6) (b:=a7M) (ds:=u5_ 0 n) (P:=fun i e=>∃a h rows w6 w7 w8,TbI b l m n i e a h rows w6 w7 w8) (env:=[.par [.int a1,.bl b],.dat (.int l),.dat (.int m),.dat (.int n),.dat (dR (List.replicate n 0)),.dat (dT []),.nil,.nil,.nil])
  (fun i d e hi ⟨a,h,rows,w6,w7,w8,I⟩=>by
   have hil:i<n:=by
    have:=(Qm.mp hi).1;rw[a4R]at this
    simpa using this
   obtain⟨rfl,r1,r2,r3,r4,r5,r6⟩:=I;obtain⟨e2,a',h',rows',x6,x7,x8,t1,t2⟩:=b9S (b:=b) (l:=l) (m:=m) (w6:=.dat d) (w7:=w7) (w8:=w8) n1 n6 hil ⟨rfl,r1,r2,r3,r4,r5,r6⟩;exact⟨_,e2,rfl,t1,a',h',rows',x6,x7,x8,t2⟩) ⟨_,_,_,_,_,_,start⟩
 have hlen:(u5_ 0 n).length=n:=by rw[a4R];simp
 rw[hlen]at I;obtain⟨rfl,r1,r2,r3,r4,r5,r6⟩:=I;have ones:=(b1r r2.bit).2 (by rw[r2.len];exact r5)
 have tab:Tab rows':=by
  refine⟨by omega,by omega,fun r hr=>by rw[r3];exact(r4 r hr).1,?_⟩
  unfold isT;rw[b1f (by omega) (by omega) (fun r hr=>by rw[r3];exact(r4 r hr).1),a4Q,Vl,Th,Qd,Qb,Qb]
  refine⟨fun r hr=>(r4 r hr).2,fun c hc=>?_⟩
  unfold flip at hc;obtain⟨j,hj,rfl⟩:=Qn.mp hc;have hj':j<n:=by rw[r3]at hj;exact Qy.mp hj
  rw[b9P,r6 j hj'];have hjl:j<h'.length:=by rw[r2.len];exact hj'
  have:h'.getD j 0=h'[j]:=by simp[hjl]
  rw[this,ones _ (Ye hjl)];rfl
 refine⟨rows',a',(g8_ (d:=dT rows') (env:=[.par [.int a',.bl b],.dat (.int l),.dat (.int m),.dat (.int n),.dat (dR h'),.dat (dT rows'),x6,x7,x8]) ?_).trans rfl,r1,tab,by omega,by omega⟩
 show a7I [.par [.int a,.bl b],.dat (.int l),.dat (.int m),.nil,.nil,.nil,.nil,.nil,.nil]=_;unfold a7I;have rg:=a6g (ms:=z2_ (z0_ 3) z7_) (env:=[.par [.int a1,.bl b],.dat (.int l),.dat (.int m),.dat (.int n),.dat (dR (List.replicate n 0)),.dat (dT []),.nil,.nil,.nil]) (e1:=[.par [.int a1,.bl b],.dat (.int l),.dat (.int m),.dat (.int n),.dat (dR (List.replicate n 0)),.dat (dT []),.nil,.nil,.nil]) (j:=(n:Int)) rfl (by omega) (by omega)
 rw[Yl]at rg;rw[k0_ s1,k0_ s2,k0_ s3,k0_ ((a3r rg).trans h1)];rfl
def S(g:Nat->Int):Nat->Int
 |0=>0
 |k+1=>S g k+g k
def U(h:OO)(i j:Nat):Int:=(h (i+1) (j+1)-h i (j+1))-(h (i+1) j-h i j)
theorem a7N{g g':Nat->Int}:∀{n:Nat},(∀k<n,g k=g' k)->S g n=S g' n
 |0,_=>rfl
 |n+1,h=>by
  show S g n+g n=S g' n+g' n;rw[a7N (n:=n) fun k hk=>h k (by omega),h n (by omega)]
theorem b9U(g:Nat->Int):∀n,S (fun k=>g (k+1)-g k) n=g n-g 0
 |0=>by show(0:Int)=_;omega
 |n+1=>by
  show S (fun k=>g (k+1)-g k) n+(g (n+1)-g n)=_
  rw[b9U g n];omega
theorem b1u(g g':Nat->Int):∀n,S (fun k=>g k+g' k) n=S g n+S g' n
 |0=>rfl
 |n+1=>by
  show S (fun k=>g k+g' k) n+(g n+g' n)=S g n+g n+(S g' n+g' n)
  rw[b1u g g' n];omega
theorem b1v:∀n,S (fun _=>0) n=0
 |0=>rfl
 |n+1=>by show S (fun _=>0) n+0=0;rw[b1v n];rfl
theorem a3M(g:Nat->Int):∀n,S g (n+1)=g 0+S (fun k=>g (k+1)) n
 |0=>by show(0:Int)+g 0=g 0+0;omega
 |n+1=>by
  show S g (n+1)+g (n+1)=g 0+(S (fun k=>g (k+1)) n+g (n+1))
  rw[a3M g n];omega
structure TabF(n:Nat)(f:OO):Prop where
 row:∀i<n,∀k≤n,S (f i) k=0∨S (f i) k=1
 rowN:∀i<n,S (f i) n=1
 col:∀j<n,∀k≤n,S (fun r=>f r j) k=0∨S (fun r=>f r j) k=1
 colN:∀j<n,S (fun r=>f r j) n=1
structure HtF(n:Nat)(h:OO):Prop where
 r0:∀i≤n,h i 0=0
 d0:∀j≤n,h 0 j=0
 rN:∀i≤n,h i n=i
 dN:∀j≤n,h n j=j
 dd:∀i<n,∀j≤n,h (i+1) j=h i j∨h (i+1) j=h i j+1
 rr:∀i≤n,∀j<n,h i (j+1)=h i j∨h i (j+1)=h i j+1
def tr(n:Nat)(h:OO)(i j:Nat):Int:=(i:Int)+j-n+h (n-i) (n-j)
theorem a7O:∀(n:Nat) (g:Nat->Int) (s:Int),tt s ((List.range n).map g)=true↔(∀k<n,s+S g (k+1)=0∨s+S g (k+1)=1)/\s+S g n=1
 |0,g,s=>by
  show(s==1)=true↔_;rw[Xy]
  constructor
  ·intro h;exact⟨fun k hk=>by omega,by show s+0=1;omega⟩
  ·rintro⟨_,h⟩;have:S g 0=0:=rfl;omega
 |n+1,g,s=>by
  rw[List.range_succ_eq_map,Zz,Zx];show((s+g 0==0||s+g 0==1)&&tt (s+g 0) ((List.range n).map fun k=>g (k+1)))=true↔_
  rw[Qd,Tf,Xy,Xy,a7O n (fun k=>g (k+1)) (s+g 0),a3M g n]
  constructor
  ·rintro⟨h1,h2,h3⟩
   refine⟨fun k hk=>?_,by omega⟩
   rw[a3M g k];cases k with
   |zero=>show s+(g 0+0)=0∨s+(g 0+0)=1;omega
   |succ k=>have:=h2 k (by omega);omega
  ·rintro⟨h1,h2⟩
   refine⟨?_,fun k hk=>?_,by omega⟩
   ·have:=h1 0 (by omega)
    rw[a3M g 0]at this;have e:S (fun k=>g (k+1)) 0=0:=rfl
    omega
   ·have:=h1 (k+1) (by omega)
    rw[a3M g (k+1)]at this;omega
def gm(n m:Nat)(f:OO):OI:=(List.range n).map fun i=>(List.range m).map (f i)
theorem a1f{n m:Nat}{f:OO}:(gm n m f).length=n:=by simp[gm]
theorem b1w{n m:Nat}{f:OO}:∀r∈gm n m f,r.length=m:=by
 intro r hr;obtain⟨i,_,rfl⟩:=Qn.mp hr
 simp
theorem a7P{n m:Nat}{f g:OO}(h:∀i<n,∀j<m,f i j=g i j):gm n m f=gm n m g:=by
 unfold gm
 apply Zn
 intro i hi
 apply Zn
 intro j hj;exact h i (Qy.mp hi) j (Qy.mp hj)
theorem b9V{n m:Nat}{f g:OO}(h:gm n m f=gm n m g){i j:Nat}(hi:i<n)(hj:j<m):f i j=g i j:=by
 have h1:=Yy (fun R=>(R.getD i []).getD j 0) h
 simpa [gm,hi,hj]using h1
def at2(R:OI)(i j:Nat):Int:=(R.getD i []).getD j 0
theorem b9W{R:OI}{n:Nat}(h1:R.length=n)(h2:∀r∈R,r.length=n):R=gm n n (at2 R):=by
 subst h1;unfold gm
 apply Ua
 ·simp
 ·intro i hi hi'
  have hr:=h2 R[i] (Ye hi)
  rw[Jp,List.getElem_range]
  apply Ua
  ·simp[hr]
  ·intro j hj hj'
   rw[Jp,List.getElem_range]
   simp[at2,hi,hj]
theorem b1x(n m:Nat)(f:OO):flip m (gm n m f)=gm m n (fun i j=>f j i):=by
 unfold flip gm
 apply Zn
 intro j hj;have hj:=Qy.mp hj;rw[Zx]
 apply Zn
 intro i hi
 simp[hj]
theorem a7Q{n:Nat}{f:OO}:isT (dT (gm n n f))=true↔(1≤n/\n≤6)/\TabF n f:=by
 unfold isT;rw[a4Q,a1f,b1x,Qd,Th,Qd,Qb,Qb];have row:∀g:OO,(∀x∈gm n n g,tt 0 x=true)↔ ∀i<n,(∀k≤n,S (g i) k=0∨S (g i) k=1)/\S (g i) n=1:=by
  intro g
  constructor
  ·intro h i hi
   have h1:=(a7O n (g i) 0).mp (h _ (Qn.mpr ⟨i,Qy.mpr hi,rfl⟩))
   refine⟨fun k hk=>?_,by have:=h1.2;omega⟩
   cases k with
   |zero=>exact .inl rfl
   |succ k=>have:=h1.1 k (by omega);omega
  ·intro h x hx
   obtain⟨i,hi,rfl⟩:=Qn.mp hx;have h1:=h i (Qy.mp hi);refine(a7O n (g i) 0).mpr ⟨fun k hk=>?_,by have:=h1.2;omega⟩
   have:=h1.1 (k+1) (by omega);omega
 rw[row,row]
 constructor
 ·rintro⟨h1,h2,h3⟩
  have:=b1e h1;rw[a4Q,a1f]at this;exact⟨⟨by omega,by omega⟩,⟨fun i hi=>(h2 i hi).1,fun i hi=>(h2 i hi).2,fun i hi=>(h3 i hi).1,fun i hi=>(h3 i hi).2⟩⟩
 ·rintro⟨⟨h1,h2⟩,T⟩
  refine⟨b1f (by rw[a1f];omega) (by rw[a1f];omega) (by rw[a1f];exact b1w),fun i hi=>⟨T.row i hi,T.rowN i hi⟩,fun i hi=>⟨T.col i hi,T.colN i hi⟩⟩
abbrev rw'(n:Nat)(g:Nat->Int):List Int:=(List.range n).map g
theorem c1{f:Fn}{m:Mo D}{env:Env'}{d r:D}{ws:List W}(h:m env=some (d,env))(hf:f [.dat d]=some (.d r,ws)):mCD 1 f (z6_ m z8_) env=some (r,env):=
 a2H (a1p (av:=[.d d]) (a9H h rfl) rfl rfl hf)
theorem a4U{n:Nat}{f:OO}(h1:1≤n)(h6:n≤6)(T:TabF n f):a0G [.dat (dT (gm n n f))]=some (.d .non,[.dat (dT (gm n n f))]):=by
 refine(a9K (env:=[.dat (dT (gm n n f))]) ?_).trans rfl;show a7t [.dat (dT (gm n n f))]=_;unfold a7t;rw[a0U (e1:=[.dat (dT (gm n n f))]) ?_]
 ·rfl
 ·have:=b1j (dT (gm n n f))
  rw[a7Q.mpr ⟨⟨h1,h6⟩,T⟩]at this;exact a9J (b:=true) (j4_ (c1 rfl this))
theorem b0X{t u:Mo D}{e e1:Env'}{r:Option (D×Env')}(h:t e=some (.bl true,e1))(h2:u e1=r):a0b t u e=r:=by unfold a0b;rw[h];exact h2
theorem b0Y{t u:Mo D}{e e1:Env'}(h:t e=some (.bl false,e1)):a0b t u e=some (.bl false,e1):=by unfold a0b;rw[h];rfl
theorem a9H{m:Mo D}{as:Mo (List Ar)}{e e1 e2:Env'}{d:D}{q:List Ar}(h:m e=some (d,e1))(h2:as e1=some (q,e2)):z6_ m as e=some (.d d::q,e2):=by
 unfold z6_;rw[h,Qv,h2];rfl
theorem b1y(g:Nat->Int):∀n,((List.range n).map g).sum=S g n
 |0=>rfl
 |n+1=>by rw[List.range_succ,Jx,List.sum_append,b1y g n];simp[S]
theorem Tab.fn{T:OI}(hT:Tab T):T=gm T.length T.length (at2 T)/\TabF T.length (at2 T):=by
 have e:=b9W rfl hT.len
 refine⟨e,?_⟩;have h:=hT.ok;rw[e]at h;exact(a7Q.mp h).2
theorem b1z{α:Type}(n:Nat)(g:Nat->α):((List.range n).map g).reverse=(List.range n).map fun i=>g (n-1-i):=by
 apply Ua
 ·simp
 ·intro i h1 h2
  simp
theorem b9X{n m:Nat}{f:OO}:(gm n m f).reverse=gm n m fun i j=>f (n-1-i) j:=b1z n _
theorem b1A{m:Mo D}{e:Env'}{ds:List D}{r:D}(h:m e=some (.tup ds,e))(hr:.tup ds.reverse=r):a1X m e=some (r,e):=by
 unfold a1X;rw[h,←hr]
 rfl
theorem b1B{m:Mo D}{e:Env'}{n k:Nat}{f:OO}(h:m e=some (dT (gm n k f),e)):a1X m e=some (dT (gm n k fun i j=>f (n-1-i) j),e):=
 b1A h (by unfold dT;rw[←b9X,List.map_reverse])
section
variable{n:Nat}{f:OO}
theorem b1C(h1:1≤n)(h6:n≤6):u9_ [.dat (dT (gm n n f))]=some (.d (dT (gm n n fun i j=>f j i)),[.dat (dT (gm n n f))]):=by
 have h:=b1g (R:=gm n n f) (n:=n) (fun z=>by have:=Yy List.length z;rw[a1f]at this;simp at this;omega) b1w (by omega) (by rw[a1f];omega)
 rw[b1x]at h;exact h
theorem b9Y:a2P [.dat (dT (gm n n f))]=some (.d (dT (gm n n f)),[.dat (dT (gm n n f))]):=rfl
theorem a4V(h1:1≤n)(h6:n≤6):a0u [.dat (dT (gm n n f))]=some (.d (dT (gm n n fun i j=>f j (n-1-i))),[.dat (dT (gm n n f))]):=by
 refine a0h (env:=[.dat (dT (gm n n f))]) ?_ rfl;show a7u [.dat (dT (gm n n f))]=_;unfold a7u;exact j3_ (b1B (c1 rfl (b1C h1 h6)))
theorem a7R(h1:1≤n)(h6:n≤6):a0H [.dat (dT (gm n n f))]=some (.d (dT (gm n n fun i j=>f (n-1-i) (n-1-j))),[.dat (dT (gm n n f))]):=by
 refine a0h (env:=[.dat (dT (gm n n f))]) ?_ rfl;show a7v [.dat (dT (gm n n f))]=_;unfold a7v;exact j3_ (c1 (c1 rfl (a4V h1 h6)) (a4V h1 h6))
theorem b9Z(h1:1≤n)(h6:n≤6):a2Q [.dat (dT (gm n n f))]=some (.d (dT (gm n n fun i j=>f (n-1-j) i)),[.dat (dT (gm n n f))]):=by
 refine a0h (env:=[.dat (dT (gm n n f))]) ?_ rfl;show a7w [.dat (dT (gm n n f))]=_;unfold a7w;have h:gm n n (fun i j=>f (n-1-j) (n-1-(n-1-i)))=gm n n (fun i j=>f (n-1-j) i):=a7P fun i hi j hj=>by rw[show n-1-(n-1-i)=i by omega]
 rw[←h];exact j3_ (c1 (c1 rfl (a7R h1 h6)) (a4V h1 h6))
theorem c0a(h1:1≤n)(h6:n≤6):a2R [.dat (dT (gm n n f))]=some (.d (dT (gm n n fun i j=>f i (n-1-j))),[.dat (dT (gm n n f))]):=by
 refine a0h (env:=[.dat (dT (gm n n f))]) ?_ rfl;show a7x [.dat (dT (gm n n f))]=_;unfold a7x;refine j3_ (a0e (w7_ (a0V (a4K (α:=Nat) (l:=List.range n) (q:=fun i=>dR (rw' n (f i))) (f:=fun i=>dR (rw' n fun j=>f i (n-1-j))) (base:=[.nil]) (a3q rfl (by show some ((gm n n f).map dR)=_;unfold gm;rw[Zx];rfl)) (by simp;omega) rfl rfl (fun i hi=>b1A (ds:=(rw' n (f i)).map D.int) rfl ?_) (fun _=>rfl))) rfl) (d:=dT (gm n n fun i j=>f i (n-1-j))) ?_)
 ·unfold dR rw'
  rw[←b1z,List.map_reverse]
 ·show some (D.tup _)=_
  unfold dT gm;rw[Zx]
  rfl
theorem c0b:a2S [.dat (dT (gm n n f))]=some (.d (dT (gm n n fun i j=>f (n-1-i) j)),[.dat (dT (gm n n f))]):=by
 refine a0h (env:=[.dat (dT (gm n n f))]) ?_ rfl;show a7y [.dat (dT (gm n n f))]=_;unfold a7y;exact j3_ (b1B rfl)
theorem b1D(h1:1≤n)(h6:n≤6):a1x [.dat (dT (gm n n f))]=some (.d (dT (gm n n fun i j=>f j i)),[.dat (dT (gm n n f))]):=by
 refine a0h (env:=[.dat (dT (gm n n f))]) ?_ rfl;show a7z [.dat (dT (gm n n f))]=_;unfold a7z;exact j3_ (c1 rfl (b1C h1 h6))
theorem c0c(h1:1≤n)(h6:n≤6):a2T [.dat (dT (gm n n f))]=some (.d (dT (gm n n fun i j=>f (n-1-j) (n-1-i))),[.dat (dT (gm n n f))]):=by
 refine a0h (env:=[.dat (dT (gm n n f))]) ?_ rfl;show a7A [.dat (dT (gm n n f))]=_;unfold a7A;exact j3_ (c1 (c1 rfl (b1D h1 h6)) (a7R h1 h6))
end
abbrev TN:List (Str×Str):=[("stay","stayed"),("left","turned_left"),("half","turned_half"),("right","turned_right"),("upright","told_upright"),("flat","told_flat"),("slant","told_slant"),("other","told_other")]
abbrev TF:List (Str×Fn):=[("stayed",a2P),("turned_left",a0u),("turned_half",a0H),("turned_right",a2Q),("told_upright",a2R),("told_flat",a2S),("told_slant",a1x),("told_other",a2T)]
abbrev W8:List Str:=["stay","left","half","right","upright","flat","slant","other"]
def pos(w:Str)(n r c:Nat):Nat×Nat:=
 if w="stay" then(r,c)else if w="left" then(c,n-1-r)else if w="half" then(n-1-r,n-1-c)else if w="right" then(n-1-c,r)
 else if w="upright" then(r,n-1-c)else if w="flat" then(n-1-r,c)else if w="slant" then(c,r)else(n-1-c,n-1-r)
def tf(w:Str)(n:Nat)(f:OO)(r c:Nat):Int:=f (pos w n r c).1 (pos w n r c).2
structure Turn(w:Str)(F:Fn):Prop where
 nm:∃x,lkF TN (.inr w)=some x/\TF.lookup x=some F
 f:∀n f,1≤n->n≤6->F [.dat (dT (gm n n f))]=some (.d (dT (gm n n (tf w n f))),[.dat (dT (gm n n f))])
theorem b1E:pos "stay"=fun n r c=>(r,c):=by
 funext n r c
 unfold pos;rw[Qc rfl]
theorem a1v:pos "left"=fun n r c=>(c,n-1-r):=by
 funext n r c
 unfold pos;rw[Qp (by decide+kernel),Qc rfl]
theorem b1F:pos "half"=fun n r c=>(n-1-r,n-1-c):=by
 funext n r c
 unfold pos;rw[Qp (by decide+kernel),Qp (by decide+kernel),Qc rfl]
theorem b1G:pos "right"=fun n r c=>(n-1-c,r):=by
 funext n r c
 unfold pos;rw[Qp (by decide+kernel),Qp (by decide+kernel),Qp (by decide+kernel),Qc rfl]
theorem b1H:pos "upright"=fun n r c=>(r,n-1-c):=by
 funext n r c
 unfold pos;rw[Qp (by decide+kernel),Qp (by decide+kernel),Qp (by decide+kernel),Qp (by decide+kernel),Qc rfl]
theorem b1I:pos "flat"=fun n r c=>(n-1-r,c):=by
 funext n r c
 unfold pos;rw[Qp (by decide+kernel),Qp (by decide+kernel),Qp (by decide+kernel),Qp (by decide+kernel),Qp (by decide+kernel),Qc rfl]
theorem b1J:pos "slant"=fun n r c=>(c,r):=by
 funext n r c
 unfold pos;rw[Qp (by decide+kernel),Qp (by decide+kernel),Qp (by decide+kernel),Qp (by decide+kernel),Qp (by decide+kernel),Qp (by decide+kernel),Qc rfl]
theorem b1K:pos "other"=fun n r c=>(n-1-c,n-1-r):=by
 funext n r c
 unfold pos;rw[Qp (by decide+kernel),Qp (by decide+kernel),Qp (by decide+kernel),Qp (by decide+kernel),Qp (by decide+kernel),Qp (by decide+kernel),Qp (by decide+kernel)]
theorem a1A{x:Str}{l:List (Str×Fn)}{y:Str}{F:Fn}(h:(x==y)=true):((y,F)::l).lookup x=some F:=by unfold List.lookup;rw[h]
theorem x7_{x:Str}{l:List (Str×Fn)}{y:Str}{F:Fn}{r:Option Fn}(h:(x==y)=false)(t:l.lookup x=r):((y,F)::l).lookup x=r:=by unfold List.lookup;rw[h];exact t
theorem a1B{kvs:List (Str×Str)}{w x:Str}(h:(lkF kvs (.inr w)==some x)=true):lkF kvs (.inr w)=some x:=Xy.mp h
theorem tn0:Turn "stay" a2P:=⟨⟨"stayed",a1B (by decide+kernel),a1A (by decide+kernel)⟩,fun n f h1 h6=>by unfold tf;rw[b1E];exact b9Y⟩
theorem tn1:Turn "left" a0u:=⟨⟨"turned_left",a1B (by decide+kernel),x7_ (by decide+kernel) (a1A (by decide+kernel))⟩,fun n f h1 h6=>by unfold tf;rw[a1v];exact a4V h1 h6⟩
theorem tn2:Turn "half" a0H:=⟨⟨"turned_half",a1B (by decide+kernel),x7_ (by decide+kernel) (x7_ (by decide+kernel) (a1A (by decide+kernel)))⟩,fun n f h1 h6=>by unfold tf;rw[b1F];exact a7R h1 h6⟩
theorem tn3:Turn "right" a2Q:=⟨⟨"turned_right",a1B (by decide+kernel),x7_ (by decide+kernel) (x7_ (by decide+kernel) (x7_ (by decide+kernel) (a1A (by decide+kernel))))⟩,fun n f h1 h6=>by unfold tf;rw[b1G];exact b9Z h1 h6⟩
theorem tn4:Turn "upright" a2R:=⟨⟨"told_upright",a1B (by decide+kernel),x7_ (by decide+kernel) (x7_ (by decide+kernel) (x7_ (by decide+kernel) (x7_ (by decide+kernel) (a1A (by decide+kernel)))))⟩,fun n f h1 h6=>by unfold tf;rw[b1H];exact c0a h1 h6⟩
theorem tn5:Turn "flat" a2S:=⟨⟨"told_flat",a1B (by decide+kernel),x7_ (by decide+kernel) (x7_ (by decide+kernel) (x7_ (by decide+kernel) (x7_ (by decide+kernel) (x7_ (by decide+kernel) (a1A (by decide+kernel))))))⟩,fun n f h1 h6=>by unfold tf;rw[b1I];exact c0b⟩
theorem tn6:Turn "slant" a1x:=⟨⟨"told_slant",a1B (by decide+kernel),x7_ (by decide+kernel) (x7_ (by decide+kernel) (x7_ (by decide+kernel) (x7_ (by decide+kernel) (x7_ (by decide+kernel) (x7_ (by decide+kernel) (a1A (by decide+kernel)))))))⟩,fun n f h1 h6=>by unfold tf;rw[b1J];exact b1D h1 h6⟩
theorem tn7:Turn "other" a2T:=⟨⟨"told_other",a1B (by decide+kernel),x7_ (by decide+kernel) (x7_ (by decide+kernel) (x7_ (by decide+kernel) (x7_ (by decide+kernel) (x7_ (by decide+kernel) (x7_ (by decide+kernel) (x7_ (by decide+kernel) (a1A (by decide+kernel))))))))⟩,fun n f h1 h6=>by unfold tf;rw[b1K];exact c0c h1 h6⟩
theorem b1L{w:Str}(h:w∈W8):∃F,Turn w F:=by
 simp only[W8,Qg,Zg,Uk]at h;obtain rfl|rfl|rfl|rfl|rfl|rfl|rfl|rfl:=h
 ·exact⟨_,tn0⟩
 ·exact⟨_,tn1⟩
 ·exact⟨_,tn2⟩
 ·exact⟨_,tn3⟩
 ·exact⟨_,tn4⟩
 ·exact⟨_,tn5⟩
 ·exact⟨_,tn6⟩
 ·exact⟨_,tn7⟩
theorem b1M{w:Str}{F:Fn}(T:Turn w F){n:Nat}{f:OO}(h1:1≤n)(h6:n≤6):a1c [.dat (dT (gm n n f)),.dat (.str w)]=some (.d (dT (gm n n (tf w n f))),[.dat (dT (gm n n f)),.dat (.str w)]):=by
 obtain⟨x,hx,hF⟩:=T.nm;have e:=T.f n f h1 h6;generalize dT (gm n n f)=A at *;generalize dT (gm n n (tf w n f))=Z at *;refine a0h (env:=[.dat A,.dat (.str w),.dat (.obj (.fn x))]) ?_ rfl;show a7D [.dat A,.dat (.str w),.nil]=_;unfold a7D;refine w8_ (a6L (d:=.obj (.fn x)) (e1:=[.dat A,.dat (.str w),.nil]) (e2:=[.dat A,.dat (.str w),.dat (.obj (.fn x))]) ?_ rfl) (j3_ ?_)
 ·show(lkF TN (.inr w)).map _=_
  rw[hx]
  rfl
 ·show(TF.lookup x).bind _=_
  rw[hF];exact c1 rfl e
def inT:D->Bool
 |.str x=>(lkF TN (.inr x)).isSome
 |_=>false
theorem c0d(d:D)(h:∀x,d≠.obj x):a4M [.dat d]=some (.d (.bl (inT d)),[.dat d]):=by
 refine a0h (env:=[.dat d]) ?_ rfl;show a7B [.dat d]=_;unfold a7B;cases d with
 |str x=>exact j3_ (b0X (e1:=[.dat (.str x)]) rfl rfl)
 |obj o=>exact absurd rfl (h o)
 |_=>exact j3_ (b0Y rfl)
theorem c0e{d:D}(h:∀x,d≠.obj x)(hi:inT d=true):a4N [.dat d]=some (.d .non,[.dat d]):=by
 have e:=c0d d h
 rw[hi]at e;refine(a9K (env:=[.dat d]) ?_).trans rfl;show a7C [.dat d]=_;unfold a7C;exact a1a (a9J (b:=true) (j4_ (c1 rfl e))) rfl
section
variable{n:Nat}{f:OO}
end
section
variable{md ma mb:Mo D}{e:Env'}{kvs:List (Str×List Int)}{w:Str}{l:List Int}{r:D}
end
abbrev d1(n r c:Int):List (Str×List Int):=[("stay",[r,c]),("left",[c,n-1-r]),("half",[n-1-r,n-1-c]),("right",[n-1-c,r])]
abbrev d2(n r c:Int):List (Str×List Int):=[("upright",[r,n-1-c]),("flat",[n-1-r,c]),("slant",[c,r]),("other",[n-1-c,n-1-r])]
section
variable{n:Nat}{f:OO}{w:Str}
abbrev fl(A:D)(w:Str)(n:Nat)(w3 w4 w5 w6 w7 w8 w9 w10:W):Env':=[.dat A,.dat (.str w),.dat (.int (n:Int)),w3,w4,w5,w6,w7,w8,w9,w10]
end
theorem c0f(l k:List Int):PyData.eqv (toP (dR l)) (toP (dR k))=decide (l=k):=by
 show PyData.eqvAll (v4_ (l.map D.int)) (v4_ (k.map D.int))=_;rw[a3L,a3L,b1l]
theorem a7S:∀R:OI,PyData.canLayAll0 (v4_ (R.map dR))=true
 |[]=>rfl
 |r::R=>by
  show(PyData.canLayAll0 (v4_ (r.map D.int))&&PyData.canLayAll0 (v4_ (R.map dR)))=true;rw[a7S R,a3L,a2J];rfl
theorem a7T:∀R:OI,PyData.depthAll (v4_ (R.map dR))≤1
 |[]=>by decide
 |r::R=>by
  show max (PyData.depthAll (v4_ (r.map D.int))+1) (PyData.depthAll (v4_ (R.map dR)))≤1;have:=a7T R;rw[a3L,b1k];omega
theorem a3N(R:OI):shp (dT R)=true:=by
 unfold shp SeqAt.shaped;show(PyData.canLayAll0 (v4_ (R.map dR))&&decide (PyData.depthAll (v4_ (R.map dR))+1≤64))=true;have:=a7T R;rw[a7S,Vl,Zi];omega
theorem a4W:∀A B:OI,PyData.eqvAll (v4_ (A.map dR)) (v4_ (B.map dR))=decide (A=B)
 |[],[]=>rfl
 |[],_::_=>rfl
 |_::_,[]=>rfl
 |x::l,y::k=>by
  show(PyData.eqv (toP (dR x)) (toP (dR y))&&PyData.eqvAll (v4_ (l.map dR)) (v4_ (k.map dR)))=_;rw[a4W l k,c0f]
  by_cases h:x=y
  ·subst h;simp
  ·simp[h]
theorem c0g(A B:OI):dEq false (dT A) (dT B)=some (.bl (decide (A=B))):=by
 unfold dEq;rw[a3N,a3N];show some (D.bl (PyData.eqvAll (v4_ (A.map dR)) (v4_ (B.map dR))))=_;rw[a4W]
theorem b1N:∀R:OI,rows? (R.map dR)=some R
 |[]=>rfl
 |r::R=>by
  show(ints? (r.map D.int)).bind (fun a=>(rows? (R.map dR)).map fun l=>a::l)=_
  rw[a6K,Qv,b1N R]
  rfl
theorem a7U:∀L:List (OI),tabs? (L.map dT)=some L
 |[]=>rfl
 |T::L=>by
  show(rows? (T.map dR)).bind (fun a=>(tabs? (L.map dT)).map fun l=>a::l)=_
  rw[b1N,Qv,a7U L]
  rfl
section
variable{n:Nat}{f:OO}
def own(n:Nat)(f:OO)(w:Str):Bool:=decide (gm n n (tf w n f)=gm n n f)
theorem b1O(e:Env'):a2K TN e=some (W8.map D.str,e):=by
 unfold a2K;rw[Qc (by decide+kernel)]
 rfl
theorem b1P(hw:w∈W8)(h1:1≤n)(h6:n≤6):a1c [.dat (dT (gm n n f)),.dat (.str w)]=some (.d (dT (gm n n (tf w n f))),[.dat (dT (gm n n f)),.dat (.str w)]):=by
 obtain⟨F,hF⟩:=b1L hw;exact b1M hF h1 h6
theorem b1Q(h1:1≤n)(h6:n≤6)(T:TabF n f):a1d [.dat (dT (gm n n f))]=some (.l ((W8.filter (own n f)).map D.str),[.dat (dT (gm n n f))]):=by
 have em:=a4U h1 h6 T
 refine b8h (env:=[.dat (dT (gm n n f))]) ?_ rfl;show a7F [.dat (dT (gm n n f))]=_;unfold a7F;refine w8_ (a3u (c1 rfl em)) (a9I ?_);refine b0V (α:=Str) (l:=W8) (q:=D.str) (f:=D.str) (p:=own n f) (base:=[.dat (dT (gm n n f))]) (b1O _) (by decide) rfl rfl (fun w hw=>⟨?_,fun _=>rfl⟩) (fun _=>rfl)
 have eb:=b1P (f:=f) hw h1 h6
 have eq:=c0g (gm n n (tf w n f)) (gm n n f)
 exact j4_ (v2_ (a0g (av:=[.d (dT (gm n n f)),.d (.str w)]) rfl rfl rfl eb) rfl eq)
theorem b1R(h1:1≤n)(h6:n≤6)(T:TabF n f){m:D}(hm:a0E [.lst ((W8.map fun w=>gm n n (tf w n f)).map dT)]=some m):a2i [.dat (dT (gm n n f))]=some (.d m,[.dat (dT (gm n n f))]):=by
 have em:=a4U h1 h6 T
 refine a0h (env:=[.dat (dT (gm n n f))]) ?_ rfl;show a7G [.dat (dT (gm n n f))]=_;unfold a7G;refine w8_ (a3u (c1 rfl em)) (j3_ (a0e (w7_ (a0V (a4K (α:=Str) (l:=W8) (q:=D.str) (f:=fun w=>dT (gm n n (tf w n f))) (base:=[.dat (dT (gm n n f))]) (b1O _) (by decide) rfl rfl (fun w hw=>?_) (fun _=>rfl))) rfl) ?_))
 ·have eb:=b1P (f:=f) hw h1 h6
  exact a0g (av:=[.d (dT (gm n n f)),.d (.str w)]) rfl rfl rfl eb
 ·rw[Zx]at hm
  exact hm
end
structure Tb(d:D)(n:Nat)(f:OO):Prop where
 e:d=dT (gm n n f)
 lo:1≤n
 hi:n≤6
 t:TabF n f
section
variable{n:Nat}
end
theorem b1S:∀a:List Int,HT.lexLt a a=false
 |[]=>rfl
 |x::a=>by rw[HT.lexLt_cons,Qc rfl,b1S a]
theorem b1T:∀{a b c:List Int},HT.lexLt a b=true->HT.lexLt b c=true->HT.lexLt a c=true
 |[],[],_,h,_=>by cases h
 |[],_::_,[],_,h=>by cases h
 |[],_::_,_::_,_,_=>rfl
 |_::_,[],_,h,_=>by cases h
 |_::_,_::_,[],_,h=>by cases h
 |x::a,y::b,z::c,h,k=>by
  rw[HT.lexLt_cons]at h k ⊢
  by_cases e:x=y
  ·subst e
   rw[Qc rfl]at h
   by_cases e2:x=z
   ·subst e2
    rw[Qc rfl]at k ⊢;exact b1T h k
   ·rw[Qp e2]at k ⊢;exact k
  ·rw[Qp e]at h
   by_cases e2:y=z
   ·subst e2
    rw[Qp e];exact h
   ·rw[Qp e2]at k
    have h':x<y:=by simpa using h
    have k':y<z:=by simpa using k
    rw[Qp (by omega)]
    simp;omega
theorem b1U:∀{a b:List Int},a≠b->HT.lexLt a b=false->HT.lexLt b a=true
 |[],[],n,_=>absurd rfl n
 |[],_::_,_,h=>by cases h
 |_::_,[],_,_=>rfl
 |x::a,y::b,n,h=>by
  rw[HT.lexLt_cons]at h ⊢
  by_cases e:x=y
  ·subst e
   rw[Qc rfl]at h ⊢;exact b1U (fun z=>n (by rw[z])) h
  ·rw[Qp e]at h
   rw[Qp (fun z=>e z.symm)]
   simp at h ⊢;omega
theorem b1V:∀a:OI,j5_ a a=false
 |[]=>rfl
 |x::a=>by rw[a4C,Qc rfl,b1V a]
theorem b1W:∀{a b c:OI},j5_ a b=true->j5_ b c=true->j5_ a c=true
 |[],[],_,h,_=>by cases h
 |[],_::_,[],_,h=>by cases h
 |[],_::_,_::_,_,_=>rfl
 |_::_,[],_,h,_=>by cases h
 |_::_,_::_,[],_,h=>by cases h
 |x::a,y::b,z::c,h,k=>by
  rw[a4C]at h k ⊢
  by_cases e:x=y
  ·subst e
   rw[Qc rfl]at h
   by_cases e2:x=z
   ·subst e2
    rw[Qc rfl]at k ⊢;exact b1W h k
   ·rw[Qp e2]at k ⊢;exact k
  ·rw[Qp e]at h
   by_cases e2:y=z
   ·subst e2
    rw[Qp e];exact h
   ·rw[Qp e2]at k
    have t:=b1T h k
    rw[Qp (fun z=>by subst z;rw[b1S]at t;cases t)]
    exact t
theorem b1X:∀{a b:OI},a≠b->j5_ a b=false->j5_ b a=true
 |[],[],n,_=>absurd rfl n
 |[],_::_,_,h=>by cases h
 |_::_,[],_,_=>rfl
 |x::a,y::b,n,h=>by
  rw[a4C]at h ⊢
  by_cases e:x=y
  ·subst e
   rw[Qc rfl]at h ⊢;exact b1X (fun z=>n (by rw[z])) h
  ·rw[Qp e]at h
   rw[Qp (fun z=>e z.symm)]
   exact b1U e h
theorem a7V{lt:Nat->Nat->Bool}(irr:∀i,lt i i=false)(tr:∀i j k,lt i j=true->lt j k=true->lt i k=true):∀n i,i≤n->lt i (argBest lt n)=false
 |0,i,h=>by
  have:i=0:=by omega
  subst this;exact irr 0
 |n+1,i,h=>by
  unfold argBest;split
  ·rename_i hb
   rcases Ys i (n+1)with q|q
   ·cases hl:lt i (n+1)with
    |false=>rfl
    |true=>
     have:=tr _ _ _ hl hb;rw[a7V irr tr n i (by omega)]at this
     cases this
   ·have:i=n+1:=by omega
    subst this;exact irr _
  ·rename_i hb
   rcases Ys i (n+1)with q|q
   ·exact a7V irr tr n i (by omega)
   ·have:i=n+1:=by omega
    subst this
    simpa using hb
theorem a7W{L:List (OI)}(h:0<L.length):∃T∈L,a0E [.lst (L.map dT)]=some (dT T)/\∀V∈L,j5_ V T=false:=by
 have hi:argBest (a0Y L) (L.length-1)<L.length:=by have:=b0l (a0Y L) (L.length-1);omega
 refine⟨L[argBest (a0Y L) (L.length-1)],Ye hi,?_,fun V hV=>?_⟩
 ·show(tabs? (L.map dT)).bind _=_
  rw[a7U,Qv,Qk,Zk,Qi hi]
  rfl
 ·obtain⟨i,h1,rfl⟩:=Uj.mp hV
  have:=a7V (lt:=a0Y L) (fun i=>b1V _) (fun i j k=>b1W) (L.length-1) i (by omega)
  have this:j5_ (L.getD i []) (L.getD (argBest (a0Y L) (L.length-1)) [])=false:=this
  rwa [Zp,Zp,Qi h1,Qi hi]at this
theorem c0h{L M:List (OI)}(hL:0<L.length)(hM:0<M.length)(h:∀T,T∈L↔T∈M):a0E [.lst (L.map dT)]=a0E [.lst (M.map dT)]:=by
 obtain⟨T,t1,t2,t3⟩:=a7W hL;obtain⟨V,v1,v2,v3⟩:=a7W hM;rw[t2,v2];have:T=V:=Zd fun ne=>by
  have a:=b1X ne (v3 T ((h T).mp t1))
  rw[t3 V ((h V).mpr v1)]at a;cases a
 rw[this]
theorem a7X(g:Nat->Int)(n:Nat):∀k,k≤n->S (fun j=>g (n-1-j)) k=S g n-S g (n-k)
 |0,_=>by show(0:Int)=_;rw[Nat.sub_zero];omega
 |k+1,h=>by
  show S (fun j=>g (n-1-j)) k+g (n-1-k)=_
  rw[a7X g n k (by omega)]
  have e:n-k=(n-(k+1))+1:=by omega
  have:S g (n-k)=S g (n-(k+1))+g (n-(k+1)):=by rw[e];rfl
  rw[this,show n-1-k=n-(k+1) by omega]
  omega
theorem b1Y(g:Nat->Int)(n:Nat):S (fun j=>g (n-1-j)) n=S g n:=by
 rw[a7X g n n (Qu _),Nat.sub_self];show S g n-0=_
 omega
theorem b1Z(g:OO)(n:Nat):∀m,S (fun i=>S (fun j=>g i j) n) m=S (fun j=>S (fun i=>g i j) m) n
 |0=>(b1v n).symm
 |m+1=>by
  show S (fun i=>S (fun j=>g i j) n) m+S (fun j=>g m j) n=S (fun j=>S (fun i=>g i j) m+g m j) n
  rw[b1Z g n m,b1u]
theorem TabF.sl{n:Nat}{f:OO}(T:TabF n f):TabF n fun i j=>f j i:=⟨T.col,T.colN,T.row,T.rowN⟩
theorem TabF.up{n:Nat}{f:OO}(T:TabF n f):TabF n fun i j=>f i (n-1-j):=by
 refine⟨fun i hi k hk=>?_,fun i hi=>?_,fun j hj k hk=>?_,fun j hj=>?_⟩
 ·have:=a7X (f i) n k hk
  have h2:=T.rowN i hi
  have h3:=T.row i hi (n-k) (by omega)
  show S (fun j=>f i (n-1-j)) k=0∨S (fun j=>f i (n-1-j)) k=1
  omega
 ·show S (fun j=>f i (n-1-j)) n=1
  rw[b1Y];exact T.rowN i hi
 ·exact T.col (n-1-j) (by omega) k hk
 ·exact T.colN (n-1-j) (by omega)
def a0v:Nat->Nat->Nat->Nat->Nat×Nat
 |0,_,r,c=>(r,c)
 |1,n,r,c=>(c,n-1-r)
 |2,n,r,c=>(n-1-r,n-1-c)
 |3,n,r,c=>(n-1-c,r)
 |4,n,r,c=>(r,n-1-c)
 |5,n,r,c=>(n-1-r,c)
 |6,_,r,c=>(c,r)
 |_,n,r,c=>(n-1-c,n-1-r)
def tI(i n:Nat)(f:OO)(r c:Nat):Int:=f (a0v i n r c).1 (a0v i n r c).2
def wd(i:Nat):Str:=W8.getD i "stay"
theorem i8{i:Nat}(h:i<8):i=0∨i=1∨i=2∨i=3∨i=4∨i=5∨i=6∨i=7:=by omega
theorem c0i{i:Nat}(h:i<8):pos (wd i)=a0v i:=by
 rcases i8 h with rfl|rfl|rfl|rfl|rfl|rfl|rfl|rfl
 ·exact b1E
 ·exact a1v
 ·exact b1F
 ·exact b1G
 ·exact b1H
 ·exact b1I
 ·exact b1J
 ·exact b1K
theorem a1g{i:Nat}(h:i<8)(n:Nat)(f:OO):tf (wd i) n f=tI i n f:=by
 funext r c
 unfold tf tI;rw[c0i h]
theorem b2a{n:Nat}{f:OO}(T:TabF n f){i:Nat}(h:i<8):TabF n (tI i n f):=by
 rcases i8 h with rfl|rfl|rfl|rfl|rfl|rfl|rfl|rfl
 ·exact T
 ·exact T.up.sl
 ·exact T.sl.up.sl.up
 ·exact T.sl.up
 ·exact T.up
 ·exact T.sl.up.sl
 ·exact T.sl
 ·exact T.up.sl.up
theorem c0j{i n r c:Nat}(h:i<8)(hr:r<n)(hc:c<n):(a0v i n r c).1<n/\(a0v i n r c).2<n:=by
 rcases i8 h with rfl|rfl|rfl|rfl|rfl|rfl|rfl|rfl<;>constructor<;>simp only[a0v]<;>omega
def b2b:List Nat:=[0,1,2,3,4,5,6,7,1,2,3,0,6,7,5,4,2,3,0,1,5,4,7,6,3,0,1,2,7,6,4,5,4,7,5,6,0,2,3,1,5,6,4,7,2,0,1,3,6,4,7,5,1,3,0,2,7,5,6,4,3,1,2,0]
def c0k:List Nat:=[0,3,2,1,4,5,6,7]
def x1_(i j:Nat):Nat:=b2b.getD (8 * i+j) 0
def j6_(i:Nat):Nat:=c0k.getD i 0
theorem c0l:((List.range 8).all fun i=>(List.range 8).all fun j=>decide (x1_ i j<8))=true:=by decide+kernel
theorem a0K{i j:Nat}(hi:i<8)(hj:j<8):x1_ i j<8:=by
 have:=Qb.mp (Qb.mp c0l i (Qy.mpr hi)) j (Qy.mpr hj)
 simpa using this
theorem c0m:((List.range 8).all fun i=>decide (j6_ i<8)&&(x1_ (j6_ i) i==0&&x1_ i (j6_ i)==0))=true:=by decide+kernel
theorem a4X{i:Nat}(hi:i<8):j6_ i<8/\x1_ (j6_ i) i=0/\x1_ i (j6_ i)=0:=by
 have:=Qb.mp c0m i (Qy.mpr hi)
 simpa using this
theorem c0n{i j n r c:Nat}(hi:i<8)(hj:j<8)(hr:r<n)(hc:c<n):a0v j n (a0v i n r c).1 (a0v i n r c).2=a0v (x1_ i j) n r c:=by
 rcases i8 hi with rfl|rfl|rfl|rfl|rfl|rfl|rfl|rfl<;>rcases i8 hj with rfl|rfl|rfl|rfl|rfl|rfl|rfl|rfl<;>
  (refine Je ?_ ?_<;>simp only[a0v,x1_,b2b,List.getD_cons_zero,List.getD_cons_succ,Nat.reduceMul,Nat.reduceAdd]<;>omega)
def mS(n:Nat)(f:OO):Int:=((List.range n).map fun i=>(((rw' n (f i)).countP fun y=>y== -1:Nat):Int)).sum
theorem b2c{n:Nat}{f:OO}(h1:1≤n)(h6:n≤6)(T:TabF n f):∃ws,a2j [.dat (dT (gm n n f))]=some (.d (.int (mS n f)),ws):=by
 refine⟨_,(g8_ (d:=.int (mS n f)) (env:=[.dat (dT (gm n n f))]) ?_).trans rfl⟩;show a7H [.dat (dT (gm n n f))]=_;unfold a7H;refine w8_ (a3u (a0g (av:=[.d (dT (gm n n f))]) rfl rfl rfl (a4U h1 h6 T))) (j3_ (a0e (w7_ (a0V (a4K (α:=Nat) (q:=fun i=>dR (rw' n (f i))) (f:=fun i=>D.int (((rw' n (f i)).countP fun y=>y== -1:Nat):Int)) (l:=List.range n) (base:=[.nil]) ?_ (by simp;omega) rfl rfl (fun i hi=>?_) (fun w=>rfl))) rfl) ?_))
 ·refine a3q rfl ?_
  show some (((List.range n).map fun i=>(List.range n).map (f i)).map dR)=_
  rw[Zx];rfl
 ·refine v2_ rfl rfl ?_
  show(ints? ((rw' n (f i)).map D.int)).map _=_;rw[a6K];rfl
 ·have:((List.range n).map fun i=>D.int (((rw' n (f i)).countP fun y=>y== -1:Nat):Int))=((List.range n).map fun i=>(((rw' n (f i)).countP fun y=>y== -1:Nat):Int)).map D.int:=by rw[Zx];rfl
  rw[this];exact b8f _
def ind(x:Int):Int:=if x= -1 then 1 else 0
theorem b2d(g:Nat->Int):∀n,(((rw' n g).countP fun y=>y== -1:Nat):Int)=S (fun j=>ind (g j)) n
 |0=>rfl
 |n+1=>by
  show((((List.range (n+1)).map g).countP fun y=>y== -1:Nat):Int)=S (fun j=>ind (g j)) n+ind (g n)
  rw[List.range_succ,Jx,List.countP_append,←b2d g n];unfold ind
  by_cases h:g n= -1
  ·simp[h]
  ·simp[h]
theorem a4Y(n:Nat)(f:OO):mS n f=S (fun i=>S (fun j=>ind (f i j)) n) n:=by
 unfold mS;rw[b1y];exact a7N fun i _=>b2d (f i) n
theorem a2V(n:Nat)(f:OO):mS n (fun i j=>f j i)=mS n f:=by
 rw[a4Y,a4Y];exact b1Z (fun i j=>ind (f j i)) n n
theorem a3O(n:Nat)(f:OO):mS n (fun i j=>f i (n-1-j))=mS n f:=by
 rw[a4Y,a4Y];exact a7N fun i _=>b1Y (fun j=>ind (f i j)) n
theorem c0o(n:Nat)(f:OO){i:Nat}(h:i<8):mS n (tI i n f)=mS n f:=by
 have fl:∀f,mS n (fun i j=>f (n-1-i) j)=mS n f:=fun f=>by
  rw[←a2V n (fun i j=>f (n-1-i) j),a3O n (fun i j=>f j i),a2V n f]
 rcases i8 h with rfl|rfl|rfl|rfl|rfl|rfl|rfl|rfl
 ·rfl
 ·exact(fl fun i j=>f j i).trans (a2V n f)
 ·exact(fl fun i j=>f i (n-1-j)).trans (a3O n f)
 ·exact(a3O n fun i j=>f j i).trans (a2V n f)
 ·exact a3O n f
 ·exact fl f
 ·exact a2V n f
 ·exact((fl fun i j=>f (n-1-j) i).trans (a3O n fun i j=>f j i)).trans (a2V n f)
section
variable{n:Nat}{f g:OO}
theorem a2l{i j:Nat}(hi:i<8)(hj:j<8):gm n n (tI i n (tI j n f))=gm n n (tI (x1_ i j) n f):=
 a7P fun r hr c hc=>by
  unfold tI;rw[c0n hi hj hr hc]
theorem a7Y{v:Nat}(hv:v<8)(h:gm n n f=gm n n g):gm n n (tI v n f)=gm n n (tI v n g):=
 a7P fun r hr c hc=>by
  unfold tI;have:=c0j hv hr hc;exact b9V h this.1 this.2
theorem c0p:((List.range 8).all fun v=>(List.range 8).all fun i=>x1_ (j6_ v) (x1_ v i)==i)=true:=by decide+kernel
theorem c0q{v i:Nat}(hv:v<8)(hi:i<8):x1_ (j6_ v) (x1_ v i)=i:=by
 have:=Qb.mp (Qb.mp c0p v (Qy.mpr hv)) i (Qy.mpr hi)
 simpa using this
theorem b2e{v i j:Nat}(hv:v<8)(hi:i<8)(hj:j<8)(h:gm n n (tI i n f)=gm n n (tI j n f)):gm n n (tI (x1_ v i) n f)=gm n n (tI (x1_ v j) n f):=by
 rw[←a2l hv hi,←a2l hv hj];exact a7Y hv h
def sI(n:Nat)(f:OO)(i:Nat):Bool:=decide (gm n n (tI i n f)=gm n n f)
theorem b2f{i j:Nat}(hi:i<8)(hj:j<8):decide (gm n n (tI i n f)=gm n n (tI j n f))=sI n f (x1_ (j6_ i) j):=by
 obtain⟨h1,h2,h3⟩:=a4X hi;unfold sI;refine decide_eq_decide.mpr ⟨fun h=>?_,fun h=>?_⟩
 ·have:=b2e h1 hi hj h
  rw[h2]at this;exact this.symm
 ·have:=b2e (j:=0) hi (a0K h1 hj) (by omega) h
  have e:x1_ i (x1_ (j6_ i) j)=j:=by
   have a:j6_ (j6_ i)=i:=by rcases i8 hi with rfl|rfl|rfl|rfl|rfl|rfl|rfl|rfl<;>rfl
   have:=c0q h1 hj;rwa [a]at this
  have e0:x1_ i 0=i:=by rcases i8 hi with rfl|rfl|rfl|rfl|rfl|rfl|rfl|rfl<;>rfl
  rw[e,e0]at this;exact this.symm
def ddE{α:Type}(E:α->α->Bool):List α->Nat
 |[]=>0
 |x::r=>if r.any (E x)then ddE E r else ddE E r+1
theorem a7Z{α β:Type}[DecidableEq β](q:α->β):∀l:List α,(ddup (l.map q)).length=ddE (fun x y=>decide (q x=q y)) l
 |[]=>rfl
 |x::l=>by
  have:(q x∈l.map q)↔l.any (fun y=>decide (q x=q y))=true:=by
   rw[Qn,Tu]
   constructor
   ·rintro⟨y,h,e⟩
    exact⟨y,h,Zt e.symm⟩
   ·rintro⟨y,h,e⟩
    exact⟨y,h,(Tq e).symm⟩
  show(if q x∈l.map q then ddup (l.map q)else q x::ddup (l.map q)).length=if l.any (fun y=>decide (q x=q y))=true then _ else _
  by_cases h:q x∈l.map q
  ·rw[Qc h,Qc (this.mp h),a7Z q l]
  ·rw[Qp h,Qp (fun z=>h (this.mpr z)),Zj,a7Z q l]
theorem a8a{α:Type}{E F:α->α->Bool}:∀{l:List α},(∀x∈l,∀y∈l,E x y=F x y)->ddE E l=ddE F l
 |[],_=>rfl
 |x::l,h=>by
  have h1:l.any (E x)=l.any (F x):=by
   apply Bool.eq_iff_iff.mpr
   rw[Tu,Tu]
   constructor
   ·rintro⟨y,hy,e⟩
    exact⟨y,hy,by rw[←h x Qo y (Qt _ hy)];exact e⟩
   ·rintro⟨y,hy,e⟩
    exact⟨y,hy,by rw[h x Qo y (Qt _ hy)];exact e⟩
  unfold ddE;rw[h1,a8a fun x hx y hy=>h x (Qt _ hx) y (Qt _ hy)]
abbrev R8:List Nat:=List.range 8
def lB(l:List Bool)(i:Nat):Bool:=l.getD i false
def clB(s:Nat->Bool):Bool:=s 0&&R8.all fun i=>R8.all fun j=>!(s i&&s j)||s (x1_ i j)
def cnB(s:Nat->Bool):Nat:=(R8.filter s).length
def coB(s:Nat->Bool):Bool:=(8%cnB s==0)&&(R8.all (fun j=>(R8.filter fun i=>s (x1_ (j6_ (x1_ i j)) j)).length==cnB s)&&(ddE (fun i j=>s (x1_ (j6_ i) j)) R8 * cnB s==8))
theorem grp:∀b0 b1 b2 b3 b4 b5 b6 b7:Bool,(!clB (lB [b0,b1,b2,b3,b4,b5,b6,b7])||coB (lB [b0,b1,b2,b3,b4,b5,b6,b7]))=true:=by decide+kernel
theorem c0r(s:Nat->Bool){i:Nat}(h:i<8):lB [s 0,s 1,s 2,s 3,s 4,s 5,s 6,s 7] i=s i:=by
 rcases i8 h with rfl|rfl|rfl|rfl|rfl|rfl|rfl|rfl<;>rfl
theorem a4Z{s t:Nat->Bool}(h:∀i<8,s i=t i):R8.filter s=R8.filter t:=List.filter_congr fun i hi=>h i (Qy.mp hi)
theorem c0s:clB (sI n f)=true:=by
 unfold clB;have h0:sI n f 0=true:=Zt rfl;rw[h0,Vl,Qb];intro i hi;rw[Qb];intro j hj;have hi:=Qy.mp hi;have hj:=Qy.mp hj;cases h1:sI n f i with
 |false=>rfl
 |true=>
  cases h2:sI n f j with
  |false=>rfl
  |true=>
   show(false||sI n f (x1_ i j))=true
   rw[Bool.false_or];unfold sI at h1 h2 ⊢;rw[Zi]at h1 h2 ⊢;rw[←a2l hi hj];exact(a7Y hi h2).trans h1
theorem b2g:coB (sI n f)=true:=by
 have h:=grp (sI n f 0) (sI n f 1) (sI n f 2) (sI n f 3) (sI n f 4) (sI n f 5) (sI n f 6) (sI n f 7)
 generalize hl:lB [sI n f 0,sI n f 1,sI n f 2,sI n f 3,sI n f 4,sI n f 5,sI n f 6,sI n f 7]=l at h;have e:∀i,i<8->l i=sI n f i:=fun i hi=>by rw[←hl];exact c0r (sI n f) hi
 have c1:clB l=true:=by
  have:=c0s (n:=n) (f:=f);unfold clB at this ⊢;rw[e 0 (by omega)]
  rw[Qd]at this ⊢;refine⟨this.1,?_⟩;rw[Qb];intro i hi;have t1:=Qb.mp this.2 i hi;rw[Qb];intro j hj;have t2:=Qb.mp t1 j hj;have hi:=Qy.mp hi;have hj:=Qy.mp hj;rw[e i hi,e j hj,e _ (a0K hi hj)];exact t2
 rw[c1]at h;have h:coB l=true:=h;have ec:cnB l=cnB (sI n f):=by unfold cnB;rw[a4Z e]
 unfold coB at h ⊢;rw[ec,Qd,Qd]at h;rw[Qd,Qd];refine⟨h.1,?_,?_⟩
 ·rw[Qb]
  intro j hj;have t:=Qb.mp h.2.1 j hj;have hj:=Qy.mp hj;rwa [a4Z (s:=fun i=>l (x1_ (j6_ (x1_ i j)) j)) fun i hi=>e _ (a0K (a4X (a0K hi hj)).1 hj)]at t
 ·have t:=h.2.2
  rwa [a8a (F:=fun i j=>sI n f (x1_ (j6_ i) j)) fun i hi j hj=>e _ (a0K (a4X (Qy.mp hi)).1 (Qy.mp hj))]at t
theorem a3P:W8=R8.map wd:=rfl
theorem c0t{i:Nat}(h:i<8):own n f (wd i)=sI n f i:=by
 unfold own sI;rw[a1g h]
theorem b2h:(W8.filter (own n f)).length=cnB (sI n f):=by
 rw[a3P,List.filter_map,Qk];unfold cnB;rw[a4Z (s:=own n f∘wd) (t:=sI n f) fun i hi=>c0t hi]
theorem c0u{j:Nat}(hj:j<8):(W8.filter (own n (tI j n f))).length=cnB (sI n f):=by
 rw[b2h];have h:=b2g (n:=n) (f:=f);unfold coB at h;rw[Qd,Qd]at h;have t:=Qb.mp h.2.1 j (Qy.mpr hj);rw[←Ux t];unfold cnB;rw[a4Z fun i hi=>?_]
 show decide (gm n n (tI i n (tI j n f))=gm n n (tI j n f))=_;rw[a2l hi hj];exact b2f (a0K hi hj) hj
theorem c0v:8%cnB (sI n f)=0/\cnB (sI n f)≠0/\(ddup (W8.map fun w=>gm n n (tf w n f))).length * cnB (sI n f)=8:=by
 have h:=b2g (n:=n) (f:=f)
 unfold coB at h;rw[Qd,Qd]at h;have h3:=Ux h.2.2;refine⟨Ux h.1,fun z=>by rw[z]at h3;omega,?_⟩
 have e:(ddup (W8.map fun w=>gm n n (tf w n f))).length=ddE (fun i j=>sI n f (x1_ (j6_ i) j)) R8:=by
  have:(W8.map fun w=>gm n n (tf w n f))=R8.map fun i=>gm n n (tI i n f):=by
   rw[a3P,Zx];exact Zn fun i hi=>by
    show gm n n (tf (wd i) n f)=_;rw[a1g (Qy.mp hi)]
  rw[this,a7Z];exact a8a fun i hi j hj=>b2f (Qy.mp hi) (Qy.mp hj)
 rw[e];exact h3
theorem c0w:∃r:List Str,(W8.filter (own n f))=("stay":Str)::r:=by
 have:own n f ("stay":Str)=true:=by
  unfold own;rw[show("stay":Str)=wd 0 from rfl,a1g (by omega)]
  exact Zt rfl
 exact⟨_,List.filter_cons_of_pos this⟩
theorem c0x{j:Nat}(hj:j<8):a0E [.lst ((W8.map fun w=>gm n n (tf w n (tI j n f))).map dT)]=a0E [.lst ((W8.map fun w=>gm n n (tf w n f)).map dT)]:=by
 have ex:∀g:OO,(W8.map fun w=>gm n n (tf w n g))=R8.map fun i=>gm n n (tI i n g):=fun g=>by
  rw[a3P,Zx];exact Zn fun i hi=>by
   show gm n n (tf (wd i) n g)=_;rw[a1g (Qy.mp hi)]
 rw[ex,ex];refine c0h (by simp) (by simp) fun T=>?_
 rw[Qn,Qn]
 constructor
 ·rintro⟨i,hi,rfl⟩
  have hi:=Qy.mp hi
  exact⟨x1_ i j,Qy.mpr (a0K hi hj),(a2l hi hj).symm⟩
 ·rintro⟨i,hi,rfl⟩
  have hi:=Qy.mp hi
  obtain⟨h1,h2,h3⟩:=a4X hj;refine⟨x1_ i (j6_ j),Qy.mpr (a0K hi h1),?_⟩;rw[a2l (a0K hi h1) hj]
  congr 2
  rcases i8 hi with rfl|rfl|rfl|rfl|rfl|rfl|rfl|rfl<;>rcases i8 hj with rfl|rfl|rfl|rfl|rfl|rfl|rfl|rfl<;>rfl
end
theorem c0y(A B:OI):dEq true (dT A) (dT B)=some (.bl (!decide (A=B))):=by
 unfold dEq;rw[a3N,a3N];show some (D.bl (!PyData.eqvAll (v4_ (A.map dR)) (v4_ (B.map dR))))=_;rw[a4W]
theorem a3Q(A:OI):dEq true (dT A) (dT A)=some (.bl false):=by rw[c0y];simp
theorem a5a(i:Int):dEq true (.int i) (.int i)=some (.bl false):=by
 show some (D.bl (!(i==i)))=_
 simp
def b2i(o:Option D)(b:Bool):Bool:=match o with
 |some (.bl c)=>c==b
 |_=>false
theorem c0z{o:Option D}{b:Bool}(h:b2i o b=true):o=some (.bl b):=by
 unfold b2i at h;split at h
 ·rw[Xy.mp h]
 ·cases h
theorem c0A:dEq true (.str "stay") (.str "stay")=some (.bl false):=c0z (by decide+kernel)
theorem b2j:∀L:List (OI),PyData.canLayAll0 (v4_ (L.map dT))=true
 |[]=>rfl
 |T::L=>by
  show(PyData.canLayAll0 (v4_ (T.map dR))&&PyData.canLayAll0 (v4_ (L.map dT)))=true;rw[a7S,b2j L];rfl
theorem b2k{T:OI}:∀{L:List (OI)},T∈L->((v4_ (L.map dT)).any fun y=>PyData.eqv y (toP (dT T)))=true
 |[],h=>by cases h
 |V::L,h=>by
  show(PyData.eqvAll (v4_ (V.map dR)) (v4_ (T.map dR))||(v4_ (L.map dT)).any fun y=>PyData.eqv y (toP (dT T)))=true
  rcases Qg.mp h with rfl|h
  ·rw[a4W];simp
  ·rw[b2k h,Bool.or_true]
theorem c0B{T:OI}{L:List (OI)}(h:T∈L):a4B true (dT T) (.lst (L.map dT))=some (.bl false):=by
 show(if _ then _ else _)=_
 rw[a3N,b2j,b2k h];have hd:(toP (dT T)).depth≤60:=by
  show PyData.depthAll (v4_ (T.map dR))+1≤60;have:=a7T T
  omega
 rw[Zt hd]
 rfl
theorem c0C{g:OZ}{b:Mo Fl}{d:D}{ds:List D}{e e1 e2:Env'}{r:Option (Fl×Env')}(h1:g d e=some e1)(h2:b e1=some (.nx,e2))(h3:loop g b ds e2=r):loop g b (d::ds) e=r:=by
 unfold loop;rw[h1,Qv,h2];exact h3
theorem c0D(e:Env'):mF (w0_ 0 a2U z8_) e=some (.lst (W8.map D.str),e):=rfl
section
variable{n:Nat}{f:OO}
def tA(n:Nat):List Nat->(OO)->OO
 |[],f=>f
 |i::l,f=>tA n l (tI i n f)
def pA:Nat->List Nat->Nat
 |a,[]=>a
 |a,i::l=>pA (x1_ i a) l
theorem b2l:∀{l:List Nat}{f g:OO},(∀i∈l,i<8)->gm n n f=gm n n g->gm n n (tA n l f)=gm n n (tA n l g)
 |[],_,_,_,h=>h
 |i::l,_,_,hl,h=>b2l (l:=l) (fun j hj=>hl j (Qt _ hj)) (a7Y (hl i Qo) h)
theorem b2m:∀{l:List Nat}{a:Nat},(∀i∈l,i<8)->a<8->gm n n (tA n l (tI a n f))=gm n n (tI (pA a l) n f)
 |[],_,_,_=>rfl
 |i::l,a,hl,ha=>by
  have hi:=hl i Qo
  have hl':∀j∈l,j<8:=fun j hj=>hl j (Qt _ hj)
  show gm n n (tA n l (tI i n (tI a n f)))=gm n n (tI (pA (x1_ i a) l) n f);rw[b2l hl' (a2l hi ha)];exact b2m hl' (a0K hi ha)
theorem c0E{i:Nat}(h:i<8):wd i∈W8:=by
 rw[a3P];exact Qn.mpr ⟨i,Qy.mpr h,rfl⟩
theorem b2n{w:Str}(hw:w∈W8)(h1:1≤n)(h6:n≤6)(T:TabF n f):a0I [.dat (dT (gm n n f)),.dat (.str w)]=some (.d (dT (gm n n (tf w n f))),[.dat (dT (gm n n f)),.dat (.str w)]):=by
 obtain⟨F,hF⟩:=b1L hw;have em:=a4U h1 h6 T;have eb:=b1M hF (f:=f) h1 h6;have et:=c0e (d:=.str w) (fun x z=>by cases z) (by obtain⟨x,hx,_⟩:=hF.nm;show(lkF TN (.inr w)).isSome=true;rw[hx];rfl)
 generalize dT (gm n n f)=A at *;generalize dT (gm n n (tf w n f))=Z at *;refine a0h (env:=[.dat A,.dat (.str w)]) ?_ rfl;show a7E [.dat A,.dat (.str w)]=_;unfold a7E;exact w8_ (a3u (c1 rfl em)) (w8_ (a3u (c1 rfl et)) (j3_ (a0g (av:=[.d A,.d (.str w)]) rfl rfl rfl eb)))
abbrev aB:Mo Fl:=(y2_ 0 (mCD 2 a0I (z6_ (z0_ 0) (z6_ (z0_ 2) z8_))))
theorem b2o(h1:1≤n)(h6:n≤6)(x1:W):∀(l:List Nat) (f:OO) (w2:W),(∀i∈l,i<8)->TabF n f->∃w2',loop (gN 2) aB (l.map fun i=>D.str (wd i)) [.dat (dT (gm n n f)),x1,w2]=some (.nx,[.dat (dT (gm n n (tA n l f))),x1,w2'])
 |[],f,w2,_,_=>⟨w2,rfl⟩
 |i::l,f,w2,hl,T=>by
  have hi:=hl i Qo
  have et:=b2n (f:=f) (c0E hi) h1 h6 T
  rw[a1g hi]at et;obtain⟨w2',h⟩:=b2o h1 h6 x1 l (tI i n f) (.dat (.str (wd i))) (fun j hj=>hl j (Qt _ hj)) (b2a T hi)
  refine⟨w2',?_⟩;rw[Zz];refine c0C (e1:=[.dat (dT (gm n n f)),x1,.dat (.str (wd i))]) (e2:=[.dat (dT (gm n n (tI i n f))),x1,.dat (.str (wd i))]) rfl ?_ h;exact a6L (d:=dT (gm n n (tI i n f))) (e1:=[.dat (dT (gm n n f)),x1,.dat (.str (wd i))]) (a0g (av:=[.d (dT (gm n n f)),.d (.str (wd i))]) rfl rfl rfl et) rfl
theorem a2W(h1:1≤n)(h6:n≤6)(T:TabF n f){l:List Nat}(hl:∀i∈l,i<8){A B:D}(hA:A=dT (gm n n f))(hB:dT (gm n n (tI (pA 0 l) n f))=B):∃ws,k7_ [.dat A,.dat (.lst (l.map fun i=>D.str (wd i)))]=some (.d B,ws):=by
 subst hA;obtain⟨w2',h⟩:=b2o h1 h6 (.dat (.lst (l.map fun i=>D.str (wd i)))) l f .nil hl T
 have e:gm n n (tA n l f)=gm n n (tI (pA 0 l) n f):=b2m (a:=0) hl (by omega)
 rw[e,hB]at h;refine⟨_,a0h (env:=[.dat B,.dat (.lst (l.map fun i=>D.str (wd i))),w2']) ?_ rfl⟩
 show a7K [.dat (dT (gm n n f)),.dat (.lst (l.map fun i=>D.str (wd i))),.nil]=_
 unfold a7K;exact w8_ ((a3r (a3q rfl rfl)).trans h) (j3_ rfl)
theorem c0F{x c:Nat}(h:x * c=8):(x=8/\c=1)∨(x=4/\c=2)∨(x=2/\c=4)∨(x=1/\c=8):=by
 have hc:c≤8:=by
  rcases Nat.eq_zero_or_pos x with z|z
  ·rw[z]at h;omega
  ·have:=Nat.mul_le_mul_right c z;omega
 rcases(by omega:c=0∨c=1∨c=2∨c=3∨c=4∨c=5∨c=6∨c=7∨c=8)with rfl|rfl|rfl|rfl|rfl|rfl|rfl|rfl|rfl<;>omega
theorem c0G{x c:Nat}(h:x * c=8):w6_ (.int (x:Int)) (.int (c:Int))=some (.int 8)/\g0_ (.int 8) (.int (c:Int))=some (.int 0):=by
 obtain⟨rfl,rfl⟩|⟨rfl,rfl⟩|⟨rfl,rfl⟩|⟨rfl,rfl⟩:=c0F h<;>exact⟨rfl,rfl⟩
theorem c0H{L:List (OI)}(hl:L.length≤17)(hk:a3x L=true):a3y [.lst (L.map dT)]=some (.int (((ddup L).length:Nat):Int)):=by
 show(tabs? (L.map dT)).bind _=_;rw[a7U,Qv];exact Qc ⟨hl,hk⟩
theorem c0I:a3x (W8.map fun w=>gm n n (tf w n f))=true:=by
 unfold a3x;rw[Qb];intro T hT;obtain⟨w,_,rfl⟩:=Qn.mp hT;rw[a1f];show(n==(gm n n (tf "stay" n f)).length)=true;rw[a1f];exact Vd _
abbrev F(Z:D)(k:Nat)(w2 w3 w4 w5 w6 w7 w8:W):Env':=[.dat Z,.dat (.int (k:Int)),w2,w3,w4,w5,w6,w7,w8]
abbrev b2:Mo Fl:=(y4_ (mT (z4_ (dEq true) (mCD 2 k7_ (z6_ (z0_ 3) (z6_ (z0_ 6) z8_))) (z0_ 3))) (v0_ (mC (.bl false))) mNx)
abbrev b1:Mo Fl:=(q3_ (y4_ (x9_ (mT (z4_ a5S (mCD 1 a2h (z6_ (z0_ 5) z8_)) (mC (.bl true)))) (mT (z4_ (dEq true) (mCD 1 a2j (z6_ (z0_ 5) z8_)) (mCD 1 a2j (z6_ (z0_ 3) z8_))))) (v0_ (mC (.bl false))) mNx) (y4_ (x9_ (mT (z4_ (dEq true) (mCD 1 a2i (z6_ (z0_ 5) z8_)) (z0_ 7))) (mT (z4_ (dEq true) (mCB x2_ (z2_ (mF (w0_ 1 a1d (z6_ (z0_ 5) z8_))) z7_)) (z0_ 8)))) (v0_ (mC (.bl false))) mNx))
abbrev b0:Mo Fl:=(q3_ (a0n 2 (w0_ 2 a3H (z6_ (z0_ 0) (z6_ (z0_ 1) z8_)))) (q3_ (y2_ 3 (mCD 3 a3J (a0k 2 (z6_ (mC (.int 1)) (z6_ (mC (.int 6)) z8_))))) (q3_ (a3i 7 8 (z2_ (mCD 1 a2i (z6_ (z0_ 3) z8_)) (z2_ (mCB x2_ (z2_ (mF (w0_ 1 a1d (z6_ (z0_ 3) z8_))) z7_)) z7_))) (q3_ (y4_ (x9_ (mT (z4_ (dEq true) (z4_ g0_ (mC (.int 8)) (z0_ 8)) (mC (.int 0)))) (mT (z4_ (dEq true) (z4_ dIx (mF (w0_ 1 a1d (z6_ (z0_ 3) z8_))) (mC (.int 0))) (mC (.str "stay"))))) (v0_ (mC (.bl false))) mNx) (q3_ (a0n 4 (y6_ (y9_ (mF (w0_ 0 a2U z8_))) [false,false,false,true,false,false,false,false,false] 1 (gN 9) x4_ (mCD 2 a0I (z6_ (z0_ 3) (z6_ (z0_ 9) z8_))))) (q3_ (g3_ (y9_ (z0_ 4)) (gN 5) b1) (q3_ (y4_ (x9_ (mT (z4_ (a4B true) (z0_ 7) (z0_ 4))) (mT (z4_ (dEq true) (z4_ w6_ (mCB a3y (z2_ (z0_ 4) z7_)) (z0_ 8)) (mC (.int 8))))) (v0_ (mC (.bl false))) mNx) (q3_ (g3_ (y9_ (mF (y1_ (z2_ (mF (u2_ 4 (y1_ (z2_ (mC (.str "left")) z7_)))) (z2_ (mF (y1_ (z2_ (mC (.str "right")) (z2_ (mC (.str "left")) z7_)))) (z2_ (mF (y1_ (z2_ (mC (.str "half")) (z2_ (mC (.str "half")) z7_)))) (z2_ (mF (u2_ 2 (y1_ (z2_ (mC (.str "upright")) z7_)))) (z2_ (mF (u2_ 2 (y1_ (z2_ (mC (.str "flat")) z7_)))) (z2_ (mF (u2_ 2 (y1_ (z2_ (mC (.str "slant")) z7_)))) z7_))))))))) (gN 6) b2) (q3_ (y4_ (x9_ (mT (z4_ (dEq true) (mCD 2 k7_ (z6_ (z0_ 3) (z6_ (mF (y1_ (z2_ (mC (.str "other")) (z2_ (mC (.str "other")) z7_)))) z8_))) (z0_ 3))) (mT (z4_ (dEq true) (mCD 2 k7_ (z6_ (z0_ 3) (z6_ (mF (y1_ (z2_ (mC (.str "left")) (z2_ (mC (.str "left")) z7_)))) z8_))) (z4_ dIx (z0_ 4) (mC (.int 2)))))) (v0_ (mC (.bl false))) mNx) (q3_ (y4_ (x9_ (mT (z4_ (dEq true) (mCD 2 k7_ (z6_ (z0_ 3) (z6_ (mF (y1_ (z2_ (mC (.str "upright")) (z2_ (mC (.str "flat")) z7_)))) z8_))) (z4_ dIx (z0_ 4) (mC (.int 2))))) (mT (z4_ (dEq true) (mCD 2 k7_ (z6_ (z0_ 3) (z6_ (mF (y1_ (z2_ (mC (.str "slant")) (z2_ (mC (.str "half")) z7_)))) z8_))) (z4_ dIx (z0_ 4) (mC (.int 7)))))) (v0_ (mC (.bl false))) mNx) (y4_ (mT (z4_ (dEq true) (mCD 2 k7_ (z6_ (z0_ 3) (z6_ (mF (u2_ 3 (y1_ (z2_ (mC (.str "left")) z7_)))) z8_))) (z4_ dIx (z0_ 4) (mC (.int 3))))) (v0_ (mC (.bl false))) mNx)))))))))))
theorem c0J{Z M:D}{k:Nat}{w2 w4 w6:W}{j:Nat}(hj:j<8)(h1:1≤n)(h6:n≤6)(T:TabF n f)(hM:a0E [.lst ((W8.map fun w=>gm n n (tf w n f)).map dT)]=some M)(hMM:dEq true M M=some (.bl false)):
  b1 (F Z k w2 (.dat (dT (gm n n f))) w4 (.dat (dT (gm n n (tI j n f)))) w6 (.dat M) (.dat (.int ((cnB (sI n f):Nat):Int))))=some (.nx,F Z k w2 (.dat (dT (gm n n f))) w4 (.dat (dT (gm n n (tI j n f)))) w6 (.dat M) (.dat (.int ((cnB (sI n f):Nat):Int)))):=by
 have T':=b2a T hj
 have it:=b1j (dT (gm n n (tI j n f)))
 rw[a7Q.mpr ⟨⟨h1,h6⟩,T'⟩]at it;obtain⟨_,m1⟩:=b2c h1 h6 T';obtain⟨_,m2⟩:=b2c h1 h6 T;rw[c0o n f hj]at m1;have le:=b1R h1 h6 T' ((c0x hj).trans hM);have ow:=b1Q h1 h6 T';have ol:x2_ [.lst ((W8.filter (own n (tI j n f))).map D.str)]=some (.int ((cnB (sI n f):Nat):Int)):=by
  show some (D.int _)=_;rw[Qk,c0u hj]
 generalize dT (gm n n (tI j n f))=A' at *;generalize dT (gm n n f)=A at *;generalize mS n f=m at *;generalize ((cnB (sI n f):Nat):Int)=c at *;generalize (W8.filter (own n (tI j n f))).map D.str=O at *;unfold b1;refine w8_ (a1a (a2M (j4_ (v2_ (c1 rfl it) rfl rfl)) (j4_ (v2_ (c1 rfl m1) (c1 rfl m2) (a5a m)))) rfl) ?_
 exact a1a (a2M (j4_ (v2_ (c1 rfl le) rfl hMM)) (j4_ (v2_ (a0e (w7_ (a0V (a3s (a1p (av:=[.d A']) rfl rfl rfl ow))) rfl) ol) rfl (a5a c)))) rfl
theorem c0K{Z A:D}{k:Nat}{w2 w4 w5 w7 w8:W}{l:D}(hA:dEq true A A=some (.bl false))(h:∃ws,k7_ [.dat A,.dat l]=some (.d A,ws)):
  b2 (F Z k w2 (.dat A) w4 w5 (.dat l) w7 w8)=some (.nx,F Z k w2 (.dat A) w4 w5 (.dat l) w7 w8):=by
 obtain⟨ws,h⟩:=h;exact a1a (j4_ (v2_ (a0g (av:=[.d A,.d l]) rfl rfl rfl h) rfl hA)) rfl
end
abbrev LL6:List (List Nat):=[[1,1,1,1],[3,1],[2,2],[4,4],[5,5],[6,6]]
abbrev DL6:List D:=[.lst [.str "left",.str "left",.str "left",.str "left"],.lst [.str "right",.str "left"],.lst [.str "half",.str "half"],.lst [.str "upright",.str "upright"],.lst [.str "flat",.str "flat"],.lst [.str "slant",.str "slant"]]
theorem dl6:(LL6.map fun l=>D.lst (l.map fun i=>D.str (wd i)))=DL6:=rfl
theorem c0L(e:Env'):y9_ (mF (y1_ (z2_ (mF (u2_ 4 (y1_ (z2_ (mC (.str "left")) z7_)))) (z2_ (mF (y1_ (z2_ (mC (.str "right")) (z2_ (mC (.str "left")) z7_)))) (z2_ (mF (y1_ (z2_ (mC (.str "half")) (z2_ (mC (.str "half")) z7_)))) (z2_ (mF (u2_ 2 (y1_ (z2_ (mC (.str "upright")) z7_)))) (z2_ (mF (u2_ 2 (y1_ (z2_ (mC (.str "flat")) z7_)))) (z2_ (mF (u2_ 2 (y1_ (z2_ (mC (.str "slant")) z7_)))) z7_)))))))) e=some (DL6,e):=rfl
theorem c0M(ns:List Int)(k:Nat)(hk:k<1000)(w2 w3 w4 w5 w6 w7 w8:W):∃ws':List W,ws'.length=8/\b0 (F (.lst (ns.map .int)) k w2 w3 w4 w5 w6 w7 w8)=some (.nx,.dat (.lst (ns.map .int))::ws'):=by
 obtain⟨a,b,a0,est⟩:=b9F ns k hk;generalize D.lst (ns.map .int)=Z at *;obtain⟨R,a1,et,a10,hR,_,_⟩:=b9T (a:=a) (l:=1) (m:=6) (b:=b) a0 (by decide) (by decide) (by decide)
 obtain⟨eR,TR⟩:=hR.fn;obtain⟨n,hn⟩:∃n,R.length=n:=⟨_,rfl⟩;have h1:1≤n:=by have:=hR.lo;omega
 have h6:n≤6:=by have:=hR.hi;omega
 rw[hn]at eR TR;rw[eR]at et;obtain⟨f,hf⟩:∃f,at2 R=f:=⟨_,rfl⟩;rw[hf]at et TR;clear eR hf hn;obtain⟨T0,t0,tm,_⟩:=a7W (L:=W8.map fun w=>gm n n (tf w n f)) (by simp)
 have le:=b1R h1 h6 TR tm
 have ow:=b1Q h1 h6 TR
 obtain⟨o8,on,od⟩:=c0v (n:=n) (f:=f);obtain⟨mc,md⟩:=c0G od;have ol:x2_ [.lst ((W8.filter (own n f)).map D.str)]=some (.int ((cnB (sI n f):Nat):Int)):=by
  show some (D.int _)=_;rw[Qk,b2h]
 obtain⟨r,or⟩:=c0w (n:=n) (f:=f);have os:dIx (.lst ((W8.filter (own n f)).map D.str)) (.int 0)=some (.str "stay"):=by
  rw[or];exact a2p (j:=0) rfl
 have ls:=c0H (L:=W8.map fun w=>gm n n (tf w n f)) (by simp) c0I
 have inn:=c0B t0
 have hMM:=a3Q T0
 have hAA:=a3Q (gm n n f)
 have ev:(W8.map fun w=>dT (gm n n (tf w n f)))=(W8.map fun w=>gm n n (tf w n f)).map dT:=by rw[Zx];rfl
 have turn:∀w∈W8,a0I [.dat (dT (gm n n f)),.dat (.str w)]=some (.d (dT (gm n n (tf w n f))),[.dat (dT (gm n n f)),.dat (.str w)]):=fun w hw=>b2n hw h1 h6 TR
 have i2:dIx (.lst ((W8.map fun w=>gm n n (tf w n f)).map dT)) (.int 2)=some (dT (gm n n (tI 2 n f))):=by
  rw[←a1g (i:=2) (by omega)];rfl
 have i3:dIx (.lst ((W8.map fun w=>gm n n (tf w n f)).map dT)) (.int 3)=some (dT (gm n n (tI 3 n f))):=by
  rw[←a1g (i:=3) (by omega)];rfl
 have i7:dIx (.lst ((W8.map fun w=>gm n n (tf w n f)).map dT)) (.int 7)=some (dT (gm n n (tI 7 n f))):=by
  rw[←a1g (i:=7) (by omega)];rfl
 have al6:∀l∈LL6,∃ws,k7_ [.dat (dT (gm n n f)),.dat (.lst (l.map fun i=>D.str (wd i)))]=some (.d (dT (gm n n f)),ws):=fun l hl=>by
  simp only[LL6,Qg,Zg,Uk]at hl;obtain rfl|rfl|rfl|rfl|rfl|rfl:=hl<;>exact a2W h1 h6 TR (by decide) rfl rfl
 obtain⟨_,a77⟩:∃ws,k7_ [.dat (dT (gm n n f)),.dat (.lst [.str "other",.str "other"])]=some (.d (dT (gm n n f)),ws):=a2W h1 h6 TR (l:=[7,7]) (by decide) rfl rfl
 obtain⟨_,a11⟩:∃ws,k7_ [.dat (dT (gm n n f)),.dat (.lst [.str "left",.str "left"])]=some (.d (dT (gm n n (tI 2 n f))),ws):=a2W h1 h6 TR (l:=[1,1]) (by decide) rfl rfl
 obtain⟨_,a45⟩:∃ws,k7_ [.dat (dT (gm n n f)),.dat (.lst [.str "upright",.str "flat"])]=some (.d (dT (gm n n (tI 2 n f))),ws):=a2W h1 h6 TR (l:=[4,5]) (by decide) rfl rfl
 obtain⟨_,a62⟩:∃ws,k7_ [.dat (dT (gm n n f)),.dat (.lst [.str "slant",.str "half"])]=some (.d (dT (gm n n (tI 7 n f))),ws):=a2W h1 h6 TR (l:=[6,2]) (by decide) rfl rfl
 obtain⟨_,a111⟩:∃ws,k7_ [.dat (dT (gm n n f)),.dat (.lst [.str "left",.str "left",.str "left"])]=some (.d (dT (gm n n (tI 3 n f))),ws):=a2W h1 h6 TR (l:=[1,1,1]) (by decide) rfl rfl
 have n2:=a3Q (gm n n (tI 2 n f))
 have n3:=a3Q (gm n n (tI 3 n f))
 have n7:=a3Q (gm n n (tI 7 n f))
 have lp1:∃x5,loop (gN 5) b1 ((W8.map fun w=>gm n n (tf w n f)).map dT) (F Z k (.own [.int a1,.bl b]) (.dat (dT (gm n n f))) (.dat (.lst ((W8.map fun w=>gm n n (tf w n f)).map dT))) w5 w6 (.dat (dT T0)) (.dat (.int ((cnB (sI n f):Nat):Int))))=some (.nx,F Z k (.own [.int a1,.bl b]) (.dat (dT (gm n n f))) (.dat (.lst ((W8.map fun w=>gm n n (tf w n f)).map dT))) x5 w6 (.dat (dT T0)) (.dat (.int ((cnB (sI n f):Nat):Int)))):=by
  obtain⟨e',l1,x5,rfl⟩:=a6d (g:=gN 5) (b:=b1) (P:=fun e=>∃x5,e=F Z k (.own [.int a1,.bl b]) (.dat (dT (gm n n f))) (.dat (.lst ((W8.map fun w=>gm n n (tf w n f)).map dT))) x5 w6 (.dat (dT T0)) (.dat (.int ((cnB (sI n f):Nat):Int)))) (ds:=(W8.map fun w=>gm n n (tf w n f)).map dT) (env:=F Z k (.own [.int a1,.bl b]) (.dat (dT (gm n n f))) (.dat (.lst ((W8.map fun w=>gm n n (tf w n f)).map dT))) w5 w6 (.dat (dT T0)) (.dat (.int ((cnB (sI n f):Nat):Int)))) (fun d hd e ⟨x5,he⟩=>by
   subst he;obtain⟨V,hV,rfl⟩:=Qn.mp hd;obtain⟨w,hw,rfl⟩:=Qn.mp hV;rw[a3P]at hw;obtain⟨j,hj,rfl⟩:=Qn.mp hw;have hj:=Qy.mp hj;rw[a1g hj];exact⟨_,_,rfl,c0J hj h1 h6 TR tm hMM,_,rfl⟩) ⟨_,rfl⟩
  exact⟨x5,l1⟩
 obtain⟨x5,lp1⟩:=lp1;generalize ((cnB (sI n f):Nat):Int)=c at *;generalize hE:(W8.map fun w=>gm n n (tf w n f)).map dT=Ev at *
 generalize dT T0=M at *;generalize (W8.filter (own n f)).map D.str=O at *;generalize (((ddup (W8.map fun w=>gm n n (tf w n f))).length:Nat):Int)=x at *
 have lp2:∃x6,loop (gN 6) b2 DL6 (F Z k (.own [.int a1,.bl b]) (.dat (dT (gm n n f))) (.dat (.lst Ev)) x5 w6 (.dat M) (.dat (.int c)))=some (.nx,F Z k (.own [.int a1,.bl b]) (.dat (dT (gm n n f))) (.dat (.lst Ev)) x5 x6 (.dat M) (.dat (.int c))):=by
  obtain⟨e',l1,x6,rfl⟩:=a6d (g:=gN 6) (b:=b2) (P:=fun e=>∃x6,e=F Z k (.own [.int a1,.bl b]) (.dat (dT (gm n n f))) (.dat (.lst Ev)) x5 x6 (.dat M) (.dat (.int c))) (ds:=DL6) (env:=F Z k (.own [.int a1,.bl b]) (.dat (dT (gm n n f))) (.dat (.lst Ev)) x5 w6 (.dat M) (.dat (.int c))) (fun d hd e ⟨x6,he⟩=>by
   subst he;rw[←dl6]at hd;obtain⟨l,hl,rfl⟩:=Qn.mp hd;exact⟨_,_,rfl,c0K hAA (al6 l hl),_,rfl⟩) ⟨_,rfl⟩
  exact⟨x6,l1⟩
 obtain⟨x6,lp2⟩:=lp2;have comp:y6_ (y9_ (mF (w0_ 0 a2U z8_))) [false,false,false,true,false,false,false,false,false] 1 (gN 9) x4_ (mCD 2 a0I (z6_ (z0_ 3) (z6_ (z0_ 9) z8_))) (F Z k (.own [.int a1,.bl b]) (.dat (dT (gm n n f))) w4 w5 w6 (.dat M) (.dat (.int c)))=some (Ev,F Z k (.own [.int a1,.bl b]) (.dat (dT (gm n n f))) w4 w5 w6 (.dat M) (.dat (.int c))):=by
  rw[←ev];exact a4K (α:=Str) (l:=W8) (q:=D.str) (f:=fun w=>dT (gm n n (tf w n f))) (base:=[.nil,.nil,.nil,.dat (dT (gm n n f)),.nil,.nil,.nil,.nil,.nil]) (a3q (c0D _) rfl) (by decide) rfl rfl (fun w hw=>a0g (av:=[.d (dT (gm n n f)),.d (.str w)]) rfl rfl rfl (turn w hw)) (fun _=>rfl)
 generalize dT (gm n n f)=A at *;generalize dT (gm n n (tI 2 n f))=A2 at *;generalize dT (gm n n (tI 3 n f))=A3 at *;generalize dT (gm n n (tI 7 n f))=A7 at *;refine⟨[.dat (.int k),.own [.int a1,.bl b],.dat A,.dat (.lst Ev),x5,x6,.dat M,.dat (.int c)],rfl,?_⟩;unfold b0;refine w8_ (b0Z (e1:=F Z k w2 w3 w4 w5 w6 w7 w8) (e2:=F Z k (.own [.int a,.bl b]) w3 w4 w5 w6 w7 w8) (a3s (a1p (av:=[.d Z,.d (.int k)]) rfl rfl rfl est)) rfl) ?_
 refine w8_ (a6L (d:=A) (e1:=F Z k (.own [.int a1,.bl b]) w3 w4 w5 w6 w7 w8) (e2:=F Z k (.own [.int a1,.bl b]) (.dat A) w4 w5 w6 w7 w8) (a2H ((a6h (e1:=F Z k (.own [.int a,.bl b]) w3 w4 w5 w6 w7 w8) (w:=.own [.int a,.bl b]) (av:=[.sl 2,.d (.int 1),.d (.int 6)]) (i:=2) (c:=[.int a,.bl b]) (c':=[.int a1,.bl b]) rfl rfl rfl rfl rfl et rfl).trans rfl)) rfl) ?_
 refine w8_ (b8g (a:=M) (b:=.int c) (e1:=F Z k (.own [.int a1,.bl b]) (.dat A) w4 w5 w6 w7 w8) (e2:=F Z k (.own [.int a1,.bl b]) (.dat A) w4 w5 w6 (.dat M) (.dat (.int c))) (w7_ (c1 rfl le) (w7_ (a0e (w7_ (a0V (a3s (a1p (av:=[.d A]) rfl rfl rfl ow))) rfl) ol) rfl)) rfl) ?_
 refine w8_ (a1a (a2M (j4_ (v2_ (v2_ rfl rfl md) rfl (a5a 0))) (j4_ (v2_ (v2_ (a0V (a3s (a1p (av:=[.d A]) rfl rfl rfl ow))) rfl os) rfl c0A))) rfl) ?_
 refine w8_ (b0Z (e2:=F Z k (.own [.int a1,.bl b]) (.dat A) (.own Ev) w5 w6 (.dat M) (.dat (.int c))) comp rfl) ?_
 refine w8_ ((a3r (a3q (ds:=Ev) (e1:=F Z k (.own [.int a1,.bl b]) (.dat A) (.dat (.lst Ev)) w5 w6 (.dat M) (.dat (.int c))) rfl rfl)).trans lp1) ?_
 refine w8_ (a1a (a2M (j4_ (v2_ rfl rfl inn)) (j4_ (v2_ (v2_ (a0e (w7_ rfl rfl) ls) rfl mc) rfl (a5a 8)))) rfl) ?_
 refine w8_ ((a3r (c0L _)).trans lp2) ?_
 refine w8_ (a1a (a2M (j4_ (v2_ (a0g (av:=[.d A,.d (.lst [.str "other",.str "other"])]) rfl rfl rfl a77) rfl hAA)) (j4_ (v2_ (a0g (av:=[.d A,.d (.lst [.str "left",.str "left"])]) rfl rfl rfl a11) (v2_ rfl rfl i2) n2))) rfl) ?_
 refine w8_ (a1a (a2M (j4_ (v2_ (a0g (av:=[.d A,.d (.lst [.str "upright",.str "flat"])]) rfl rfl rfl a45) (v2_ rfl rfl i2) n2)) (j4_ (v2_ (a0g (av:=[.d A,.d (.lst [.str "slant",.str "half"])]) rfl rfl rfl a62) (v2_ rfl rfl i7) n7))) rfl) ?_
 exact a1a (j4_ (v2_ (a0g (av:=[.d A,.d (.lst [.str "left",.str "left",.str "left"])]) rfl rfl rfl a111) (v2_ rfl rfl i3) n3)) rfl
theorem c0N:∀ns:List Int,ns.length≤63->∃ws',a4P [.dat (.lst (ns.map D.int))]=some (.d (.bl true),ws'):=by
 intro ns hns;refine b8e (C:=6) (N:=7) (by decide) (by decide) (fun k hk ws hw=>?_) fun ws hw=>?_
 ·match ws,hw with
  |[w2,w3,w4,w5,w6,w7,w8],_=>exact c0M ns k hk w2 w3 w4 w5 w6 w7 w8
 ·exact⟨_,j3_ rfl⟩
end K53
namespace K53
open L2 L2.Mir PySem
abbrev md0:Value:=.str "turnsigns.grids" 239
abbrev md1:Value:=.str "turnsigns.tables" 275
abbrev md2:Value:=.str "turnsigns.turned" 301
abbrev md3:Value:=.str "turnsigns.weights" 418
abbrev md4:Value:=.str "law_turnsigns_k53_whole_turned" 426
theorem c0O{P:Program}(w:World)(mg:OU)(fa:Addr)(h:Heap)(X:(hK w.params).In h)(G:h.Ns mainGlobals mg)(hfa:mg "law"=some (.ref fa)):
 ∃fd:FuncData,(∀(s:Shared) (v:Value),BindsTo s fd ⟨[v],[]⟩ [("_law_script",v)])/\∀base:Heap,(hK w.params).In base->base.Ns mainGlobals mg->FnOk P w (hK w.params) mg base CX0 9 fa fd ["_law_script"] (SpF (hK w.params) 1 a4P):=by
 have⟨A1,A2,A3,A4,A5,A6,A7,A8,A9,A10,A11,A12,A13,A14,A15,A16,A17,A18,A19,A20,A21,A22,A23,A24,A25,A26,A27,A28,A29,A30,A31⟩:DfAt (hK w.params) "is_whole" a6M 58 md0 57/\DfAt (hK w.params) "is_row" a6N 63 md0 62/\DfAt (hK w.params) "is_grid" a6O 68 md0 67/\DfAt (hK w.params) "is_square" a6P 75 md0 74/\DfAt (hK w.params) "flipped" a6Q 80 md0 79/\DfAt (hK w.params) "takes_turns" a6R 87 md1 86/\DfAt (hK w.params) "is_table" a6S 92 md1 91/\DfAt (hK w.params) "must_be_table" a6T 99 md1 98/\DfAt (hK w.params) "stayed" a6U 106 md2 105/\DfAt (hK w.params) "turned_left" a6V 113 md2 112/\DfAt (hK w.params) "turned_half" a6W 120 md2 119/\DfAt (hK w.params) "turned_right" a6X 127 md2 126/\DfAt (hK w.params) "told_upright" a6Y 132 md2 131/\DfAt (hK w.params) "told_flat" a6Z 139 md2 138/\DfAt (hK w.params) "told_slant" a7a 146 md2 145/\DfAt (hK w.params) "told_other" a7b 153 md2 152/\DfAt (hK w.params) "is_turn" a7c 161 md2 160/\DfAt (hK w.params) "must_be_turn" a7d 168 md2 167/\DfAt (hK w.params) "brought" a7e 175 md2 174/\DfAt (hK w.params) "turned" a7f 182 md2 181/\DfAt (hK w.params) "own_turns" a7g 187 md2 186/\DfAt (hK w.params) "least_turned" a7h 192 md2 191/\DfAt (hK w.params) "minus_many" a7i 197 md3 196/\DfAt (hK w.params) "_law_cell_at" a7j 204 md4 203/\DfAt (hK w.params) "_law_state" a7k 211 md4 210/\DfAt (hK w.params) "_law_take" a7l 218 md4 217/\DfAt (hK w.params) "_law_lines" a7m 223 md4 222/\DfAt (hK w.params) "_law_table" a7n 228 md4 227/\DfAt (hK w.params) "_law_turn_words" a7o 235 md4 234/\DfAt (hK w.params) "_law_along" a7p 242 md4 241/\DfAt (hK w.params) "law" a2N 247 md4 246:=by refine⟨?_,?_,?_,?_,?_,?_,?_,?_,?_,?_,?_,?_,?_,?_,?_,?_,?_,?_,?_,?_,?_,?_,?_,?_,?_,?_,?_,?_,?_,?_,?_⟩<;>constructor<;>kernel_rfl
 have e:=hfa.symm.trans (Yn X G A31.a)
 cases e;have T:Txt (hK w.params) mg:=⟨Zu X G (by kernel_rfl),Zu X G (by kernel_rfl),Zu X G (by kernel_rfl),Zu X G (by kernel_rfl),Zu X G (by kernel_rfl),Zu X G (by kernel_rfl),Zu X G (by kernel_rfl),Zu X G (by kernel_rfl),Zu X G (by kernel_rfl),Zu X G (by kernel_rfl),Zu X G (by kernel_rfl),Zu X G (by kernel_rfl),Zu X G (by kernel_rfl),Zu X G (by kernel_rfl),⟨_,A16.a,A16.g X G,a1s (by kernel_rfl)⟩,⟨_,A15.a,A15.g X G,a1s (by kernel_rfl)⟩,⟨_,A14.a,A14.g X G,a1s (by kernel_rfl)⟩,⟨_,A13.a,A13.g X G,a1s (by kernel_rfl)⟩,⟨_,A12.a,A12.g X G,a1s (by kernel_rfl)⟩,⟨_,A11.a,A11.g X G,a1s (by kernel_rfl)⟩,⟨_,A10.a,A10.g X G,a1s (by kernel_rfl)⟩,⟨_,A9.a,A9.g X G,a1s (by kernel_rfl)⟩,⟨277,Yn X G (by kernel_rfl)⟩⟩
 have b1:=A1.f.binds (ps:=["thing"]) fun _ _ _ _ _ _=>us1 fun _=>rfl
 have b2:=A2.f.binds (ps:=["thing","width"]) fun _ _ _ _ _ _=>us2 fun _ _=>rfl
 have b3:=A3.f.binds (ps:=["thing","many","width"]) fun _ _ _ _ _ _=>us3 fun _ _ _=>rfl
 have b4:=A4.f.binds (ps:=["thing","least","greatest"]) fun _ _ _ _ _ _=>us3 fun _ _ _=>rfl
 have b5:=A5.f.binds (ps:=["grid"]) fun _ _ _ _ _ _=>us1 fun _=>rfl
 have b6:=A6.f.binds (ps:=["line"]) fun _ _ _ _ _ _=>us1 fun _=>rfl
 have b7:=A7.f.binds (ps:=["thing"]) fun _ _ _ _ _ _=>us1 fun _=>rfl
 have b8:=A8.f.binds (ps:=["thing"]) fun _ _ _ _ _ _=>us1 fun _=>rfl
 have b9:=A9.f.binds (ps:=["table"]) fun _ _ _ _ _ _=>us1 fun _=>rfl
 have b10:=A10.f.binds (ps:=["table"]) fun _ _ _ _ _ _=>us1 fun _=>rfl
 have b11:=A11.f.binds (ps:=["table"]) fun _ _ _ _ _ _=>us1 fun _=>rfl
 have b12:=A12.f.binds (ps:=["table"]) fun _ _ _ _ _ _=>us1 fun _=>rfl
 have b13:=A13.f.binds (ps:=["table"]) fun _ _ _ _ _ _=>us1 fun _=>rfl
 have b14:=A14.f.binds (ps:=["table"]) fun _ _ _ _ _ _=>us1 fun _=>rfl
 have b15:=A15.f.binds (ps:=["table"]) fun _ _ _ _ _ _=>us1 fun _=>rfl
 have b16:=A16.f.binds (ps:=["table"]) fun _ _ _ _ _ _=>us1 fun _=>rfl
 have b17:=A17.f.binds (ps:=["thing"]) fun _ _ _ _ _ _=>us1 fun _=>rfl
 have b18:=A18.f.binds (ps:=["thing"]) fun _ _ _ _ _ _=>us1 fun _=>rfl
 have b19:=A19.f.binds (ps:=["table","turn"]) fun _ _ _ _ _ _=>us2 fun _ _=>rfl
 have b20:=A20.f.binds (ps:=["table","turn"]) fun _ _ _ _ _ _=>us2 fun _ _=>rfl
 have b21:=A21.f.binds (ps:=["table"]) fun _ _ _ _ _ _=>us1 fun _=>rfl
 have b22:=A22.f.binds (ps:=["table"]) fun _ _ _ _ _ _=>us1 fun _=>rfl
 have b23:=A23.f.binds (ps:=["table"]) fun _ _ _ _ _ _=>us1 fun _=>rfl
 have b24:=A24.f.binds (ps:=["_law_script","_law_k"]) fun _ _ _ _ _ _=>us2 fun _ _=>rfl
 have b25:=A25.f.binds (ps:=["_law_script","_law_k"]) fun _ _ _ _ _ _=>us2 fun _ _=>rfl
 have b26:=A26.f.binds (ps:=["_law_state_here","_law_many"]) fun _ _ _ _ _ _=>us2 fun _ _=>rfl
 have b27:=A27.f.binds (ps:=["_law_held"]) fun _ _ _ _ _ _=>us1 fun _=>rfl
 have b28:=A28.f.binds (ps:=["_law_state_here","_law_least","_law_most"]) fun _ _ _ _ _ _=>us3 fun _ _ _=>rfl
 have b29:=A29.f.binds (ps:=[]) fun _ _ _ _ _ _ us hl=>match us,hl with|[],_=>rfl
 have b30:=A30.f.binds (ps:=["_law_table_here","_law_turns"]) fun _ _ _ _ _ _=>us2 fun _ _=>rfl
 have b31:=A31.f.binds (ps:=["_law_script"]) fun _ _ _ _ _ _=>us1 fun _=>rfl
 refine⟨PySem.W.fnOf "law" "law" (a1H a2N) (a0M a2N) (v6_ a2N) .none .none .none (.str "law_turnsigns_k53_whole_turned" 426) none (.ref 246) .none,fun s v=>.of_eq rfl,fun base _ _=>?_⟩
 have k_TURNS:DfG P w (hK w.params) mg "TURNS" [("stay","stayed"),("left","turned_left"),("half","turned_half"),("right","turned_right"),("upright","told_upright"),("flat","told_flat"),("slant","told_slant"),("other","told_other")]:=b7e (es:=[HG.hE w.params "stay" 358 (.ref 106),HG.hE w.params "left" 359 (.ref 113),HG.hE w.params "half" 360 (.ref 120),HG.hE w.params "right" 361 (.ref 127),HG.hE w.params "upright" 362 (.ref 132),HG.hE w.params "flat" 363 (.ref 139),HG.hE w.params "slant" 364 (.ref 146),HG.hE w.params "other" 365 (.ref 153)]) (ep:=8) (Yn X G (v:=.ref 154) (by kernel_rfl)) (by kernel_rfl) (by decide) (.cons ⟨_,rfl⟩ rfl rfl (Yn X G (v:=.ref 106) (by kernel_rfl)) (.cons ⟨_,rfl⟩ rfl rfl (Yn X G (v:=.ref 113) (by kernel_rfl)) (.cons ⟨_,rfl⟩ rfl rfl (Yn X G (v:=.ref 120) (by kernel_rfl)) (.cons ⟨_,rfl⟩ rfl rfl (Yn X G (v:=.ref 127) (by kernel_rfl)) (.cons ⟨_,rfl⟩ rfl rfl (Yn X G (v:=.ref 132) (by kernel_rfl)) (.cons ⟨_,rfl⟩ rfl rfl (Yn X G (v:=.ref 139) (by kernel_rfl)) (.cons ⟨_,rfl⟩ rfl rfl (Yn X G (v:=.ref 146) (by kernel_rfl)) (.cons ⟨_,rfl⟩ rfl rfl (Yn X G (v:=.ref 153) (by kernel_rfl)) (.nil)))))))))
 have d_is_whole:=dM P w base (b8k A1.f T ) A1 X G b1
 have d_is_row:=dM P w base (b8m A2.f T d_is_whole) A2 X G b2
 have d_is_grid:=dM P w base (b8o A3.f T d_is_row) A3 X G b3
 have d_is_square:=dM P w base (b8q A4.f T d_is_grid) A4 X G b4
 have d_flipped:=dM P w base (b8s A5.f T ) A5 X G b5
 have d_takes_turns:=dM P w base (b8t A6.f T ) A6 X G b6
 have d_is_table:=dM P w base (b8v A7.f T d_is_square d_takes_turns d_flipped) A7 X G b7
 have d_must_be_table:=dM P w base (b8x A8.f T d_is_table) A8 X G b8
 have d_stayed:=dM P w base (b8A A9.f T ) A9 X G b9
 have d_turned_left:=dM P w base (b8C A10.f T d_flipped) A10 X G b10
 have d_turned_half:=dM P w base (b8E A11.f T d_turned_left) A11 X G b11
 have d_turned_right:=dM P w base (b8G A12.f T d_turned_left d_turned_half) A12 X G b12
 have d_told_upright:=dM P w base (b8I A13.f T ) A13 X G b13
 have d_told_flat:=dM P w base (b8K A14.f T ) A14 X G b14
 have d_told_slant:=dM P w base (b8M A15.f T d_flipped) A15 X G b15
 have d_told_other:=dM P w base (b8O A16.f T d_turned_half d_told_slant) A16 X G b16
 have d_is_turn:=dM P w base (b8Q A17.f T k_TURNS) A17 X G b17
 have d_must_be_turn:=dM P w base (b8S A18.f T d_is_turn) A18 X G b18
 have d_brought:=dM P w base (b8T A19.f T d_stayed d_turned_left d_turned_half d_turned_right d_told_upright d_told_flat d_told_slant d_told_other k_TURNS) A19 X G b19
 have d_turned:=dM P w base (b8V A20.f T d_must_be_table d_must_be_turn d_brought) A20 X G b20
 have d_own_turns:=dM P w base (b8X A21.f T d_must_be_table d_brought k_TURNS) A21 X G b21
 have d_least_turned:=dM P w base (b8Z A22.f T d_must_be_table d_brought k_TURNS) A22 X G b22
 have d_minus_many:=dM P w base (b9b A23.f T d_must_be_table) A23 X G b23
 have d__law_cell_at:=dM P w base (b9d A24.f T ) A24 X G b24
 have d__law_state:=dM P w base (b9e A25.f T d__law_cell_at) A25 X G b25
 have d__law_take:=dM P w base (b9f A26.f T ) A26 X G b26
 have d__law_lines:=dM P w base (b9h A27.f T ) A27 X G b27
 have d__law_table:=dM P w base (b9i A28.f T d__law_take d__law_lines) A28 X G b28
 have d__law_turn_words:=dM P w base (b9l A29.f T ) A29 X G b29
 have d__law_along:=dM P w base (b9m A30.f T d_turned) A30 X G b30
 exact b9p A31.f T d__law_state d__law_table d_least_turned d_turned d__law_along d_own_turns d__law_turn_words d_is_table d_minus_many
end K53
theorem PySem.Challenge.cw_turnsigns_k53_whole_turned_holds : PySem.Challenge.rw_turnsigns_k53_whole_turned.Holds :=
 K53.b2A (L2.Mir.b6k (l:=PySem.Challenge.rw_turnsigns_k53_whole_turned) (k:=9) (x := "_law_script") (fn:=K53.a4P) rfl rfl ⟨rfl,by decide,by decide⟩ (fun w h Y=>PySem.W.km_in_of Y) K53.c0O K53.c0N)
