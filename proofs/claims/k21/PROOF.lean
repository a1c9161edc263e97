import PyProof.Rows.All
import Wide.All
import OpenK.AllK
import Wide.FinOn
import Lean
import PyProof.EqAt
import PyProof.EqKinds
import PyProof.TupleCall
import PySem.Challenge.RW_turnsigns_k21_nets_and_kinds_of_squares
set_option Elab.async false
set_option linter.all false
set_option maxRecDepth 100000
set_option maxHeartbeats 0
abbrev Qq:=@PySem.wpAny_bind
abbrev Qz:=PySem.W.Frag
abbrev Qj:=@PySem.wpAny_pure
abbrev Qx:=@PySem.Heap.get?_push_of_some
abbrev Qk:=@Option.bind_some
abbrev Qv:=@List.length_map
abbrev Qw:=@List.all_eq_true
abbrev Qy:=@List.getElem?_eq_some_iff
abbrev Qu:=@PySem.Heap.get?_push_size
abbrev Qp:=@Bool.and_eq_true
abbrev Qb:=@Nat.le_refl
abbrev Qg:=@PySem.Heap.lt_size
abbrev Qh:=@if_pos
abbrev Qm:=@if_neg
abbrev Qn:=@List.size_toArray
abbrev Qc:=@List.mem_cons
abbrev Ql:=@List.getElem?_set_ne
abbrev Qd:=@List.map_cons
abbrev Qr:=@Nat.lt_of_lt_of_le
abbrev Qs:=@Bool.false_eq_true
abbrev Qi:=@Nat.ne_of_lt
abbrev Qt:=@List.length_append
abbrev Qa:=@List.mem_map
abbrev Qe:=@decide_eq_false
abbrev Qo:=@Bool.false_ne_true
abbrev Zq:=@PySem.wpAny_newObj_type
abbrev Zz:=@List.getElem?_eq_getElem
abbrev Zj:=@PySem.mem_of_lookup
abbrev Zx:=@Array.getElem?_eq_getElem
abbrev Zk:=@List.map_map
abbrev Zv:=@PySem.W.kia_one
abbrev Zw:=@PyProof.Rows.slot_tuple_getitem
abbrev Zy:=@List.not_mem_nil
abbrev Zu:=@List.map_congr_left
abbrev Zp:=@List.mem_cons_of_mem
abbrev Zb:=@PySem.wpAny_call_entry
abbrev Zg:=@PySem.wpAny_callSpecial?_slot
abbrev Zf:=@List.mem_cons_self
abbrev Zh:=@Ne.symm
abbrev Zm:=@PySem.W.mg_none_of
abbrev Zn:=@PySem.wpAny_mono
abbrev Zc:=@if_false
abbrev Zl:=@List.mem_range
abbrev Zd:=@List.getElem?_map
abbrev Zr:=@List.mem_append_right
abbrev Zs:=@Option.some.inj
abbrev Zi:=@decide_eq_true_eq
abbrev Zt:=@Nat.le_trans
abbrev Za:=@List.length_set
abbrev Ze:=@PySem.wpAny_field
abbrev Zo:=@Int.toNat_natCast
abbrev Yq:=@Option.some.injEq
abbrev Yz:=@List.getElem?_set_self
abbrev Yj:=@PySem.wpAny_holding
abbrev Yx:=@PySem.W.kia_tup
abbrev Yk:=@List.length_replicate
abbrev Yv:=@PySem.wpAny_dictEntries
abbrev Yw:=@if_true
abbrev Yy:=@Bool.true_and
abbrev Yu:=@List.replicate_succ
abbrev Yp:=@PySem.wpAny_truthy_bool
abbrev Yb:=@PySem.W.kitx_dict
abbrev Yg:=@Option.isSome_iff_exists
abbrev Yh:=@PySem.Heap.size_push
abbrev Ym:=@List.mem_append
abbrev Yn:=@List.map_append
abbrev Yc:=@List.mem_of_getElem?
abbrev Yl:=@List.getElem_mem
abbrev Yd:=@PySem.wpAny_seqItems
abbrev Yr:=@beq_eq_false_iff_ne
abbrev Ys:=@congrArg
abbrev Yi:=@List.length_zipWith
abbrev Yt:=@List.append_nil
abbrev Ye:=@Classical.byContradiction
abbrev Yo:=@PySem.wpAny_isInstance
abbrev Jq:=@PySem.F.slot_dict_valueiterator_next
abbrev Jz:=@PySem.W.Fast.te14364793385576792824
abbrev Jj:=@or_false
abbrev Jx:=@PySem.F.slot_dict_keyiterator_next
abbrev Jk:=@Array.length_toList
abbrev Jv:=@PySem.Heap.SameBut.update
abbrev Jw:=@Nat.lt_irrefl
abbrev Jy:=@List.all_cons
abbrev Ju:=@beq_iff_eq
abbrev Jp:=@List.length_take
abbrev Jb:=@PySem.F.slot_tuple_iterator_next
abbrev Jg:=@List.length_cons
abbrev Jf:=@Bool.false_and
abbrev Jh:=@List.getElem?_zipWith
abbrev Jm:=@List.getElem?_append_left
abbrev Jn:=@PySem.wpAny_loadPart'
abbrev Jc:=@PySem.wpAny_dictEpoch
abbrev Jl:=@PySem.wpAny_typeNameOfWhole_valiter
abbrev Jd:=@PySem.wpAny_typeNameOfWhole_keyiter
abbrev Jr:=@List.getElem?_replicate
abbrev Js:=@List.filterMap_cons
abbrev Ji:=@decide_eq_true
abbrev Jt:=@PySem.SeqAt.canLay_of_shaped
abbrev Ja:=@PySem.W.hideAll_get
abbrev Je:=@PySem.Obj.data_mapFields
abbrev Jo:=@PySem.wpAny_setField_rec
abbrev Uq:=@PySem.Heap.get?_update_self
abbrev Uz:=@PySem.wpAny_notOrdered_dict
abbrev Uj:=@congrFun
abbrev Ux:=@PySem.wpAny_attempt
abbrev Uk:=@Bool.not_true
abbrev Uv:=@List.append_assoc
abbrev Uw:=@PySem.wpAny_pyIter_list
abbrev Uy:=@Nat.le_of_succ_le
abbrev Uu:=@Prod.ext
abbrev Up:=@Nat.le_of_lt
abbrev Ub:=@PySem.wpAny_typeNameOf_valiter
abbrev Ug:=@PySem.wpAny_typeNameOf_keyiter
abbrev Uh:=@PySem.F.slot_tuple_hash
abbrev Um:=@PySem.F.plainAttrs_dict
abbrev Uc:=@List.filter_cons_of_pos
abbrev Ul:=@List.filter_cons_of_neg
abbrev Ud:=@PySem.wpAny_rule
abbrev Ur:=@PySem.wpAny_Call_Name_kw
abbrev Us:=@PySem.wpAny_ite_false
abbrev Ui:=@Int.emod_nonneg
abbrev Ut:=@PySem.W.cellsFrom_some
abbrev Ua:=@List.take_of_length_le
abbrev Ue:=@List.flatten_cons
abbrev Uo:=@PySem.wpAny_typeOf
abbrev Vq:=@Nat.lt_trans
abbrev Vz:=@PySem.wpAny_setField
abbrev Vj:=@PySem.F.slot_zip_next
abbrev Vx:=@PySem.F.slot_tuple_eq
abbrev Vk:=@PyProof.Rows.callWith_type1
abbrev Vv:=@PySem.wpAny_forIn_list
abbrev Vw:=@PySem.F.args_dict_valueiterator_next_1
abbrev Vy:=@List.mem_filter
abbrev Vu:=@PySem.wpAny_execs_nil
abbrev Vp:=@PySem.wpAny_passesOwn
abbrev Vb:=@List.of_mem_zip
abbrev Vg:=@PySem.wpAny_specialOf
abbrev Vf:=@List.drop_eq_getElem_cons
abbrev Vh:=@List.cons.injEq
abbrev Vm:=@List.range_succ
abbrev Vn:=@PySem.F.entry_dict_valueiterator_next
abbrev Vc:=@List.map_nil
abbrev Vl:=@PySem.wpAny_pyIter_tuple
abbrev Vd:=@PySem.F.args_tuple_add_2
abbrev Vr:=@PySem.F.args_dict_keyiterator_next_1
abbrev Vs:=@List.mem_singleton
abbrev Vi:=@PySem.F.slot_dict_values
abbrev Vt:=@Int.emod_lt_of_pos
abbrev Va:=@PySem.call_meets
abbrev Ve:=@PySem.F.entry_dict_keyiterator_next
abbrev Vo:=@PySem.F.plainAttrs_list
abbrev Xq:=@PySem.F.entry_tuple_add
abbrev Xz:=@PySem.W.kitx_list
abbrev Xj:=@PySem.F.args_tuple_iterator_next_1
abbrev Xx:=@Nat.zero_le
abbrev Xk:=@PySem.F.slot_tuple_add
abbrev Xv:=@PySem.F.entry_tuple_iterator_next
abbrev Xw:=@Array.getElem?_eq_none
abbrev Xy:=@List.map_id
abbrev Xu:=@PySem.wpAny_onRaise
abbrev Xp:=@List.length_drop
abbrev Xb:=@PySem.F.slot_tuple_mul
abbrev Xg:=@Nat.le_add_right
abbrev Xf:=@PySem.Obj.isFreed_of_fields
abbrev Xh:=@PySem.isSubtype_tuple_tuple
abbrev Xm:=@PySem.wpAny_isOneOf_valiter
abbrev Xn:=@List.mem_append_left
abbrev Xc:=@Nat.ne_of_gt
abbrev Xl:=@PySem.codeAny_mono
abbrev Xd:=@List.nodup_cons
abbrev Xr:=@PySem.pushCells_keeps
abbrev Xs:=@PySem.wpAny_updateSeq_pair
abbrev Xi:=@PySem.F.slot_dict_values_iter
abbrev Xa:=@PySem.wpAny_fieldsOf
abbrev Xe:=@PySem.wpAny_Constant_int
abbrev Xo:=@List.mem_filterMap
abbrev Tq:=@PySem.W.kitx_tuple
abbrev Tz:=@Nat.lt_of_le_of_lt
abbrev Tj:=@List.contains_cons
abbrev Tx:=@PySem.wpAny_tupleItemsOf
abbrev Tv:=@Array.forIn_toList
abbrev Tw:=@List.zip_cons_cons
abbrev Tu:=@PySem.wpAny_standAt
abbrev Tp:=@PySem.W.mg_of
abbrev Tg:=@Nat.add_assoc
abbrev Tf:=@List.sum_cons
abbrev Th:=@List.reverse_cons
abbrev Tn:=@Nat.lt_succ_of_lt
abbrev Tc:=@Bool.not_eq_true'
abbrev Tl:=@List.length_range
abbrev Tr:=@List.drop_length
abbrev Ts:=@List.range'_succ
abbrev Ti:=@beq_self_eq_true
abbrev Tt:=@List.foldl_cons
abbrev Ta:=@List.nil_append
abbrev To:=@Bool.or_eq_true
abbrev Pq:=@List.countP_map
abbrev Pz:=@Nat.min_eq_left
abbrev Pj:=@List.all_append
abbrev OO:=Nat->Nat->Int
abbrev OI:=List (List Int)
abbrev OU:=PySem.Str->Option PySem.Value
abbrev OE:=PySem.Value->PySem.Shared->Prop
abbrev OA:=PySem.Addr->Prop
abbrev OX:=List (PySem.Addr×PySem.Obj)
namespace HG
open PySem PySem.W PySem.Calls PyProof.Rows
noncomputable def hnth {α:Type}(l:List α) (i:Nat) (d:α):α:=@List.rec α (fun _=>Nat->α) (fun _=>d) (fun a _ ih i=>@Nat.rec (fun _=>α) a (fun j _=>ih j) i) l i
def hsN(s:Stmt):Str:=match s with
 |.FunctionDef n ..=>n
 |.ClassDef n ..=>n
 |_=>Str.empty
def hsA(s:Stmt):Arguments:=match s with
 |.FunctionDef _ a ..=>a
 |_=>default
def hsB(s:Stmt):List Stmt:=match s with
 |.FunctionDef _ _ b ..=>b
 |.ClassDef _ _ _ b ..=>b
 |_=>[]
def hsS(s:Stmt):Scope:=match s with
 |.FunctionDef _ _ _ _ _ _ c ..=>c
 |_=>default
def hsP(s:Stmt):Pos:=match s with
 |.FunctionDef _ _ _ _ _ _ _ _ _ p=>p
 |_=>⟨0,0,0,0⟩
def hdep{α:Sort u}(_:α):Bool:=true
def hE(P:Params)(x:Str)(t:Tok)(v:Value):DictEntry:=⟨PyData.keyHash P x,.str x t,v⟩
def hZ:Obj:=⟨.type "tuple",none,.seq ⟨[]⟩ 0,⟨[]⟩⟩
def hU(l:List Value):Obj:=⟨.type "tuple",none,.seq ⟨l⟩ 0,⟨[]⟩⟩
def hN:Obj:=⟨.none,none,.fields ⟨[]⟩,⟨[]⟩⟩
def hC(n:Str)(t t2:Nat)(ln na fl:Int)(a:Addr)(g:Bool)(b:Addr)(v1 v2 v3 v4:Value):Obj:=
 ⟨.type "code",none,.fields ⟨[.str n t,.str n (Nat.add t 1),.str "/claim/cut.py" (Nat.add t 2),.int ln 0,.int na 0,.int 0 0,.int 0 0,.int fl 0,.ref a,.bool g,.int 181 0,.ref b,v1,v2,v3,v4,.int (Int.ofNat t2) 0,.int ln 0,.str "/claim/cut.py" (Nat.add t2 1)]⟩,⟨[]⟩⟩
def hX(s:Stmt)(q:Str)(g:Addr)(cl:List (Str×Addr))(d k dc m:Value)(an:Option Addr)(c ct:Value)(b:Addr):FuncData:=
 ⟨hsN s,q,hsA s,.stmts (hsB s),hsS s,g,cl,d,k,dc,m,an,c,ct,b⟩
def hR(s:Stmt):Obj:=⟨.none,none,.func (hX s (hsN s) 0 [] .none .none .none .none none .none .none 0),⟨[]⟩⟩
def hF(s:Stmt)(m c:Value):Obj:=⟨.type "function",none,.func (hX s (hsN s) 3 [] .none .none .none m none c .none 0),⟨[]⟩⟩
def hD5(s:Stmt)(a t:Nat)(ln na:Int)(m:Value):List Obj:=[hZ,hN,hR s,hC (hsN s) t (Nat.add t 3) ln na 3 a true (Nat.add a 1) .none .none .none (.ref (Nat.add a 2)),hF s m (.ref (Nat.add a 3))]
noncomputable def hvs (l:List Str) (t:Nat):List Value:=@List.rec Str (fun _=>Nat->List Value) (fun _=>[]) (fun x _ ih t=>.str x t::ih (Nat.succ t)) l t
noncomputable def hD7 (s:Stmt) (a t:Nat) (ln na:Int) (m:Value) (l:List Str):List Obj:=[hZ,hN,hU (hvs l (Nat.add t 3)),hZ,hR s,hC (hsN s) t (Nat.add (Nat.add t 3) l.length) ln na 3 a true (Nat.add a 1) .none (.ref (Nat.add a 2)) (.ref (Nat.add a 3)) (.ref (Nat.add a 4)),hF s m (.ref (Nat.add a 5))]
def hCl(P:Params)(s:Stmt)(a t:Nat)(ln:Int)(m:Value):List Obj:=
 [⟨.type "builtin_function_or_method",none,.fields ⟨[.builtin "type.__prepare__",.type "type"]⟩,⟨[]⟩⟩,
  ⟨.type "dict",none,.dict ⟨[hE P "__module__" (Nat.add t 7) m,hE P "__qualname__" (Nat.add t 9) (.str (hsN s) (Nat.add t 8)),hE P "__firstlineno__" (Nat.add t 11) (.int ln (Nat.add t 10)),hE P "__static_attributes__" (Nat.add t 12) (.ref (Nat.add a 6))]⟩ 4,⟨[]⟩⟩,
  hZ,hN,hC (hsN s) (Nat.add t 2) (Nat.add t 5) ln 0 0 (Nat.add a 2) false (Nat.add a 3) .none .none .none .none,
  ⟨.type "frame",none,.plain,⟨[some (.ref (Nat.add a 4)),some (.ref 3),some (.ref (Nat.add a 1)),none,some m,none,some (.ref 0)]⟩⟩,hZ,
  ⟨.type "dict",none,.dict ⟨[hE P "__module__" (Nat.add t 7) m,hE P "__firstlineno__" (Nat.add t 11) (.int ln (Nat.add t 10)),hE P "__static_attributes__" (Nat.add t 12) (.ref (Nat.add a 6)),hE P "__doc__" (Nat.add t 13) .none]⟩ 2,⟨[]⟩⟩,
  ⟨.type "type",none,.cls ⟨hsN s,[.ref 24],[.ref (Nat.add a 8),.ref 24,.type "ValueError",.type "Exception",.type "BaseException",.type "object"],Nat.add a 7,hsN s,true,[],[],false,none,false⟩,⟨[some (.ref (Nat.sub a 1)),none,some (.str (hsN s) t),some (.str (hsN s) (Nat.add t 8)),some (.builtin "ValueError.__new__"),some (.bool true)]⟩⟩,
  ⟨.type "super",none,.fields ⟨[.ref (Nat.add a 8),.ref (Nat.add a 8),.ref (Nat.add a 8)]⟩,⟨[]⟩⟩,
  ⟨.type "builtin_function_or_method",none,.fields ⟨[.builtin "object.__init_subclass__",.ref (Nat.add a 8)]⟩,⟨[]⟩⟩]
noncomputable def hfd (l:List (Nat×List Obj)) (b:Nat):Obj:=@List.rec (Nat×List Obj) (fun _=>Nat->Obj) (fun _=>hZ) (fun x _ ih b=>@Bool.rec (fun _=>Obj) (ih (Nat.sub b x.1)) (hnth x.2 b hZ) (Nat.blt b x.1)) l b
def hL3(l:List (Int×Addr)):List Value:=l.flatMap fun x=>[.int x.1 0,.int 0 0,.ref x.2]
noncomputable def hmk (f:Nat->Obj) (n:Nat) (fuel:Nat):Nat->Nat->BT:=
 @Nat.rec (fun _=>Nat->Nat->BT) (fun _ _=>.nil) (fun _ ih a b=>@Bool.rec (fun _=>BT) .nil (.node (f b) (ih (Nat.mul 2 a) (Nat.add a b)) (ih (Nat.mul 2 a) (Nat.add (Nat.mul 2 a) b))) (Nat.blt b n)) fuel
def hEnv(p:Program)(c:Value)(f:Addr):Env:={scope:=p.main.scope,locals:=mainNs,globals:=mainNs,cells:=[],code:=c,frame:=some f}
def hVw(p:Program)(l:List Nat):Program:={p with main:={p.main with body:=l.map fun i=>p.main.body.getD i (.Pass ⟨0,0,0,0⟩)}}
abbrev hSt(tr:Nat->Params->BT)(k n t:Nat)(w:World)(os:OsState):SharedT:=⟨tr k w.params,n,{},⟨[]⟩,{},t,os⟩
abbrev hCd(p:Program)(ev:Env):Code:=.body (behindTheImports p) ev
def hPre(m0:Nat)(ann:Option Value)(n n0 t0:Nat)(q q0:Pos)(tg:(String->Option Builtin)->Program->World->Nat->Option Value->Nat->Shared->Thread->Option (Shared×Thread))(dn:(String->Option Builtin)->Code->Sem Fin)(tb:String->Option Builtin)(p:Program)(tr:Nat->Params->BT)(ev:Env):Prop:=
 ∀w:World,(fun os=>tg tb p w m0 ann n ⟨boot_heap w.params,⟨[]⟩,boot_drawn,boot_toks,os⟩ (topStub p))=fun os=>some ((hSt tr 0 n0 t0 w os).abs,Thread.mk (dn tb (hCd p ev)) (hCd p ev) q0 [topFrame q])
def hBlk(m0:Nat)(ann:Option Value)(n n0 t0:Nat)(q q0 q1:Pos)(sr:(String->Option Builtin)->Program->World->Nat->Option Value->Nat->Nat->Shared->Thread->Option (Flow×Shared×Code×Pos))(tb:String->Option Builtin)(p:Program)(tr:Nat->Params->BT)(ev:Env):Prop:=
 ∀w:World,(fun os=>sr tb p w m0 ann 1 n (hSt tr 0 n0 t0 w os).abs (blockOf (behindTheImports p) ev (hCd p ev) q0 [topFrame q]))=fun os=>some (.next,(hSt tr 0 n0 t0 w os).abs,hCd p ev,q1)
def hPc(m0:Nat)(ann:Option Value)(n i j k n0 t0 n1 t1:Nat)(q q0 q1:Pos)(sr:(String->Option Builtin)->Program->World->Nat->Option Value->Nat->Nat->SharedT->Thread->Option (Flow×SharedT×Code×Pos))(tb:String->Option Builtin)(p:Program)(tr:Nat->Params->BT)(ev:Env):Prop:=
 ∀w:World,(fun os=>sr tb p w m0 ann 1 n (hSt tr k n0 t0 w os) (piecesOf (((behindTheImports p).drop i).take j) ev (hCd p ev) q0 [topFrame q]))=fun os=>some (.next,hSt tr (Nat.succ k) n1 t1 w os,hCd p ev,q1)
def hFin(m0:Nat)(ann:Option Value)(n k n0 t0:Nat)(q q0:Pos)(sr:(String->Option Builtin)->Program->World->Nat->Option Value->Nat->Shared->Thread->Option Shared)(tb:String->Option Builtin)(p:Program)(tr:Nat->Params->BT)(ev:Env):Prop:=
 ∀w:World,(fun os=>sr tb p w m0 ann n (hSt tr k n0 t0 w os).abs (Thread.mk (doneF .next) (hCd p ev) q0 [topFrame q]))=fun os=>some (hSt tr k n0 t0 w os).abs
variable{m0:Nat}{ann:Option Value}{q q0 q1:Pos}{tb:String->Option Builtin}{p:Program}{tr:Nat->Params->BT}{ev:Env}{n N i j k n0 t0 n1 t1:Nat}{r:Shared}
theorem hgo(h:hPre m0 ann n n0 t0 q q0 topGo denote tb p tr ev)(w:World)(os:OsState)(g:topRun tb p w m0 ann N (hSt tr 0 n0 t0 w os).abs (Thread.mk (denote tb (hCd p ev)) (hCd p ev) q0 [topFrame q])=some r):
  topRun tb p w m0 ann (Nat.add n N) ⟨boot_heap w.params,⟨[]⟩,boot_drawn,boot_toks,os⟩ (topStub p)=some r:=go_top (Uj (h w) os) g
theorem hblkk(h:hBlk m0 ann n n0 t0 q q0 q1 segRun tb p tr ev)(w:World)(os:OsState)(g:topRun tb p w m0 ann N (hSt tr 0 n0 t0 w os).abs (restOf ((behindTheImports p).drop 0) ev (hCd p ev) q1 [topFrame q])=some r):
  topRun tb p w m0 ann (Nat.add n N) (hSt tr 0 n0 t0 w os).abs (Thread.mk (denote tb (hCd p ev)) (hCd p ev) q0 [topFrame q])=some r:=piece_block (Uj (h w) os) g
theorem hpcs(h:hPc m0 ann n i j k n0 t0 n1 t1 q q0 q1 segRunT tb p tr ev)(w:World)(os:OsState)(g:topRun tb p w m0 ann N (hSt tr (Nat.succ k) n1 t1 w os).abs (restOf ((behindTheImports p).drop (Nat.add i j)) ev (hCd p ev) q1 [topFrame q])=some r):
  topRun tb p w m0 ann (Nat.add n N) (hSt tr k n0 t0 w os).abs (restOf ((behindTheImports p).drop i) ev (hCd p ev) q0 [topFrame q])=some r:=by
 have a:=piece_app (segRun_of (Uj (h w) os)) g
 have e:((behindTheImports p).drop i).take j++(behindTheImports p).drop (Nat.add i j)=(behindTheImports p).drop i:=by
  have:=List.take_append_drop j ((behindTheImports p).drop i);rw[List.drop_drop]at this;exact this
 rw[e]at a;exact a
theorem hfin'(e:(behindTheImports p).drop i=[])(h:hFin m0 ann n k n0 t0 q q0 topRun tb p tr ev)(w:World)(os:OsState):
  topRun tb p w m0 ann n (hSt tr k n0 t0 w os).abs (restOf ((behindTheImports p).drop i) ev (hCd p ev) q0 [topFrame q])=some (hSt tr k n0 t0 w os).abs:=by
 rw[e];exact Uj (h w) os
abbrev hSh(H:Params->Heap)(t:Nat)(w:World)(os:OsState):Shared:=⟨H w.params,⟨[]⟩,{},t,os⟩
structure hLk(p v:Program)(H:Params->Heap)(K:Params->Frag)(as ts:List Addr)(t:Nat)(ls:List Str:=[]):Prop where
 l1:∀w:World,(fun os=>staticsOk (PySem.W.Fast.tw5923862056798008813 p.main.body) (boot_heap w.params) (H w.params)&&namesBound p (H w.params)&&gensDone (hSh H t w os)&&laidKept (boot_heap w.params) (H w.params))=fun _=>true
 l2:∀w:World,(fun os=>PySem.W.Fast.tw5160383126252970620 (PySem.W.R.mapR (fun x=>x.name) (PySem.W.Fast.tw3399658132070893891 v)) (PySem.W.Fast.tw5991557255702980513 v) [] (hSh H t w os))=fun _=>expectedOf v
 l3:∀w:World,(H w.params).bltView=bltViewBooted
 l4:∀w:World,(fun os=>PySem.W.Fast.tw10880121769531294198 (H w.params) (PySem.W.Fast.tw821141287760084731 v ls) (PySem.W.R.mapR (fun x=>x.name) (PySem.W.Fast.tw3399658132070893891 v)) (PySem.W.R.mapR (fun x=>x.1) (PySem.W.Fast.tw7409074990110511671 v)) (PySem.W.R.mapR (fun x=>x.name) (PySem.W.Fast.tw13664370479719496447 v (PySem.W.Fast.tw821141287760084731 v ls)))&&PySem.W.Fast.tw14722251495701143533 (H w.params) (PySem.W.Fast.tw5923862056798008813 p.main.body)&&(H w.params).isNs mainGlobals&&(H w.params).isNs builtinsNs&&PySem.W.Fast.tw10994771534591457954 v (H w.params)&&(xlAt v [] (hSh H t w os)&&recOk [] (hSh H t w os))&&(if true then(hSh H t w os).gens.size==0 else !leftWithCleanup (hSh H t w os).gens))=fun _=>true
 l5:∀w:World,(fun os=>PySem.W.Fast.tw479339242167458305 v (hSh H t w os))=fun _=>true
 l6:∀w:World,(fun os=>PySem.W.Fast.tw16090120013241838585 v (PySem.W.Fast.tw3247288618530077131 v) (hSh H t w os))=fun _=>pinGoodD (PySem.W.Fast.tw3247288618530077131 v)
 l7:∀w:World,(fun os=>PySem.W.Fast.tw2386780881361962483 v (PySem.W.Fast.tw821141287760084731 v ls) (hSh H t w os))=fun _=>plainGoodE v (PySem.W.Fast.tw821141287760084731 v ls)
 l8:∀w:World,(fun os=>PySem.W.Fast.tw11698064438423848299 v ls (hSh H t w os))=fun _=>plainGoodD v ls
 l9:∀w:World,(fun os=>PySem.W.Fast.tw7317090234206586261 v (hSh H t w os))=fun _=>wideGood v
 l10:∀w:World,(fun os=>PySem.W.Fast.tw7369524293546568484 v ls (hSh H t w os))=fun _=>clsGoodW v ls
 l11:∀w:World,PySem.W.R.mapR (H w.params).get? as=PySem.W.R.mapR (fun p=>some p.2) (K w.params)
 l12:∀w:World,PySem.W.R.mapR (H w.params).get? ts=PySem.W.R.mapR (fun _=>some (tabObj #[])) ts
theorem hsize(w:World):((boot_heap w.params).isNs mainGlobals&&(Array.mk []:Array GenState).size==0,(boot_heap w.params).objs.size,(boot_heap w.params).nsMap mainGlobals "__annotations__")=(true,11,some (.ref 6)):=by
 rw[PySem.W.Fast.te8920871248978507458,show("__annotations__":Str)=⟨⟨[95,95,97,110,110,111,116,97,116,105,111,110,115,95,95]⟩⟩from PySem.W.Fast.ofString_ofList ['_','_','a','n','n','o','t','a','t','i','o','n','s','_','_']]
 kernel_rfl
theorem hleft{v:Program}{H:Params->Heap}{K:Params->Frag}{as ts:List Addr}{t M:Nat}(e:∀P,as=(K P).map (·.1))(eo:opening p=plainProg p.main.scope.names)(hf:∀s,fenceModules? p s=some s)(hN:Nat.ble 600 N=true)(le:Nat.ble M N=true)
  (run:∀(w:World) (os:OsState),topRun treeTable p w 11 (some (.ref 6)) M ⟨boot_heap w.params,⟨[]⟩,boot_drawn,boot_toks,os⟩ (topStub p)=some (hSh H t w os)){ls:List Str}(L:hLk p v H K as ts t ls):
  LeftO p v ls (fun s=>xlAt v [] s&&recOk [] s) (Hook.obs (kmHook K as e ts)) (Hook.val (kmHook K as e ts)) N:=by
 refine LeftO.of_pieces (boot_open eo hN hf) hsize run le fun w=>?_
 have q1:=L.l1 w;have q2:=L.l2 w;have q3:=L.l3 w;have q4:=L.l4 w;have q5:=L.l5 w;have q6:=L.l6 w;have q7:=L.l7 w;have q8:=L.l8 w;have q9:=L.l9 w;have q10:=L.l10 w;have q11:=L.l11 w;have q12:=L.l12 w
 simp only[←PySem.W.Fast.te5923862056798008813,←PySem.W.Fast.te5160383126252970620,←PySem.W.R.mapR_eq,←PySem.W.Fast.te3399658132070893891,←PySem.W.Fast.te5991557255702980513,←PySem.W.Fast.te10880121769531294198,←PySem.W.Fast.te821141287760084731,←PySem.W.Fast.te7409074990110511671,←PySem.W.Fast.te13664370479719496447,←PySem.W.Fast.te14722251495701143533,←PySem.W.Fast.te10994771534591457954,←PySem.W.Fast.te479339242167458305,←PySem.W.Fast.te16090120013241838585,←PySem.W.Fast.te3247288618530077131,←PySem.W.Fast.te2386780881361962483,←PySem.W.Fast.te11698064438423848299,←PySem.W.Fast.te7317090234206586261,←PySem.W.Fast.te7369524293546568484]at q1 q2 q4 q5 q6 q7 q8 q9 q10 q11 q12
 funext os
 unfold openSeen openGood;refine Uu (Uj q1 os) (Uu (Uu (Uj q2 os) (Uu q3 (Uu (Uj q4 os) (Uu (Uj q5 os) (Uu (Uj q6 os) (Uu (Uj q7 os) (Uu (Uj q8 os) (Uu (Uj q9 os) (Uj q10 os))))))))) (Uu q11 q12))
end HG
namespace K21
noncomputable section
open PySem PySem.W PySem.Calls PyProof.Rows HG
def hS(i:Nat):Stmt:=PySem.Challenge.pw_turnsigns_k21_nets_and_kinds_of_squares.main.body.getD i (.Pass ⟨0,0,0,0⟩)
def hm0:Value:=(.str "turnsigns.errors" 187)
def hm1:Value:=(.str "turnsigns.grids" 415)
def hm2:Value:=(.str "turnsigns.tables" 482)
def hm3:Value:=(.str "turnsigns.nets" 508)
def hm4:Value:=(.str "law_turnsigns_k21_nets_and_kinds_of_squares" 564)
def hc0(P:Params):List (Nat×List Obj):=[(15,[boot_o_0 P,boot_o_1 P,boot_o_2 P,hZ,boot_o_4 P,boot_o_5 P,boot_o_6 P,boot_o_7 P,boot_o_8 P,boot_o_9 P,boot_o_10 P,hZ,hZ,hC "<module>" 182 185 1 0 0 11 false 12 .none .none .none .none,⟨(.type "frame"),none,.plain,⟨[(some (.ref 13)),(some (.ref 3)),(some (.ref 3)),none,(some (.str "__main__" 164)),none,(some (.ref 0))]⟩⟩]),(13,[hU [(.type "ValueError")],⟨(.type "builtin_function_or_method"),none,.fields ⟨[(.builtin "type.__prepare__"),(.type "type")]⟩,⟨[]⟩⟩,⟨(.type "dict"),none,.dict ⟨[hE P "__module__" 196 (.str "turnsigns.errors" 187),hE P "__qualname__" 198 (.str "SignError" 197),hE P "__firstlineno__" 200 (.int 2 199),hE P "__static_attributes__" 201 (.ref 22)]⟩ 4,⟨[]⟩⟩,hZ,hN,hC "SignError" 191 194 2 0 0 18 false 19 .none .none .none .none,⟨(.type "frame"),none,.plain,⟨[(some (.ref 20)),(some (.ref 3)),(some (.ref 17)),none,(some (.str "turnsigns.errors" 187)),none,(some (.ref 0))]⟩⟩,hZ,⟨(.type "dict"),none,.dict ⟨[hE P "__module__" 196 (.str "turnsigns.errors" 187),hE P "__firstlineno__" 200 (.int 2 199),hE P "__static_attributes__" 201 (.ref 22),hE P "__weakref__" 203 (.ref 25),hE P "__doc__" 204 .none]⟩ 3,⟨[]⟩⟩,hZ,⟨(.type "getset_descriptor"),none,.fields ⟨[(.str "__weakref__" 202),(.ref 24),(.builtin "ExceptionGroup.__weakref__"),.none]⟩,⟨[]⟩⟩,⟨(.type "super"),none,.fields ⟨[(.ref 24),(.ref 24),(.ref 24)]⟩,⟨[]⟩⟩,⟨(.type "builtin_function_or_method"),none,.fields ⟨[(.builtin "object.__init_subclass__"),(.ref 24)]⟩,⟨[]⟩⟩]),(1,[hU [.ref 24]]),(11,hCl P (hS 2) 29 207 4 hm0),(1,[hU [.ref 24]]),(11,hCl P (hS 3) 41 223 6 hm0),(1,[hU [.ref 24]]),(11,hCl P (hS 4) 53 239 8 hm0),(1,[hU [.ref 24]]),(11,hCl P (hS 5) 65 255 10 hm0)]
def hc1(P:Params):List (Nat×List Obj):=[(1,[hU [.ref 24]]),(11,hCl P (hS 6) 77 271 12 hm0),(1,[hU [.ref 24]]),(11,hCl P (hS 7) 89 287 14 hm0),(1,[hU [.ref 24]]),(11,hCl P (hS 8) 101 303 16 hm0),(1,[hU [.ref 24]]),(11,hCl P (hS 9) 113 319 18 hm0),(1,[hU [.ref 24]]),(11,hCl P (hS 10) 125 335 20 hm0)]
def hc2(P:Params):List (Nat×List Obj):=[(1,[hU [.ref 24]]),(11,hCl P (hS 11) 137 351 22 hm0),(1,[hU [.ref 24]]),(11,hCl P (hS 12) 149 367 24 hm0),(1,[hU [.ref 24]]),(11,hCl P (hS 13) 161 383 26 hm0),(1,[hU [.ref 24]]),(11,hCl P (hS 14) 173 399 28 hm0),(7,hD7 (hS 16) 184 417 31 1 hm1 ["thing"]),(7,hD7 (hS 17) 191 424 33 3 hm1 ["thing","least","greatest"])]
def hc3(P:Params):List (Nat×List Obj):=[(5,hD5 (hS 18) 198 433 35 2 hm1),(5,hD5 (hS 19) 203 439 39 3 hm1),(7,hD7 (hS 20) 208 445 43 3 hm1 ["thing","least","greatest"]),(5,hD5 (hS 21) 215 454 47 1 hm1),(7,hD7 (hS 22) 220 460 49 1 hm1 ["row","sums","number"]),(5,hD5 (hS 23) 227 469 54 1 hm1),(7,hD7 (hS 24) 232 475 56 1 hm1 ["grid"]),(7,hD7 (hS 27) 239 486 60 1 hm2 ["line","total","number"]),(5,hD5 (hS 28) 246 495 67 1 hm2),(7,hD7 (hS 29) 251 501 71 1 hm2 ["thing"])]
def hc4(P:Params):List (Nat×List Obj):=[(7,hD7 (hS 31) 258 510 75 1 hm3 ["table"]),(7,hD7 (hS 32) 265 517 77 1 hm3 ["table"]),(7,hD7 (hS 33) 272 524 80 2 hm3 ["thing","side"]),(7,hD7 (hS 34) 279 532 82 3 hm3 ["net","row","column","across","down"]),(7,hD7 (hS 35) 286 543 85 3 hm3 ["table","row","column"]),(7,hD7 (hS 36) 293 552 92 1 hm3 ["table","net","counts","row","column","kind"]),(7,hD7 (hS 38) 300 566 102 2 hm4 ["_law_script","_law_k"]),(7,hD7 (hS 39) 307 574 106 2 hm4 ["_law_script","_law_k","_law_cell"]),(7,hD7 (hS 40) 314 583 111 2 hm4 ["_law_state_here","_law_many","_law_found","_law_mixed"]),(5,hD5 (hS 41) 321 593 120 1 hm4)]
def hc5(P:Params):List (Nat×List Obj):=[(5,hD5 (hS 42) 326 599 132 2 hm4),(5,hD5 (hS 43) 331 605 134 2 hm4),(7,hD7 (hS 44) 336 611 147 1 hm4 ["_law_thing"]),(5,hD5 (hS 45) 343 618 149 1 hm4),(5,hD5 (hS 46) 348 624 152 1 hm4),(7,hD7 (hS 47) 353 630 161 1 hm4 ["_law_state_here","_law_some"]),(7,hD7 (hS 48) 360 638 164 2 hm4 ["_law_state_here","_law_table_here","_law_at","_law_k","_law_row","_law_odd_here","_law_rows_here","_law_one","_law_other","_law_some"]),(5,hD5 (hS 49) 367 654 175 1 hm4),(5,hD5 (hS 50) 372 660 180 2 hm4),(5,hD5 (hS 51) 377 666 186 1 hm4)]
def hc6(P:Params):List (Nat×List Obj):=[(7,hD7 (hS 52) 382 672 203 1 hm4 ["_law_table_here","_law_across","_law_down","_law_found","_law_i","_law_j","_law_line"]),(5,hD5 (hS 53) 389 685 211 1 hm4),(7,[hZ,hN,hU [(.str "_law_script" 694),(.str "_law_k" 695),(.str "_law_state_here" 696),(.str "_law_side" 697),(.str "_law_turn" 698)],hU [(.str "_law_column" 699),(.str "_law_odd_here" 700),(.str "_law_row" 701),(.str "_law_table_here" 702),(.str "_law_thing" 703)],hR (hS 54),hC "law" 691 704 226 1 3 394 true 395 .none (.ref 396) (.ref 397) (.ref 398),hF (hS 54) (.str "law_turnsigns_k21_nets_and_kinds_of_squares" 564) (.ref 399)])]
def hB(P:Params):Nat->Obj:=hfd (hc0 P++hc1 P++hc2 P++hc3 P++hc4 P++hc5 P++hc6 P)
def b3S(P:Params)(v:Value):List DictEntry:=[hE P "__name__" 165 v,hE P "__doc__" 166 .none,hE P "__package__" 167 .none,hE P "__loader__" 168 (.builtin "__main__.__loader__#opaque"),hE P "__spec__" 169 .none,hE P "__annotations__" 170 (.ref 6),hE P "__builtins__" 171 (.ref 4),hE P "__file__" 173 (.str "/claim/cut.py" 172),hE P "__cached__" 174 .none,hE P "SignError" 206 (.ref 24),hE P "NoTable" 222 (.ref 37),hE P "NoHeights" 238 (.ref 49),hE P "NoNet" 254 (.ref 61),hE P "NoPlace" 270 (.ref 73),hE P "NoTriangle" 286 (.ref 85),hE P "NoRow" 302 (.ref 97)]
def b3T(P:Params)(v:Value):List DictEntry:=[hE P "NoNumber" 318 (.ref 109),hE P "NoTurn" 334 (.ref 121),hE P "NotAlike" 350 (.ref 133),hE P "NoStep" 366 (.ref 145),hE P "NoRows" 382 (.ref 157),hE P "TooMany" 398 (.ref 169),hE P "BadNote" 414 (.ref 181),hE P "is_whole" 423 (.ref 190),hE P "is_within" 432 (.ref 197),hE P "is_row" 438 (.ref 202),hE P "is_grid" 444 (.ref 207),hE P "is_square" 453 (.ref 214),hE P "flipped" 459 (.ref 219),hE P "running_sums" 468 (.ref 226),hE P "sums_across" 474 (.ref 231),hE P "sums_down" 481 (.ref 238)]
def b3U(P:Params)(v:Value):List DictEntry:=[hE P "GREATEST_SIDE" 485 (.int 6 484),hE P "takes_turns" 494 (.ref 245),hE P "is_table" 500 (.ref 250),hE P "must_be_table" 507 (.ref 257),hE P "spun" 516 (.ref 264),hE P "net_of" 523 (.ref 271),hE P "is_place" 531 (.ref 278),hE P "kind_in" 542 (.ref 285),hE P "kind_at" 551 (.ref 292),hE P "kinds_of" 563 (.ref 299),hE P "_law_cell_at" 573 (.ref 306),hE P "_law_state" 582 (.ref 313),hE P "_law_take" 592 (.ref 320),hE P "_law_rows" 598 (.ref 325),hE P "_law_held" 604 (.ref 330),hE P "_law_table" 610 (.ref 335)]
def b3V(P:Params)(v:Value):List DictEntry:=[hE P "_law_whole" 617 (.ref 342),hE P "_law_turns" 623 (.ref 347),hE P "_law_is_table" 629 (.ref 352),hE P "_law_odd" 637 (.ref 359),hE P "_law_bent" 653 (.ref 366),hE P "_law_net" 659 (.ref 371),hE P "_law_same" 665 (.ref 376),hE P "_law_refused" 671 (.ref 381),hE P "_law_kinds" 684 (.ref 388),hE P "_law_kinds_right" 690 (.ref 393),hE P "law" 706 (.ref 400)]
def he3(P:Params)(v:Value):List DictEntry:=b3S P v++b3T P v++b3U P v++b3V P v
def ht3(k:Nat):Nat×Nat×Value:=hnth [(9,9,(.str "__main__" 164)),(10,10,(.str "turnsigns.errors" 187)),(11,11,(.str "turnsigns.errors" 187)),(12,12,(.str "turnsigns.errors" 187)),(13,13,(.str "turnsigns.errors" 187)),(14,14,(.str "turnsigns.errors" 187)),(15,15,(.str "turnsigns.errors" 187)),(16,16,(.str "turnsigns.errors" 187)),(17,17,(.str "turnsigns.errors" 187)),(18,18,(.str "turnsigns.errors" 187)),(19,19,(.str "turnsigns.errors" 187)),(20,20,(.str "turnsigns.errors" 187)),(21,21,(.str "turnsigns.errors" 187)),(22,22,(.str "turnsigns.errors" 187)),(29,29,(.str "turnsigns.grids" 415)),(42,42,(.str "law_turnsigns_k21_nets_and_kinds_of_squares" 564)),(56,56,(.str "law_turnsigns_k21_nets_and_kinds_of_squares" 564)),(59,59,(.str "law_turnsigns_k21_nets_and_kinds_of_squares" 564))] k (0,0,.none)
def hx3(P:Params)(k:Nat):Obj:=⟨(.type "dict"),none,.dict ⟨(he3 P (ht3 k).2.2).take (ht3 k).1⟩ (ht3 k).2.1,⟨[]⟩⟩
def b3W:List Value:=hL3 [(2,20),(4,33),(6,45),(8,57),(10,69),(12,81),(14,93),(16,105),(18,117),(20,129),(22,141),(24,153),(26,165),(28,177),(31,189),(33,196),(35,201),(39,206),(43,213),(47,218),(49,225),(54,230),(56,237),(60,244),(67,249),(71,256),(75,263),(77,270),(80,277),(82,284),(85,291),(92,298),(102,305),(106,312),(111,319),(120,324),(132,329),(134,334),(147,341),(149,346),(152,351),(161,358),(164,365),(175,370),(180,375),(186,380),(203,387),(211,392),(226,399)]
def b3X(_:Params)(k:Nat):Obj:=⟨.none,none,.fields ⟨b3W.take (hnth [0,3,6,9,12,15,18,21,24,27,30,33,36,39,60,96,138,147] k 0)⟩,⟨[]⟩⟩
def b3Y:List Value:=[(.ref 37),(.ref 49),(.ref 61),(.ref 73),(.ref 85),(.ref 97),(.ref 109),(.ref 121),(.ref 133),(.ref 145),(.ref 157),(.ref 169),(.ref 181)]
def b3Z(_:Params)(k:Nat):Obj:=⟨(.type "type"),none,.cls ⟨"SignError",[(.type "ValueError")],[(.ref 24),(.type "ValueError"),(.type "Exception"),(.type "BaseException"),(.type "object")],23,"SignError",true,[],b3Y.take (hnth [0,0,1,2,3,4,5,6,7,8,9,10,11,12,13,13,13,13] k 0),false,none,false⟩,⟨[(some (.ref 15)),none,(some (.str "SignError" 189)),(some (.str "SignError" 197)),(some (.builtin "ValueError.__new__")),(some (.bool true))]⟩⟩
def hO(P:Params)(k b:Nat):Obj:=match Nat.beq b 3 with|true=>hx3 P k|false=>match Nat.beq b 12 with|true=>b3X P k|false=>match Nat.beq b 24 with|true=>b3Z P k|false=>hB P b
def hn(k:Nat):Nat:=hnth [15,28,40,52,64,76,88,100,112,124,136,148,160,172,220,300,382,401] k 0
noncomputable def hT (k:Nat) (P:Params):BT:=hmk (hO P k) (hn k) 12 1 0
def hV:Env:=hEnv PySem.Challenge.pw_turnsigns_k21_nets_and_kinds_of_squares (.ref 13) 14
def hQ:Program:=hVw PySem.Challenge.pw_turnsigns_k21_nets_and_kinds_of_squares [1,2,3,4,5,6,7,8,9,10,11,12,13,14,16,17,18,19,20,21,22,23,24,26,27,28,29,31,32,33,34,35,36,38,39,40,41,42,43,44,45,46,47,48,49,50,51,52,53,54]
def hA:List Nat:=[2,3,15,22,23,24,25,28,35,36,37,40,47,48,49,52,59,60,61,64,71,72,73,76,83,84,85,88,95,96,97,100,107,108,109,112,119,120,121,124,131,132,133,136,143,144,145,148,155,156,157,160,167,168,169,172,179,180,181,184,186,187,189,190,191,193,194,196,197,198,201,202,203,206,207,208,210,211,213,214,215,218,219,220,222,223,225,226,227,230,231,232,234,235,237,238,239,241,242,244,245,246,249,250,251,253,254,256,257,258,260,261,263,264,265,267,268,270,271,272,274,275,277,278,279,281,282,284,285,286,288,289,291,292,293,295,296,298,299,300,302,303,305,306,307,309,310,312,313,314,316,317,319,320,321,324,325,326,329,330,331,334,335,336,338,339,341,342,343,346,347,348,351,352,353,355,356,358,359,360,362,363,365,366,367,370,371,372,375,376,377,380,381,382,384,385,387,388,389,392,393,394,396,397,399,400]
def hK(P:Params):Frag:=hA.map fun a=>(a,hO P 17 a)
def hH(P:Params):Heap:=absHeap (hT 17 P) 401 {}
theorem htw:(hdep hT&&hdep hH&&hdep hV&&hdep hQ&&hdep hK&&hdep PySem.Challenge.pw_turnsigns_k21_nets_and_kinds_of_squares)=true:=by k_qdec
abbrev hpw:=PySem.Challenge.pw_turnsigns_k21_nets_and_kinds_of_squares
noncomputable abbrev fb:=PySem.W.Fast.tw14364793385576792824
noncomputable abbrev fp:=PySem.W.Fast.tw8144213423008115646
noncomputable abbrev ft:=PySem.W.Fast.tw13709946231620615575
noncomputable abbrev fv:=PySem.W.Fast.tw190497814032491383
theorem b4a:hPre 11 (some (.ref 6)) 12 15 187 ⟨0,0,0,0⟩ ⟨0,0,0,0⟩ PySem.W.Fast.tw15667345088766844465 PySem.W.Fast.tw11892475500146522536 fb fp ft fv:=fun w=>by kernel_rfl
theorem hpre:hPre 11 (some (.ref 6)) 12 15 187 ⟨0,0,0,0⟩ ⟨0,0,0,0⟩ topGo denote treeTable PySem.Challenge.pw_turnsigns_k21_nets_and_kinds_of_squares hT hV:=by rw[PySem.W.Fast.te15667345088766844465,PySem.W.Fast.te11892475500146522536,Jz,PySem.W.Fast.te8144213423008115646,PySem.W.Fast.te13709946231620615575,PySem.W.Fast.te190497814032491383];exact b4a
theorem b4b:hBlk 11 (some (.ref 6)) 1 15 187 ⟨0,0,0,0⟩ ⟨0,0,0,0⟩ ⟨0,0,0,0⟩ PySem.W.Fast.tw14374325043358763698 fb fp ft fv:=fun w=>by kernel_rfl
theorem hblk:hBlk 11 (some (.ref 6)) 1 15 187 ⟨0,0,0,0⟩ ⟨0,0,0,0⟩ ⟨0,0,0,0⟩ segRun treeTable PySem.Challenge.pw_turnsigns_k21_nets_and_kinds_of_squares hT hV:=by rw[PySem.W.Fast.te14374325043358763698,Jz,PySem.W.Fast.te8144213423008115646,PySem.W.Fast.te13709946231620615575,PySem.W.Fast.te190497814032491383];exact b4b
theorem hsl{m0:Nat}{ann:Option Value}{n i j k n0 t0 n1 t1:Nat}{q q0 q1:Pos}(h:hPc m0 ann n i j k n0 t0 n1 t1 q q0 q1 PySem.W.Fast.tw10110043849684766642 fb fp ft fv):hPc m0 ann n i j k n0 t0 n1 t1 q q0 q1 segRunT treeTable PySem.Challenge.pw_turnsigns_k21_nets_and_kinds_of_squares hT hV:=by rw[PySem.W.Fast.te10110043849684766642,Jz,PySem.W.Fast.te8144213423008115646,PySem.W.Fast.te13709946231620615575,PySem.W.Fast.te190497814032491383];exact h
theorem hp0:hPc 11 (some (.ref 6)) 196 0 2 0 15 187 28 207 ⟨0,0,0,0⟩ ⟨0,0,0,0⟩ ⟨2,0,3,8⟩ segRunT treeTable hpw hT hV:=hsl fun w=>by kernel_rfl
theorem hp1:hPc 11 (some (.ref 6)) 214 2 1 1 28 207 40 223 ⟨0,0,0,0⟩ ⟨2,0,3,8⟩ ⟨4,0,5,8⟩ segRunT treeTable hpw hT hV:=hsl fun w=>by kernel_rfl
theorem hp2:hPc 11 (some (.ref 6)) 214 3 1 2 40 223 52 239 ⟨0,0,0,0⟩ ⟨4,0,5,8⟩ ⟨6,0,7,8⟩ segRunT treeTable hpw hT hV:=hsl fun w=>by kernel_rfl
theorem hp3:hPc 11 (some (.ref 6)) 214 4 1 3 52 239 64 255 ⟨0,0,0,0⟩ ⟨6,0,7,8⟩ ⟨8,0,9,8⟩ segRunT treeTable hpw hT hV:=hsl fun w=>by kernel_rfl
theorem hp4:hPc 11 (some (.ref 6)) 214 5 1 4 64 255 76 271 ⟨0,0,0,0⟩ ⟨8,0,9,8⟩ ⟨10,0,11,8⟩ segRunT treeTable hpw hT hV:=hsl fun w=>by kernel_rfl
theorem hp5:hPc 11 (some (.ref 6)) 214 6 1 5 76 271 88 287 ⟨0,0,0,0⟩ ⟨10,0,11,8⟩ ⟨12,0,13,8⟩ segRunT treeTable hpw hT hV:=hsl fun w=>by kernel_rfl
theorem hp6:hPc 11 (some (.ref 6)) 214 7 1 6 88 287 100 303 ⟨0,0,0,0⟩ ⟨12,0,13,8⟩ ⟨14,0,15,8⟩ segRunT treeTable hpw hT hV:=hsl fun w=>by kernel_rfl
theorem hp7:hPc 11 (some (.ref 6)) 214 8 1 7 100 303 112 319 ⟨0,0,0,0⟩ ⟨14,0,15,8⟩ ⟨16,0,17,8⟩ segRunT treeTable hpw hT hV:=hsl fun w=>by kernel_rfl
theorem hp8:hPc 11 (some (.ref 6)) 214 9 1 8 112 319 124 335 ⟨0,0,0,0⟩ ⟨16,0,17,8⟩ ⟨18,0,19,8⟩ segRunT treeTable hpw hT hV:=hsl fun w=>by kernel_rfl
theorem hp9:hPc 11 (some (.ref 6)) 214 10 1 9 124 335 136 351 ⟨0,0,0,0⟩ ⟨18,0,19,8⟩ ⟨20,0,21,8⟩ segRunT treeTable hpw hT hV:=hsl fun w=>by kernel_rfl
theorem b4c:hPc 11 (some (.ref 6)) 214 11 1 10 136 351 148 367 ⟨0,0,0,0⟩ ⟨20,0,21,8⟩ ⟨22,0,23,8⟩ segRunT treeTable hpw hT hV:=hsl fun w=>by kernel_rfl
theorem b4d:hPc 11 (some (.ref 6)) 214 12 1 11 148 367 160 383 ⟨0,0,0,0⟩ ⟨22,0,23,8⟩ ⟨24,0,25,8⟩ segRunT treeTable hpw hT hV:=hsl fun w=>by kernel_rfl
theorem b4e:hPc 11 (some (.ref 6)) 214 13 1 12 160 383 172 399 ⟨0,0,0,0⟩ ⟨24,0,25,8⟩ ⟨26,0,27,8⟩ segRunT treeTable hpw hT hV:=hsl fun w=>by kernel_rfl
theorem b4f:hPc 11 (some (.ref 6)) 392 14 8 13 172 399 220 460 ⟨0,0,0,0⟩ ⟨26,0,27,8⟩ ⟨47,0,48,82⟩ segRunT treeTable hpw hT hV:=hsl fun w=>by kernel_rfl
theorem b4g:hPc 11 (some (.ref 6)) 395 22 16 14 220 460 300 566 ⟨0,0,0,0⟩ ⟨47,0,48,82⟩ ⟨101,0,101,8⟩ segRunT treeTable hpw hT hV:=hsl fun w=>by kernel_rfl
theorem b4h:hPc 11 (some (.ref 6)) 399 38 14 15 300 566 382 672 ⟨0,0,0,0⟩ ⟨101,0,101,8⟩ ⟨186,0,202,74⟩ segRunT treeTable hpw hT hV:=hsl fun w=>by kernel_rfl
theorem b4i:hPc 11 (some (.ref 6)) 100 52 3 16 382 672 401 707 ⟨0,0,0,0⟩ ⟨186,0,202,74⟩ ⟨226,0,250,15⟩ segRunT treeTable hpw hT hV:=hsl fun w=>by kernel_rfl
theorem b4j:hFin 11 (some (.ref 6)) 2 17 401 707 ⟨0,0,0,0⟩ ⟨226,0,250,15⟩ PySem.W.Fast.tw14082659384304107361 fb fp ft fv:=fun w=>by kernel_rfl
theorem hfin:hFin 11 (some (.ref 6)) 2 17 401 707 ⟨0,0,0,0⟩ ⟨226,0,250,15⟩ topRun treeTable PySem.Challenge.pw_turnsigns_k21_nets_and_kinds_of_squares hT hV:=by rw[PySem.W.Fast.te14082659384304107361,Jz,PySem.W.Fast.te8144213423008115646,PySem.W.Fast.te13709946231620615575,PySem.W.Fast.te190497814032491383];exact b4j
theorem hrun(w:World)(os:OsState):topRun treeTable PySem.Challenge.pw_turnsigns_k21_nets_and_kinds_of_squares w 11 (some (.ref 6)) (Nat.add 12 (Nat.add 1 (Nat.add 196 (Nat.add 214 (Nat.add 214 (Nat.add 214 (Nat.add 214 (Nat.add 214 (Nat.add 214 (Nat.add 214 (Nat.add 214 (Nat.add 214 (Nat.add 214 (Nat.add 214 (Nat.add 214 (Nat.add 392 (Nat.add 395 (Nat.add 399 (Nat.add 100 (2)))))))))))))))))))) ⟨boot_heap w.params,⟨[]⟩,boot_drawn,boot_toks,os⟩ (topStub PySem.Challenge.pw_turnsigns_k21_nets_and_kinds_of_squares)=some (SharedT.abs ⟨hT 17 w.params,401,{},⟨[]⟩,{},707,os⟩):=hgo hpre w os (hblkk hblk w os (hpcs hp0 w os (hpcs hp1 w os (hpcs hp2 w os (hpcs hp3 w os (hpcs hp4 w os (hpcs hp5 w os (hpcs hp6 w os (hpcs hp7 w os (hpcs hp8 w os (hpcs hp9 w os (hpcs b4c w os (hpcs b4d w os (hpcs b4e w os (hpcs b4f w os (hpcs b4g w os (hpcs b4h w os (hpcs b4i w os (hfin' (by kernel_rfl) hfin w os)))))))))))))))))))
theorem b4k:hLk PySem.W.Fast.tw8144213423008115646 PySem.W.Fast.tw15480709231764440771 PySem.W.Fast.tw15995462683971560314 PySem.W.Fast.tw17693162944306304368 hA [395] 707 []:=⟨fun _=>by kernel_rfl,fun _=>by kernel_rfl,fun _=>by kernel_rfl,fun _=>by kernel_rfl,fun _=>by kernel_rfl,fun _=>by kernel_rfl,fun _=>by kernel_rfl,fun _=>by kernel_rfl,fun _=>by kernel_rfl,fun _=>by kernel_rfl,fun _=>by kernel_rfl,fun _=>by kernel_rfl⟩
theorem hlk:hLk PySem.Challenge.pw_turnsigns_k21_nets_and_kinds_of_squares hQ hH hK hA [395] 707 []:=by rw[PySem.W.Fast.te8144213423008115646,PySem.W.Fast.te15480709231764440771,PySem.W.Fast.te15995462683971560314,PySem.W.Fast.te17693162944306304368];exact b4k
abbrev hHk:Hook:=kmHook hK hA (fun _=>by kernel_rfl) [395]
theorem hlf:LeftO PySem.Challenge.pw_turnsigns_k21_nets_and_kinds_of_squares hQ [] (fun s=>xlAt hQ [] s&&recOk [] s) (Hook.obs hHk) (Hook.val hHk) 8192:=hleft (fun _=>by kernel_rfl) (by kernel_rfl) (fun _=>by kernel_rfl) (by decide) (by decide) hrun hlk
abbrev hDr:DefRec:=⟨"law",hsA (hS 54),hsB (hS 54),hsS (hS 54),hsP (hS 54)⟩
end
end K21
namespace K21
open PySem PySem.W PyProof.Rows
theorem b4l(hc:WalkO hQ [] (XL hQ []) (Hook.says hHk) PySem.Challenge.rw_turnsigns_k21_nets_and_kinds_of_squares.row.toRowW hDr [] fun f vs=>call f vs):PySem.Challenge.rw_turnsigns_k21_nets_and_kinds_of_squares.Holds:=by
 o_law
 exact holds_open (Xt:=fun s=>xlAt hQ [] s&&recOk [] s) (Yf:=Hook.obs hHk) (Ya:=Hook.val hHk) (N:=8192) hlf (Hook.of hHk) (Hook.keeps hHk) (fun s e=>xl_of s (Bool.and_eq_true_iff.mp e).1) XL.keeps (by kernel_rfl) (by kernel_rfl) (by kernel_rfl) (fun s e=>recFacts_of (Bool.and_eq_true_iff.mp e).2) rfl (by assumption) (by decide+kernel) ⟨rfl,rfl,rfl,rfl,rfl,by decide+kernel⟩ ⟨[.list []],by decide+kernel,by decide+kernel⟩ hc
end K21
namespace L2
open PySem PySem.Spec PyProof.Rows
variable{A:Around}{C a b dx it:Addr}{E Q:OE}{K:Qz}{M:Model}{N ps:List Str}{P:Program}{base h h':Heap}{body:List Stmt}{c e tg:Expr}{ch fp:List Addr}{d':Drawn}{es:List Expr}{fd:FuncData}{g':Array GenState}{i j k n t':Nat}{mA mg:OU}{op op':CmpOp}{p pos pos':Pos}{pins:OX}{qual x:Str}{s s':Shared}{scope:Scope}{u:Value}{us:List Value}{w:World}{α:Type}
abbrev Key:=Sum Int Str
def a2Q:Key->Value->Bool
 |.inl k,v=>Value.isInt k v
 |.inr x,v=>Value.isStrOf x v
def b4m(w:World):Key->Int
 |.inl k=>hashInt k
 |.inr x=>hashStr w x
theorem a1S:∀{k:Key}{v:Value},a2Q k v=true->(∃i t,k=Sum.inl i/\v=Value.int i t)∨(∃x t,k=Sum.inr x/\v=Value.str x t)
 |.inl i,v,h=>by
  obtain⟨t,e⟩:=Value.isInt_shape (k:=i) (v:=v) h;exact .inl ⟨i,t,rfl,e⟩
 |.inr x,v,h=>by
  obtain⟨t,e⟩:=Value.isStrOf_shape (x:=x) (v:=v) h;exact .inr ⟨x,t,rfl,e⟩
theorem a9T(i:Int)(t:Tok):a2Q (.inl i) (.int i t)=true:=by simp[a2Q,Value.isInt]
theorem b4n(x:Str)(t:Tok):a2Q (.inr x) (.str x t)=true:=by simp[a2Q,Value.isStrOf]
theorem b4o(a b:Int):decide ((Sum.inl a:Key)=Sum.inl b)=(a==b):=by
 by_cases e:a=b
 ·subst e;simp
 ·have h:¬ (Sum.inl a:Key)=Sum.inl b:=fun q=>e (Sum.inl.inj q)
  rw[Qe h];exact(Yr.mpr e).symm
theorem b4p(a b:Str):decide ((Sum.inr a:Key)=Sum.inr b)=decide (a=b):=by
 by_cases e:a=b
 ·subst e;simp
 ·have h:¬ (Sum.inr a:Key)=Sum.inr b:=fun q=>e (Sum.inr.inj q)
  rw[Qe h,Qe e]
theorem b4q(a:Int)(b:Str):decide ((Sum.inl a:Key)=Sum.inr b)=false:=Qe (fun q=>nomatch q)
theorem b4r(a:Str)(b:Int):decide ((Sum.inr a:Key)=Sum.inl b)=false:=Qe (fun q=>nomatch q)
def k3_(prog:Program)(w:World):PySem.KeyKind prog w Key where
 is:=a2Q
 hash:=b4m w
 inj:=fun v a b ha hb=>by
  rcases a1S ha with⟨i,t,rfl,rfl⟩|⟨x,t,rfl,rfl⟩
  ·rcases a1S hb with⟨j,u,rfl,e⟩|⟨y,u,rfl,e⟩
   ·injection e with e1 _;rw[e1]
   ·exact nomatch e
  ·rcases a1S hb with⟨j,u,rfl,e⟩|⟨y,u,rfl,e⟩
   ·exact nomatch e
   ·injection e with e1 _;rw[e1]
 byValue:=fun k v h=>by
  rcases a1S h with⟨i,t,rfl,rfl⟩|⟨x,t,rfl,rfl⟩<;>rfl
 pyHash:=fun hv h=>by
  rcases a1S hv with⟨i,t,rfl,rfl⟩|⟨x,t,rfl,rfl⟩
  ·exact wpAny_pyHash_int h
  ·exact wpAny_pyHash_str h
 eqBool:=fun hu hv h=>by
  rcases a1S hu with⟨i,t,rfl,rfl⟩|⟨x,t,rfl,rfl⟩
  ·rcases a1S hv with⟨j,u,rfl,rfl⟩|⟨y,u,rfl,rfl⟩
   ·rw[b4o]at h;exact wpAny_eqBool_int h
   ·rw[b4q]at h;exact SeqAt.EqAt.int_str i t y u _ _ _ _ h
  ·rcases a1S hv with⟨j,u,rfl,rfl⟩|⟨y,u,rfl,rfl⟩
   ·rw[b4r]at h;exact SeqAt.EqAt.str_int x t j u _ _ _ _ h
   ·rw[b4p]at h;exact wpAny_eqBool_str h
 «strs»:=fun k x t v h=>by
  rcases a1S h with⟨i,u,rfl,e⟩|⟨y,u,rfl,e⟩
  ·exact nomatch e
  ·injection e with e1 _
   subst e1;cases v<;>rfl
theorem b4s(prog:Program)(w:World)(i:Int)(t:Tok):(k3_ prog w).is (.inl i) (.int i t)=true:=a9T i t
theorem b4t(prog:Program)(w:World)(x:Str)(t:Tok):(k3_ prog w).is (.inr x) (.str x t)=true:=b4n x t
inductive V where
 |non|bl (b:Bool)|int (i:Int)|str (x:Str)|byt (b:Array UInt8)|flt (b:UInt64)|ref (a:Addr)|ty (n:String)
 deriving DecidableEq
variable{v y:V}{vs:List V}
def v4_:V->Value->Prop
 |.non,u=>u=Value.none
 |.bl b,u=>u=Value.bool b
 |.int i,u=>∃t,u=Value.int i t
 |.str x,u=>∃t,u=Value.str x t
 |.byt b,u=>∃t,u=Value.bytes b t
 |.flt b,u=>∃t,u=Value.float b t
 |.ref a,u=>u=Value.ref a
 |.ty n,u=>u=Value.type n
abbrev v2_:List V->List Value->Prop:=Paired v4_
theorem v2_.length{xs:List V}(r:v2_ xs us):xs.length=us.length:=Paired.length r
theorem v2_.get:∀{xs:List V}{us:List Value}{i:Nat}{x:V},v2_ xs us->xs[i]? =some x->∃u,us[i]? =some u/\v4_ x u
 |_,_,_,_,.nil,e=>by simp at e
 |_,_,0,_,.cons r _,e=>by simp at e;subst e;exact⟨_,rfl,r⟩
 |_,_,i+1,x,.cons _ t,e=>by
  obtain⟨u,h1,h2⟩:=v2_.get (i:=i) (x:=x) t (by simpa using e)
  exact⟨u,by simpa using h1,h2⟩
theorem v2_.set{x:V}{u:Value}(r:v4_ x u):∀{xs:List V}{us:List Value}(i:Nat),v2_ xs us->v2_ (xs.set i x) (us.set i u)
 |_,_,_,.nil=>.nil
 |_,_,0,.cons _ t=>.cons r t
 |_,_,i+1,.cons q t=>.cons q (v2_.set r i t)
theorem v2_.append:∀{xs ys:List V}{us ws:List Value},v2_ xs us->v2_ ys ws->v2_ (xs++ys) (us++ws)
 |_,_,_,_,.nil,s=>s
 |_,_,_,_,.cons r t,s=>.cons r (v2_.append t s)
theorem v2_.take:∀{xs:List V}{us:List Value}(n:Nat),v2_ xs us->v2_ (xs.take n) (us.take n)
 |_,_,0,_=>.nil
 |_,_,_+1,.nil=>.nil
 |_,_,n+1,.cons r t=>.cons r (v2_.take n t)
theorem v2_.drop:∀{xs:List V}{us:List Value}(n:Nat),v2_ xs us->v2_ (xs.drop n) (us.drop n)
 |_,_,0,r=>r
 |_,_,_+1,.nil=>.nil
 |_,_,n+1,.cons _ t=>v2_.drop n t
def a5g:Option V->Option Value->Prop
 |some v,some u=>v4_ v u
 |none,none=>True
 |_,_=>False
def KV{κ:Type}:List (κ×V)->List (κ×Value)->Prop:=Paired fun(p:κ×V) (q:κ×Value)=>p.1=q.1/\v4_ p.2 q.2
def kV:Key->V
 |.inl i=>.int i
 |.inr x=>.str x
inductive HO where
 |lst (xs:List V)
 |tup (xs:List V)
 |dK (kvs:List (Key×V))|dT (C:Addr->List Key->Prop) (kvs:List (List Key×V))|dX (es:Array DictEntry) (ep:Nat)
 |set (S:Int->Bool) (n:Nat)
 |ins (C dx:Addr) (fs:List (Str×V))
 |own (x:Addr)
 |xd (fs:List (Str×V))
 |met (f x:Addr)
 |rng (lo hi:Int)
 |frz (o:Obj) (u:HO)
 |tbl (ps:Array Value)
 |ext (φ:Heap->Prop)
variable{o:HO}
abbrev Hp:=Addr->Option HO
variable{H H':Hp}{R:V->V->Hp->Prop}
def upd(H:Hp)(a:Addr)(o:HO):Hp:=fun b=>if b=a then some o else H b
theorem x0_:upd H a o a=some o:=by unfold upd;rw[Qh rfl]
theorem v0_(h:b≠a):upd H a o b=H b:=by unfold upd;rw[Qm h]
theorem a6N{u:HO}:upd (upd H a o) a u=upd H a u:=by
 funext b;unfold upd;split<;>rfl
theorem u5_(h:H a=some o)(h':H b=none):a≠b:=by
 intro e;subst e;rw[h]at h';cases h'
def a0Y(h:Heap)(a:Addr)(items:Array Value):Prop:=∃o,h.get? a=some o/\o.cls=.type "tuple"/\o.dict=none/\∃n,o.data=.seq items n
theorem a0Y.tup{items:Array Value}:a0Y h a items->IsTup h a items:=fun⟨o,e,c,_,d⟩=>⟨o,e,c,d⟩
theorem a0Y.lt{items:Array Value}(p:a0Y h a items):a<h.objs.size:=p.tup.lt
theorem a0Y.new(h:Heap)(items:Array Value):a0Y (h.push {cls:=.type "tuple",data:=.seq items}) h.objs.size items:=⟨_,Qu _ rfl,rfl,rfl,_,rfl⟩
section
variable(P:Program)(w:World)
def x5_(H:Hp)(h:Heap)(a:Addr):HO->Prop
 |.lst xs=>xs.length≤sizeLine/\∃(its:List Value) (n:Nat),v2_ xs its/\h.get? a=some {cls:=.type "list",data:=.seq its.toArray n}
 |.tup xs=>xs.length≤sizeLine/\∃its:List Value,v2_ xs its/\a0Y h a its.toArray
 |.dK kvs=>kvs.length≤sizeLine/\(a==sysModules)=false/\∃vs,KV kvs vs/\h.DictOf (k3_ P w) a vs
 |.dT C kvs=>kvs.length≤sizeLine/\(a==sysModules)=false/\∃xs:List (List Key×Addr×Value),
   Paired (fun(p:List Key×V) (q:List Key×Addr×Value)=>p.1=q.1/\(H q.2.1=some (.tup (p.1.map kV))∨C q.2.1 p.1)/\v4_ p.2 q.2.2) kvs xs/\
   ∃o es ep,h.get? a=some o/\o.ExactDict/\o.data=.dict es ep/\es.toList=xs.map (entryOfKey (tupleKind (k3_ P w)))/\(xs.map (·.1)).Nodup
 |.dX es ep=>es.size≤sizeLine/\(a==sysModules)=false/\∃o,h.get? a=some o/\o.ExactDict/\o.data=.dict es ep
 |.set S n=>h.SetOf (intKind P w) a S n
 |.ins C dx fs=>H dx=some (.own a)/\fs.length≤1000/\dx≠a/\h.get? a=some (PySem.W.instObj C dx)/\
   ∃mA,h.Ns1 dx mA/\(∀f,a5g (fs.lookup f) (mA f))/\PySem.Within mA (fs.map (·.1))
 |.own _=>∃o,h.get? a=some o
 |.xd fs=>∃mA,h.Ns1 a mA/\∀f,a5g (fs.lookup f) (mA f)
 |.rng lo hi=>∃t u v,h.get? a=some {cls:=.type "range",data:=.fields #[.int lo t,.int hi u,.int 1 v]}
 |.frz o u=>h.get? a=some o/\x5_ H h a u
 |.tbl ps=>h.get? a=some {cls:=.none,data:=.fields ps}
 |.met f x=>h.get? a=some (PySem.W.methodObj (.ref f) (.ref x))
 |.ext φ=>φ h/\(∃o,h.get? a=some o)/\∀h1 h2:Heap,φ h1->(∀o,h1.get? a=some o->h2.get? a=some o)->φ h2
def HOk(H:Hp)(h:Heap):Prop:=∀a o,H a=some o->x5_ P w H h a o
end
theorem x5_.lt(x:x5_ P w H h a o):a<h.objs.size:=by
 cases o with
 |lst xs=>obtain⟨_,_,_,_,e⟩:=x;exact Qg e
 |tup xs=>obtain⟨_,_,_,p⟩:=x;exact p.lt
 |dK kvs=>obtain⟨_,_,_,_,o,_,_,e,_⟩:=x;exact Qg e
 |dT C kvs=>obtain⟨_,_,_,_,o,_,_,e,_⟩:=x;exact Qg e
 |dX es ep=>obtain⟨_,_,o,e,_⟩:=x;exact Qg e
 |set S n=>obtain⟨o,_,_,_,e,_⟩:=x;exact Qg e
 |ins C dx fs=>obtain⟨_,_,_,e,_⟩:=x;exact Qg e
 |own y=>obtain⟨_,e⟩:=x;exact Qg e
 |xd fs=>obtain⟨_,⟨_,_,_,e,_⟩,_⟩:=x;exact Qg e
 |rng lo hi=>obtain⟨_,_,_,e⟩:=x;exact Qg e
 |frz ob u=>obtain⟨e,_⟩:=x;exact Qg e
 |tbl ps=>exact Qg (show h.get? a=some _ from x)
 |met f y=>exact Qg (show h.get? a=some _ from x)
 |ext φ=>obtain⟨_,⟨_,e⟩,_⟩:=x;exact Qg e
theorem Paired.mapP{α β:Type}{F G:α->β->Prop}:∀{l₁:List α}{l₂:List β},Paired F l₁ l₂->(∀a b,F a b->G a b)->Paired G l₁ l₂
 |_,_,.nil,_=>.nil
 |_,_,.cons r t,f=>.cons (f _ _ r) (Paired.mapP t f)
theorem x5_.stay(x:x5_ P w H h a o)(k:∀b u,(b=a∨H b=some (.own a))->h.get? b=some u->h'.get? b=some u)
  (ho:∀b,H b=some (.own a)->H' b=some (.own a))(ht:∀b xs,H b=some (.tup xs)->H' b=some (.tup xs)):x5_ P w H' h' a o:=by
 induction o with
 |lst xs=>obtain⟨z,its,n,r,e⟩:=x;exact⟨z,its,n,r,k _ _ (.inl rfl) e⟩
 |tup xs=>obtain⟨z,its,r,ob,e,c⟩:=x;exact⟨z,its,r,ob,k _ _ (.inl rfl) e,c⟩
 |dK kvs=>obtain⟨z,y,vs,r,ob,es,ep,e,c⟩:=x;exact⟨z,y,vs,r,ob,es,ep,k _ _ (.inl rfl) e,c⟩
 |dT C kvs=>
  obtain⟨z,y,xs,r,ob,es,ep,e,c⟩:=x;exact⟨z,y,xs,Paired.mapP r fun p q z=>⟨z.1,z.2.1.imp (ht _ _) id,z.2.2⟩,ob,es,ep,k _ _ (.inl rfl) e,c⟩
 |dX es ep=>obtain⟨z,y,ob,e,c⟩:=x;exact⟨z,y,ob,k _ _ (.inl rfl) e,c⟩
 |set S n=>obtain⟨ob,es,ep,t,e,c⟩:=x;exact⟨ob,es,ep,t,k _ _ (.inl rfl) e,c⟩
 |ins C dx fs=>
  obtain⟨d,z,ne,e,mA,⟨od,es,ep,e2,c⟩,r⟩:=x;exact⟨ho _ d,z,ne,k _ _ (.inl rfl) e,mA,⟨od,es,ep,k _ _ (.inr d) e2,c⟩,r⟩
 |own y=>obtain⟨ob,e⟩:=x;exact⟨ob,k _ _ (.inl rfl) e⟩
 |xd fs=>obtain⟨mA,⟨od,es,ep,e,c⟩,r⟩:=x;exact⟨mA,⟨od,es,ep,k _ _ (.inl rfl) e,c⟩,r⟩
 |rng lo hi=>obtain⟨t,u,v,e⟩:=x;exact⟨t,u,v,k _ _ (.inl rfl) e⟩
 |frz ob u ih=>obtain⟨e,q⟩:=x;exact⟨k _ _ (.inl rfl) e,ih q⟩
 |tbl ps=>
  have e:h.get? a=some {cls:=.none,data:=.fields ps}:=x
  show h'.get? a=some {cls:=.none,data:=.fields ps};exact k a _ (.inl rfl) e
 |met f y=>
  have e:h.get? a=some (PySem.W.methodObj (.ref f) (.ref y)):=x
  show h'.get? a=some (PySem.W.methodObj (.ref f) (.ref y));exact k a _ (.inl rfl) e
 |ext φ=>obtain⟨p,⟨o,e⟩,st⟩:=x;exact⟨st _ _ p fun o q=>k _ _ (.inl rfl) q,⟨o,k _ _ (.inl rfl) e⟩,st⟩
theorem HOk.lt(x:HOk P w H h)(e:H a=some o):a<h.objs.size:=(x a o e).lt
theorem HOk.fresh(x:HOk P w H h)(e:h.objs.size≤a):H a=none:=by
 cases q:H a with
 |none=>rfl
 |some u=>exact absurd (Qr (x.lt q) e) (Jw _)
theorem HOk.kept(x:HOk P w H h)(k:∀b u,h.get? b=some u->h'.get? b=some u):HOk P w H h':=fun a o e=>
 (x a o e).stay (fun b u _ q=>k b u q) (fun _ q=>q) fun _ _ q=>q
theorem HOk.laid(x:HOk P w H h)(k:∀b u,h.get? b=some u->h'.get? b=some u)(hp:h.objs.size≤a)(new:x5_ P w (upd H a o) h' a o):HOk P w (upd H a o) h':=fun b u e=>by
 have hn:=x.fresh hp
 by_cases hb:b=a
 ·subst hb;rw[x0_]at e;cases e;exact new
 ·rw[v0_ hb]at e
  exact(x b u e).stay (fun c v _ q=>k c v q) (fun c q=>by rw[v0_ (u5_ q hn)];exact q) fun c xs q=>by rw[v0_ (u5_ q hn)];exact q
def Rd(H:Hp)(a:Addr)(u:HO):Prop:=H a=some u∨ ∃o,H a=some (.frz o u)
theorem Rd.ok{u:HO}(r:Rd H a u)(x:HOk P w H h):x5_ P w H h a u:=by
 rcases r with r|⟨o,r⟩
 ·exact x a u r
 ·obtain⟨_,q⟩:=x a _ r
  exact q
def Mut:Option HO->Prop
 |some (.lst _)=>True
 |some (.dK _)=>True
 |some (.dT _ _)=>True
 |some (.dX _ _)=>True
 |some (.set _ _)=>True
 |some (.ins _ _ _)=>True
 |some (.ext _)=>True
 |_=>False
section
variable{x e:Addr}{o':HO}
theorem HOk.write(ok:HOk P w H h)(mu:Mut (H x))(he:e=x∨H e=some (.own x))(k:∀b u,b≠e->h.get? b=some u->h'.get? b=some u)(heo:∃u,h'.get? e=some u)
  (new:x5_ P w (upd H x o') h' x o'):HOk P w (upd H x o') h':=fun b u q=>by
 have nown:∀c y,H c=some (.own y)->c≠x:=fun c y r z=>by subst z;rw[r]at mu;exact mu
 have ntup:∀c xs,H c=some (.tup xs)->c≠x:=fun c xs r z=>by subst z;rw[r]at mu;exact mu
 by_cases hb:b=x
 ·subst hb;rw[x0_]at q;cases q;exact new
 ·rw[v0_ hb]at q
  by_cases hbe:b=e
  ·have q':H b=some (.own x):=by
    rcases he with z|z
    ·exact absurd (hbe.trans z) hb
    ·rw[hbe];exact z
   rw[q]at q';cases q';obtain⟨v,hv⟩:=heo;exact⟨v,by rw[hbe];exact hv⟩
  ·refine(ok b u q).stay (fun c v hc r=>k c v ?_ r) (fun c r=>by rw[v0_ (nown c b r)];exact r) fun c xs r=>by rw[v0_ (ntup c xs r)];exact r
   rcases hc with rfl|hc
   ·exact hbe
   ·rintro rfl
    rcases he with z|z
    ·exact nown c b hc z
    ·rw[hc]at z;cases z;exact hb rfl
end
structure Un(fs ex:List Addr)(H H':Hp)(h h':Heap):Prop where
 keep:∀b o,h.get? b=some o->H b=none->b∉fs->b∉ex->h'.get? b=some o
 slot:∀b o,h.get? b=some o->H b=none->b∈fs->b∉ex->∃sl,h'.get? b=some {o with slots:=sl}
 free:∀b o,h.get? b=some o->H b=none->b∉ex->H' b=none
 there:∀b o,h.get? b=some o->b∉ex->∃o',h'.get? b=some o'
 tups:∀b xs,H b=some (.tup xs)->H' b=some (.tup xs)
 frzs:∀b o u,H b=some (.frz o u)->H' b=some (.frz o u)
 tbls:∀b ps,H b=some (.tbl ps)->∃more,H' b=some (.tbl (ps++more))
section
variable{fs fs' ex ex':List Addr}{H1 H2:Hp}{h1 h2:Heap}{x e:Addr}
theorem Un.any(u:Un fs ex H H1 h h1){ob:Obj}(q:h.get? b=some ob)(n:H b=none)(hx:b∉ex):∃sl,h1.get? b=some {ob with slots:=sl}:=by
 by_cases hb:b∈fs
 ·exact u.slot b ob q n hb hx
 ·exact⟨ob.slots,u.keep b ob q n hb hx⟩
theorem Un.kept(k:∀b u,h.get? b=some u->h'.get? b=some u):Un fs ex H H h h':=
 ⟨fun b ob q _ _ _=>k b ob q,fun b ob q _ _ _=>⟨ob.slots,k b ob q⟩,fun _ _ _ n _=>n,fun b ob q _=>⟨ob,k b ob q⟩,fun _ _ q=>q,fun _ _ _ q=>q,fun _ ps q=>⟨#[],by rw[q];simp⟩⟩
theorem Un.refl:Un fs ex H H h h:=Un.kept fun _ _ q=>q
theorem Un.laid(k:∀b u,h.get? b=some u->h'.get? b=some u)(hp:h.objs.size≤a)(hn:H a=none):Un fs ex H (upd H a o) h h' where
 keep:=fun b u q _ _ _=>k b u q
 slot:=fun b u q _ _ _=>⟨u.slots,k b u q⟩
 free:=fun b u q n _=>by rw[v0_ (Qi (Qr (Qg q) hp))];exact n
 there:=fun b u q _=>⟨u,k b u q⟩
 tups:=fun b xs q=>by rw[v0_ (u5_ q hn)];exact q
 frzs:=fun b u xs q=>by rw[v0_ (u5_ q hn)];exact q
 tbls:=fun b ps q=>⟨#[],by rw[v0_ (u5_ q hn),q];simp⟩
theorem Un.write(mu:Mut (H x))(he:e=x∨H e=some (.own x))(k:∀b u,b≠e->h.get? b=some u->h'.get? b=some u)(heo:∃u,h'.get? e=some u):Un fs ex H (upd H x o) h h':=by
 have hx:∀b,H b=none->b≠x:=fun b n z=>by subst z;rw[n]at mu;exact mu
 have hb:∀b,H b=none->b≠e:=fun b n z=>by
  subst z
  rcases he with r|r
  ·exact hx b n r
  ·rw[n]at r;cases r
 have hm:∀b u,H b=some u-> ¬ Mut (some u)->b≠x:=fun b u q nm z=>by subst z;rw[q]at mu;exact nm mu
 refine⟨fun b u q n _ _=>k b u (hb b n) q,fun b u q n _ _=>⟨u.slots,k b u (hb b n) q⟩,fun b u q n _=>by rw[v0_ (hx b n)];exact n,fun b u q _=>?_,
  fun b xs q=>by rw[v0_ (hm b _ q fun z=>z)];exact q,fun b u xs q=>by rw[v0_ (hm b _ q fun z=>z)];exact q,fun b ps q=>⟨#[],by rw[v0_ (hm b _ q fun z=>z),q];simp⟩⟩
 by_cases hbe:b=e
 ·subst hbe;exact heo
 ·exact⟨u,k b u hbe q⟩
end
def trk(h:Heap)(H:Hp):List Addr:=(List.range h.objs.size).filter fun a=>(H a).isSome
def a1H(h:Heap)(H:Hp):Heap:=PySem.W.hideAll h (trk h H)
theorem b4u(h:Heap)(H:Hp):(a1H h H).objs.size=h.objs.size:=PySem.W.hideAll_size _ _
theorem b4v{o:Obj}(e:h.get? b=some o)(n:H b=none):(a1H h H).get? b=some o:=
 Ja _ e fun hm=>by
  have q:(H b).isSome=true:=(Vy.mp hm).2
  rw[n]at q;simp at q
theorem b4w{o:Obj}(e:(a1H h H).get? b=some o):h.get? b=some o/\H b=none:=by
 have e':h.get? b=some o:=PySem.W.of_hideAll (trk h H) e
 refine⟨e',?_⟩;cases q:H b with
 |none=>rfl
 |some x=>
  have hm:b∈trk h H:=Vy.mpr ⟨Zl.mpr (Qg e'),by simp[q]⟩
  have z:(a1H h H).get? b=none:=PySem.W.hideAll_none (trk h H) hm
  rw[z]at e;cases e
def b4x(g h:Heap)(L:Addr):OX:=(List.range h.objs.size).filterMap fun a=>if a=L∨(g.get? a).isSome=true then none else(h.get? a).map fun o=>(a,o)
def rest(g h:Heap)(L d:Addr):OX:=(b4x g h L).filter fun p=>decide (p.1≠d)
structure Mod(K:Qz)(mg:OU)(base:Heap):Prop where
 kin:K.In base
 glob:base.Ns mainGlobals mg
 blt:∃mb,base.Ns builtinsNs mb/\∀x:Str,x≠"__name__"->mb x=bootBuiltins x
 nolimit:base.NoLimit
structure Cx where
 prog:Program
 w:World
 K:Qz
 mg:OU
 base:Heap
 A:Around
 N:List Str
 s₀:Shared
 H₀:Hp
 env:Env
 outer:List Env
 stack:List Env
 ex:List Addr
 fn:Str->Bool
 calm:Bool
 pn:OX
 xe:OE
variable{X:Cx}
def frs(l:List Env):List Addr:=l.filterMap (·.frame)
abbrev Cx.fs(X:Cx):List Addr:=frs X.outer
def Vis(sc:Scope)(x:Str):Prop:=sc.names.lookup x=some .local∨sc.names.lookup x=some .cell∨sc.names.lookup x=some .free
def Loc(sc:Scope)(x:Str):Prop:=sc.names.lookup x=some .local∨sc.names.lookup x=some .cell
def a9U(env:Env)(h:Heap)(m:OU)(x:Str)(u:Value):Prop:=
 (env.kindOf x=some .local/\m x=some u)∨((env.kindOf x=some .cell∨env.kindOf x=some .free)/\∃c,env.cells.lookup x=some c/\h.IsCell c (some u))
structure Cx.Ok(X:Cx):Prop where
 mod:Mod X.K X.mg X.base
 kind:X.env.scope.kind=.function
 glob:X.env.globals=mainGlobals
 blt:X.env.builtins=builtinsNs
 above:X.s₀.heap.objs.size≤X.env.locals
 inj:∀x y c,X.env.cells.lookup x=some c->X.env.cells.lookup y=some c->x=y
 has:∀x,(X.env.kindOf x=some .cell∨X.env.kindOf x=some .free)->∃c,X.env.cells.lookup x=some c
 cab:∀x c,X.fn x=true->X.env.cells.lookup x=some c->X.s₀.heap.objs.size≤c
 hd:X.calm=true->X.A.handled=none
 frames:X.A.frames=some X.stack
 stk:X.stack=X.outer∨(X.stack=X.env::X.outer/\X.env.frame=some X.env.locals)
 exf:∀b∈X.ex,b≠X.env.locals/\∀x c,X.env.cells.lookup x=some c->c≠b
 bs:∀b o,X.base.get? b=some o->X.s₀.heap.get? b=some o/\X.H₀ b=none
 bsz:X.base.objs.size≤X.s₀.heap.objs.size
 noex:∀b o,X.base.get? b=some o->b∉X.ex
 exfs:∀b∈X.ex,b∉X.fs
 funs:X.s₀.heap.FunFrames X.base X.outer
 frf:∀b∈X.fs,X.H₀ b=none
structure Inv(X:Cx)(pins:OX)(σ:List (Option V))(H:Hp)(s:Shared):Prop where
 ok:X.Ok
 os:s.os=X.s₀.os
 bare:AllBare s.gens
 base:Un X.fs X.ex X.H₀ H X.s₀.heap s.heap
 loc:∃m,s.heap.Ns X.env.locals m/\∀(i:Nat) (x:Str) (v:V),X.N[i]? =some x->σ[i]? =some (some v)->Vis X.env.scope x->∃u,v4_ v u/\a9U X.env s.heap m x u
 cell:∀x c,X.env.cells.lookup x=some c->∃v,s.heap.IsCell c v
 free:H X.env.locals=none
 freeC:∀x c,X.env.cells.lookup x=some c->H c=none
 pin:∀p∈X.pn++pins,s.heap.get? p.1=some p.2/\H p.1=none/\p.1≠X.env.locals/\p.1∉X.fs/\∀v,p.2.data≠.cell v
 hok:HOk X.prog X.w H s.heap
 len:σ.length=X.N.length
section
variable{σ:List (Option V)}
theorem Cx.Ok.nofr(ok:X.Ok){o:Obj}(e:X.base.get? b=some o):b∉X.fs:=fun hb=>by
 have:=(ok.funs.mem hb).1;rw[e]at this;cases this
theorem Inv.bs(I:Inv X pins σ H s):∀b o,X.base.get? b=some o->s.heap.get? b=some o/\H b=none:=fun b o e=>
 ⟨I.base.keep b o (I.ok.bs b o e).1 (I.ok.bs b o e).2 (I.ok.nofr e) (I.ok.noex b o e),I.base.free b o (I.ok.bs b o e).1 (I.ok.bs b o e).2 (I.ok.noex b o e)⟩
theorem Inv.bk(I:Inv X pins σ H s):∀b o,X.base.get? b=some o->s.heap.get? b=some o:=fun b o e=>(I.bs b o e).1
theorem Inv.mod(I:Inv X pins σ H s):Mod X.K X.mg X.base:=I.ok.mod
theorem Inv.kIn(I:Inv X pins σ H s):X.K.In s.heap:=I.ok.mod.kin.keeps I.bk
theorem Inv.lt(I:Inv X pins σ H s):X.env.locals<s.heap.objs.size:=let ⟨_,hn,_⟩:=I.loc;hn.lt
theorem Inv.sz(I:Inv X pins σ H s):X.s₀.heap.objs.size≤s.heap.objs.size:=Zt I.ok.above (Up I.lt)
theorem Inv.nofs(I:Inv X pins σ H s)(h:s.heap.objs.size≤a):a∉X.fs:=fun hb=>by
 obtain⟨_,o,ho,_⟩:=I.ok.funs.mem hb;exact absurd (Qr (Qg ho) (Zt I.sz h)) (Jw _)
theorem Inv.cne(I:Inv X pins σ H s):∀x c,X.env.cells.lookup x=some c->c≠X.env.locals:=fun x c e z=>by
 obtain⟨v,o,ho,hd⟩:=I.cell x c e;obtain⟨m,⟨o',es,ep,ho',hd',_⟩,_⟩:=I.loc;rw[z,ho']at ho;cases ho;rw[hd']at hd;cases hd
theorem Inv.funs(I:Inv X pins σ H s):s.heap.FunFrames X.base X.outer:=by
 have all:∀(l:List Env),(∀b∈frs l,b∈X.fs)->X.s₀.heap.FunFrames X.base l->s.heap.FunFrames X.base l:=by
  intro l
  induction l with
  |nil=>intro _ _;trivial
  |cons env r ih=>
   intro hs hl;obtain⟨hk,⟨L,o,hf,hn,ho,hd⟩,hr⟩:=hl;have hL:L∈X.fs:=hs L (by unfold frs;rw[Js,hf];exact Zf)
   obtain⟨sl,e⟩:=I.base.slot L o ho (I.ok.frf L hL) hL fun z=>I.ok.exfs L z hL
   exact⟨hk,⟨L,_,hf,hn,e,hd⟩,ih (fun b hb=>hs b (by unfold frs;rw[Js,hf];exact Zp _ hb)) hr⟩
 exact all X.outer (fun _ hb=>hb) I.ok.funs
theorem Inv.stack(I:Inv X pins σ H s):s.heap.FunFrames X.base X.stack:=by
 rcases I.ok.stk with e|⟨e,hf⟩
 ·rw[e];exact I.funs
 ·rw[e]
  obtain⟨m,hn,_⟩:=I.loc;refine .cons (by rw[I.ok.kind];decide) hf hn ?_ I.funs
  exact Heap.get?_none_of_le (Zt I.ok.bsz I.ok.above)
theorem Inv.stkSub(I:Inv X pins σ H s):∀b∈frs X.stack,b∈X.env.locals::X.fs:=fun b hb=>by
 rcases I.ok.stk with e|⟨e,hf⟩
 ·rw[e]at hb;exact Zp _ hb
 ·rw[e]at hb
  unfold frs at hb;rw[Js,hf]at hb;exact hb
theorem Inv.stkFree(I:Inv X pins σ H s):∀b∈frs X.stack,H b=none:=fun b hb=>by
 rcases Qc.mp (I.stkSub b hb)with e|hb
 ·rw[e];exact I.free
 ·obtain⟨_,o,ho,_⟩:=I.ok.funs.mem hb
  exact I.base.free b o ho (I.ok.frf b hb) fun z=>I.ok.exfs b z hb
theorem Inv.step(I:Inv X pins σ H s)
  (hch:∀b∈ch,(b∈X.ex∨X.s₀.heap.objs.size≤b)/\b≠X.env.locals/\(∀x c,X.env.cells.lookup x=some c->c≠b)/\∀p∈X.pn++pins,p.1≠b)
  (keep:∀b o,b≠X.env.locals->b∉X.fs->b∉ch->s.heap.get? b=some o->H b=none->h'.get? b=some o)
  (slot:∀b o,b≠X.env.locals->b∈X.fs->b∉ch->s.heap.get? b=some o->H b=none->∃sl,h'.get? b=some {o with slots:=sl})(free:∀b o,b∉ch->s.heap.get? b=some o->H b=none->H' b=none)
  (there:∀b o,b∉ch->s.heap.get? b=some o->∃o',h'.get? b=some o')
  (tups:∀b xs,H b=some (.tup xs)->H' b=some (.tup xs))(frzs:∀b o u,H b=some (.frz o u)->H' b=some (.frz o u))(tbls:∀b ps,H b=some (.tbl ps)->∃more,H' b=some (.tbl (ps++more)))
  (ns:∀m,s.heap.Ns X.env.locals m->h'.Ns X.env.locals m)(hok:HOk X.prog X.w H' h')(hg:AllBare g'):
  Inv X pins σ H' {s with heap:=h',gens:=g',drawn:=d',toks:=t'}:=by
 have neL:∀b o,X.s₀.heap.get? b=some o->b≠X.env.locals:=fun b o e=>Qi (Qr (Qg e) I.ok.above)
 have neC:∀b o,X.s₀.heap.get? b=some o->b∉X.ex->b∉ch:=fun b o e hx hb=>by
  rcases(hch b hb).1 with z|z
  ·exact hx z
  ·exact absurd (Qr (Qg e) z) (Jw _)
 have cellK:∀x c,X.env.cells.lookup x=some c->∀v,s.heap.IsCell c v->h'.IsCell c v:=fun x c e v ⟨o,ho,hd⟩=>by
  have nch:c∉ch:=fun z=>(hch c z).2.2.1 x c e rfl
  by_cases hc:c∈X.fs
  ·obtain⟨sl,q⟩:=slot c o (I.cne x c e) hc nch ho (I.freeC x c e)
   exact⟨_,q,hd⟩
  ·exact⟨o,keep c o (I.cne x c e) hc nch ho (I.freeC x c e),hd⟩
 refine⟨I.ok,I.os,hg,⟨fun b o e n hb hx=>?_,fun b o e n hb hx=>?_,fun b o e n hx=>?_,fun b o e hx=>?_,fun b xs e=>tups b xs (I.base.tups b xs e),fun b o xs e=>frzs b o xs (I.base.frzs b o xs e),fun b ps e=>?_⟩,?_,fun x c e=>?_,?_,fun x c e=>?_,fun p hp=>?_,hok,I.len⟩
 ·exact keep b o (neL b o e) hb (neC b o e hx) (I.base.keep b o e n hb hx) (I.base.free b o e n hx)
 ·obtain⟨sl,e1⟩:=I.base.slot b o e n hb hx
  obtain⟨sl',e2⟩:=slot b _ (neL b o e) hb (neC b o e hx) e1 (I.base.free b o e n hx);exact⟨sl',e2⟩
 ·obtain⟨o',e1⟩:=I.base.there b o e hx
  exact free b o' (neC b o e hx) e1 (I.base.free b o e n hx)
 ·obtain⟨o',e1⟩:=I.base.there b o e hx
  exact there b o' (neC b o e hx) e1
 ·obtain⟨m1,e1⟩:=I.base.tbls b ps e
  obtain⟨m2,e2⟩:=tbls b _ e1;exact⟨m1++m2,by rw[e2,Array.append_assoc]⟩
 ·obtain⟨m,hn,hl⟩:=I.loc
  refine⟨m,ns m hn,fun i x v e1 e2 e3=>?_⟩
  obtain⟨u,r,l⟩:=hl i x v e1 e2 e3;refine⟨u,r,?_⟩
  rcases l with l|⟨k,c,e,z⟩
  ·exact .inl l
  ·exact .inr ⟨k,c,e,cellK x c e _ z⟩
 ·obtain⟨v,z⟩:=I.cell x c e
  exact⟨v,cellK x c e v z⟩
 ·obtain⟨m,⟨o,_,_,ho,_⟩,_⟩:=I.loc
  exact free _ o (fun z=>(hch _ z).2.1 rfl) ho I.free
 ·obtain⟨v,o,ho,hd⟩:=I.cell x c e
  exact free c o (fun z=>(hch c z).2.2.1 x c e rfl) ho (I.freeC x c e)
 ·obtain⟨e,n,ne,nf,d⟩:=I.pin p hp
  have nch:p.1∉ch:=fun z=>(hch p.1 z).2.2.2 p hp rfl
  exact⟨keep p.1 p.2 ne nf nch e n,free p.1 p.2 nch e n,ne,nf,d⟩
theorem Inv.un(I:Inv X pins σ H s)(u:Un X.fs [] H H' s.heap h')(hok:HOk X.prog X.w H' h'):Inv X pins σ H' {s with heap:=h',toks:=t'}:=by
 obtain⟨m,⟨o,es,ep,ho,r⟩,_⟩:=id I.loc;obtain⟨sl,hL⟩:=u.any ho I.free (by simp)
 exact I.step (g':=s.gens) (d':=s.drawn) (ch:=[]) (fun _ z=>nomatch z) (fun b o _ hb _ e n=>u.keep b o e n hb (by simp)) (fun b o _ hb _ e n=>u.slot b o e n hb (by simp)) (fun b o _ e n=>u.free b o e n (by simp)) (fun b o _ e=>u.there b o e (by simp)) u.tups u.frzs u.tbls (fun m' hm=>by
  obtain⟨o',es',ep',ho',r'⟩:=hm;rw[ho]at ho';cases ho';exact⟨_,es',ep',hL,r'⟩) hok I.bare
theorem Inv.call(I:Inv X pins σ H s)(u:Un (frs X.stack) ch H H' s.heap h')(hok:HOk X.prog X.w H' h')(hg:AllBare g')
  (hch:∀b∈ch,(b∈X.ex∨X.s₀.heap.objs.size≤b)/\b≠X.env.locals/\(∀x c,X.env.cells.lookup x=some c->c≠b)/\∀p∈X.pn++pins,p.1≠b):
  Inv X pins σ H' {s with heap:=h',gens:=g',drawn:=d',toks:=t'}:=by
 obtain⟨m,⟨o,es,ep,ho,r⟩,_⟩:=id I.loc;obtain⟨sl,hL⟩:=u.any ho I.free fun z=>(hch _ z).2.1 rfl
 exact I.step (ch:=ch) hch (fun b o hL hb hc e n=>u.keep b o e n (fun z=>(Qc.mp (I.stkSub b z)).elim hL hb) hc) (fun b o _ _ hc e n=>u.any e n hc) (fun b o hc e n=>u.free b o e n hc) (fun b o hc e=>u.there b o e hc) u.tups u.frzs u.tbls (fun m' hm=>by
  obtain⟨o',es',ep',ho',r'⟩:=hm;rw[ho]at ho';cases ho';exact⟨_,es',ep',hL,r'⟩) hok hg
theorem Inv.turned(I:Inv X pins σ H s)(k:∀b o,b≠it->s.heap.get? b=some o->h'.get? b=some o)(hn:H it=none)(hL:it≠X.env.locals)
  (h1:it∈X.ex∨X.s₀.heap.objs.size≤it)(h2:∀x c,X.env.cells.lookup x=some c->c≠it)(h3:∀p∈X.pn++pins,p.1≠it):Inv X pins σ H {s with heap:=h',toks:=t'}:=by
 have nit:∀b u,H b=some u->b≠it:=fun b u e z=>by rw[z,hn]at e;cases e
 refine I.step (g':=s.gens) (d':=s.drawn) (ch:=[it]) (fun b hb=>?_) (fun b o _ _ hc e _=>k b o (fun z=>hc (by simp[z])) e) (fun b o _ _ hc e _=>⟨o.slots,k b o (fun z=>hc (by simp[z])) e⟩) (fun _ _ _ _ n=>n)
  (fun b o hc e=>⟨o,k b o (fun z=>hc (by simp[z])) e⟩) (fun _ _ e=>e) (fun _ _ _ e=>e) (fun b ps e=>⟨#[],by rw[e];simp⟩) (fun m hm=>?_) (fun b u e=>?_) I.bare
 ·have e:b=it:=by simpa using hb
  subst e;exact⟨h1,hL,h2,h3⟩
 ·obtain⟨o,es,ep,ho,r⟩:=hm
  exact⟨o,es,ep,k _ o (Zh hL) ho,r⟩
 ·refine(I.hok b u e).stay (fun c v hc q=>k c v ?_ q) (fun _ q=>q) fun _ _ q=>q
  rcases hc with z|z
  ·rw[z];exact nit b u e
  ·exact nit c _ z
theorem Inv.tok(I:Inv X pins σ H s)(t:Nat):Inv X pins σ H {s with toks:=t}:=I.un (h':=s.heap) (t':=t) Un.refl I.hok
theorem Inv.kept(I:Inv X pins σ H s)(k:∀b u,s.heap.get? b=some u->h'.get? b=some u):Inv X pins σ H {s with heap:=h',toks:=t'}:=I.un (Un.kept k) (I.hok.kept k)
theorem Inv.laid(I:Inv X pins σ H s)(k:∀b u,s.heap.get? b=some u->h'.get? b=some u)(hp:s.heap.objs.size≤a)(new:x5_ X.prog X.w (upd H a o) h' a o):
  Inv X pins σ (upd H a o) {s with heap:=h',toks:=t'}:=I.un (Un.laid k hp (I.hok.fresh hp)) (I.hok.laid k hp new)
theorem Inv.write{x e:Addr}(I:Inv X pins σ H s)(mu:Mut (H x))(he:e=x∨H e=some (.own x))(k:∀b u,b≠e->s.heap.get? b=some u->h'.get? b=some u)(heo:∃u,h'.get? e=some u)
  (new:x5_ X.prog X.w (upd H x o) h' x o):Inv X pins σ (upd H x o) {s with heap:=h',toks:=t'}:=I.un (Un.write mu he k heo) (I.hok.write mu he k heo new)
theorem Inv.pins_of{pins':OX}(I:Inv X pins σ H s)(h:∀p∈pins',s.heap.get? p.1=some p.2/\H p.1=none/\p.1≠X.env.locals/\p.1∉X.fs/\∀v,p.2.data≠.cell v):Inv X pins' σ H s:=
 ⟨I.ok,I.os,I.bare,I.base,I.loc,I.cell,I.free,I.freeC,fun p hp=>(Ym.mp hp).elim (fun z=>I.pin p (Xn _ z)) (h p),I.hok,I.len⟩
theorem a6O(hN:N.Nodup)(a:N[i]? =some x)(b:N[j]? =some x):i=j:=by
 obtain⟨h1,e1⟩:=Qy.mp a;obtain⟨h2,e2⟩:=Qy.mp b;exact(List.getElem_inj hN).mp (e1.trans e2.symm)
theorem a9V{Q:Unit->Shared->Prop}(I:Inv X pins σ H s)(hN:X.N.Nodup)(hi:X.N[i]? =some x)(hx:Loc X.env.scope x)(r:v4_ v u)
  (h:∀s',Inv X pins (σ.set i (some v)) H s'->(∃a,Heap.SameBut a s.heap s'.heap/\(a=X.env.locals∨X.env.cells.lookup x=some a))->Q () s')(hf:X.fn x=true∨X.env.scope.names.lookup x=some .local:=by first|exact .inl rfl|exact .inr rfl|assumption):wpAny M A (storeName X.env x u) Q E s:=by
 obtain⟨m,hn,hl⟩:=id I.loc;have hcls:(X.env.scope.kind==.class||(X.env.scope.kind==.module&&X.env.locals !=X.env.globals))=false:=by rw[I.ok.kind];rfl
 have hiσ:i<σ.length:=by rw[I.len];exact(Qy.mp hi).1
 have cne:=I.cne
 have tracked:∀{a:Addr}{h':Heap},(∃o,s.heap.get? a=some o/\H a=none)->Heap.SameBut a s.heap h'->HOk X.prog X.w H h':=fun{a h'} ha hs b ob e=>by
  obtain⟨_,_,hfree⟩:=ha;refine(I.hok b ob e).stay (fun c w' hc q=>(hs.2 c ?_).trans q) (fun _ q=>q) fun _ _ q=>q
  rintro rfl
  rcases hc with rfl|hc
  ·rw[hfree]at e;cases e
  ·rw[hfree]at hc;cases hc
 rcases hx with hk|hk
 ·refine wpAny_storeName_local hk hn (fun h' hn' hs=>?_) hcls
  obtain⟨oL,_,_,hoL,_⟩:=id hn;refine h _ ⟨I.ok,I.os,I.bare,⟨fun b o e n hb hx=>?_,fun b o e n hb hx=>?_,I.base.free,fun b o e hx=>?_,I.base.tups,I.base.frzs,I.base.tbls⟩,⟨_,hn',fun j y v' e1 e2 e3=>?_⟩,fun y c e=>?_,I.free,I.freeC,fun p hp=>?_,tracked ⟨oL,hoL,I.free⟩ hs,by simpa using I.len⟩ ⟨_,hs,.inl rfl⟩
  ·exact(hs.2 b (Qi (Qr (Qg e) I.ok.above))).trans (I.base.keep b o e n hb hx)
  ·obtain⟨sl,e1⟩:=I.base.slot b o e n hb hx
   exact⟨sl,(hs.2 b (Qi (Qr (Qg e) I.ok.above))).trans e1⟩
  ·obtain⟨o',e1⟩:=I.base.there b o e hx
   exact⟨o',(hs.2 b (Qi (Qr (Qg e) I.ok.above))).trans e1⟩
  ·by_cases hj:j=i
   ·subst hj
    rw[hi]at e1;cases e1;rw[Yz hiσ]at e2;cases e2;exact⟨u,r,.inl ⟨hk,by simp⟩⟩
   ·rw[Ql (Zh hj)]at e2
    obtain⟨u',r',q⟩:=hl j y v' e1 e2 e3;refine⟨u',r',?_⟩
    rcases q with⟨k,e⟩|⟨k,c,e,z⟩
    ·refine .inl ⟨k,?_⟩
     have:y≠x:=fun e=>hj (a6O hN e1 (e ▸ hi))
     simp[this,e]
    ·exact .inr ⟨k,c,e,z.sameBut hs (cne y c e)⟩
  ·obtain⟨w',z⟩:=I.cell y c e
   exact⟨w',z.sameBut hs (cne y c e)⟩
  ·obtain⟨e,n,ne,nf,d⟩:=I.pin p hp
   exact⟨(hs.2 p.1 ne).trans e,n,ne,nf,d⟩
 ·have hfn:X.fn x=true:=by
   rcases hf with z|z
   ·exact z
   ·rw[z]at hk;cases hk
  obtain⟨c,hc⟩:=I.ok.has x (.inl hk);obtain⟨w',z⟩:=I.cell x c hc;refine wpAny_storeName_cell I.ok.kind hk hc z (fun h' hc' hs=>?_)
  obtain⟨oc,hoc,hocd⟩:=id z;refine h {s with heap:=h'} ⟨I.ok,I.os,I.bare,⟨fun b o e n hb hx=>?_,fun b o e n hb hx=>?_,I.base.free,fun b o e hx=>?_,I.base.tups,I.base.frzs,I.base.tbls⟩,⟨m,hn.sameBut hs (Zh (cne x c hc)),fun j y v' e1 e2 e3=>?_⟩,fun y c' e=>?_,I.free,I.freeC,fun p hp=>?_,tracked ⟨oc,hoc,I.freeC x c hc⟩ hs,by simpa using I.len⟩ ⟨c,hs,.inr hc⟩
  ·exact(hs.2 b (Qi (Qr (Qg e) (I.ok.cab x c hfn hc)))).trans (I.base.keep b o e n hb hx)
  ·obtain⟨sl,e1⟩:=I.base.slot b o e n hb hx
   exact⟨sl,(hs.2 b (Qi (Qr (Qg e) (I.ok.cab x c hfn hc)))).trans e1⟩
  ·obtain⟨o',e1⟩:=I.base.there b o e hx
   exact⟨o',(hs.2 b (Qi (Qr (Qg e) (I.ok.cab x c hfn hc)))).trans e1⟩
  ·by_cases hj:j=i
   ·subst hj
    rw[hi]at e1;cases e1;rw[Yz hiσ]at e2;cases e2;exact⟨u,r,.inr ⟨.inl hk,c,hc,hc'⟩⟩
   ·rw[Ql (Zh hj)]at e2
    obtain⟨u',r',q⟩:=hl j y v' e1 e2 e3;refine⟨u',r',?_⟩
    rcases q with q|⟨k,c',e,z'⟩
    ·exact .inl q
    ·refine .inr ⟨k,c',e,z'.sameBut hs ?_⟩
     rintro rfl;exact hj (a6O hN e1 (I.ok.inj _ _ _ e hc ▸ hi))
  ·by_cases hcc:c'=c
   ·subst hcc;exact⟨_,hc'⟩
   ·obtain⟨w2,z2⟩:=I.cell y c' e
    exact⟨w2,z2.sameBut hs hcc⟩
  ·obtain⟨e,n,ne,nf,d⟩:=I.pin p hp
   refine⟨(hs.2 p.1 ?_).trans e,n,ne,nf,d⟩;intro q;rw[q,hoc]at e;have q':oc=p.2:=Zs e;exact d w' (by rw[←q'];exact hocd)
theorem a2R{Q:Unit->Shared->Prop}(I:Inv X pins σ H s)(hN:X.N.Nodup)(hi:X.N[i]? =some x)(hx:Loc X.env.scope x)(r:v4_ v u)
  (h:∀s',Inv X pins (σ.set i (some v)) H s'->Q () s')(hf:X.fn x=true∨X.env.scope.names.lookup x=some .local:=by first|exact .inl rfl|exact .inr rfl|assumption):wpAny M A (storeName X.env x u) Q E s:=
 a9V I hN hi hx r (fun s' I' _=>h s' I') hf
theorem Inv.call'(I:Inv X pins σ H s)(ho:s'.os=s.os)(u:Un (frs X.stack) ch H H' s.heap s'.heap)(hok:HOk X.prog X.w H' s'.heap)(hg:AllBare s'.gens)
  (hch:∀b∈ch,(b∈X.ex∨X.s₀.heap.objs.size≤b)/\b≠X.env.locals/\(∀x c,X.env.cells.lookup x=some c->c≠b)/\∀p∈X.pn++pins,p.1≠b):Inv X pins σ H' s':=by
 obtain⟨h',g',d',t',o'⟩:=s';have e:o'=s.os:=ho;subst e;exact I.call (g':=g') (t':=t') (d':=d') u hok hg hch
end
abbrev XK:=Value->Option Addr->Hp->Prop
abbrev St:=List (Option V)
variable{σ:St}
abbrev VK:=V->Hp->Prop
abbrev TE:=St->Hp->VK->Prop
variable{ta tb te:TE}
abbrev TT:=St->Hp->(Bool->Hp->Prop)->Prop
abbrev TA:=St->Hp->(List V->Hp->Prop)->Prop
structure Ends where
 nx:St->Hp->Prop
 rt:VK
 bk:St->Hp->Prop:=fun _ _=>False
 ct:St->Hp->Prop:=fun _ _=>False
abbrev TS:=Ends->St->Hp->Prop
def EP(X:Cx)(pins:OX)(σ:St)(Q:VK)(u:Value)(s':Shared):Prop:=∃v H',Inv X pins σ H' s'/\v4_ v u/\Q v H'
def TP(X:Cx)(pins:OX)(σ:St)(Q:Bool->Hp->Prop)(b:Bool)(s':Shared):Prop:=∃H',Inv X pins σ H' s'/\Q b H'
def AP(X:Cx)(pins:OX)(σ:St)(Q:List V->Hp->Prop)(us:List Value)(s':Shared):Prop:=∃vs H',Inv X pins σ H' s'/\v2_ vs us/\Q vs H'
def SP(X:Cx)(pins:OX)(D:Ends)(f:Flow)(s':Shared):Prop:=
 match f with
 |.next=>∃σ' H',Inv X pins σ' H' s'/\D.nx σ' H'
 |.brk=>∃σ' H',Inv X pins σ' H' s'/\D.bk σ' H'
 |.cont=>∃σ' H',Inv X pins σ' H' s'/\D.ct σ' H'
 |.ret u=>∃v σ' H',Inv X pins σ' H' s'/\v4_ v u/\D.rt v H'
def PE(X:Cx)(e:Expr)(t:TE):Prop:=
 ∀(pins:OX) (s:Shared) (σ:St) (H:Hp) (Q:VK),Inv X pins σ H s->t σ H Q->wpAny (model X.prog X.w) X.A (eval e X.env) (EP X pins σ Q) X.xe s
def PT(X:Cx)(e:Expr)(t:TT):Prop:=
 ∀(pins:OX) (s:Shared) (σ:St) (H:Hp) (Q:Bool->Hp->Prop),Inv X pins σ H s->t σ H Q->wpAny (model X.prog X.w) X.A (isTrue e X.env (eval e X.env)) (TP X pins σ Q) X.xe s
def PW(X:Cx)(e:Expr)(t:TT):Prop:=
 ∀(whole:Sem Value) (pins:OX) (s:Shared) (σ:St) (H:Hp) (Q:Bool->Hp->Prop),Inv X pins σ H s->t σ H Q->wpAny (model X.prog X.w) X.A (isTrue e X.env whole) (TP X pins σ Q) X.xe s
theorem PW.pt{t:TT}(h:PW X e t):PT X e t:=h _
def PA(X:Cx)(es:List Expr)(t:TA):Prop:=
 ∀(pos:Pos) (pins:OX) (s:Shared) (σ:St) (H:Hp) (Q:List V->Hp->Prop),Inv X pins σ H s->t σ H Q->wpAny (model X.prog X.w) X.A (spliced (backTo pos (starEach es X.env))) (AP X pins σ Q) X.xe s
def PS(X:Cx)(st:Stmt)(t:TS):Prop:=
 ∀(pins:OX) (s:Shared) (σ:St) (H:Hp) (D:Ends),Inv X pins σ H s->t D σ H->wpAny (model X.prog X.w) X.A (exec st X.env) (SP X pins D) X.xe s
def PSs(X:Cx)(st:List Stmt)(t:TS):Prop:=
 ∀(pins:OX) (s:Shared) (σ:St) (H:Hp) (D:Ends),Inv X pins σ H s->t D σ H->wpAny (model X.prog X.w) X.A (execs st X.env) (SP X pins D) X.xe s
theorem thn{t:Sem α}{Q Q':α->Shared->Prop}(h:wpAny M A t Q E s)(hQ:∀a s,Q a s->Q' a s):wpAny M A t Q' E s:=Zn h hQ fun _ _ x=>x
section
theorem bin{a b:Expr}(ha:PE X a ta)(hb:PE X b tb)(I:Inv X pins σ H s)(h:ta σ H fun x H1=>tb σ H1 fun y H2=>R x y H2)
  {Q:α->Shared->Prop}{f:Value->Value->Sem α}
  (hf:∀v u s2 x y H2,Inv X pins σ H2 s2->v4_ x v->v4_ y u->R x y H2->wpAny (model X.prog X.w) X.A (f v u) Q X.xe s2):
  wpAny (model X.prog X.w) X.A (eval a X.env) (fun v s₁=>wpAny (model X.prog X.w) X.A (eval b X.env) (fun u s₂=>wpAny (model X.prog X.w) X.A (f v u) Q X.xe s₂) X.xe s₁) X.xe s:=by
 refine thn (ha pins s σ H _ I h) fun v s1 ⟨x,H1,I1,r1,q1⟩=>?_
 refine thn (hb pins s1 σ H1 _ I1 q1) fun u s2 ⟨y,H2,I2,r2,q2⟩=>?_
 exact hf v u s2 x y H2 I2 r1 r2 q2
def a0Z(i:Nat):TE:=fun σ H Q=>∃v,σ[i]? =some (some v)/\Q v H
def tC(v:V):TE:=fun _ H Q=>Q v H
theorem a6P(hN:X.N[i]? =some x)(hv:Vis X.env.scope x)(hd:(x==("__debug__":Str))=false:=by decide)(hcd:(x==("__classdict__":Str))=false:=by decide):PE X (.Name x pos) (a0Z i):=by
 intro pins s σ H Q I h;obtain⟨v,e,h⟩:=h;obtain⟨m,hn,hl⟩:=I.loc;obtain⟨u,r,l⟩:=hl i x v hN e hv;have fin:EP X pins σ Q u s:=⟨v,H,I,r,h⟩
 rcases l with⟨hk,hm⟩|⟨hk,c,hc,hcell⟩
 ·exact wpAny_Name (wpAny_loadName_local I.ok.kind hk hn hm fin) hd
 ·rcases hk with hk|hk
  ·exact wpAny_Name (wpAny_loadName_cell I.ok.kind hk hc hcell fin) hd
  ·exact wpAny_Name (wpAny_loadName_free I.ok.kind hk hc hcell fin hcd) hd
theorem a9W{i j pos}:PE X (.Constant (.int i) j pos) (tC (.int i)):=fun _ _ _ H _ I h=>Xe ⟨.int i,H,I.tok _,⟨_,rfl⟩,h⟩
theorem b4y{b j pos}:PE X (.Constant (.bool b) j pos) (tC (.bl b)):=fun _ _ _ H _ I h=>Constant_bool ⟨.bl b,H,I,rfl,h⟩
theorem a9X{j pos}:PE X (.Constant .none j pos) (tC .non):=fun _ _ _ H _ I h=>Constant_none ⟨.non,H,I,rfl,h⟩
theorem b4z{x j pos}:PE X (.Constant (.str x) j pos) (tC (.str x)):=fun _ _ _ H _ I h=>Calls.Constant_str ⟨.str x,H,I.tok _,⟨_,rfl⟩,h⟩
def Gl(X:Cx)(x:Str):Prop:=X.env.kindOf x=some .globalImplicit
theorem a4f(I:Inv X pins σ H s)(hg:Gl X x)(hm:X.mg x=some u)(h:Q u s)
  (hd:(x==("__debug__":Str))=false:=by decide):wpAny (model X.prog X.w) X.A (eval (.Name x pos) X.env) Q E s:=
 Calls.Name_function_global I.ok.kind hg (Calls.loadGlobal_global (by rw[I.ok.glob];exact I.mod.glob.keeps I.bk) hm h) hd
theorem a4g(I:Inv X pins σ H s)(hg:Gl X x)(hm:X.mg x=none)(hv:bootBuiltins x=some u)(h:Q u s)
  (hn:x≠"__name__":=by decide)(hd:(x==("__debug__":Str))=false:=by decide):wpAny (model X.prog X.w) X.A (eval (.Name x pos) X.env) Q E s:=by
 obtain⟨mb,h1,h2⟩:=I.mod.blt;exact Calls.Name_function_global I.ok.kind hg (Calls.loadGlobal_builtin (by rw[I.ok.glob];exact I.mod.glob.keeps I.bk) hm (by rw[I.ok.blt];exact h1.keeps I.bk) ((h2 x hn).trans hv) h) hd
theorem a9Y(hg:Gl X x)(hm:X.mg x=some u)(r:v4_ v u)(hd:(x==("__debug__":Str))=false:=by decide):PE X (.Name x pos) (tC v):=
 fun _ _ _ H _ I h=>a4f I hg hm ⟨v,H,I,r,h⟩ hd
theorem a4h(hg:Gl X x)(hm:X.mg x=none)(hv:bootBuiltins x=some u)(r:v4_ v u)(hn:x≠"__name__":=by decide)(hd:(x==("__debug__":Str))=false:=by decide):PE X (.Name x pos) (tC v):=
 fun _ _ _ H _ I h=>a4g I hg hm hv ⟨v,H,I,r,h⟩ hn hd
variable{a b:Expr}
def PC(X:Cx)(op:CmpOp)(a b:Expr)(t:TE):Prop:=
 ∀(pins:OX) (s:Shared) (σ:St) (H:Hp) (Q:VK),Inv X pins σ H s->t σ H Q->
  wpAny (model X.prog X.w) X.A (eval a X.env) (fun v s₁=>wpAny (model X.prog X.w) X.A (eval b X.env) (fun u s₂=>wpAny (model X.prog X.w) X.A (compareOp op v u) (EP X pins σ Q) X.xe s₂) X.xe s₁) X.xe s
theorem nobehind(b:Expr)(h:op≠.In)(h2:op≠.NotIn):behindInMarks op b=false:=by
 have e1:(op==CmpOp.In)=false:=by cases op<;>first|rfl|exact absurd rfl h
 have e2:(op==CmpOp.NotIn)=false:=by cases op<;>first|rfl|exact absurd rfl h2
 cases b<;>simp[behindInMarks,e1,e2]
def tB(t:TE):TT:=fun σ H Q=>t σ H fun x H1=>∃c,x=.bl c/\Q c H1
theorem c3R{t:TE}(h:PC X op a b t)(h1:behindInMarks op b=false:=by first|exact nobehind _ (by decide) (by decide)|rfl):PT X (.Compare a [op] [b] pos) (tB t):=by
 intro pins s σ H Q I hw;refine wpAny_isTrue_Compare1 (thn (h pins s σ H _ I hw) fun v s1 h1=>thn h1 fun u s2 h2=>thn h2 fun c s3 ⟨x,H1,I1,r1,q1⟩=>?_) h1
 obtain⟨d,rfl,q⟩:=q1;cases r1;exact Yp ⟨H1,I1,q⟩
theorem b4A{t:TE}(h:PE X e t)(he:∀whole,isTrue e X.env whole=(do let v←whole;standAt e.pos;holding [v] (truthy v)):=by intro _;rfl):PT X e (tB t):=by
 intro pins s σ H Q I hw;refine isTrue_plain (thn (h pins s σ H _ I hw) fun v s1 ⟨x,H1,I1,r1,q1⟩=>?_) (he _)
 obtain⟨d,rfl,q⟩:=q1;cases r1;exact Yp ⟨H1,I1,q⟩
variable{tA tB':TT}{rest:List Expr}
def a9Z(t u:TT):TT:=fun σ H Q=>t σ H fun c H1=>if c=true then u σ H1 Q else Q false H1
def tOr(t u:TT):TT:=fun σ H Q=>t σ H fun c H1=>if c=true then Q true H1 else u σ H1 Q
def b4B(t:TT):TT:=fun σ H Q=>t σ H fun c H1=>Q (!c) H1
theorem b4C(ha:PT X a tA):PW X (.BoolOp .And [a] pos) tA:=by
 intro wh pins s σ H Q I h;refine isTrue_and (thn (ha pins s σ H Q I h) fun c s1 e=>?_)
 cases c with
 |true=>exact isTrue_and_nil e
 |false=>exact e
theorem b4D(ha:PT X a tA):PW X (.BoolOp .Or [a] pos) tA:=by
 intro wh pins s σ H Q I h;refine isTrue_or (thn (ha pins s σ H Q I h) fun c s1 e=>?_)
 cases c with
 |false=>exact isTrue_or_nil e
 |true=>exact e
theorem b4E(ha:PT X a tA)(hb:PW X (.BoolOp .And (b::rest) pos) tB'):PW X (.BoolOp .And (a::b::rest) pos) (a9Z tA tB'):=by
 intro wh pins s σ H Q I h;refine isTrue_and (thn (ha pins s σ H _ I h) fun c s1 ⟨H1,I1,q1⟩=>?_)
 cases c with
 |true=>exact hb wh pins s1 σ H1 Q I1 q1
 |false=>exact⟨H1,I1,q1⟩
theorem b4F(ha:PT X a tA)(hb:PW X (.BoolOp .Or (b::rest) pos) tB'):PW X (.BoolOp .Or (a::b::rest) pos) (tOr tA tB'):=by
 intro wh pins s σ H Q I h;refine isTrue_or (thn (ha pins s σ H _ I h) fun c s1 ⟨H1,I1,q1⟩=>?_)
 cases c with
 |true=>exact⟨H1,I1,q1⟩
 |false=>exact hb wh pins s1 σ H1 Q I1 q1
theorem b4G(ha:PT X a tA):PT X (.UnaryOp .Not a pos) (b4B tA):=by
 intro pins s σ H Q I h;exact isTrue_not (ha pins s σ H (fun c H1=>Q (!c) H1) I h)
def b4H(ta tb:TE):TE:=fun σ H Q=>ta σ H fun x H1=>∃c,x=.bl c/\if c=true then tb σ H1 Q else Q (.bl false) H1
def b4I(ta:TE):TE:=fun σ H Q=>ta σ H fun x H1=>∃c,x=.bl c/\Q (.bl (!c)) H1
theorem b4J{op}{t:TE}(h:PE X a t):PE X (.BoolOp op [a] pos) t:=fun pins s σ H Q I hw=>BoolOp_one (h pins s σ H Q I hw)
theorem b4K(ha:PE X a ta)(hb:PE X (.BoolOp .And (b::rest) pos) tb):PE X (.BoolOp .And (a::b::rest) pos) (b4H ta tb):=by
 intro pins s σ H Q I h;refine BoolOp_and (thn (ha pins s σ H _ I h) fun v s1 ⟨x,H1,I1,r1,q1⟩=>?_)
 obtain⟨c,rfl,q1⟩:=q1;cases r1;refine Yp ?_
 cases c with
 |true=>exact hb pins s1 σ H1 Q I1 q1
 |false=>exact⟨.bl false,H1,I1,rfl,q1⟩
theorem b4L(ha:PE X a ta):PE X (.UnaryOp .Not a pos) (b4I ta):=by
 intro pins s σ H Q I h;refine UnaryOp_ (thn (ha pins s σ H _ I h) fun v s1 ⟨x,H1,I1,r1,q1⟩=>?_)
 obtain⟨c,rfl,q1⟩:=q1;cases r1;exact not_of (Yp ⟨.bl (!c),H1,I1,rfl,q1⟩)
end
def SqL(K:Qz)(H:Hp)(a:Addr)(xs:List V):Prop:=
 Rd H a (.lst xs)∨
  ∃(o:Obj) (its:Array Value) (n:Nat),K.lookup a=some o/\o.cls=.type "list"/\o.dict=none/\o.data=.seq its n/\its.size≤sizeLine/\v2_ xs its.toList
def SqT(K:Qz)(H:Hp)(a:Addr)(xs:List V):Prop:=
 Rd H a (.tup xs)∨
  ∃(o:Obj) (its:Array Value) (n:Nat),K.lookup a=some o/\o.cls=.type "tuple"/\o.dict=none/\o.data=.seq its n/\its.size≤sizeLine/\v2_ xs its.toList
def b4M:Value->Option V
 |.none=>some .non
 |.bool b=>some (.bl b)
 |.int i _=>some (.int i)
 |.str x _=>some (.str x)
 |.bytes b _=>some (.byt b)
 |.float b _=>some (.flt b)
 |.ref a=>some (.ref a)
 |.type n=>some (.ty n)
 |_=>none
theorem v4_.abs{x:V}(r:v4_ x u):b4M u=some x:=by
 cases x with
 |non=>cases r;rfl
 |bl _=>cases r;rfl
 |int _=>obtain⟨t,rfl⟩:=r;rfl
 |str _=>obtain⟨t,rfl⟩:=r;rfl
 |byt _=>obtain⟨t,rfl⟩:=r;rfl
 |flt _=>obtain⟨t,rfl⟩:=r;rfl
 |ref _=>cases r;rfl
 |ty _=>cases r;rfl
theorem v4_.inj{x:V}(r:v4_ x u)(q:v4_ y u):x=y:=Zs (r.abs.symm.trans q.abs)
theorem v2_.inj:∀{xs ys:List V}{us:List Value},v2_ xs us->v2_ ys us->xs=ys
 |_,_,_,.nil,.nil=>rfl
 |_,_,_,.cons r t,.cons r' t'=>by rw[r.inj r',v2_.inj t t']
section
variable{xs ys:List V}
theorem Inv.list(I:Inv X pins σ H s)(h:SqL X.K H a xs):∃its:List Value,v2_ xs its/\PlainL s.heap a its.toArray/\xs.length≤sizeLine:=by
 rcases h with h|⟨o,its,n,hk,hc,hd,hs,hz,r⟩
 ·obtain⟨z,its,n,r,e⟩:=h.ok I.hok
  exact⟨its,r,⟨_,n,e,rfl,rfl,rfl⟩,z⟩
 ·refine⟨its.toList,r,⟨o,n,I.kIn a o hk,hc,hd,by simpa using hs⟩,?_⟩
  have e:=r.length
  simp only[Jk]at e
  omega
theorem Inv.tupleD(I:Inv X pins σ H s)(h:SqT X.K H a xs):∃its:List Value,v2_ xs its/\a0Y s.heap a its.toArray/\xs.length≤sizeLine:=by
 rcases h with h|⟨o,its,n,hk,hc,hd,hs,hz,r⟩
 ·obtain⟨z,its,r,p⟩:=h.ok I.hok
  exact⟨its,r,p,z⟩
 ·refine⟨its.toList,r,⟨o,I.kIn a o hk,hc,hd,n,by simpa using hs⟩,?_⟩
  have e:=r.length
  simp only[Jk]at e
  omega
theorem Inv.tuple(I:Inv X pins σ H s)(h:SqT X.K H a xs):∃its:List Value,v2_ xs its/\IsTup s.heap a its.toArray/\xs.length≤sizeLine:=
 let ⟨its,r,p,z⟩:=I.tupleD h
 ⟨its,r,p.tup,z⟩
theorem Inv.list_inj(I:Inv X pins σ H s)(h:SqL X.K H a xs)(h':SqL X.K H a ys):xs=ys:=by
 obtain⟨its,r,⟨o,n,e,_,_,d⟩,_⟩:=I.list h;obtain⟨its',r',⟨o',n',e',_,_,d'⟩,_⟩:=I.list h';rw[e]at e';cases e';rw[d]at d';injection d' with d1 _
 have:its=its':=by simpa using Ys Array.toList d1
 subst this;exact r.inj r'
theorem Inv.tuple_inj(I:Inv X pins σ H s)(h:SqT X.K H a xs)(h':SqT X.K H a ys):xs=ys:=by
 obtain⟨its,r,⟨o,e,_,n,d⟩,_⟩:=I.tuple h;obtain⟨its',r',⟨o',e',_,n',d'⟩,_⟩:=I.tuple h';rw[e]at e';cases e';rw[d]at d';injection d' with d1 _
 have:its=its':=by simpa using Ys Array.toList d1
 subst this;exact r.inj r'
end
abbrev Cx.wish(X:Cx)(E:OE):Cx:={X with xe:=E}
abbrev Cx.nox(X:Cx):Cx:=X.wish fun _ _=>False
theorem Cx.Ok.wish(ok:X.Ok)(E:OE):(X.wish E).Ok:=
 ⟨ok.mod,ok.kind,ok.glob,ok.blt,ok.above,ok.inj,ok.has,ok.cab,ok.hd,ok.frames,ok.stk,ok.exf,ok.bs,ok.bsz,ok.noex,ok.exfs,ok.funs,ok.frf⟩
theorem Cx.Ok.unwish(ok:(X.wish E).Ok):X.Ok:=
 ⟨ok.mod,ok.kind,ok.glob,ok.blt,ok.above,ok.inj,ok.has,ok.cab,ok.hd,ok.frames,ok.stk,ok.exf,ok.bs,ok.bsz,ok.noex,ok.exfs,ok.funs,ok.frf⟩
theorem Inv.wish(I:Inv X pins σ H s)(E:OE):Inv (X.wish E) pins σ H s:=⟨I.ok.wish E,I.os,I.bare,I.base,I.loc,I.cell,I.free,I.freeC,I.pin,I.hok,I.len⟩
theorem Inv.unwish(I:Inv (X.wish E) pins σ H s):Inv X pins σ H s:=⟨I.ok.unwish,I.os,I.bare,I.base,I.loc,I.cell,I.free,I.freeC,I.pin,I.hok,I.len⟩
theorem SP.unwish{D:Ends}{f:Flow}(h:SP (X.wish E) pins D f s'):SP X pins D f s':=by
 cases f with
 |next=>obtain⟨σ',H',I,q⟩:=h;exact⟨σ',H',I.unwish,q⟩
 |brk=>obtain⟨σ',H',I,q⟩:=h;exact⟨σ',H',I.unwish,q⟩
 |cont=>obtain⟨σ',H',I,q⟩:=h;exact⟨σ',H',I.unwish,q⟩
 |ret u=>obtain⟨v,σ',H',I,r,q⟩:=h;exact⟨v,σ',H',I.unwish,r,q⟩
theorem PE.nox{t:TE}(h:PE X.nox e t):PE X e t:=fun pins s σ H Q I hw=>
 Zn (h pins s σ H Q (I.wish _) hw) (fun _ _ ⟨v,H',I',r,q⟩=>⟨v,H',I'.unwish,r,q⟩) fun _ _ z=>False.elim z
theorem PT.nox{t:TT}(h:PT X.nox e t):PT X e t:=fun pins s σ H Q I hw=>
 Zn (h pins s σ H Q (I.wish _) hw) (fun _ _ ⟨H',I',q⟩=>⟨H',I'.unwish,q⟩) fun _ _ z=>False.elim z
theorem PSs.nox{st:List Stmt}{t:TS}(h:PSs X.nox st t):PSs X st t:=fun pins s σ H D I hw=>
 Zn (h pins s σ H D (I.wish _) hw) (fun _ _ q=>q.unwish) fun _ _ z=>False.elim z
section
variable{st:Stmt}{rest:List Stmt}{t u:TS}
def b4N:TS:=fun D σ H=>D.nx σ H
def b4O(t u:TS):TS:=fun D σ H=>t {D with nx:=u D} σ H
theorem b4P:PSs X [] b4N:=fun _ _ σ H _ I h=>Vu ⟨σ,H,I,h⟩
theorem a3t(h1:PS X st t)(h2:PSs X rest u):PSs X (st::rest) (b4O t u):=by
 intro pins s σ H D I h;refine wpAny_execs_cons (thn (h1 pins s σ H {D with nx:=u D} I h) fun f s1 q=>?_)
 cases f with
 |next=>
  obtain⟨σ',H',I',q⟩:=q;exact h2 pins s1 σ' H' D I' q
 |ret v=>exact q
 |brk=>exact q
 |cont=>exact q
theorem b0a(h1:PS X st t):PSs X [st] t:=by
 intro pins s σ H D I h;refine wpAny_execs_cons (thn (h1 pins s σ H D I h) fun f s1 q=>?_)
 cases f with
 |next=>exact Vu q
 |ret v=>exact q
 |brk=>exact q
 |cont=>exact q
theorem Inv.quiet(I:Inv X pins σ H s):interactive X.env=false:=by simp[interactive,I.ok.kind]
def b4Q(te:TE):TS:=fun D σ H=>te σ H fun _ H1=>D.nx σ H1
theorem a5h(he:PE X e te)(hs:swapsWith e none pos.line X.env=pure false:=by rfl):PS X (.Expr e pos) (b4Q te):=by
 intro pins s σ H D I h;exact wpAny_Expr_any (thn (he pins s σ H _ I h) fun v s1 ⟨x,H1,I1,r1,q1⟩=>⟨σ,H1,I1,q1⟩) I.quiet hs
def b4R(te:TE):TS:=fun D σ H=>te σ H D.rt
theorem a6Q(he:PE X e te):PS X (.Return (some e) pos) (b4R te):=by
 intro pins s σ H D I h;exact wpAny_Return_some (thn (he pins s σ H _ I h) fun v s1 ⟨x,H1,I1,r1,q1⟩=>⟨x,σ,H1,I1,r1,q1⟩)
def b4S(c:TT)(t u:TS):TS:=fun D σ H=>c σ H fun b H1=>if b=true then t D σ H1 else u D σ H1
theorem b0b{a b:List Stmt}{tc:TT}(hc:PT X c tc)(ha:PSs X a t)(hb:PSs X b u):PS X (.If c a b pos) (b4S tc t u):=by
 intro pins s σ H D I h;refine wpAny_If (thn (hc pins s σ H _ I h) fun d s1 ⟨H1,I1,q1⟩=>?_)
 cases d with
 |true=>exact ha pins s1 σ H1 D I1 q1
 |false=>exact hb pins s1 σ H1 D I1 q1
def b0c:TS:=fun _ _ _=>False
theorem b4T:PS X st b0c:=fun _ _ _ _ _ _ h=>h.elim
theorem b0d{sts:List Stmt}:PSs X sts b0c:=fun _ _ _ _ _ _ h=>h.elim
end
abbrev TG:=V->St->Hp->(St->Hp->Prop)->Prop
abbrev TGs:=List V->St->Hp->(St->Hp->Prop)->Prop
def PG(X:Cx)(target:Expr)(t:TG):Prop:=
 ∀(pins:OX) (s:Shared) (σ:St) (H:Hp) (v:V) (u:Value) (Q:St->Hp->Prop),Inv X pins σ H s->v4_ v u->t v σ H Q->
  wpAny (model X.prog X.w) X.A (assign target X.env u) (fun _ s'=>∃σ' H',Inv X pins σ' H' s'/\Q σ' H') X.xe s
def PGs(X:Cx)(ts:List Expr)(t:TGs):Prop:=
 ∀(pins:OX) (s:Shared) (σ:St) (H:Hp) (vs:List V) (us:List Value) (Q:St->Hp->Prop),Inv X pins σ H s->v2_ vs us->t vs σ H Q->
  wpAny (model X.prog X.w) X.A (assignInOrder ((assignEach ts X.env).map (·.2)) us) (fun _ s'=>∃σ' H',Inv X pins σ' H' s'/\Q σ' H') X.xe s
abbrev a5i:=V->V->V->Hp->(Hp->Prop)->Prop
def a6R(X:Cx)(t:a5i):Prop:=
 ∀(pins:OX) (s:Shared) (σ:St) (H:Hp) (o i v:V) (ov iv u:Value) (Q:Hp->Prop),Inv X pins σ H s->v4_ o ov->v4_ i iv->v4_ v u->t o i v H Q->
  wpAny (model X.prog X.w) X.A (setItem ov iv u) (fun _ s'=>∃H',Inv X pins σ H' s'/\Q H') X.xe s
abbrev TIp:=V->V->Hp->VK->Prop
def PIp(X:Cx)(op:Operator)(t:TIp):Prop:=
 ∀(pins:OX) (s:Shared) (σ:St) (H:Hp) (x y:V) (v u:Value) (Q:VK),Inv X pins σ H s->v4_ x v->v4_ y u->t x y H Q->
  wpAny (model X.prog X.w) X.A (inplaceOp op v u) (EP X pins σ Q) X.xe s
def a6S(i:Nat):TG:=fun v σ H Q=>Q (σ.set i (some v)) H
theorem b4U(hN:X.N.Nodup)(hi:X.N[i]? =some x)(hx:Loc X.env.scope x)(hf:X.fn x=true∨X.env.scope.names.lookup x=some .local:=by first|exact .inl rfl|exact .inr rfl|assumption):PG X (.Name x pos) (a6S i):=by
 intro pins s σ H v u Q I r h;exact wpAny_assign_Name (a2R I hN hi hx r (fun s' I'=>⟨_,H,I',h⟩) hf)
def b4V:TGs:=fun vs σ H Q=>vs=[]/\Q σ H
def b4W(t:TG)(u:TGs):TGs:=fun vs σ H Q=>∃v r,vs=v::r/\t v σ H fun σ' H'=>u r σ' H' Q
theorem b4X:PGs X [] b4V:=by
 intro pins s σ H vs us Q I r h;obtain⟨e,h⟩:=h;subst e;cases r;exact assignInOrder_nil ⟨σ,H,I,h⟩
theorem b4Y{t:TG}{u:TGs}(h1:PG X e t)(h2:PGs X es u)
  (hs:(assignEach (e::es) X.env).map (·.2)=assign e X.env::(assignEach es X.env).map (·.2):=by rfl):PGs X (e::es) (b4W t u):=by
 intro pins s σ H vs us Q I r h;obtain⟨v,vr,e1,h⟩:=h;subst e1;cases r with
 |cons r rr=>
  rw[hs];refine assignInOrder_cons (thn (h1 pins s σ H _ _ _ I r h) fun _ s1 ⟨σ1,H1,I1,q1⟩=>?_)
  exact h2 pins s1 σ1 H1 _ _ Q I1 rr q1
def b4Z(K:Qz)(n:Nat)(t:TGs):TG:=fun v σ H Q=>∃a xs,v=.ref a/\SqT K H a xs/\xs.length=n/\t xs σ H Q
theorem b5a{t:TGs}(hc:X.calm=true)(h:PGs X es t)
  (hn:(assignEach es X.env).length=n:=by rfl)(hst:(assignEach es X.env).findIdx? (·.1)=none:=by rfl):PG X (.Tuple es k pos) (b4Z X.K n t):=by
 intro pins s σ H v u Q I r hw;obtain⟨a,xs,e1,hq,hl,hw⟩:=hw;subst e1;cases r;obtain⟨its,rv,ht,hz⟩:=I.tuple hq;refine assign_Tuple_tuple (I.ok.hd hc) ht (by simp[hn,←hl,rv.length]) hst fun h' hx=>?_
 have I1:Inv X pins σ H {s with heap:=h'}:=I.kept (t':=s.toks) fun b o e=>hx b o (Qi (Qg e)) e
 exact h pins _ σ H xs _ Q I1 (by simpa using rv) hw
def b5b(to ti:TE)(t:a5i):TG:=fun v σ H Q=>to σ H fun o H1=>ti σ H1 fun i H2=>t o i v H2 fun H3=>Q σ H3
theorem b0e{o i:Expr}{to ti:TE}{t:a5i}(ho:PE X o to)(hi:PE X i ti)(hs:a6R X t)
  (ha:∀v,assign (.Subscript o i pos) X.env v=(do
   let ov←holding [v] (eval o X.env)
   let iv←holding [v,ov] (eval i X.env)
   standAt pos
   holding [v,ov,iv] (setItem ov iv v)
   release [v,ov,iv] []):=by intro _;rfl):PG X (.Subscript o i pos) (b5b to ti t):=by
 intro pins s σ H v u Q I r h;rw[ha];refine Qq (Yj (thn (ho pins s σ H _ I h) fun ov s1 ⟨x,H1,I1,r1,q1⟩=>?_))
 refine Qq (Yj (thn (hi pins s1 σ H1 _ I1 q1) fun iv s2 ⟨y,H2,I2,r2,q2⟩=>?_))
 refine Qq (Tu (Qq (Yj (thn (hs pins s2 σ H2 x y v ov iv u _ I2 r1 r2 r q2) fun _ s3 ⟨H3,I3,q3⟩=>?_))))
 exact wpAny_release ⟨σ,H3,I3,q3⟩
def a6T(te:TE)(g:TG):TS:=fun D σ H=>te σ H fun x H1=>g x σ H1 D.nx
theorem b5c{g:TG}(he:PE X e te)(hg:PG X tg g)(hs:swapsWithSole [tg] e pos.line X.env=pure false:=by rfl)(hw:swappedStores [tg] e X.env=pure none:=by rfl)
  (h1:(assignEach [tg] X.env).map (·.2)=[assign tg X.env]:=by rfl):PS X (.Assign [tg] e pos) (a6T te g):=by
 intro pins s σ H D I h;refine wpAny_Assign_stores (thn (he pins s σ H _ I h) fun v s1 ⟨x,H1,I1,r1,q1⟩=>?_) hs hw
 rw[h1];exact thn (hg pins s1 σ H1 x v _ I1 r1 q1) fun _ s2 q=>q
theorem a3u(hN:X.N.Nodup)(hi:X.N[i]? =some x)(hx:Loc X.env.scope x)(he:PE X e te)(hs:swapsWith e (some (.Name x pos')) pos.line X.env=pure false:=by rfl)(hf:X.fn x=true∨X.env.scope.names.lookup x=some .local:=by first|exact .inl rfl|exact .inr rfl|assumption):
  PS X (.Assign [.Name x pos'] e pos) (a6T te (a6S i)):=by
 intro pins s σ H D I h;refine wpAny_Assign_Name (thn (he pins s σ H _ I h) fun v s1 ⟨y,H1,I1,r1,q1⟩=>?_) hs
 exact a2R I1 hN hi hx r1 (fun s2 I2=>⟨_,H1,I2,q1⟩) hf
def b5d(i j:Nat)(ta:TA):TS:=fun D σ H=>ta σ H fun vs H1=>∃v w,vs=[v,w]/\D.nx ((σ.set i (some v)).set j (some w)) H1
theorem b5e{y:Str}{a b:Expr}{ta:TA}{px py pt:Pos}{kt k2 pt2}(hc:X.calm=true)(hN:X.N.Nodup)(hi:X.N[i]? =some x)(hj:X.N[j]? =some y)(hij:i≠j)
  (hx:X.env.scope.names.lookup x=some .local)(hy:X.env.scope.names.lookup y=some .local)(ha:PA X [a,b] ta)
  (hw:swappedStores [.Tuple [.Name x px,.Name y py] kt pt] (.Tuple [a,b] k2 pt2) X.env=pure (some [x,y]))
  (hs:swapsWithSole [.Tuple [.Name x px,.Name y py] kt pt] (.Tuple [a,b] k2 pt2) pos.line X.env=pure false:=by rfl):
  PS X (.Assign [.Tuple [.Name x px,.Name y py] kt pt] (.Tuple [a,b] k2 pt2) pos) (b5d i j ta):=by
 intro pins s σ H D I h;rw[exec_Assign_arm];refine Qq (Tu ?_);rw[hs];refine Qq (Qj ?_);rw[Qm (by decide)]
 refine Qq (Tuple_ (thn (ha _ pins s σ H _ I h) fun us s1 ⟨vs,H1,I1,r1,q1⟩=>?_))
 obtain⟨v,w,e1,q1⟩:=q1;subst e1;obtain⟨u1,u2,rfl,rv,rw'⟩:∃u1 u2,us=[u1,u2]/\v4_ v u1/\v4_ w u2:=by
  cases r1 with
  |cons p q=>
   cases q with
   |cons p' q'=>
    cases q';exact⟨_,_,rfl,p,p'⟩
 refine Zq ?_ (by show 2≤sizeLine;decide)
 have I2:Inv X pins σ H1 {s1 with heap:=s1.heap.push {cls:=.type "tuple",data:=.seq [u1,u2].toArray}}:=I1.kept (t':=s1.toks) fun b o e=>Qx _ e
 rw[hw];refine Qq (Qj ?_);show wpAny (model X.prog X.w) X.A (do rule "assign.swapped-stores";let items←unpackItems (.ref s1.heap.objs.size) 2 none;assignInOrder [fun v=>bindName X.env y v,fun v=>bindName X.env x v] items.reverse;pure Flow.next) _ _ _
 refine Qq (Ud (Qq (unpackItems_tuple (items:=#[u1,u2]) (I.ok.hd hc) (IsTup.new s1.heap _) fun h' hx'=>?_)))
 have I3:=I2.kept (h':=h') (t':=s1.toks) fun b o e=>hx' b o (Qi (Qg e)) e
 show wpAny _ _ (assignInOrder [fun v=>bindName X.env y v,fun v=>bindName X.env x v] [u2,u1]>>=fun _=>pure Flow.next) _ _ _
 refine Qq (assignInOrder_cons (wpAny_bindName (a2R I3 hN hj (.inl hy) rw' (fun s2 I4=>?_) (.inr hy))))
 refine assignInOrder_cons (wpAny_bindName (a2R I4 hN hi (.inl hx) rv (fun s3 I5=>assignInOrder_nil (Qj ?_)) (.inr hx)))
 rw[List.set_comm _ _ (Zh hij)]at I5;exact⟨_,H1,I5,q1⟩
def b5f(i:Nat)(te:TE)(ti:TIp):TS:=fun D σ H=>∃x,σ[i]? =some (some x)/\te σ H fun y H1=>ti x y H1 fun z H2=>D.nx (σ.set i (some z)) H2
theorem b5g{op:Operator}{ti:TIp}(hN:X.N.Nodup)(hi:X.N[i]? =some x)(hx:Loc X.env.scope x)(he:PE X e te)(ho:PIp X op ti)(hf:X.fn x=true∨X.env.scope.names.lookup x=some .local:=by first|exact .inl rfl|exact .inr rfl|assumption):
  PS X (.AugAssign (.Name x pos') op e pos) (b5f i te ti):=by
 intro pins s σ H D I h;obtain⟨v,e1,h⟩:=h;obtain⟨m,hn,hl⟩:=I.loc;have vis:Vis X.env.scope x:=by rcases hx with k|k;exact .inl k;exact .inr (.inl k)
 obtain⟨u,r,l⟩:=hl i x v hi e1 vis;refine wpAny_AugAssign_Name ?_
 have go:wpAny (model X.prog X.w) X.A (eval e X.env) (fun w s₂=>wpAny (model X.prog X.w) X.A (inplaceOp op u w) (fun r s₃=>wpAny (model X.prog X.w) X.A (storeName X.env x r) (fun _=>SP X pins D .next) X.xe s₃) X.xe s₂) X.xe s:=by
  refine thn (he pins s σ H _ I h) fun w s1 ⟨y,H1,I1,r1,q1⟩=>?_
  refine thn (ho pins s1 σ H1 v y u w _ I1 r r1 q1) fun z s2 ⟨zv,H2,I2,r2,q2⟩=>?_
  exact a2R I2 hN hi hx r2 (fun s3 I3=>⟨_,H2,I3,q2⟩) hf
 rcases l with⟨hk,hm⟩|⟨hk,c,hc,hcell⟩
 ·exact wpAny_loadName_local I.ok.kind hk hn hm go
 ·rcases hk with hk|hk
  ·exact wpAny_loadName_cell I.ok.kind hk hc hcell go
  ·rcases hx with k|k
   ·have:X.env.scope.names.lookup x=some .free:=hk
    rw[k]at this;cases this
   ·have:X.env.scope.names.lookup x=some .free:=hk
    rw[k]at this;cases this
structure It where
 go:Nat->Hp->Prop
 yld:Nat->Hp->V->Hp->Prop
 stop:Nat->Hp->Prop
def a0q(X:Cx)(pins:OX)(H:Hp)(b:Addr):Prop:=
 H b=none/\b≠X.env.locals/\b∉X.fs/\(b∈X.ex∨X.s₀.heap.objs.size≤b)/\(∀x c,X.env.cells.lookup x=some c->c≠b)/\∀p∈X.pn++pins,p.1≠b
theorem Inv.fpOk(I:Inv X pins σ H s)(hb:s.heap.objs.size≤b)(hn:H' b=none):a0q X pins H' b:=by
 refine⟨hn,Xc (Qr I.lt hb),I.nofs hb,.inr (Zt I.sz hb),fun x c e z=>?_,fun p hp z=>?_⟩
 ·obtain⟨v,q⟩:=I.cell x c e
  exact absurd (Qr q.lt (by rw[z];exact hb)) (Jw _)
 ·exact absurd (Qr (Qg (I.pin p hp).1) (by rw[z];exact hb)) (Jw _)
structure Turn(P:Program)(w:World)(K:Qz)(tg:Expr)(J:It)(fp:List Addr)(it:Addr)(tn:Nat->Heap->Prop):Prop where
 mem:it∈fp
 obj:∀i h,tn i h->∀b∈fp,∃o,h.get? b=some o/\∀v,o.data≠.cell v
 keep:∀i h h',tn i h->(∀b∈fp,∀o,h.get? b=some o->h'.get? b=some o)->tn i h'
 item:∀(X:Cx),X.prog=P->X.w=w->X.K=K->X.calm=true->∀(i:Nat) (pins:OX) (s:Shared) (σ:St) (H:Hp) (E:OE),Inv X pins σ H s->(∀b∈fp,a0q X pins H b)->tn i s.heap->J.go i H->
  wpAny (model P w) X.A (pyNext (.ref it)) (fun r s1=>∃u,r=some u/\
   wpAny (model P w) X.A (letOwnedTupleGo tg (.ref it) u) (fun _ s2=>∃x H',Inv X pins σ H' s2/\v4_ x u/\J.yld i H x H'/\tn (i+1) s2.heap/\∀b∈fp,H' b=none) E s1) E s
 done:∀(X:Cx),X.prog=P->X.w=w->X.K=K->X.calm=true->∀(i:Nat) (pins:OX) (s:Shared) (σ:St) (H:Hp) (E:OE),Inv X pins σ H s->(∀b∈fp,a0q X pins H b)->tn i s.heap->J.stop i H->
  wpAny (model P w) X.A (pyNext (.ref it)) (fun r s1=>r=none/\Inv X pins σ H s1) E s
 self:∀(A:Around) (i:Nat) (s:Shared) (Q:OE) (E:OE),tn i s.heap->Q (.ref it) s->wpAny (model P w) A (pyIter (.ref it)) Q E s
abbrev TI:=St->Hp->(It->Hp->Prop)->Prop
def PIE(X:Cx)(pins:OX)(σ:St)(tg:Expr)(R:It->Hp->Prop)(itv:Value)(s2:Shared):Prop:=
 ∃(it:Addr) (fp:List Addr) (tn:Nat->Heap->Prop) (J:It) (H':Hp),itv=.ref it/\Inv X pins σ H' s2/\Turn X.prog X.w X.K tg J fp it tn/\tn 0 s2.heap/\(∀b∈fp,a0q X pins H' b)/\R J H'
def PI(X:Cx)(tg iter:Expr)(wi:TI):Prop:=
 ∀(pins:OX) (s:Shared) (σ:St) (H:Hp) (R:It->Hp->Prop),Inv X pins σ H s->wi σ H R->
  wpAny (model X.prog X.w) X.A (eval iter X.env) (fun v s1=>wpAny (model X.prog X.w) X.A (pyIter v) (PIE X pins σ tg R) X.xe s1) X.xe s
theorem a4i{o:Obj}{n:String}{vs:Array Value}{Q:Unit->Shared->Prop}(ho:s.heap.get? it=some o)(hc:o.cls=.type n)(hd:o.data=.fields vs)
    (hn:["enumerate","zip","dict_itemiterator","dict_reverseitemiterator","odict_iterator","itertools.zip_longest","itertools.pairwise"].contains n=false)(hQ:Q () s):wpAny M A (letOwnedTupleGo tg (.ref it) u) Q E s:=by
  unfold letOwnedTupleGo;cases tg<;>first
    |exact Qj hQ
    | (cases u<;>first
        |exact Qj hQ
        | (refine Qq (wpAny_load ho ?_)
           rw[hc,hd];show wpAny M A (if(["enumerate","zip","dict_itemiterator","dict_reverseitemiterator","odict_iterator","itertools.zip_longest","itertools.pairwise"].contains n&&vs[0]? ==some (rawInt _))=true then _ else _) Q E s
           rw[Qm (by intro h;rw[hn,Jf]at h;cases h)]
           exact Qj hQ))
def Itl(K:Qz)(a:Addr):It:=
 ⟨fun i H=>∃xs x,SqL K H a xs/\xs[i]? =some x,fun i H x H'=>H'=H/\∀xs,SqL K H a xs->xs[i]? =some x,fun i H=>∃xs,SqL K H a xs/\xs.length≤i⟩
def Itt(K:Qz)(a:Addr):It:=
 ⟨fun i H=>∃xs x,SqT K H a xs/\xs[i]? =some x,fun i H x H'=>H'=H/\∀xs,SqT K H a xs->xs[i]? =some x,fun i H=>∃xs,SqT K H a xs/\xs.length≤i⟩
def Itr(lo:Int)(n:Nat):It:=⟨fun i _=>i<n,fun i H x H'=>H'=H/\x=.int (lo+i),fun i _=>n≤i⟩
theorem b5h(a it:Addr):Turn P w K tg (Itl K a) [it] it (fun i h=>h.IsListIter it a i)where
 mem:=by simp
 obj:=fun i h st b hb=>by
  have e:b=it:=by simpa using hb
  subst e;obtain⟨o,e,c,d⟩:=st;exact⟨o,e,fun v z=>by rw[d]at z;cases z⟩
 keep:=fun i h h' st k=>st.at fun o e=>k it (by simp) o e
 item:=by
  intro X hP hw hK hc i pins s σ H E I hf st hg;subst hP hw hK;obtain⟨xs,x,hq,hx⟩:=hg;obtain⟨its,rv,p,hz⟩:=I.list hq;obtain⟨u,hu,ru⟩:=rv.get hx;obtain⟨f0,f1,f2,f3,f4,f5⟩:=hf it (by simp)
  refine wpAny_pyNext_list_item st p.isList (x:=u) (by simpa using hu) fun h' st' sb=>?_
  have I1:Inv X pins σ H {s with heap:=h'}:=I.turned (t':=s.toks) (fun b o hb e=>(sb.2 b hb).trans e) f0 f1 f3 f4 f5
  obtain⟨o,e,c,d⟩:=id st';exact⟨u,rfl,a4i (s:={s with heap:=h'}) e c d (by decide) ⟨x,H,I1,ru,⟨rfl,fun ys hy=>by rw[I.list_inj hy hq];exact hx⟩,st',fun b hb=>(hf b hb).1⟩⟩
 done:=by
  intro X hP hw hK hc i pins s σ H E I hf st hg;subst hP hw hK;obtain⟨xs,hq,hx⟩:=hg;obtain⟨its,rv,p,hz⟩:=I.list hq;obtain⟨f0,f1,f2,f3,f4,f5⟩:=hf it (by simp)
  have hl:=rv.length
  exact wpAny_pyNext_list_end (I.ok.hd hc) st p.isList (by simp;omega) fun h' eb=>⟨rfl,I.turned (t':=s.toks) (fun b o hb e=>eb b o hb e) f0 f1 f3 f4 f5⟩
 self:=fun _ _ _ _ _ st h=>wpAny_pyIter_listiter st h
theorem b5i(a it:Addr):Turn P w K tg (Itt K a) [it] it (fun i h=>h.IsTupleIter it a i)where
 mem:=by simp
 obj:=fun i h st b hb=>by
  have e:b=it:=by simpa using hb
  subst e;obtain⟨o,e,c,d⟩:=st;exact⟨o,e,fun v z=>by rw[d]at z;cases z⟩
 keep:=fun i h h' st k=>st.at fun o e=>k it (by simp) o e
 item:=by
  intro X hP hw hK hc i pins s σ H E I hf st hg;subst hP hw hK;obtain⟨xs,x,hq,hx⟩:=hg;obtain⟨its,rv,p,hz⟩:=I.tuple hq;obtain⟨u,hu,ru⟩:=rv.get hx;obtain⟨f0,f1,f2,f3,f4,f5⟩:=hf it (by simp)
  refine wpAny_pyNext_tuple_item st (show s.heap.IsTuple a its.toArray from p) (x:=u) (by simpa using hu) fun h' st' sb=>?_
  have I1:Inv X pins σ H {s with heap:=h'}:=I.turned (t':=s.toks) (fun b o hb e=>(sb.2 b hb).trans e) f0 f1 f3 f4 f5
  obtain⟨o,e,c,d⟩:=id st';exact⟨u,rfl,a4i (s:={s with heap:=h'}) e c d (by decide) ⟨x,H,I1,ru,⟨rfl,fun ys hy=>by rw[I.tuple_inj hy hq];exact hx⟩,st',fun b hb=>(hf b hb).1⟩⟩
 done:=by
  intro X hP hw hK hc i pins s σ H E I hf st hg;subst hP hw hK;obtain⟨xs,hq,hx⟩:=hg;obtain⟨its,rv,p,hz⟩:=I.tuple hq;obtain⟨f0,f1,f2,f3,f4,f5⟩:=hf it (by simp)
  have hl:=rv.length
  exact wpAny_pyNext_tuple_end (I.ok.hd hc) st (show s.heap.IsTuple a its.toArray from p) (by simp;omega) fun h' eb=>⟨rfl,I.turned (t':=s.toks) (fun b o hb e=>eb b o hb e) f0 f1 f3 f4 f5⟩
 self:=fun _ _ _ _ _ st h=>wpAny_pyIter_tupleiter st h
theorem b5j(it:Addr)(lo:Int)(n:Nat):Turn P w K tg (Itr lo n) [it] it (fun i h=>IsRangeIter h it (lo+(i:Nat) * 1) ((n:Int)-(i:Nat)) 1)where
 mem:=by simp
 obj:=fun i h st b hb=>by
  have e:b=it:=by simpa using hb
  subst e;exact⟨_,st,fun v z=>by
   have z':Data.fields _=Data.cell v:=z
   cases z'⟩
 keep:=fun i h h' st k=>k it (by simp) _ st
 item:=by
  intro X hP hw hK hc i pins s σ H E I hf st hg;subst hP hw hK;obtain⟨f0,f1,f2,f3,f4,f5⟩:=hf it (by simp)
  have W:=Walks.range (prog:=X.prog) (w:=X.w) (I.ok.hd hc) it lo 1 n
  refine W.item i s _ _ hg st fun v h' tk hv st' kk=>?_
  obtain⟨t,rfl⟩:=hv;have I1:Inv X pins σ H {s with heap:=h',toks:=tk}:=I.turned (fun b o hb e=>kk b o (by simpa using hb) e) f0 f1 f3 f4 f5
  refine⟨_,rfl,a4i (s:={s with heap:=h',toks:=tk}) (n:="range_iterator") st' rfl rfl (by decide) ⟨.int (lo+i),H,I1,⟨t,?_⟩,⟨rfl,rfl⟩,st',fun b hb=>(hf b hb).1⟩⟩
  rw[Int.mul_one]
 done:=by
  intro X hP hw hK hc i pins s σ H E I hf st hg;subst hP hw hK;obtain⟨f0,f1,f2,f3,f4,f5⟩:=hf it (by simp)
  exact wpAny_pyNext_range_end (I.ok.hd hc) st (by have:n≤i:=hg;omega) fun h' eb=>⟨rfl,I.turned (t':=s.toks) (fun b o hb e=>eb b o hb e) f0 f1 f3 f4 f5⟩
 self:=fun _ _ _ _ _ st h=>wpAny_pyIter_rangeiter st h
theorem b5k{R:It->Hp->Prop}{lo hi:Int}{t u v:Tok}{tk:Nat}(I:Inv X pins σ H s)(h1: -(2^62)≤lo)(h2:lo<2^62)(h3: -(2^62)≤hi)(h4:hi<2^62)
  (q:R (Itr lo (hi-lo).toNat) H):wpAny (model X.prog X.w) X.A (pyIter (.ref s.heap.objs.size)) (PIE X pins σ tg R) E {s with heap:=s.heap.push {cls:=.type "range",data:=.fields #[.int lo t,.int hi u,.int 1 v]},toks:=tk}:=by
 refine wpAny_pyIter_range (IsRange.new ..) (small_one h1 h2 h3 h4) ?_
 have I1:Inv X pins σ H {s with heap:=s.heap.push {cls:=.type "range",data:=.fields #[.int lo t,.int hi u,.int 1 v]},toks:=tk}:=I.kept fun b o e=>Qx _ e
 refine⟨(s.heap.push {cls:=.type "range",data:=.fields #[.int lo t,.int hi u,.int 1 v]}).objs.size,[(s.heap.push {cls:=.type "range",data:=.fields #[.int lo t,.int hi u,.int 1 v]}).objs.size],_,_,H,rfl,
  I1.kept (t':=tk) fun b o e=>Qx _ e,b5j _ lo (hi-lo).toNat,?_,fun b hb=>?_,q⟩
 ·have e1:lo+((0:Nat):Int) * 1=lo:=by simp
  have e2:(((hi-lo).toNat:Nat):Int)-((0:Nat):Int)=Builtin.Range.rangeSize lo hi 1:=by rw[rangeSize_one];split<;>omega
  show IsRangeIter _ _ (lo+((0:Nat):Int) * 1) ((((hi-lo).toNat:Nat):Int)-((0:Nat):Int)) 1;rw[e1,e2];exact Qu _ rfl
 ·have e:b=(s.heap.push {cls:=.type "range",data:=.fields #[.int lo t,.int hi u,.int 1 v]}).objs.size:=by simpa using hb
  subst e;exact I1.fpOk (Qb _) (I1.hok.fresh (Qb _))
def b5l(ta:TA):TI:=fun σ H R=>ta σ H fun vs H1=>∃j:Int,vs=[.int j]/\ -(2^62)≤j/\j<2^62/\R (Itr 0 j.toNat) H1
theorem b5m{a:Expr}{ta:TA}(hg:Gl X "range")(hm:X.mg "range"=none)(ha:PA X [a] ta)(hs:starEach [a] X.env=[(false,eval a X.env)]:=by rfl):PI X tg (.Call (.Name "range" p) [a] [] pos) (b5l ta):=by
 intro pins s σ H R I h;refine Call_ (a4g I hg hm boot_range (Vk (thn (ha pos pins s σ H _ I h) fun us s1 ⟨vs,H1,I1,r1,q1⟩=>?_) hs rfl))
 obtain⟨j,e,q1,q2,q⟩:=q1;subst e;cases r1 with
 |cons r rr=>
  cases rr;obtain⟨t,rfl⟩:=r;exact call_range_1 (b5k I1 (by omega) (by omega) q1 q2 (by simpa using q))
def b5n(wi:TI)(g:TG)(tb:TS):TS:=fun D σ H=>wi σ H fun J H1=>∃W:Nat->Nat->St->Hp->Prop,(∃m,W 0 m σ H1)/\∀i m σ H,W i m σ H->
 (J.stop i H/\D.nx σ H)∨(J.go i H/\∃N:St->Hp->Prop,(∀σ' H',N σ' H'->∃m',m'<m/\W (i+1) m' σ' H')/\∀x H',J.yld i H x H'->g x σ H' fun σ2 H2=>tb {D with nx:=N,ct:=N,bk:=D.nx} σ2 H2)
def a4j(fp:List Addr)(h:Heap):OX:=fp.filterMap fun b=>(h.get? b).map fun o=>(b,o)
theorem a5j{o:Obj}(hb:b∈fp)(e:h.get? b=some o):(b,o)∈a4j fp h:=Xo.mpr ⟨b,hb,by rw[e];rfl⟩
theorem b5o{p:Addr×Obj}(hp:p∈a4j fp h):p.1∈fp/\h.get? p.1=some p.2:=by
 obtain⟨b,hb,e⟩:=List.mem_filterMap.mp hp;cases q:h.get? b with
 |none=>rw[q]at e;cases e
 |some o=>
  rw[q]at e;have e':(b,o)=p:=Zs e;subst e';exact⟨hb,q⟩
theorem Inv.pinned(I:Inv X pins σ H s)(hf:∀b∈fp,a0q X pins H b)(ho:∀b∈fp,∃o,s.heap.get? b=some o/\∀v,o.data≠.cell v):Inv X (pins++a4j fp s.heap) σ H s:=
 I.pins_of fun p hp=>(Ym.mp hp).elim (fun z=>I.pin p (Zr _ z)) fun z=>by
  obtain⟨hb,e⟩:=b5o z;obtain⟨f0,f1,f2,_⟩:=hf p.1 hb;obtain⟨o,e',d⟩:=ho p.1 hb;rw[e]at e';cases e';exact⟨e,f0,f1,f2,d⟩
theorem Inv.unpinned{pl:OX}(I:Inv X (pins++pl) σ H s):Inv X pins σ H s:=I.pins_of fun p hp=>I.pin p (Zr _ (Xn _ hp))
theorem b5p{iter:Expr}{wi:TI}{g:TG}{tb:TS}(hp:PassesOwn (model X.prog X.w) X.A X.env X.xe)(hc:X.calm=true)(hi:PI X tg iter wi)(hg:PG X tg g)(hb:PSs X body tb)
  (hs:∀x,foldedSetIterable iter X.env x=pure x:=by intro _;rfl):PS X (.For tg iter body [] pos) (b5n wi g tb):=by
 intro pins s σ H D I h;refine wpAny_For (thn (hi pins s σ H _ I h) fun v s1 h1=>thn h1 fun itv s2 h2=>?_) hs
 obtain⟨it,fp,tn,J,H2,e,I2,T,st2,f2,W,⟨m0,w0⟩,turn⟩:=h2;subst e;have stat:∀{H':Hp},(∀b∈fp,H' b=none)->∀b∈fp,a0q X pins H' b:=fun hn b hb=>⟨hn b hb,(f2 b hb).2⟩
 refine codeAny_forLoop_any (fun n s'=>∃i σ' H',Inv X pins σ' H' s'/\tn i s'.heap/\(∀b∈fp,H' b=none)/\W i n σ' H') ?_ m0 ⟨0,σ,H2,I2,st2,fun b hb=>(f2 b hb).1,w0⟩
 rintro n s3 ⟨i,σ3,H3,I3,st3,fr3,w3⟩
 rcases turn i n σ3 H3 w3 with⟨stop,qn⟩|⟨go,N,hN,step⟩
 ·refine Vp hp (thn (T.done X rfl rfl rfl hc i pins s3 σ3 H3 X.xe I3 (stat fr3) st3 stop) fun r s4 ⟨hr,I4⟩=>?_)
  subst hr;exact Vu ⟨σ3,H3,I4,qn⟩
 ·refine Vp hp (thn (T.item X rfl rfl rfl hc i pins s3 σ3 H3 X.xe I3 (stat fr3) st3 go) fun r s4 ⟨u,hr,h4⟩=>?_)
  subst hr;refine Vp hp (thn h4 fun _ s5 ⟨x,H5,I5,r5,y5,st5,fr5⟩=>?_)
  have I5':=I5.pinned (stat fr5) (T.obj _ _ st5)
  refine Vp hp (thn (hg _ s5 σ3 H5 x u _ I5' r5 (step x H5 y5)) fun _ s6 ⟨σ6,H6,I6,q6⟩=>?_)
  refine Vp hp (thn (hb _ s6 σ6 H6 _ I6 q6) fun f s7 q7=>?_)
  have again:∀{σ7:St}{H7:Hp},Inv X (pins++a4j fp s5.heap) σ7 H7 s7->N σ7 H7->∃m,m<n/\∃i σ' H',Inv X pins σ' H' s7/\tn i s7.heap/\(∀b∈fp,H' b=none)/\W i m σ' H':=fun{σ7 H7} I7 n7=>by
   obtain⟨m',hm,w7⟩:=hN σ7 H7 n7;refine⟨m',hm,i+1,σ7,H7,I7.unpinned,T.keep _ _ _ st5 fun b hb o e=>(I7.pin (b,o) (Zr _ (Zr _ (a5j hb e)))).1,fun b hb=>?_,w7⟩
   obtain⟨o,e,d⟩:=T.obj _ _ st5 b hb;exact(I7.pin (b,o) (Zr _ (Zr _ (a5j hb e)))).2.1
  cases f with
  |next=>obtain⟨σ7,H7,I7,n7⟩:=q7;exact again I7 n7
  |cont=>obtain⟨σ7,H7,I7,n7⟩:=q7;exact again I7 n7
  |brk=>obtain⟨σ7,H7,I7,q7⟩:=q7;exact⟨σ7,H7,I7.unpinned,q7⟩
  |ret v=>obtain⟨x7,σ7,H7,I7,r7,q7⟩:=q7;exact⟨x7,σ7,H7,I7.unpinned,r7,q7⟩
abbrev R2:=V->V->Hp->VK->Prop
variable{r r':R2}
def OpR(X:Cx)(f:Value->Value->Sem Value)(r:R2):Prop:=
 ∀(pins:OX) (s:Shared) (σ:St) (H:Hp) (x y:V) (v u:Value) (Q:VK),Inv X pins σ H s->v4_ x v->v4_ y u->r x y H Q->
  wpAny (model X.prog X.w) X.A (f v u) (EP X pins σ Q) X.xe s
def UnR(X:Cx)(f:Value->Sem Value)(r:V->Hp->VK->Prop):Prop:=
 ∀(pins:OX) (s:Shared) (σ:St) (H:Hp) (x:V) (v:Value) (Q:VK),Inv X pins σ H s->v4_ x v->r x H Q->
  wpAny (model X.prog X.w) X.A (f v) (EP X pins σ Q) X.xe s
def g2_(X:Cx)(f:Value)(r:List V->Hp->VK->Prop):Prop:=
 ∀(pins:OX) (s:Shared) (σ:St) (H:Hp) (xs:List V) (us:List Value) (Q:VK),Inv X pins σ H s->v2_ xs us->r xs H Q->
  wpAny (model X.prog X.w) X.A (call f us) (EP X pins σ Q) X.xe s
def tOp(r:R2)(ta tb:TE):TE:=fun σ H Q=>ta σ H fun x H1=>tb σ H1 fun y H2=>r x y H2 Q
def tUn(r:V->Hp->VK->Prop)(ta:TE):TE:=fun σ H Q=>ta σ H fun x H1=>r x H1 Q
def rI(C:Int->Int->Prop)(g:Int->Int->V):R2:=fun x y H Q=>∃i j,x=.int i/\y=.int j/\C i j/\Q (g i j) H
def rI0(g:Int->Int->V):R2:=fun x y H Q=>∃i j,x=.int i/\y=.int j/\Q (g i j) H
def rU(g:Int->V):V->Hp->VK->Prop:=fun x H Q=>∃i,x=.int i/\Q (g i) H
section
variable{a b:Expr}{tc:TE}
theorem a6U(ha:PE X a ta)(hb:PE X b tb)(I:Inv X pins σ H s)
  (h:ta σ H fun x H1=>tb σ H1 fun y H2=>R x y H2){f:Value->Value->Sem Value}
  (hf:∀v u s2 x y H2,Inv X pins σ H2 s2->v4_ x v->v4_ y u->R x y H2->wpAny (model X.prog X.w) X.A (f v u) Q X.xe s2):
  wpAny (model X.prog X.w) X.A (eval a X.env) (fun v s₁=>wpAny (model X.prog X.w) X.A (eval b X.env) (fun u s₂=>wpAny (model X.prog X.w) X.A (f v u) Q X.xe s₂) X.xe s₁) X.xe s:=by
 refine thn (ha pins s σ H _ I h) fun v s1 ⟨x,H1,I1,r1,q1⟩=>?_
 refine thn (hb pins s1 σ H1 _ I1 q1) fun u s2 ⟨y,H2,I2,r2,q2⟩=>?_
 exact hf v u s2 x y H2 I2 r1 r2 q2
theorem b0f{op:Operator}(ho:OpR X (binaryOp op) r)(ha:PE X a ta)(hb:PE X b tb):PE X (.BinOp a op b pos) (tOp r ta tb):=by
 intro pins s σ H Q I h;exact wpAny_BinOp (a6U ha hb I h fun v u s2 x y H2 I2 rx ry q=>ho pins s2 σ H2 x y v u Q I2 rx ry q)
theorem b0g{op:UnaryOp}{r:V->Hp->VK->Prop}(ho:UnR X (unaryOp op) r)(ha:PE X a ta):PE X (.UnaryOp op a pos) (tUn r ta):=by
 intro pins s σ H Q I h;exact UnaryOp_ (thn (ha pins s σ H _ I h) fun v s1 ⟨x,H1,I1,r1,q1⟩=>ho pins s1 σ H1 x v Q I1 r1 q1)
theorem opI{f:Value->Value->Sem Value}{C:Int->Int->Prop}{g:Int->Int->Int}
  (rule:∀(i j:Int) (t u:Tok) (s:Shared) (Q:OE) (E:OE),C i j->Q (.int (g i j) s.toks) {s with toks:=s.toks+1}->wpAny (model X.prog X.w) X.A (f (.int i t) (.int j u)) Q E s):
  OpR X f (rI C fun i j=>.int (g i j)):=by
 intro pins s σ H x y v u Q I rx ry h;obtain⟨i,j,rfl,rfl,hc,q⟩:=h;obtain⟨t,rfl⟩:=rx;obtain⟨t',rfl⟩:=ry;exact rule i j t t' s _ _ hc ⟨.int (g i j),H,I.tok _,⟨_,rfl⟩,q⟩
theorem a6V{f:Value->Value->Sem Value}{g:Int->Int->Int}
  (rule:∀(i j:Int) (t u:Tok) (s:Shared) (Q:OE) (E:OE),Q (.int (g i j) s.toks) {s with toks:=s.toks+1}->wpAny (model X.prog X.w) X.A (f (.int i t) (.int j u)) Q E s):
  OpR X f (rI0 fun i j=>.int (g i j)):=by
 intro pins s σ H x y v u Q I rx ry h;obtain⟨i,j,rfl,rfl,q⟩:=h;obtain⟨t,rfl⟩:=rx;obtain⟨t',rfl⟩:=ry;exact rule i j t t' s _ _ ⟨.int (g i j),H,I.tok _,⟨_,rfl⟩,q⟩
theorem a6W{f:Value->Value->Sem Value}{g:Int->Int->Bool}
  (rule:∀(i j:Int) (t u:Tok) (s:Shared) (Q:OE) (E:OE),Q (.bool (g i j)) s->wpAny (model X.prog X.w) X.A (f (.int i t) (.int j u)) Q E s):
  OpR X f (rI0 fun i j=>.bl (g i j)):=by
 intro pins s σ H x y v u Q I rx ry h;obtain⟨i,j,rfl,rfl,q⟩:=h;obtain⟨t,rfl⟩:=rx;obtain⟨t',rfl⟩:=ry;exact rule i j t t' s _ _ ⟨.bl (g i j),H,I,rfl,q⟩
def a6X(i j:Int):Prop:=0<j/\j<1073741824
def a6Y(i j:Int):Prop:=0≤j/\j≤1000000/\i.natAbs<2^64
def a2S(i j:Int):Prop:=(-(2^64)<i/\i<2^64)∨(-(2^64)<j/\j<2^64)
theorem a2S.ok{i j:Int}(h:a2S i j):IntMulOk i j:=by
 rcases h with⟨h1,h2⟩|⟨h1,h2⟩
 ·exact .of_left (intBits_le_64 h1 h2)
 ·exact .of_right (intBits_le_64 h1 h2)
theorem b5q:OpR X (binaryOp .Add) (rI0 fun i j=>.int (i+j)):=a6V fun _ _ _ _ _ _ _ q=>add_int q
theorem b5r:OpR X (binaryOp .Sub) (rI0 fun i j=>.int (i-j)):=a6V fun _ _ _ _ _ _ _ q=>sub_int q
theorem b5s:OpR X (binaryOp .Mult) (rI a2S fun i j=>.int (i * j)):=opI fun _ _ _ _ _ _ _ hc q=>mul_int q hc.ok
theorem b5t:OpR X (binaryOp .FloorDiv) (rI a6X fun i j=>.int (i/j)):=opI fun i j _ _ _ _ _ hc q=>by
 have h1:(0:Int)<j:=hc.1
 have h2:j<1073741824:=hc.2
 exact floordiv_int (by omega) (by rw[Int.fdiv_eq_ediv_of_nonneg i (by omega)];exact q) (.inl (PyProof.noPylong_small (by omega)))
theorem b5u:OpR X (binaryOp .Mod) (rI (fun _ j=>0<j) fun i j=>.int (i%j)):=opI fun i j _ _ _ _ _ hc q=>by
 have h1:(0:Int)<j:=hc
 exact mod_int' (by omega) (by rw[Int.fmod_eq_emod_of_nonneg i (by omega)];exact q)
theorem b5v:OpR X (binaryOp .Pow) (rI a6Y fun i j=>.int (i^j.toNat)):=opI fun _ _ _ _ _ _ _ hc q=>pow_int_small hc.1 hc.2.1 hc.2.2 q
theorem b5w:OpR X (inplaceOp .Add) (rI0 fun i j=>.int (i+j)):=a6V fun _ _ _ _ _ _ _ q=>iadd_int q
theorem unI{f:Value->Sem Value}{g:Int->Int}
  (rule:∀(i:Int) (t:Tok) (s:Shared) (Q:OE) (E:OE),Q (.int (g i) s.toks) {s with toks:=s.toks+1}->wpAny (model X.prog X.w) X.A (f (.int i t)) Q E s):
  UnR X f (rU fun i=>.int (g i)):=by
 intro pins s σ H x v Q I rx h;obtain⟨i,rfl,q⟩:=h;obtain⟨t,rfl⟩:=rx;exact rule i t s _ _ ⟨.int (g i),H,I.tok _,⟨_,rfl⟩,q⟩
theorem b0h:UnR X (unaryOp .USub) (rU fun i=>.int (-i)):=unI fun _ _ _ _ _ q=>neg_int q
end
section
variable{a b:Expr}{tc:TE}
theorem b5x{Q:VK}{k k':Bool}(I:Inv X pins σ H s)(q:Q (.bl k) H)(e:k=k'):EP X pins σ Q (.bool k') s:=by
 subst e;exact⟨.bl k,H,I,rfl,q⟩
theorem b5y:OpR X (compareOp .Lt) (rI0 fun i j=>.bl (decide (i<j))):=a6W fun _ _ _ _ _ _ _ q=>lt_int q
theorem b5z:OpR X (compareOp .LtE) (rI0 fun i j=>.bl (decide (i≤j))):=a6W fun _ _ _ _ _ _ _ q=>le_int q
theorem b5A:OpR X (compareOp .GtE) (rI0 fun i j=>.bl (decide (j≤i))):=a6W fun _ _ _ _ _ _ _ q=>ge_int q
theorem b5B:OpR X (compareOp .Is) (fun x y H Q=>y=.non/\Q (.bl (decide (x=.non))) H):=by
 intro pins s σ H x y v u Q I rx ry h;obtain⟨rfl,q⟩:=h;cases ry;refine is_none_gen (b5x I q ?_);cases x<;>first
  |(cases rx;rfl)
  |(obtain⟨t,rfl⟩:=rx;rfl)
theorem nomark(b:Expr)(h:op≠.In:=by decide)(h2:op≠.NotIn:=by decide):behindInMarks op b=false:=by
 have e1:(op==CmpOp.In)=false:=by cases op<;>first|rfl|exact absurd rfl h
 have e2:(op==CmpOp.NotIn)=false:=by cases op<;>first|rfl|exact absurd rfl h2
 cases b<;>simp[behindInMarks,e1,e2]
theorem b5C(ho:OpR X (compareOp op) r)(ha:PE X a ta)(hb:PE X b tb)(hm:behindInMarks op b=false):PE X (.Compare a [op] [b] pos) (tOp r ta tb):=by
 intro pins s σ H Q I h;exact wpAny_Compare1 (a6U ha hb I h fun v u s2 x y H2 I2 rx ry q=>ho pins s2 σ H2 x y v u Q I2 rx ry q) hm
def b0i(t:TE):TT:=fun σ H Q=>t σ H fun x H'=>∃k,x=.bl k/\Q k H'
theorem b5D(ho:OpR X (compareOp op) r)(ha:PE X a ta)(hb:PE X b tb)(hm:behindInMarks op b=false):PT X (.Compare a [op] [b] pos) (b0i (tOp r ta tb)):=by
 intro pins s σ H Q I h;refine wpAny_isTrue_Compare1 (thn (ha pins s σ H _ I h) fun v s1 ⟨x,H1,I1,r1,q1⟩=>thn (hb pins s1 σ H1 _ I1 q1) fun u s2 ⟨y,H2,I2,r2,q2⟩=>
  thn (ho pins s2 σ H2 x y v u _ I2 r1 r2 q2) fun c s3 ⟨z,H3,I3,r3,k,e,q3⟩=>?_) hm
 subst e;cases r3;exact Yp ⟨H3,I3,q3⟩
def a6Z(r r':R2)(ta tb tc:TE):TE:=fun σ H Q=>ta σ H fun x H1=>tb σ H1 fun y H2=>r x y H2 fun z H3=>∃k,z=.bl k/\
 (if k=true then tc σ H3 fun w' H4=>r' y w' H4 Q else Q (.bl false) H3)
theorem b5E(ho:OpR X (compareOp op) r)(ho':OpR X (compareOp op') r')(ha:PE X a ta)(hb:PE X b tb)(hc:PE X c tc)
  (hm:lastMarks [op,op'] [b,c]=false:=by with_unfolding_all rfl):PE X (.Compare a [op,op'] [b,c] pos) (a6Z r r' ta tb tc):=by
 intro pins s σ H Q I h;refine Compare_chain (thn (ha pins s σ H _ I h) fun v s1 ⟨x,H1,I1,r1,q1⟩=>chain_link (thn (hb pins s1 σ H1 _ I1 q1) fun u s2 ⟨y,H2,I2,r2,q2⟩=>
  thn (ho pins s2 σ H2 x y v u _ I2 r1 r2 q2) fun d s3 ⟨z,H3,I3,r3,k,e,q3⟩=>?_)) hm
 subst e;cases r3;refine Yp ?_
 cases k with
 |false=>exact ite_ff ⟨.bl false,H3,I3,rfl,q3⟩
 |true=>exact ite_tt (chain_last (thn (hc pins s3 σ H3 _ I3 q3) fun w' s4 ⟨z',H4,I4,r4,q4⟩=>ho' pins s4 σ H4 y z' u w' Q I4 r2 r4 q4))
theorem b5F(ho:OpR X (compareOp op) r)(ho':OpR X (compareOp op') r')(ha:PE X a ta)(hb:PE X b tb)(hc:PE X c tc)
  (hm:lastMarks [op,op'] [b,c]=false:=by with_unfolding_all rfl):PT X (.Compare a [op,op'] [b,c] pos) (b0i (a6Z r r' ta tb tc)):=by
 intro pins s σ H Q I h;refine isTrue_chain (thn (ha pins s σ H _ I h) fun v s1 ⟨x,H1,I1,r1,q1⟩=>test_link (thn (hb pins s1 σ H1 _ I1 q1) fun u s2 ⟨y,H2,I2,r2,q2⟩=>
  thn (ho pins s2 σ H2 x y v u _ I2 r1 r2 q2) fun d s3 ⟨z,H3,I3,r3,k,e,q3⟩=>?_)) hm
 subst e;cases r3;refine Yp ?_
 cases k with
 |false=>
  obtain⟨k',e',q'⟩:=q3;cases e';exact ite_ff ⟨H3,I3,q'⟩
 |true=>
  refine ite_tt (test_last (thn (hc pins s3 σ H3 _ I3 q3) fun w' s4 ⟨z',H4,I4,r4,q4⟩=>thn (ho' pins s4 σ H4 y z' u w' _ I4 r2 r4 q4) fun d' s5 ⟨z2,H5,I5,r5,k2,e2,q5⟩=>?_))
  subst e2;cases r5;exact Yp ⟨H5,I5,q5⟩
theorem a4k:(sizeLine:Nat)<2^63:=by rw[sizeLine_eq];decide
theorem a1T{x:V}(r:v2_ [x] us):∃u,us=[u]/\v4_ x u:=by
 cases r with
 |cons r1 r2=>cases r2;exact⟨_,rfl,r1⟩
theorem a1U{x:V}(r:v2_ [x,y] us):∃u w',us=[u,w']/\v4_ x u/\v4_ y w':=by
 cases r with
 |cons r1 r2=>
  cases r2 with
  |cons r3 r4=>cases r4;exact⟨_,_,rfl,r1,r3⟩
theorem b0j(hc:X.calm=true):g2_ X (.builtin "max") (fun xs H Q=>∃i j,xs=[.int i,.int j]/\Q (.int (if j>i then j else i)) H):=by
 intro pins s σ H xs us Q I r h;obtain⟨i,j,rfl,q⟩:=h;obtain⟨u,w',rfl,⟨t,rfl⟩,⟨t',rfl⟩⟩:=a1U r;refine max_two_ints (I.ok.hd hc) fun h' tk k=>⟨_,H,I.kept k,?_,q⟩
 by_cases hj:j>i
 ·rw[Qh hj,Qh hj];exact⟨_,rfl⟩
 ·rw[Qm hj,Qm hj];exact⟨_,rfl⟩
theorem b0k(hc:X.calm=true):g2_ X (.builtin "min") (fun xs H Q=>∃i j,xs=[.int i,.int j]/\Q (.int (if j<i then j else i)) H):=by
 intro pins s σ H xs us Q I r h;obtain⟨i,j,rfl,q⟩:=h;obtain⟨u,w',rfl,⟨t,rfl⟩,⟨t',rfl⟩⟩:=a1U r;refine min_two_ints (I.ok.hd hc) fun h' tk k=>⟨_,H,I.kept k,?_,q⟩
 by_cases hj:j<i
 ·rw[Qh hj,Qh hj];exact⟨_,rfl⟩
 ·rw[Qm hj,Qm hj];exact⟨_,rfl⟩
theorem a7a:g2_ X (.type "int") (fun xs H Q=>(∃i,xs=[.int i]/\Q (.int i) H)∨ ∃k,xs=[.bl k]/\Q (.int (if k then 1 else 0)) H):=by
 intro pins s σ H xs us Q I r h
 rcases h with⟨i,rfl,q⟩|⟨k,rfl,q⟩
 ·obtain⟨u,rfl,t,rfl⟩:=a1T r
  exact call_int_int ⟨.int i,H,I,⟨_,rfl⟩,q⟩
 ·obtain⟨u,rfl,r1⟩:=a1T r
  cases r1;exact call_int_bool ⟨.int (if k then 1 else 0),H,I.tok _,⟨_,rfl⟩,q⟩
end
structure ObjM(h:Heap)(x dx C:Addr)(mA:OU):Prop where
 obj:h.get? x=some (PySem.W.instObj C dx)
 ns:h.Ns1 dx mA
 ne:dx≠x
theorem b5G(n:h.Ns1 dx mA):∃od,h.get? dx=some od/\∀name,PySem.W.lookIn name od=some (mA name):=by
 obtain⟨o,es,ep,ho,hd,hk,_,hm⟩:=n;refine⟨o,ho,fun name=>?_⟩
 have e:=hm name
 unfold nsFind findBy at e;rw[←Array.find?_toList]at e;unfold PySem.W.lookIn;rw[hd];dsimp only;split
 ·rename_i y q
  rw[q]at e;exact Ys some e
 ·rename_i q
  rw[q]at e;have a:es.toList.any (·.refKey)=false:=by
   rw[List.any_eq_false];intro y hy;obtain⟨z,t,hkey⟩:=hk y (Array.mem_toList_iff.mp hy)
   simp[DictEntry.refKey,hkey]
  have a':¬ es.toList.any (·.refKey)=true:=by rw[a];exact Qo
  rw[Qm a'];exact Ys some e
theorem ObjM.look{x:Addr}(I:ObjM h x dx C mA):∃od,PySem.W.InstAt h x (PySem.W.instObj C dx) C (some od)/\∀name,PySem.W.lookIn name od=some (mA name):=
 let ⟨od,ho,hl⟩:=b5G I.ns
 ⟨od,⟨I.obj,rfl,rfl,ho⟩,hl⟩
section
variable{prog:Program}{x f:Addr}{name:Str}{v:Value}
end
section
variable{fs fs':List (Str×V)}
theorem b5H(hok:HOk P w H h)(e:H a=some (.ins C dx fs)):∃mA,ObjM h a dx C mA/\(∀f,a5g (fs.lookup f) (mA f))/\PySem.Within mA (fs.map (·.1))/\fs.length≤1000/\H dx=some (.own a):=by
 obtain⟨d,z,ne,ob,mA,n,r,q⟩:=(show x5_ P w H h a (.ins C dx fs)from hok a _ e)
 exact⟨mA,⟨ob,n,ne⟩,r,q,z,d⟩
end
structure Cls(K:Qz)(C:Addr):Prop where
 pg:PySem.W.plainGet K C Str.empty=true
 hd:PySem.W.hasDictIn K C=true
 po:PySem.W.plainOver K C=true
 sa:PySem.W.findIn K (.ref C) "__setattr__"=some (some (.builtin "object.__setattr__"))
theorem Cls.get(c:Cls K C)(f:Str):PySem.W.plainGet K C f=true:=c.pg
structure Con(K:Qz)(C:Addr)(f:Str)(v:V)(u:Value):Prop where
 at_:PySem.W.findIn K (.ref C) f=some (some u)
 rel:v4_ v u
 get:PySem.W.specialIn K u "__get__"=some none
 cp:PySem.W.copiedNames.contains f=false
structure Meth(K:Qz)(C:Addr)(m:Str)(f:Addr):Prop where
 at_:PySem.W.findIn K (.ref C) m=some (some (.ref f))
 fn:PySem.W.isFn K (.ref f)=true
 kp:PySem.W.keepIn K (.ref f)=true
section
variable{fs:List (Str×V)}{f:Str}
end
section
variable{o value:Expr}{f:Str}{tpos:Pos}{tv:TE}
end
section
variable{c:Value}{b:Bool}
inductive TyOf (K:Qz) (H:Hp):V->Value->Prop where
 |non:TyOf K H .non (.type "NoneType")
 |bl (x:Bool):TyOf K H (.bl x) (.type "bool")
 |int (i:Int):TyOf K H (.int i) (.type "int")
 |str (x:Str):TyOf K H (.str x) (.type "str")
 |flt (x:UInt64):TyOf K H (.flt x) (.type "float")
 |lst {a:Addr}{xs:List V}(e:H a=some (.lst xs)):TyOf K H (.ref a) (.type "list")
 |frz {a:Addr}{o:Obj}{xs:List V}(e:H a=some (.frz o (.lst xs))):TyOf K H (.ref a) (.type "list")
 |tup {a:Addr}{xs:List V}(e:H a=some (.tup xs)):TyOf K H (.ref a) (.type "tuple")
 |dK {a:Addr}{kvs:List (Key×V)}(e:H a=some (.dK kvs)):TyOf K H (.ref a) (.type "dict")
 |dT {a:Addr}{C:Addr->List Key->Prop}{kvs:List (List Key×V)}(e:H a=some (.dT C kvs)):TyOf K H (.ref a) (.type "dict")
 |dX {a:Addr}{es:Array DictEntry}{ep:Nat}(e:H a=some (.dX es ep)):TyOf K H (.ref a) (.type "dict")
 |ins {a C dx:Addr}{fs:List (Str×V)}(e:H a=some (.ins C dx fs)) (cl:Cls K C) (ha:PySem.W.findIn K (.ref C) "__class__"=some (some (.builtin "object.__class__")))
   (hn:PySem.W.specialIn K (.builtin "object.__class__") "__get__"=some (some (.builtin "getset_descriptor.__get__"))) (htk:PySem.W.takesIn K (.builtin "object.__class__")=some true)
   (hm:PySem.W.mroIn K C (.type "object")=some true):TyOf K H (.ref a) (.ref C)
theorem a2p{x:V}{t:Value}(I:Inv X pins σ H s)(rx:v4_ x u)(ty:TyOf X.K H x t)(e:PySem.W.kitOne X.K t c=some b)(h:∀tk,Q (.bool b) {s with toks:=tk}):
  wpAny (model X.prog X.w) A (call (.builtin "isinstance") [u,c]) Q E s:=by
 cases ty with
 |non=>cases (show u=Value.none from rx);exact Zv PySem.W.kitx_none I.kIn True.intro e (fun z=>nomatch z) h
 |bl y=>cases (show u=Value.bool y from rx);exact Zv PySem.W.kitx_bool I.kIn True.intro e (fun z=>nomatch z) h
 |int i=>obtain⟨t,q⟩:=(show∃t,u=Value.int i t from rx);cases q;exact Zv PySem.W.kitx_int I.kIn True.intro e (fun z=>nomatch z) h
 |str y=>obtain⟨t,q⟩:=(show∃t,u=Value.str y t from rx);cases q;exact Zv PySem.W.kitx_str I.kIn True.intro e (fun z=>nomatch z) h
 |flt y=>obtain⟨t,q⟩:=(show∃t,u=Value.float y t from rx);cases q;exact Zv PySem.W.kitx_float I.kIn True.intro e (fun z=>nomatch z) h
 |@lst a xs ea=>
  cases (show u=Value.ref a from rx)
  obtain⟨_,_,n,_,h1⟩:=(show x5_ X.prog X.w H s.heap a (.lst xs)from I.hok a _ ea)
  exact Zv Xz I.kIn ⟨_,h1,rfl⟩ e (fun z=>nomatch z) h
 |@frz a ob xs ea=>
  cases (show u=Value.ref a from rx)
  obtain⟨_,_,_,n,_,h1⟩:=(show x5_ X.prog X.w H s.heap a (.frz ob (.lst xs))from I.hok a _ ea)
  exact Zv Xz I.kIn ⟨_,h1,rfl⟩ e (fun z=>nomatch z) h
 |@tup a xs ea=>
  cases (show u=Value.ref a from rx)
  obtain⟨_,_,_,p⟩:=(show x5_ X.prog X.w H s.heap a (.tup xs)from I.hok a _ ea)
  obtain⟨o,h1,h2,_⟩:=p;exact Zv Tq I.kIn ⟨o,h1,h2⟩ e (fun z=>nomatch z) h
 |@dK a kvs ea=>
  cases (show u=Value.ref a from rx)
  obtain⟨_,_,vs,_,p⟩:=(show x5_ X.prog X.w H s.heap a (.dK kvs)from I.hok a _ ea)
  obtain⟨o,es,ep,h1,h2,_⟩:=p;exact Zv Yb I.kIn ⟨o,h1,h2.1⟩ e (fun z=>nomatch z) h
 |@dT a C kvs ea=>
  cases (show u=Value.ref a from rx)
  obtain⟨_,_,xs,_,o,es,ep,h1,h2,_⟩:=(show x5_ X.prog X.w H s.heap a (.dT C kvs)from I.hok a _ ea)
  exact Zv Yb I.kIn ⟨o,h1,h2.1⟩ e (fun z=>nomatch z) h
 |@dX a es ep ea=>
  cases (show u=Value.ref a from rx)
  obtain⟨_,_,o,h1,h2,_⟩:=(show x5_ X.prog X.w H s.heap a (.dX es ep)from I.hok a _ ea)
  exact Zv Yb I.kIn ⟨o,h1,h2.1⟩ e (fun z=>nomatch z) h
 |@ins a C dx fs ea cl ha hn htk hm=>
  cases (show u=Value.ref a from rx)
  obtain⟨mA,O,_⟩:=b5H I.hok ea;obtain⟨od,J,_⟩:=O.look;exact Zv (PySem.W.kitx_own (cl.get _) cl.hd ha hn htk hm) I.kIn J e (fun z=>nomatch z) h
end
structure Room(k:Nat)(A:Around):Prop where
 hd:A.handled=none
 dp:A.depth+3 * k+5<recursionLimit
 un:A.units+16 * k+200<cLine
theorem Room.mono(r:Room k A)(h:j≤k):Room j A:=⟨r.hd,by have:=r.dp;omega,by have:=r.un;omega⟩
theorem Room.deeper(r:Room (k+1) A)(env:Env):Room k (A.deeper env):=
 ⟨r.hd,by have:=r.dp;show A.depth+1+3 * k+5<_;omega,by have:=r.un;show A.units+3+16 * k+200<_;omega⟩
theorem Room.depth(r:Room k A):A.depth<recursionLimit:=by have:=r.dp;omega
theorem Room.units(r:Room k A):A.units+64<cLine:=by have:=r.un;omega
def b0l:TA:=fun _ H Q=>Q [] H
def a7b(ta:TE)(tr:TA):TA:=fun σ H Q=>ta σ H fun x H1=>tr σ H1 fun xs H2=>Q (x::xs) H2
section
variable{t:TA}
theorem a1u:PA X [] b0l:=fun _ _ _ _ H Q I h=>Calls.spliced_nil ⟨[],H,I,.nil,h⟩
theorem a0e(ha:PE X e te)(hr:PA X es t)(hs:starEach (e::es) X.env=(false,eval e X.env)::starEach es X.env:=by rfl):PA X (e::es) (a7b te t):=by
 intro pos pins s σ H Q I h;rw[hs];show wpAny _ _ (spliced ((false,eval e X.env)::backTo pos (starEach es X.env))) _ _ s;refine Calls.spliced_cons (thn (ha pins s σ H _ I h) fun u s1 ⟨x,H1,I1,r1,q1⟩=>?_)
 exact thn (hr pos pins s1 σ H1 _ I1 q1) fun us s2 ⟨xs,H2,I2,r2,q2⟩=>⟨x::xs,H2,I2,.cons r1 r2,q2⟩
def b0m(t:TA):TE:=fun σ H Q=>t σ H fun xs H1=>xs.length≤sizeLine/\∀p,H1 p=none->Q (.ref p) (upd H1 p (.tup xs))
def b5I(t:TA):TE:=fun σ H Q=>t σ H fun xs H1=>xs.length≤sizeLine/\∀p,H1 p=none->Q (.ref p) (upd H1 p (.lst xs))
theorem b0n{x1}(h:PA X es t):PE X (.Tuple es x1 pos) (b0m t):=by
 intro pins s σ H Q I hq;refine wpAny_Tuple_spliced (thn (h pos pins s σ H _ I hq) fun us s1 ⟨xs,H1,I1,r,z,q⟩=>⟨by rw[←r.length];exact z,?_⟩)
 have hf:H1 s1.heap.objs.size=none:=I1.hok.fresh (Qb _)
 refine⟨.ref s1.heap.objs.size,upd H1 s1.heap.objs.size (.tup xs),I1.laid (t':=s1.toks) (fun b u e=>Qx _ e) (Qb _) ?_,rfl,q _ hf⟩
 exact⟨z,us,r,⟨_,Qu _ rfl,rfl,rfl,_,rfl⟩⟩
theorem b5J(h:PA X es t):PE X (.List es pos) (b5I t):=by
 intro pins s σ H Q I hq;refine wpAny_List_spliced (thn (h pos pins s σ H _ I hq) fun us s1 ⟨xs,H1,I1,r,z,q⟩=>⟨by rw[←r.length];exact z,?_⟩)
 have hf:H1 s1.heap.objs.size=none:=I1.hok.fresh (Qb _)
 refine⟨.ref s1.heap.objs.size,upd H1 s1.heap.objs.size (.lst xs),I1.laid (t':=s1.toks) (fun b u e=>Qx _ e) (Qb _) ?_,rfl,q _ hf⟩
 exact⟨z,us,0,r,Qu _ rfl⟩
end
abbrev Sp:=List V->Hp->VK->XK->Prop
variable{sp:Sp}
abbrev CXT:=List Env->Hp->Shared->XK->OE
variable{CX:CXT}
structure Env0(P:Program)(w:World)(K:Qz)(mg:OU)(base:Heap)(A:Around)(outer:List Env)(s:Shared)(H:Hp):Prop where
 frames:A.frames=some outer
 mod:Mod K mg base
 bs:∀b o,base.get? b=some o->s.heap.get? b=some o/\H b=none
 bsz:base.objs.size≤s.heap.objs.size
 funs:s.heap.FunFrames base outer
 frf:∀b∈frs outer,H b=none
 hok:HOk P w H s.heap
 bare:AllBare s.gens
def CE(outer:List Env)(P:Program)(w:World)(H:Hp)(s:Shared)(Q:VK)(u:Value)(s':Shared):Prop:=
 ∃v H',s'.os=s.os/\AllBare s'.gens/\Un (frs outer) [] H H' s.heap s'.heap/\HOk P w H' s'.heap/\v4_ v u/\Q v H'
def CR(CX:CXT)(outer:List Env)(P:Program)(w:World)(H:Hp)(s:Shared)(Q:VK)(E:XK)(r:Result)(s':Shared):Prop:=
 match r with
 |.ok (.ret u)=>CE outer P w H s Q u s'
 |.ok _=>False
 |.error e=>CX outer H s E e s'
structure FnOk(P:Program)(w:World)(K:Qz)(mg:OU)(base:Heap)(CX:CXT)(k:Nat)(f:Addr)(fd:FuncData)(ps:List Str)(sp:Sp):Prop where
 len:∀vs H Q E,sp vs H Q E->vs.length=ps.length
 run:∀(A:Around) (outer:List Env) (s:Shared) (H:Hp) (args:Args) (us:List Value) (vs:List V) (Q:VK) (E:XK),Room k A->Env0 P w K mg base A outer s H->BindsTo s fd args (ps.zip us)->v2_ vs us->sp vs H Q E->
  codeAny (model P w) A (.call (.ref f) args) (CR CX outer P w H s Q E) s
theorem Inv.env0(I:Inv X pins σ H s):Env0 X.prog X.w X.K X.mg X.base X.A X.stack s H:=
 ⟨I.ok.frames,I.ok.mod,I.bs,Zt I.ok.bsz I.sz,I.stack,I.stkFree,I.hok,I.bare⟩
theorem Inv.after{Q:VK}(I:Inv X pins σ H s)(h:CE X.stack X.prog X.w H s Q u s'):EP X pins σ Q u s':=by
 obtain⟨v,H',os,bare,un,hok,r,q⟩:=h;obtain⟨hh,g,d,t,os'⟩:=s';obtain rfl:os'=s.os:=os;exact⟨v,H',I.call (h':=hh) (g':=g) (d':=d) (t':=t) (ch:=[]) un hok bare (fun b z=>absurd z (by simp)),r,q⟩
def b0o(sp:Sp)(dvs:List V)(E:XK)(t:TA):TE:=fun σ H Q=>t σ H fun vs H1=>sp (vs++dvs) H1 Q E
def a0x(K:Qz)(fd:FuncData)(ps:List Str)(ds:List Value):Prop:=
 ∀(s:Shared) (us:List Value),K.In s.heap->(us++ds).length=ps.length->BindsTo s fd ⟨us,[]⟩ (ps.zip (us++ds))
theorem a0x.all(h:∀us:List Value,us.length=ps.length->bindArgs fd ⟨us,[]⟩=pure (ps.zip us)):a0x K fd ps []:=fun s us _ hl=>by
 rw[Yt]at hl ⊢;exact .of_eq (h us hl)
def a5k(CX:CXT)(X:Cx)(E:XK):Prop:=∀(pins:OX) (σ:St) (H:Hp) (s:Shared) (e:Value) (s':Shared),Inv X pins σ H s->CX X.stack H s E e s'->X.xe e s'
section
variable{f:Addr}{dvs:List V}{ds:List Value}{E:XK}{m:Str}{apos:Pos}{o:Expr}{t:TA}
theorem b5K{Q:VK}(F:FnOk X.prog X.w X.K X.mg X.base CX k f fd ps sp)(hr:Room k X.A)(hb:a0x X.K fd ps ds)(hd:v2_ dvs ds)(hx:a5k CX X E)
  (I:Inv X pins σ H s)(r:v2_ vs us)(h:sp (vs++dvs) H Q E):wpAny (model X.prog X.w) X.A (call (.ref f) us) (EP X pins σ Q) X.xe s:=by
 have r2:v2_ (vs++dvs) (us++ds):=r.append hd
 have hl:(us++ds).length=ps.length:=by rw[←r2.length];exact F.len _ _ _ _ h
 refine wpAny_call (Xl (F.run X.A X.stack s H ⟨us,[]⟩ (us++ds) (vs++dvs) Q E hr I.env0 (hb s us I.kIn hl) r2 h) fun r s' hq=>?_)
 cases r with
 |error e=>exact hx pins σ H s e s' I hq
 |ok fl=>
  cases fl with
  |ret u=>exact I.after hq
  |next=>exact False.elim hq
  |brk=>exact False.elim hq
  |cont=>exact False.elim hq
theorem a5l(F:FnOk X.prog X.w X.K X.mg X.base CX k f fd ps sp)(hr:Room k X.A)(hg:Gl X x)(hm:X.mg x=some (.ref f))(hk:PySem.W.keepIn X.K (.ref f)=true)(hb:a0x X.K fd ps ds)(hd:v2_ dvs ds)(hx:a5k CX X E)
  (ha:PA X (e::es) t)(hdb:(x==("__debug__":Str))=false:=by decide)(he:starEach (e::es) X.env=(false,eval e X.env)::starEach es X.env:=by rfl)(hpl:(backTo pos (starEach es X.env)).any (·.1)=false:=by rfl):
  PE X (.Call (.Name x p) (e::es) [] pos) (b0o sp dvs E t):=by
 intro pins s σ H Q I h;refine Ur (a4f I hg hm ?_ hdb);refine PySem.W.callWith_K (h₀:=X.base) I.ok.mod.kin hk (thn (ha pos pins s σ H _ I h) fun us s1 ⟨vs,H1,I1,r,q⟩=>⟨I1.kIn,?_⟩) he hpl
 exact b5K F hr hb hd hx I1 r q
structure Mk(K:Qz)(C f:Addr):Prop where
 makes:PySem.W.makesIn K C=true
 init:PySem.W.findIn K (.ref C) "__init__"=some (some (.ref f))
 fn:PySem.W.isFn K (.ref f)=true
 kp:PySem.W.keepIn K (.ref C)=true
end
section
variable{f:Addr}{ks:List Str}{E:XK}{m:Str}{apos kpos:Pos}{o:Expr}{kws:List Keyword}{t tk:TA}{nm:Option Str}
structure KBinds(K:Qz)(fd:FuncData)(ps ks:List Str)(g:List Value->List Value->List Value)(gV:List V->List V->List V):Prop where
 to:∀(s:Shared) (us ws:List Value),K.In s.heap->(g us ws).length=ps.length->BindsTo s fd ⟨us,ks.zip ws⟩ (ps.zip (g us ws))
 rel:∀{vs:List V}{us:List Value}{zs:List V}{ws:List Value},v2_ vs us->v2_ zs ws->v2_ (gV vs zs) (g us ws)
variable{g:List Value->List Value->List Value}{gV:List V->List V->List V}
end
structure FnScope(N P:List Str)(sc:Scope):Prop where
 kind:sc.kind=.function
 co:sc.isCoroutine=false
 gen:sc.isGenerator=false
 nd:N.Nodup
 pre:N.take P.length=P
 par:∀x∈P,sc.names.lookup x=some .local∨sc.names.lookup x=some .cell
 nofree:∀y∈sc.names,y.2≠.free
theorem b0p{kindOf:Str->Option NameKind}{x:Str}:∀{binds:List (Str×Value)}{m:OU},(∀v,(x,v)∉binds)->bindL kindOf binds m x=m x
 |[],_,_=>rfl
 |(n,v)::r,m,h=>by
  unfold bindL;rw[b0p fun w hw=>h w (Zp _ hw)]
  split
  ·have:x≠n:=by rintro rfl;exact h v Zf
   simp[this]
  ·rfl
theorem b0q{kindOf:Str->Option NameKind}{x:Str}:∀{binds:List (Str×Value)}{m:OU},(∀v,(x,v)∉binds)->bindC kindOf binds m x=m x
 |[],_,_=>rfl
 |(n,v)::r,m,h=>by
  unfold bindC;rw[b0q fun w hw=>h w (Zp _ hw)]
  split
  ·rfl
  ·have:x≠n:=by rintro rfl;exact h v Zf
   simp[this]
theorem b0r{kindOf:Str->Option NameKind}{x:Str}{v:Value}:∀{P:List Str}{vs:List Value}{i:Nat}{m:OU},P.Nodup->P[i]? =some x->vs[i]? =some v->kindOf x=some .local->
  bindL kindOf (P.zip vs) m x=some v
 |[],_,_,_,_,h,_,_=>by simp at h
 |_::_,[],_,_,_,_,h,_=>by simp at h
 |p::P,w::vs,0,m,nd,h1,h2,hk=>by
  simp at h1 h2;subst h1;subst h2
  show bindL kindOf ((p,w)::P.zip vs) m p=_;unfold bindL;rw[b0p fun v hv=>(Xd.mp nd).1 (Vb hv).1,Qh hk]
  simp
 |p::P,w::vs,i+1,m,nd,h1,h2,hk=>by
  show bindL kindOf ((p,w)::P.zip vs) m x=_;unfold bindL;exact b0r (i:=i) (Xd.mp nd).2 (by simpa using h1) (by simpa using h2) hk
theorem b0s{kindOf:Str->Option NameKind}{x:Str}{v:Value}:∀{P:List Str}{vs:List Value}{i:Nat}{m:OU},P.Nodup->P[i]? =some x->vs[i]? =some v->kindOf x≠some .local->
  bindC kindOf (P.zip vs) m x=some v
 |[],_,_,_,_,h,_,_=>by simp at h
 |_::_,[],_,_,_,_,h,_=>by simp at h
 |p::P,w::vs,0,m,nd,h1,h2,hk=>by
  simp at h1 h2;subst h1;subst h2
  show bindC kindOf ((p,w)::P.zip vs) m p=_;unfold bindC;rw[b0q fun v hv=>(Xd.mp nd).1 (Vb hv).1,Qm hk]
  simp
 |p::P,w::vs,i+1,m,nd,h1,h2,hk=>by
  show bindC kindOf ((p,w)::P.zip vs) m x=_;unfold bindC;exact b0s (i:=i) (Xd.mp nd).2 (by simpa using h1) (by simpa using h2) hk
def start(N:List Str)(vs:List V):St:=vs.map some++List.replicate (N.length-vs.length) none
def g7_(CX:CXT)(P:Program)(w:World)(K:Qz)(mg:OU)(base:Heap)(N:List Str)(qual:Str)(scope:Scope)(f:Addr)(cd:Value)(A:Around)(outer:List Env)(s:Shared)(H:Hp)(E:XK):Cx where
 prog:=P
 w:=w
 K:=K
 mg:=mg
 base:=base
 A:=A.deeper (envOfC qual scope s.heap.objs.size f cd)
 N:=N
 s₀:=s
 H₀:=H
 env:=envOfC qual scope s.heap.objs.size f cd
 outer:=outer
 stack:=envOfC qual scope s.heap.objs.size f cd::outer
 ex:=[]
 calm:=true
 fn:=fun _=>true
 pn:=[]
 xe:=fun e s'=>wpAny (model P w) (A.deeper (envOfC qual scope s.heap.objs.size f cd)) (leaving (envOfC qual scope s.heap.objs.size f cd) e) (fun _ s''=>CX outer H s E e s'') (fun e' s''=>CX outer H s E e' s'') s'
theorem b0t{sc:Scope}(h:sc.names.lookup x=some .cell):∃c,(cellsFrom n sc.names []).lookup x=some c:=by
 have q:=Ut sc.names n [] (.inl h)
 exact Yg.mp q
theorem b0u{f:Addr}{cd:Value}{outer:List Env}{s1:Shared}{E:XK}
  (S:FnScope N ps scope)(hd:A.handled=none)(e0:Env0 P w K mg base A outer s H)(hl:vs.length=ps.length)(r:v2_ vs us)
  (x:InCallC s s.heap.objs.size (bindL (envOfC qual scope s.heap.objs.size f cd).kindOf (ps.zip us) fun _=>none) (cellsFrom (s.heap.objs.size+1) scope.names []) (bindC (envOfC qual scope s.heap.objs.size f cd).kindOf (ps.zip us) fun _=>none) s1):
  Inv (g7_ CX P w K mg base N qual scope f cd A outer s H E) [] (start N vs) H s1:=by
 have hpl:ps.length≤N.length:=by have:=Ys List.length S.pre;rw[Jp]at this;omega
 obtain⟨h1,tk,rfl,hk⟩:=x.done;have noA:∀b:Addr,b∉(g7_ CX P w K mg base N qual scope f cd A outer s H E).ex:=fun b z=>absurd (show b∈([]:List Addr)from z) (by simp)
 refine⟨⟨e0.mod,S.kind,rfl,rfl,Qb _,fun y z c h1 h2=>?_,fun y hy=>?_,fun y c _ h=>?_,fun _=>hd,Around.frames_deeper e0.frames,.inr ⟨rfl,rfl⟩,fun b z=>absurd z (noA b),e0.bs,e0.bsz,fun b _ _=>noA b,fun b z=>absurd z (noA b),e0.funs,e0.frf⟩,
  rfl,e0.bare,Un.kept hk,⟨_,x.toInCall.ns,fun i y v h1 h2 h3=>?_⟩,fun y c h=>⟨_,x.cell y c h⟩,e0.hok.fresh (Qb _),fun y c h=>?_,fun p hp=>absurd (show p∈([]:OX)from hp) (by simp),e0.hok.kept hk,?_⟩
 ·exact name_of_addr x.apart (Zj h1) (Zj h2)
 ·have hy:scope.names.lookup y=some .cell∨scope.names.lookup y=some .free:=hy
  rcases hy with hy|hy
  ·exact b0t hy
  ·exact absurd rfl (S.nofree _ (Zj hy))
 ·exact Up (x.above y c (Zj h))
 ·have hi:i<vs.length:=by
   unfold start at h2
   by_cases hi:i<vs.length
   ·exact hi
   ·rw[List.getElem?_append_right (by simpa using hi)]at h2
    rw[Jr]at h2;split at h2<;>cases h2
  have ha:vs[i]? =some v:=by
   unfold start at h2;rw[Jm (by simpa using hi),Zd]at h2
   cases e:vs[i]? with
   |none=>rw[e]at h2;cases h2
   |some a=>rw[e]at h2;cases h2;rfl
  obtain⟨u,hu,rv⟩:=r.get ha;have hp:ps[i]? =some y:=by
   rw[←S.pre,List.getElem?_take_of_lt (by omega)];exact h1
  have ndP:ps.Nodup:=by rw[←S.pre];exact S.nd.sublist (List.take_sublist _ _)
  refine⟨u,rv,?_⟩
  rcases S.par y (Yc hp)with k|k
  ·exact .inl ⟨k,b0r ndP hp hu k⟩
  ·obtain⟨c,e⟩:=b0t (n:=s.heap.objs.size+1) k
   refine .inr ⟨.inl k,c,e,?_⟩;have q:=x.cell y c e;rw[b0s ndP hp hu (by show scope.names.lookup y≠_;rw[k];decide)]at q
   exact q
 ·exact e0.hok.fresh (Up (x.above y c (Zj h)))
 ·unfold start
  show _=N.length;rw[Qt,Qv,Yk]
  omega
theorem a7c{f:Addr}{name:Str}{params:Arguments}{dV kV doc pm cdv ct oc:Value}{an od:Option Addr}
  {osl:Array (Option Value)}(lk:K.lookup f=some ⟨oc,od,.func (PySem.W.fnOf name qual params body scope dV kV doc pm an cdv ct),osl⟩)(hcd:PySem.W.codeIn K cdv qual=true)(S:FnScope N ps scope)
  (len:∀vs H Q E,sp vs H Q E->vs.length=ps.length)
  (hbody:∀(A:Around) (outer:List Env) (s:Shared) (H:Hp) (vs:List V) (Q:VK) (E:XK),Room k (A.deeper (envOfC qual scope s.heap.objs.size f cdv))->sp vs H Q E->
   ∃t,PSs (g7_ CX P w K mg base N qual scope f cdv A outer s H E) body t/\t {nx:=fun _ H'=>Q .non H',rt:=Q} (start N vs) H):
  FnOk P w K mg base CX (k+1) f (PySem.W.fnOf name qual params body scope dV kV doc pm an cdv ct) ps sp:=by
 refine⟨len,fun A outer s H args us vs Q E hr e0 hb r hsp=>?_⟩
 have hl:=len _ _ _ _ hsp
 have KX:K.In s.heap:=e0.mod.kin.keeps fun b o e=>(e0.bs b o e).1
 have lim:s.heap.NoLimit:=e0.mod.nolimit.keeps fun b o e=>(e0.bs b o e).1
 have hkind:∀y∈ps.zip us,scope.names.lookup y.1=some .local∨(scope.names.lookup y.1=some .cell/\((cellsFrom (s.heap.objs.size+1) scope.names []).lookup y.1).isSome=true):=fun⟨n,v⟩ hy=>by
  rcases S.par n (Vb hy).1 with q|q
  ·exact .inl q
  ·exact .inr ⟨q,Ut _ _ _ (.inl q)⟩
 refine codeAny_call_function hr.depth (KX _ _ lk) rfl S.co S.gen rfl (PySem.W.codeRec_of KX hcd) (hb _ _ _ _ ?_);refine wpAny_newFunctionEnv_cells S.kind hkind fun env he s1 x=>?_
 subst he;refine⟨lim.keeps x.toInCall.keep,codeAny_func ?_⟩;obtain⟨t,ht,hq⟩:=hbody A outer s H vs Q E (hr.deeper _) hsp;have I:Inv (g7_ CX P w K mg base N qual scope f cdv A outer s H E) [] (start N vs) H s1:=b0u S hr.hd e0 hl r x;refine Zn (ht [] s1 (start N vs) H _ I hq) (fun fl s' hs=>?_) fun e s' hs=>hs
 have fin:∀{σ':St}{H':Hp}{v:V}{u:Value},Inv (g7_ CX P w K mg base N qual scope f cdv A outer s H E) [] σ' H' s'->v4_ v u->Q v H'->CE outer P w H s Q u s':=
  fun{σ' H' v u} J rv q=>⟨v,H',J.os,J.bare,J.base,J.hok,rv,q⟩
 cases fl with
 |ret u=>
  obtain⟨v,σ',H',J,rv,q⟩:=hs;exact fin J rv q
 |next=>
  obtain⟨σ',H',J,q⟩:=hs;exact fin (v:=V.non) (u:=Value.none) J rfl q
 |brk=>
  obtain⟨_,_,_,q⟩:=hs;exact False.elim q
 |cont=>
  obtain⟨_,_,_,q⟩:=hs;exact False.elim q
section
variable{t:TA}{id T:String}{r:List V->Hp->VK->Prop}
def tCB(r:List V->Hp->VK->Prop)(t:TA):TE:=fun σ H Q=>t σ H fun vs H1=>r vs H1 Q
theorem a3v(hc:g2_ X (.builtin id) r)(hg:Gl X x)(hm:X.mg x=none)(hv:bootBuiltins x=some (.builtin id))(ha:PA X (e::es) t)(hn:x≠"__name__":=by decide)(hdb:(x==("__debug__":Str))=false:=by decide)
  (he:starEach (e::es) X.env=(false,eval e X.env)::starEach es X.env:=by rfl)(hpl:(backTo pos (starEach es X.env)).any (·.1)=false:=by rfl):PE X (.Call (.Name x p) (e::es) [] pos) (tCB r t):=by
 intro pins s σ H Q I h;refine Ur (a4g I hg hm hv ?_ hn hdb);exact PyProof.Rows.callWith_builtin1 (thn (ha pos pins s σ H _ I h) fun us s1 ⟨vs,H1,I1,r1,q1⟩=>hc pins s1 σ H1 vs us Q I1 r1 q1) he hpl
theorem a7d(hc:g2_ X (.type T) r)(hg:Gl X x)(hm:X.mg x=none)(hv:bootBuiltins x=some (.type T))(ha:PA X (e::es) t)(hn:x≠"__name__":=by decide)(hdb:(x==("__debug__":Str))=false:=by decide)
  (he:starEach (e::es) X.env=(false,eval e X.env)::starEach es X.env:=by rfl)(hpl:(backTo pos (starEach es X.env)).any (·.1)=false:=by rfl):PE X (.Call (.Name x p) (e::es) [] pos) (tCB r t):=by
 intro pins s σ H Q I h;refine Ur (a4g I hg hm hv ?_ hn hdb);exact Vk (thn (ha pos pins s σ H _ I h) fun us s1 ⟨vs,H1,I1,r1,q1⟩=>hc pins s1 σ H1 vs us Q I1 r1 q1) he hpl
end
end L2
namespace HT
open PySem PyProof.Rows
variable{hi lo:Option Int}{sl:Addr}{vl vu:Value}
section
open PySem.SeqAt
open PySem.AutoSeq1 (wpAny_loadPart')
open PySem.MeetsSeq PySem.MeetsSeq2 PySem.MeetsSeq3
end
section
variable{prog:Program}{w:World}{A:Around}{E:OE}{s:Shared}
def sIx(n d:Nat):Option Int->Nat
 |none=>d
 |some v=>if v<0 then(v+(n:Int)).toNat else min v.toNat n
theorem sIx_none(n d:Nat):sIx n d none=d:=rfl
theorem sIx_nat(n d k:Nat):sIx n d (some (k:Int))=min k n:=by
 show(if(k:Int)<0 then((k:Int)+(n:Int)).toNat else min (k:Int).toNat n)=min k n
 rw[Qm (by omega),Zo]
theorem sIx_le(n d:Nat)(hd:d≤n)(o:Option Int):sIx n d o≤n:=by
 cases o with
 |none=>exact hd
 |some v=>
  show(if v<0 then(v+(n:Int)).toNat else min v.toNat n)≤n
  by_cases hv:v<0
  ·rw[Qh hv];omega
  ·rw[Qm hv];exact Nat.min_le_right _ _
theorem clip_eq(v:Int)(n d:Nat):(if v<0 then max (v+(n:Int)) 0 else min v (n:Int))=((sIx n d (some v):Nat):Int):=by
 show(if v<0 then max (v+(n:Int)) 0 else min v (n:Int))=(((if v<0 then(v+(n:Int)).toNat else min v.toNat n):Nat):Int)
 by_cases hv:v<0
 ·simp only[Qh hv];omega
 ·simp only[Qm hv];omega
theorem adjust_gen(lo hi:Option Int)(n:Nat):Builtin.Slice.sliceAdjust lo hi 1 (n:Int)=(((sIx n 0 lo:Nat):Int),((sIx n n hi:Nat):Int)):=by
 have h1:¬ ((1:Int)<0):=by omega
 unfold Builtin.Slice.sliceAdjust;simp only[h1,Zc];refine Uu ?_ ?_
 ·cases lo with
  |none=>rfl
  |some v=>exact clip_eq v n 0
 ·cases hi with
  |none=>rfl
  |some v=>exact clip_eq v n n
theorem places_gen(i j:Nat):Builtin.Slice.slicePlaces (i:Int) (j:Int) 1=j-i:=by
 unfold Builtin.Slice.slicePlaces;have h1:(1:Int)>0:=by omega
 simp only[h1,Yw,Int.ediv_one];split<;>omega
theorem slicePart_{v:Value}{o:Option Int}{Q:Option Int->Shared->Prop}(p:IsPart v o)(h:Q o s):wpAny (model prog w) A (Builtin.Slice.slicePartIndex v) Q E s:=by
 cases p with
 |none=>exact slicePart_none h
 |int i t=>exact slicePart_int h
theorem sliceApplied_gen{n:Nat}{Q:Int×Int×Nat->Shared->Prop}(hs:s.heap.IsSliceOf sl vl vu .none)(pl:IsPart vl lo)(pu:IsPart vu hi)
  (h:Q (((sIx n 0 lo:Nat):Int),1,sIx n n hi-sIx n 0 lo) s):wpAny (model prog w) A (Builtin.Slice.sliceApplied (.ref sl) (pure (n:Int))) Q E s:=by
 obtain⟨os,hos,hcs,hds⟩:=id hs;unfold Builtin.Slice.sliceApplied Builtin.Slice.sliceFields;refine Qq (Qq (Ze hos hds (x:=vl) rfl (Qq (Ze hos hds (x:=vu) rfl (Qq (Ze hos hds (x:=.none) rfl (Qj ?_)))))));refine Qq (slicePart_none ?_);show wpAny _ _ (if((1:Int)==0)=true then _ else _) _ _ s
 rw[Qm (by decide)]
 refine Qq (slicePart_ pl (Qq (slicePart_ pu (Qq (Qj ?_)))));show wpAny _ _ (match Builtin.Slice.sliceAdjust lo hi 1 (n:Int)with|(lo,hi)=>pure (lo,(1:Int),Builtin.Slice.slicePlaces lo hi 1)) _ _ s
 rw[adjust_gen lo hi n];show wpAny _ _ (pure (((sIx n 0 lo:Nat):Int),(1:Int),Builtin.Slice.slicePlaces ((sIx n 0 lo:Nat):Int) ((sIx n n hi:Nat):Int) 1)) _ _ s;rw[places_gen];exact Qj h
theorem pick_gen(xs:Array Value)(i k:Nat):((List.range k).filterMap fun(m:Nat)=>xs[((i:Int)+(m:Int) * 1).toNat]?).toArray=((xs.toList.drop i).take k).toArray:=by
 have e:(fun(m:Nat)=>xs[((i:Int)+(m:Int) * 1).toNat]?)=fun m=>xs[i+m]?:=by
  funext m
  have:((i:Int)+(m:Int) * 1).toNat=i+m:=by omega
  rw[this]
 rw[e];have:=pick_run xs i k;rw[List.filterMap_map]at this;have e2:((fun x=>xs[x]?)∘fun x=>i+x)=fun m=>xs[i+m]?:=rfl
 rw[e2]at this;rw[this]
theorem getItem_tuple_cut{t:Addr}{items:Array Value}{Q:OE}(ht:IsTup s.heap t items)(hs:s.heap.IsSliceOf sl vl vu .none)(pl:IsPart vl lo)(pu:IsPart vu hi)
  (hw:¬ (sIx items.size 0 lo=0/\sIx items.size items.size hi=items.size))
  (h:Q (.ref s.heap.objs.size) {s with heap:=s.heap.push {cls:=.type "tuple",data:=.seq ((items.toList.drop (sIx items.size 0 lo)).take (sIx items.size items.size hi-sIx items.size 0 lo)).toArray}})
  (hsz:items.size≤sizeLine):wpAny (model prog w) A (getItem (.ref t) (.ref sl)) Q E s:=by
 have htake:sizeOk (.seq ((items.toList.drop (sIx items.size 0 lo)).take (sIx items.size items.size hi-sIx items.size 0 lo)).toArray):=by
  show((items.toList.drop (sIx items.size 0 lo)).take (sIx items.size items.size hi-sIx items.size 0 lo)).toArray.size≤sizeLine;rw[Qn,Jp,Xp,Jk]
  omega
 have hj:sIx items.size items.size hi≤items.size:=sIx_le _ _ (Qb _) hi
 obtain⟨os,hos,hcs,hds⟩:=id hs;have hTs:s.TypeIs (.ref sl) "slice":=⟨os,hos,hcs⟩;unfold getItem
 try with_reducible refine Yj ?_
 first|refine Qq (Qj ?_)|skip
 refine Qq (wpAny_sequenceKey ht.typeIs (by decide) ?_)
 refine Qq (Zg (name:=Str.ofString "__getitem__") ht.typeIs Zw
  (Zb Zw ht.typeIs entry_tuple_getitem ?_ (args_tuple_getitem _ _)))
 show wpAny _ _ (Builtin.Tuple.tupleItemsOf (.ref t)>>=_) _ _ s;refine Qq (tupleItemsOf_ ht ?_);refine Qq (Uo hTs ?_);rw[Qh (by decide)]
 refine Qq (sliceApplied_gen hs pl pu ?_);have hno:¬ ((((sIx items.size 0 lo:Nat):Int)==0&&(1:Int)==1&&(sIx items.size items.size hi-sIx items.size 0 lo)==items.size)=true):=by
  intro q;rw[Qp,Qp]at q;have q1:((sIx items.size 0 lo:Nat):Int)=0:=eq_of_beq q.1.1;have q2:sIx items.size items.size hi-sIx items.size 0 lo=items.size:=eq_of_beq q.2;exact hw ⟨by omega,by omega⟩
 show wpAny _ _ (if(((sIx items.size 0 lo:Nat):Int)==0&&(1:Int)==1&&(sIx items.size items.size hi-sIx items.size 0 lo)==items.size)=true then _ else _) _ _ s
 rw[Qm hno,pick_gen]
 first
  |exact Qq (m:=Builtin.Tuple.tupleExact _) (Zq (Qj ⟨_,rfl,Qj h⟩) htake)
  |exact Qq (m:=Builtin.Tuple.tupleExact _) (Zq (Qq (Qj (Qj ⟨_,rfl,Qj h⟩))) htake)
  |exact Qq (Qq (m:=Builtin.Tuple.tupleExact _) (Zq (Qj (Qj ⟨_,rfl,Qj h⟩)) htake))
  |exact Qq (Qq (m:=Builtin.Tuple.tupleExact _) (Zq (Qj ⟨_,rfl,Qj h⟩) htake))
end
end HT
namespace L2
open PySem PySem.Spec PyProof.Rows
variable{H:Hp}{X:Cx}{i:Int}{its its' us:List Value}{n t':Nat}{p:Addr}{pins:OX}{r:R2}{s:Shared}{u v:Value}{x y:V}{xs:List V}{α:Type}{σ:St}
abbrev TO:=St->Hp->(Option Int->Hp->Prop)->Prop
def PO(X:Cx)(e:Option Expr)(t:TO):Prop:=
 ∀(pins:OX) (s:Shared) (σ:St) (H:Hp) (Q:Option Int->Hp->Prop),Inv X pins σ H s->t σ H Q->
  wpAny (model X.prog X.w) X.A (evalPart e X.env) (fun u s'=>∃o H',Inv X pins σ H' s'/\IsPart u o/\Q o H') X.xe s
def b5L:TO:=fun _ H Q=>Q none H
def b5M(t:TE):TO:=fun σ H Q=>t σ H fun x H1=>∃i,x=.int i/\Q (some i) H1
theorem a5m{ns:List Int}:∀{us:List Value},v2_ (ns.map V.int) us->IntsAre us ns:=by
 induction ns with
 |nil=>intro us r;rw[Vc]at r;cases r;exact .nil
 |cons n ns ih=>
  intro us r;rw[Qd]at r;cases r with
  |cons r1 r2=>
   obtain⟨t,e⟩:=r1;subst e;exact .cons n t (ih r2)
section
variable{e:Expr}{te:TE}{lo hi:Option Expr}{tl th:TO}{pos p2:Pos}
theorem b5N:PO X none b5L:=by
 intro pins s σ H Q I h;rw[evalPart_none];exact Qj ⟨none,H,I,.none,h⟩
theorem b5O(h:PE X e te):PO X (some e) (b5M te):=by
 intro pins s σ H Q I hw;rw[evalPart_some];refine thn (h pins s σ H _ I hw) fun u s1 ⟨x,H1,I1,r1,q1⟩=>?_
 obtain⟨i,rfl,q⟩:=q1;obtain⟨t,rfl⟩:=r1;exact⟨some i,H1,I1,.int i t,q⟩
def SlR(X:Cx)(r:V->Option Int->Option Int->Hp->VK->Prop):Prop:=
 ∀(pins:OX) (s:Shared) (σ:St) (H:Hp) (x:V) (v vl vu:Value) (lo hi:Option Int) (sl:Addr) (Q:VK),Inv X pins σ H s->v4_ x v->s.heap.IsSliceOf sl vl vu .none->IsPart vl lo->IsPart vu hi->r x lo hi H Q->
  ∃T id,typeLookup (.type T) "__getitem__"=pure (some (.builtin id))/\s.TypeIs v T/\wpAny (model X.prog X.w) X.A (getItem v (.ref sl)) (EP X pins σ Q) X.xe s
def tSl(r:V->Option Int->Option Int->Hp->VK->Prop)(te:TE)(tl th:TO):TE:=fun σ H Q=>te σ H fun x H1=>tl σ H1 fun l H2=>th σ H2 fun u H3=>r x l u H3 Q
theorem b5P{r:V->Option Int->Option Int->Hp->VK->Prop}(hr:SlR X r)(he:PE X e te)(hl:PO X lo tl)(hu:PO X hi th):PE X (.Subscript e (.Slice lo hi none p2) pos) (tSl r te tl th):=by
 intro pins s σ H Q I h;refine Subscript_ (thn (he pins s σ H _ I h) fun v s1 ⟨x,H1,I1,r1,q1⟩=>?_)
 refine wpAny_Slice (thn (hl pins s1 σ H1 _ I1 q1) fun vl s2 ⟨l,H2,I2,pl,q2⟩=>thn (hu pins s2 σ H2 _ I2 q2) fun vu s3 ⟨u,H3,I3,pu,q3⟩=>?_)
 rw[evalPart_none];refine Qj ?_
 have I4:Inv X pins σ H3 {s3 with heap:=s3.heap.push {cls:=.type "slice",data:=.fields #[vl,vu,.none]}}:=I3.kept (t':=s3.toks) fun b ob q=>Qx _ q
 obtain⟨T,id,hT,ht,hg⟩:=hr pins {s3 with heap:=s3.heap.push {cls:=.type "slice",data:=.fields #[vl,vu,.none]}} σ H3 x v vl vu l u s3.heap.objs.size Q I4 r1 (Heap.IsSliceOf.new ..) pl pu q3
 show wpAny (model X.prog X.w) X.A (subscriptTail e (.Slice lo hi none p2) v (.ref s3.heap.objs.size)) (EP X pins σ Q) X.xe {s3 with heap:=s3.heap.push {cls:=.type "slice",data:=.fields #[vl,vu,.none]}}
 exact tail_any (ops:=[.ref s3.heap.objs.size,v]) ht hT hg (by with_unfolding_all rfl)
def a2T(xs:List V)(lo hi:Option Int):List V:=(xs.drop (HT.sIx xs.length 0 lo)).take (HT.sIx xs.length xs.length hi-HT.sIx xs.length 0 lo)
theorem b5Q(xs:List V)(lo hi:Option Int):(a2T xs lo hi).length≤xs.length:=by
 unfold a2T;rw[Jp,Xp]
 omega
def b5R(K:Qz):V->Option Int->Option Int->Hp->VK->Prop:=fun x lo hi H Q=>∃a xs,x=.ref a/\SqT K H a xs/\
 ¬ (HT.sIx xs.length 0 lo=0/\HT.sIx xs.length xs.length hi=xs.length)/\∀p,H p=none->Q (.ref p) (upd H p (.tup (a2T xs lo hi)))
theorem a5n:SlR X (b5R X.K):=by
 intro pins s σ H x v vl vu lo hi sl Q I rx hs pl pu h;obtain⟨a,xs,rfl,hx,hw,q⟩:=h;cases rx;obtain⟨its,r,ht,hz⟩:=I.tuple hx;have hlen:its.toArray.size=xs.length:=by rw[Qn];exact r.length.symm
 refine⟨"tuple",_,Zw.lookup,ht.typeIs,?_⟩;refine HT.getItem_tuple_cut ht hs pl pu (by rw[hlen];exact hw) ?_ (by rw[hlen];exact hz)
 rw[hlen];refine⟨.ref s.heap.objs.size,_,I.laid (t':=s.toks) (o:=.tup (a2T xs lo hi)) (fun b ob q=>Qx _ q) (Qb _) ?_,rfl,q _ (I.hok.fresh (Qb _))⟩
 exact⟨Zt (b5Q xs lo hi) hz,_,(r.drop (HT.sIx xs.length 0 lo)).take (HT.sIx xs.length xs.length hi-HT.sIx xs.length 0 lo),a0Y.new _ _⟩
theorem v2_.nil_iff(r:v2_ xs us):us=[]↔xs=[]:=by
 cases r with
 |nil=>simp
 |cons _ _=>simp
end
def ixN(n:Nat)(i:Int):Option Nat:=if 0≤i then(if i<n then some i.toNat else none)else if-(n:Int)≤i then some (i+n).toNat else none
def atI{α:Type}(xs:List α)(i:Int):Option α:=(ixN xs.length i).bind fun j=>xs[j]?
theorem b0v{j:Nat}(h:ixN n i=some j):seqIndex? i n=some j/\j<n/\ -(n:Int)≤i/\i<n:=by
 unfold ixN at h
 by_cases h0:0≤i
 ·rw[Qh h0]at h
  by_cases h1:i<n
  ·rw[Qh h1]at h
   have e:i.toNat=j:=Zs h
   exact⟨by rw[seqIndex_of h0 h1,e],by omega,by omega,h1⟩
  ·rw[Qm h1]at h;cases h
 ·rw[Qm h0]at h
  by_cases h1: -(n:Int)≤i
  ·rw[Qh h1]at h
   have e:(i+n).toNat=j:=Zs h
   exact⟨by rw[seqIndex_neg (by omega) h1,e],by omega,h1,by omega⟩
  ·rw[Qm h1]at h;cases h
theorem a7e{xs:List α}{v:α}(h:atI xs i=some v):∃j,seqIndex? i xs.length=some j/\xs[j]? =some v/\j<xs.length/\ -(xs.length:Int)≤i/\i<xs.length:=by
 unfold atI at h;cases e:ixN xs.length i with
 |none=>rw[e]at h;cases h
 |some j=>
  rw[e]at h;obtain⟨h1,h2,h3,h4⟩:=b0v e;exact⟨j,h1,h,h2,h3,h4⟩
def a5o(b:Expr):Prop:=∀o i,subscripted b false o i=operate [o,i] (getItem o i)
def IxR(X:Cx)(r:R2):Prop:=
 ∀(value slice:Expr) (pins:OX) (s:Shared) (σ:St) (H:Hp) (x y:V) (v u:Value) (Q:VK),Inv X pins σ H s->v4_ x v->v4_ y u->r x y H Q->
  subscripted slice false v u=operate [v,u] (getItem v u)->wpAny (model X.prog X.w) X.A (subscriptTail value slice v u) (EP X pins σ Q) X.xe s
def MtR(X:Cx)(id:String)(r:V->List V->Hp->VK->Prop):Prop:=
 ∀(pins:OX) (s:Shared) (σ:St) (H:Hp) (x:V) (xs:List V) (v:Value) (us:List Value) (Q:VK),Inv X pins σ H s->v4_ x v->v2_ xs us->r x xs H Q->
  wpAny (model X.prog X.w) X.A (call (.builtin id) (v::us)) (EP X pins σ Q) X.xe s
section
variable{a b:Expr}{ta tb:TE}{pos:Pos}
theorem IxR.or{r':R2}(h:IxR X r)(h':IxR X r'):IxR X (fun x y H Q=>r x y H Q∨r' x y H Q):=by
 intro value slice pins s σ H x y v u Q I rx ry q hs
 rcases q with q|q
 ·exact h value slice pins s σ H x y v u Q I rx ry q hs
 ·exact h' value slice pins s σ H x y v u Q I rx ry q hs
theorem b0w(hr:IxR X r)(ha:PE X a ta)(hb:PE X b tb)(hs:a5o b):PE X (.Subscript a b pos) (tOp r ta tb):=by
 intro pins s σ H Q I h;exact Subscript_ (a6U ha hb I h fun v u s2 x y H2 I2 rx ry q=>hr a b pins s2 σ H2 x y v u Q I2 rx ry q (hs _ _))
def b0x(K:Qz):R2:=fun x y H Q=>∃p xs i v,x=.ref p/\y=.int i/\SqL K H p xs/\atI xs i=some v/\Q v H
def b0y(K:Qz):R2:=fun x y H Q=>∃p xs i v,x=.ref p/\y=.int i/\SqT K H p xs/\atI xs i=some v/\Q v H
def b0z:R2:=fun x y H Q=>∃z i c,x=.str z/\y=.int i/\z.length≤sizeLine/\atI z.cps.toList i=some c/\Q (.str ⟨#[c]⟩) H
theorem b0A:IxR X (b0x X.K):=by
 intro value slice pins s σ H x y v u Q I rx ry h hs;obtain⟨p,xs,i,z,rfl,rfl,hq,he,q⟩:=h;cases rx;obtain⟨t,rfl⟩:=ry;obtain⟨its,r,pl,hz⟩:=I.list hq;obtain⟨j,h1,h2,h3,h4,h5⟩:=a7e he;obtain⟨w,ew,rw'⟩:=r.get h2;have hl:=r.length;have hn:=a4k;have fin:EP X pins σ Q w s:=⟨z,H,I,rw',q⟩
 by_cases h0:0≤i
 ·have hj:i.toNat=j:=by
   rw[seqIndex_of h0 h5]at h1;exact Zs h1
  exact item_listR pl.isList h0 (by omega) (by rw[hj];simpa using ew) fin hs
 ·have hj:(i+(its.toArray.size:Int)).toNat=j:=by
   rw[seqIndex_neg (by omega) h4]at h1
   rw[Qn,←hl];exact Zs h1
  exact subscriptTail_builtinR (x:=w) pl.isList.typeIs slot_list_getitem.lookup
   (wpAny_getItem_list_neg (Q:=fun r s'=>r=w/\EP X pins σ Q r s') pl.isList (by omega) (by rw[Qn]<;>omega) (by omega) (by rw[hj];simpa using ew) ⟨rfl,fin⟩) hs
theorem b5S:IxR X (b0y X.K):=by
 intro value slice pins s σ H x y v u Q I rx ry h hs;obtain⟨p,xs,i,z,rfl,rfl,hq,he,q⟩:=h;cases rx;obtain⟨t,rfl⟩:=ry;obtain⟨its,r,pl,hz⟩:=I.tuple hq;obtain⟨j,h1,h2,h3,h4,h5⟩:=a7e he;obtain⟨w,ew,rw'⟩:=r.get h2;have hl:=r.length;have hn:=a4k;have fin:EP X pins σ Q w s:=⟨z,H,I,rw',q⟩;exact subscriptTail_builtinR (x:=w) pl.typeIs slot_tuple_getitem.lookup
  (getItem_tuple (j:=j) (Q:=fun r s'=>r=w/\EP X pins σ Q r s') pl (by omega) (by omega) (by rw[Qn,←hl];exact h1) (by simpa using ew) ⟨rfl,fin⟩) hs
theorem b5T:IxR X b0z:=by
 intro value slice pins s σ H x y v u Q I rx ry h hs;obtain⟨z,i,c,rfl,rfl,hz,he,q⟩:=h;obtain⟨t,rfl⟩:=rx;obtain⟨t',rfl⟩:=ry;obtain⟨j,h1,h2,h3,h4,h5⟩:=a7e he;have hl:z.cps.toList.length=z.length:=by simp[Str.length]
 rw[hl]at h1 h4 h5;have hn:=a4k;exact tail_any (typeIs_str s z t) slot_str_getitem.lookup (getItem_str (c:=c) (by
  have e1:decide (i< -(2^63:Int))=false:=Qe (by omega)
  have e2:decide (i ≥ 2^63)=false:=Qe (by omega)
  rw[e1,e2,Bool.or_false]) (by rw[h1];simpa using h2) ⟨.str ⟨#[c]⟩,H,I.tok _,⟨_,rfl⟩,q⟩) hs
def rIx(K:Qz):R2:=fun x y H Q=>b0x K x y H Q∨b0y K x y H Q∨b0z x y H Q
theorem b5U:IxR X (rIx X.K):=b0A.or (b5S.or b5T)
theorem b5V(its:List Value)(n j:Nat)(u:Value):Obj.mapSeq (·.setIfInBounds j u) {cls:=.type "list",data:=.seq its.toArray n}={cls:=.type "list",data:=.seq (its.set j u).toArray n}:=by
 simp[Obj.mapSeq]
theorem Inv.lst(I:Inv X pins σ H s)(h:H p=some (.lst xs)):
  ∃(its:List Value) (n:Nat),v2_ xs its/\s.heap.get? p=some {cls:=.type "list",data:=.seq its.toArray n}/\xs.length≤sizeLine:=by
 obtain⟨z,its,n,r,e⟩:=I.hok p _ h;exact⟨its,n,r,e,z⟩
theorem Inv.lstUpd{ys:List V}{n':Nat}{f:Obj->Obj}(I:Inv X pins σ H s)(h:H p=some (.lst xs))
  (ho:s.heap.get? p=some {cls:=.type "list",data:=.seq its.toArray n})(hf:f {cls:=.type "list",data:=.seq its.toArray n}={cls:=.type "list",data:=.seq its'.toArray n'})(r:v2_ ys its')(hz:ys.length≤sizeLine)(t:Nat):
  Inv X pins σ (upd H p (.lst ys)) {s with heap:=s.heap.update p f,toks:=t}:=by
 have e:(s.heap.update p f).get? p=some {cls:=.type "list",data:=.seq its'.toArray n'}:=by
  rw[Uq f ho (by rw[hf]<;>rfl),hf]
 refine I.write (x:=p) (e:=p) (by rw[h];trivial) (.inl rfl) (fun b u hb q=>(Heap.get?_update_other _ _ (Zh hb)).trans q) ⟨_,e⟩ ?_
 exact⟨hz,its',n',r,e⟩
def b5W:V->V->V->Hp->(Hp->Prop)->Prop:=fun o i v H Q=>∃p xs k j,o=.ref p/\i=.int k/\H p=some (.lst xs)/\ixN xs.length k=some j/\Q (upd H p (.lst (xs.set j v)))
theorem b5X:a6R X b5W:=by
 intro pins s σ H o i v ov iv u Q I ro ri rv h;obtain⟨p,xs,k,j,rfl,rfl,hp,hj,q⟩:=h;cases ro;obtain⟨t,rfl⟩:=ri;obtain⟨its,n,r,ho,hz⟩:=I.lst hp;obtain⟨h1,h2,h3,h4⟩:=b0v hj;have hl:=r.length;have hn:=a4k;have I':Inv X pins σ (upd H p (.lst (xs.set j v))) {s with heap:=s.heap.update p (Obj.mapSeq (·.setIfInBounds j u))}:=
  I.lstUpd hp ho (b5V its n j u) (r.set rv j) (by rw[Za];exact hz) s.toks
 by_cases h0:0≤k
 ·have hk:k.toNat=j:=by
   rw[seqIndex_of h0 h4]at h1;exact Zs h1
  exact PySem.W.ki_setAt ho h0 (by omega) (by rw[Qn,←hl];exact h4) (by rw[hk];exact⟨_,I',q⟩)
 ·have hk:(k+(its.toArray.size:Int)).toNat=j:=by
   rw[seqIndex_neg (by omega) h3]at h1
   rw[Qn,←hl];exact Zs h1
  exact PySem.W.ki_setBack ho (by omega) (by rw[Qn,←hl];exact h3) (by omega) (by rw[hk];exact⟨_,I',q⟩)
def a1e:V->Bool
 |.non=>true
 |.bl _=>true
 |.int _=>true
 |.str _=>true
 |_=>false
def eqV:V->V->Bool
 |.non,.non=>true
 |.bl a,.bl b=>a==b
 |.bl a,.int b=>(if a then 1 else 0)==b
 |.int a,.bl b=>a==(if b then 1 else 0)
 |.int a,.int b=>a==b
 |.str a,.str b=>a==b
 |_,_=>false
theorem b5Y{A:Around}(ry:v4_ y u)(rx:v4_ x v)(fy:a1e y=true)(fx:a1e x=true):SeqAt.EqAt A s u v (eqV y x):=by
 cases y with
 |non=>
  cases ry;cases x with
  |non=>cases rx;exact SeqAt.EqAt.same _
  |bl b=>cases rx;exact SeqAt.EqAt.none_bool b
  |int b=>obtain⟨t,rfl⟩:=rx;exact SeqAt.EqAt.none_int b t
  |str b=>obtain⟨t,rfl⟩:=rx;exact SeqAt.EqAt.none_str b t
  |_=>exact absurd (show false=true from fx) Qo
 |bl a=>
  cases ry;cases x with
  |non=>cases rx;exact SeqAt.EqAt.bool_none a
  |bl b=>cases rx;exact SeqAt.EqAt.bool_bool a b
  |int b=>obtain⟨t,rfl⟩:=rx;exact SeqAt.EqAt.bool_int a b t
  |str b=>obtain⟨t,rfl⟩:=rx;exact SeqAt.EqAt.bool_str a b t
  |_=>exact absurd (show false=true from fx) Qo
 |int a=>
  obtain⟨t',rfl⟩:=ry;cases x with
  |non=>cases rx;exact SeqAt.EqAt.int_none a t'
  |bl b=>cases rx;exact SeqAt.EqAt.int_bool a t' b
  |int b=>obtain⟨t,rfl⟩:=rx;exact SeqAt.EqAt.int_int a t' b t
  |str b=>obtain⟨t,rfl⟩:=rx;exact SeqAt.EqAt.int_str a t' b t
  |_=>exact absurd (show false=true from fx) Qo
 |str a=>
  obtain⟨t',rfl⟩:=ry;cases x with
  |non=>cases rx;exact SeqAt.EqAt.str_none a t'
  |bl b=>cases rx;exact SeqAt.EqAt.str_bool a t' b
  |int b=>obtain⟨t,rfl⟩:=rx;exact SeqAt.EqAt.str_int a t' b t
  |str b=>obtain⟨t,rfl⟩:=rx;exact SeqAt.EqAt.str_str a t' b t
  |_=>exact absurd (show false=true from fx) Qo
 |_=>exact absurd (show false=true from fy) Qo
def eqU(x:V)(u:Value):Bool:=match u with
 |.none=>eqV .non x
 |.bool b=>eqV (.bl b) x
 |.int i _=>eqV (.int i) x
 |.str z _=>eqV (.str z) x
 |_=>false
theorem b0B(r:v4_ y u)(f:a1e y=true):eqU x u=eqV y x:=by
 cases y with
 |non=>cases r;rfl
 |bl b=>cases r;rfl
 |int i=>obtain⟨t,rfl⟩:=r;rfl
 |str z=>obtain⟨t,rfl⟩:=r;rfl
 |_=>exact absurd (show false=true from f) Qo
theorem a7f{x:V}:∀{xs:List V}{us:List Value},v2_ xs us->xs.all a1e=true->us.any (eqU x)=xs.any fun y=>eqV y x
 |_,_,.nil,_=>rfl
 |y::xs,u::us,.cons r t,f=>by
  rw[Jy,Qp]at f;rw[List.any_cons,List.any_cons,b0B r f.1,a7f t f.2]
theorem a5p{A:Around}{s:Shared}{x:V}{v:Value}(rx:v4_ x v)(fx:a1e x=true):∀{xs:List V}{us:List Value},v2_ xs us->xs.all a1e=true->∀u∈us,SeqAt.EqAt A s u v (eqU x u)
 |_,_,.nil,_=>fun u hu=>by cases hu
 |y::xs,u::us,.cons r t,f=>fun u' hu=>by
  rw[Jy,Qp]at f
  rcases Qc.mp hu with rfl|hu
  ·rw[b0B r f.1];exact b5Y r rx f.1 fx
  ·exact a5p rx fx t f.2 u' hu
def inV(x:V)(xs:List V):Bool:=xs.any fun y=>eqV y x
def rIn(K:Qz)(neg:Bool):R2:=fun x y H Q=>∃p xs,y=.ref p/\(SqL K H p xs∨SqT K H p xs)/\a1e x=true/\xs.all a1e=true/\Q (.bl (if neg then !inV x xs else inV x xs)) H
theorem b5Z:OpR X (compareOp .NotIn) (rIn X.K true):=by
 intro pins s σ H x y v u Q I rx ry h;obtain⟨p,xs,rfl,hq,fx,fs,q⟩:=h;cases ry
 rcases hq with hq|hq
 ·obtain⟨its,r,pl,hz⟩:=I.list hq
  refine SeqAt.notIn_listAt (eqU x) pl.isList (fun w hw=>a5p rx fx r fs w (by simpa using hw)) ⟨.bl _,H,I,rfl,?_⟩
  rw[show its.toArray.any (eqU x)=its.any (eqU x) by simp,a7f r fs]
  exact q
 ·obtain⟨its,r,pl,hz⟩:=I.tuple hq
  refine SeqAt.notIn_tupleAt (eqU x) pl (fun w hw=>a5p rx fx r fs w (by simpa using hw)) ⟨.bl _,H,I,rfl,?_⟩
  rw[show its.toArray.any (eqU x)=its.any (eqU x) by simp,a7f r fs]
  exact q
theorem x7_:g2_ X (.builtin "len") (fun xs H Q=>∃p ys,xs=[.ref p]/\(SqL X.K H p ys∨SqT X.K H p ys)/\Q (.int ys.length) H):=by
 intro pins s σ H xs us Q I r h;obtain⟨p,ys,rfl,hq,q⟩:=h;obtain⟨u,rfl,rx⟩:=a1T r;cases rx;have hn:=a4k
 rcases hq with hq|hq
 ·obtain⟨its,r',pl,hz⟩:=I.list hq
  have hlen:=r'.length
  exact Calls.call_len_list pl.isList (by simp only[Qn]<;>omega) ⟨.int ys.length,H,I.tok _,⟨s.toks+1,by rw[Qn,hlen]⟩,q⟩
 ·obtain⟨its,r',pl,hz⟩:=I.tuple hq
  have hlen:=r'.length
  exact len_tuple pl (by simp only[Qn]<;>omega) ⟨.int ys.length,H,I.tok _,⟨s.toks+1,by rw[Qn,hlen]⟩,q⟩
theorem a5q:g2_ X (.type "list") (fun xs H Q=>∃p ys,xs=[.ref p]/\(SqL X.K H p ys∨SqT X.K H p ys)/\∀l,H l=none->Q (.ref l) (upd H l (.lst ys))):=by
 intro pins s σ H xs us Q I r h;obtain⟨p,ys,rfl,hq,q⟩:=h;obtain⟨u,rfl,rx⟩:=a1T r;cases rx;have fin:∀(its:List Value),v2_ ys its->ys.length≤sizeLine->∀(h':Heap) (c':Nat),(∀b o',s.heap.get? b=some o'->h'.get? b=some o')->
   h'.get? s.heap.objs.size=some {cls:=.type "list",dict:=none,data:=.seq its.toArray c',slots:=#[]}->EP X pins σ Q (.ref s.heap.objs.size) {s with heap:=h'}:=fun its r' hz h' c' kp e=>
  ⟨.ref s.heap.objs.size,_,I.laid (t':=s.toks) kp (Qb _) (show x5_ X.prog X.w _ h' _ (.lst ys)from⟨hz,its,c',r',e⟩),rfl,q _ (I.hok.fresh (Qb _))⟩
 rcases hq with hq|hq
 ·obtain⟨its,r',pl,hz⟩:=I.list hq
  have hlen:=r'.length
  obtain⟨o,ho,hc,n,hd⟩:=pl.isList;exact call_list_seq p (.inl rfl) ho hc hd (fun h' c' kp e=>fin its r' hz h' c' kp e) (by simp only[Qn]<;>omega)
 ·obtain⟨its,r',pl,hz⟩:=I.tuple hq
  have hlen:=r'.length
  obtain⟨o,ho,hc,n,hd⟩:=pl;exact call_list_seq p (.inr rfl) ho hc hd (fun h' c' kp e=>fin its r' hz h' c' kp e) (by simp only[Qn]<;>omega)
theorem a1v:g2_ X (.type "tuple") (fun xs H Q=>∃p ys,xs=[.ref p]/\((SqL X.K H p ys/\∀l,H l=none->Q (.ref l) (upd H l (.tup ys)))∨(SqT X.K H p ys/\Q (.ref p) H))):=by
 intro pins s σ H xs us Q I r h;obtain⟨p,ys,rfl,h⟩:=h;obtain⟨u,rfl,rx⟩:=a1T r;cases rx
 rcases h with⟨hq,q⟩|⟨hq,q⟩
 ·obtain⟨its,r',pl,hz⟩:=I.list hq
  have hlen:=r'.length
  refine call_tuple_list pl.isList (fun h' kp=>?_) (by simp only[Qn]<;>omega)
  have I1:Inv X pins σ H {s with heap:=h'}:=I.kept (t':=s.toks) kp
  have I2:Inv X pins σ (upd H h'.objs.size (.tup ys)) {s with heap:=h'.push {cls:=.type "tuple",data:=.seq its.toArray}}:=
   I1.laid (t':=s.toks) (fun b o e=>Qx _ e) (Qb _) (show x5_ X.prog X.w _ _ _ (.tup ys)from⟨hz,its,r',a0Y.new _ _⟩)
  exact⟨.ref h'.objs.size,_,I2,rfl,q _ (I1.hok.fresh (Qb _))⟩
 ·obtain⟨its,r',pl,hz⟩:=I.tuple hq
  exact call_tuple_same pl ⟨.ref p,H,I,rfl,q⟩
def tyV(K:Qz)(T:String)(x:V)(H:Hp):Prop:=match x with
 |.str _=>T="str"
 |.int _=>T="int"
 |.ref p=>(T="list"/\ ∃xs,SqL K H p xs)∨(T="tuple"/\ ∃o,K.lookup p=some o/\o.cls=.type "tuple"/\o.dict=none)∨
   (T="dict"/\((∃kvs,H p=some (.dK kvs))∨ ∃C kvs,H p=some (.dT C kvs)))∨(T="set"/\ ∃S n,H p=some (.set S n))∨(T="dict"/\ ∃es ep,H p=some (.dX es ep))
 |_=>False
theorem b0C{T:String}(I:Inv X pins σ H s)(r:v4_ x v)(ty:tyV X.K T x H):
  s.TypeIs v T/\∀a,v=.ref a->∃ob,s.heap.get? a=some ob/\ob.dict=none:=by
 cases x with
 |str z=>
  obtain⟨t,rfl⟩:=r;cases (show T="str" from ty)
  exact⟨typeIs_str s z t,fun _ e=>nomatch e⟩
 |int i=>
  obtain⟨t,rfl⟩:=r;cases (show T="int" from ty)
  exact⟨typeIs_int s i t,fun _ e=>nomatch e⟩
 |ref p=>
  cases r
  rcases ty with⟨rfl,xs,hq⟩|⟨rfl,o,hk,hc,hd⟩|⟨rfl,hk⟩|⟨rfl,S,n,hk⟩|⟨rfl,es,ep,hk⟩
  ·obtain⟨its,_,pl,_⟩:=I.list hq
   refine⟨pl.isList.typeIs,fun a e=>?_⟩
   cases e;obtain⟨o,n,e,c,hd,_⟩:=pl;exact⟨o,e,hd⟩
  ·refine⟨⟨o,I.kIn p o hk,hc⟩,fun a e=>?_⟩
   cases e;exact⟨o,I.kIn _ o hk,hd⟩
  ·have z:∃o,s.heap.get? p=some o/\o.ExactDict:=by
    rcases hk with⟨kvs,hk⟩|⟨C,kvs,hk⟩
    ·obtain⟨_,_,_,_,o,_,_,e,ex,_⟩:=I.hok p _ hk
     exact⟨o,e,ex⟩
    ·obtain⟨_,_,_,_,o,_,_,e,ex,_⟩:=I.hok p _ hk
     exact⟨o,e,ex⟩
   obtain⟨o,e,ex⟩:=z;refine⟨⟨o,e,ex.1⟩,fun a e2=>?_⟩
   cases e2;exact⟨o,e,ex.2.1⟩
  ·obtain⟨o,_,_,_,e,ex,_⟩:=I.hok p _ hk
   refine⟨⟨o,e,ex.1⟩,fun a e2=>?_⟩
   cases e2;exact⟨o,e,ex.2.1⟩
  ·obtain⟨_,_,o,e,ex,_⟩:=I.hok p _ hk
   refine⟨⟨o,e,ex.1⟩,fun a e2=>?_⟩
   cases e2;exact⟨o,e,ex.2.1⟩
 |_=>exact False.elim ty
def b6a(K:Qz)(T:String)(r:V->List V->Hp->VK->Prop)(to:TE):TE:=fun σ H Q=>to σ H fun x H1=>tyV K T x H1/\r x [] H1 Q
def tBM(K:Qz)(T:String)(r:V->List V->Hp->VK->Prop)(to:TE)(t:TA):TE:=fun σ H Q=>to σ H fun x H1=>tyV K T x H1/\t σ H1 fun xs H2=>r x xs H2 Q
variable{o e:Expr}{es:List Expr}{to:TE}{t:TA}{name:Str}{apos cpos:Pos}{T id:String}{r:V->List V->Hp->VK->Prop}
theorem a7g(pa:PlainAttrs T)(slot:Slot T name id)(hty:typeOf (.builtin id)=pure (.type "method_descriptor"))(hm:MtR X id r)(ho:PE X o to)
  (hbase:attributeBase o name X.env (eval o X.env)=eval o X.env:=by rfl)(hline:(apos.endLine==cpos.line)=true:=by rfl):PE X (.Call (.Attribute o name apos) [] [] cpos) (b6a X.K T r to):=by
 intro pins s σ H Q I h;refine wpAny_Call_method0_late hbase hline (thn (ho pins s σ H _ I h) fun v s1 ⟨x,H1,I1,r1,ty,q1⟩=>?_)
 obtain⟨h1,h2⟩:=b0C I1 r1 ty;exact⟨T,id,pa,slot,hty,h1,h2,Calls.callWith_builtin rfl (PySem.evalArgs_none (hm pins s1 σ H1 x [] v [] Q I1 r1 .nil q1))⟩
theorem a5r(pa:PlainAttrs T)(slot:Slot T name id)(hty:typeOf (.builtin id)=pure (.type "method_descriptor"))(hm:MtR X id r)(ho:PE X o to)(ha:PA X (e::es) t)
  (hbase:attributeBase o name X.env (eval o X.env)=eval o X.env:=by rfl)
  (hfew:((backTo cpos (starEach (e::es) X.env)).all (fun x=>!x.1)&&(backToKw cpos (keywordEach [] X.env)).all (fun x=>x.1.isSome)
   &&decide ((e::es).length+([]:List Keyword).length+(if([]:List Keyword).isEmpty then 0 else 1)<30))=true:=by rfl)
  (hline:(apos.endLine==cpos.line)=true:=by rfl)(hs:starEach (e::es) X.env=(false,eval e X.env)::starEach es X.env:=by rfl)(hplain:(backTo cpos (starEach es X.env)).any (·.1)=false:=by rfl):
  PE X (.Call (.Attribute o name apos) (e::es) [] cpos) (tBM X.K T r to t):=by
 intro pins s σ H Q I h;refine wpAny_Call_method_late hbase hfew hline rfl (thn (ho pins s σ H _ I h) fun v s1 ⟨x,H1,I1,r1,ty,q1⟩=>?_)
 obtain⟨h1,h2⟩:=b0C I1 r1 ty;refine⟨T,id,pa,slot,hty,h1,h2,?_⟩;have hA:=ha cpos pins s1 σ H1 _ I1 q1;rw[hs]at hA ⊢;refine Calls.callWith_builtin (by show(false||(backTo cpos (starEach es X.env)).any (·.1))=false;rw[hplain]<;>rfl) (Calls.evalArgs_plain ?_)
 exact thn hA fun us s2 ⟨vs,H2,I2,r2,q2⟩=>hm pins s2 σ H2 x vs v us Q I2 r1 r2 q2
end
def MtM(X:Cx)(id:String)(r:V->List V->Hp->VK->Prop):Prop:=
 ∀(pins:OX) (s:Shared) (σ:St) (H:Hp) (x:V) (xs:List V) (v:Value) (us:List Value) (Q:VK),Inv X pins σ H s->v4_ x v->v2_ xs us->r x xs H Q->
  wpAny (model X.prog X.w) X.A (call (.builtin id) (v::us)) (EP X pins σ Q) X.xe s
theorem v2_.one(h:v2_ [x] us):∃u,us=[u]/\v4_ x u:=by
 cases h with
 |cons r t=>cases t;exact⟨_,rfl,r⟩
theorem v2_.two(h:v2_ [x,y] us):∃u v,us=[u,v]/\v4_ x u/\v4_ y v:=by
 cases h with
 |cons r t=>cases t with
  |cons q t=>cases t;exact⟨_,_,rfl,r,q⟩
theorem v2_.reverse(h:v2_ xs us):v2_ xs.reverse us.reverse:=by
 induction h with
 |nil=>exact .nil
 |cons r t ih=>rw[Th,Th];exact v2_.append ih (.cons r .nil)
theorem v2_.rep{xs:List V}{us:List Value}(h:v2_ xs us):∀k:Nat,v2_ (List.replicate k xs).flatten (List.replicate k us).flatten
 |0=>.nil
 |k+1=>by
  rw[Yu,Yu,Ue,Ue];exact v2_.append h (v2_.rep h k)
theorem b0D(its:List Value):∀(k:Nat) (acc:List Value),
  List.foldl (fun x1 x2=>x1++x2) acc.toArray (List.replicate k its.toArray)=(acc++(List.replicate k its).flatten).toArray
 |0,acc=>by simp
 |k+1,acc=>by
  have e:acc.toArray++its.toArray=(acc++its).toArray:=by simp
  have e2:(acc++its)++(List.replicate k its).flatten=acc++(List.replicate (k+1) its).flatten:=by
   rw[Yu,Ue,Uv]
  rw[←e2,←b0D its k (acc++its),←e,Yu,Tt]
section
variable{l b:Addr}{ys zs:List V}
theorem Inv.lset{f:Array Value->Array Value}(I:Inv X pins σ H s)(hH:H l=some (.lst xs))
  (e:s.heap.get? l=some {cls:=.type "list",data:=.seq its.toArray n})(hf:f its.toArray=its'.toArray)(hv:v2_ ys its')(hz:ys.length≤sizeLine):
  Inv X pins σ (upd H l (.lst ys)) {s with heap:=s.heap.update l (Obj.mapSeq f),toks:=t'}:=by
 have q:=PySem.IsL.update e f
 rw[hf]at q;refine I.write (x:=l) (e:=l) (by rw[hH];exact trivial) (.inl rfl) (fun b' u hb hu=>(Heap.get?_update_other s.heap (Obj.mapSeq f) (Zh hb)).trans hu) ⟨_,q⟩ ?_
 exact⟨hz,its',_,hv,q⟩
theorem Inv.lnew(I:Inv X pins σ H s)(hv:v2_ ys its)(hz:ys.length≤sizeLine):
  Inv X pins σ (upd H s.heap.objs.size (.lst ys)) {s with heap:=s.heap.push {cls:=.type "list",data:=.seq its.toArray},toks:=t'}:=
 I.laid (fun _ _ q=>Qx _ q) (Qb _) ⟨hz,its,0,hv,Qu _ rfl⟩
theorem Inv.fresh(I:Inv X pins σ H s):H s.heap.objs.size=none:=I.hok.fresh (Qb _)
theorem Inv.lstM(I:Inv X pins σ H s)(hH:H l=some (.lst xs)):xs.length≤sizeLine/\∃(its:List Value) (n:Nat),v2_ xs its/\xs.length=its.length/\s.heap.get? l=some {cls:=.type "list",data:=.seq its.toArray n}:=by
 obtain⟨z,its,n,r,e⟩:=I.hok l _ hH;exact⟨z,its,n,r,r.length,e⟩
end
def b6b:V->List V->Hp->VK->Prop:=fun x vs H Q=>∃l xs y,x=.ref l/\vs=[y]/\H l=some (.lst xs)/\xs.length<sizeLine/\Q .non (upd H l (.lst (xs++[y])))
theorem b0E:MtM X "list.append" b6b:=by
 intro pins s σ H x vs v us Q I rx rv h;obtain⟨l,xs,y,rfl,rfl,hH,hz,q⟩:=h;cases rx;obtain⟨u,rfl,ru⟩:=rv.one;obtain⟨z,its,n,r,hl,e⟩:=I.lstM hH;refine Va F.slot_list_append ⟨_,e,rfl⟩ F.entry_list_append (F.args_list_append_2 _ _) (PySem.list_append l its.toArray n u (by rw[Qn];omega)) ⟨e,?_⟩
 refine⟨.non,_,I.lset (its':=its++[u]) hH e (by simp) (r.append (.cons ru .nil)) ?_,rfl,q⟩
 rw[Qt,List.length_singleton]
 omega
theorem b0F(xs:List α)(k:Nat):(List.replicate k xs).flatten.length=k * xs.length:=by
 induction k with
 |zero=>simp
 |succ k ih=>rw[Yu,Ue,Qt,ih,Nat.succ_mul,Nat.add_comm]
section
variable{prog:Program}{w:World}{A:Around}{E:OE}
set_option maxRecDepth 100000 in
end
end L2
namespace Att
open PySem PySem.W PySem.Calls PyProof.Rows
variable{P:Params}{h:Heap}{l:OpenLaw}{n:Nat}
theorem ints_of_wellAll:∀(ns:List Int) (vs:List Value),WellAll P h vs (ns.map WData.int)->IntsAre vs ns:=by
 intro ns
 induction ns with
 |nil=>
  intro vs w;rw[Vc]at w;cases w;exact .nil
 |cons n ns ih=>
  intro vs w;rw[Qd]at w;cases w with
  |cons a b=>
   cases a;exact .cons _ _ (ih _ b)
theorem script_of(hn:l.most=some n){args:List WData}{vals:List Value}
  (hpre:l.row.toRowW.claim.pre args=true)(hwl:WellAll P h vals args):
  ∃a vs ns,vals=[Value.ref a]/\args=[WData.list (ns.map WData.int)]/\h.get? a=some {cls:=.type "list",data:=.seq vs.toArray}/\IntsAre vs ns/\ns.length≤n:=by
 have hsh:WShape.hasAll [] args [.list .int]=true:=(pre_splitW hpre).1
 have hc:l.pre.holds [] {args:=args}=true:=(pre_splitW hpre).2
 obtain⟨d,r,rfl,h1,h2⟩:=hasAllW_cons hsh;obtain rfl:=hasAllW_nil h2;obtain⟨xs,rfl,h3⟩:=hasW_list h1;obtain⟨ns,rfl⟩:=items_int h3;have hlen:ns.length≤n:=by
  unfold OpenLaw.pre at hc;have h4:(WTm.not (.lt (.lit (.int (n:Int))) (.len (.arg 0)))).holds [] {args:=[.list (ns.map .int)]}=true:=by
   have h4:=(holds_andW hc).1
   rw[hn]at h4;exact h4
  have h5:=condW_of h4 (w_not (w_lt w_lit (w_len_list (w_arg rfl))))
  rw[Qv]at h5;refine Nat.le_of_not_lt fun q=>?_
  have q':(n:Int)<((ns.length:Nat):Int):=by omega
  first
   |(rw[Ji q']at h5;exact absurd h5 (by decide))
   |(simp at h5;omega)
 cases hwl with
 |cons w1 w2=>
  cases w2;cases w1 with
  |list ho hall=>exact⟨_,_,ns,rfl,rfl,ho,ints_of_wellAll ns _ hall,hlen⟩
theorem post_true(l:OpenLaw)(args:List WData):l.row.toRowW.claim.post args (.bool true) args=true:=
 postW_of (r:=l.row.toRowW) (X:=(true==true))
  (show WShape.has [] (.bool true) .bool=true by first|rfl|decide|simp[WShape.has,WShape.arms,WShape.armsAll])
  (show(WTm.eq .res (.lit (.bool true))).value [] {args:=args,res:=some (.bool true),after:=args}=some (.bool (true==true))from w_eq_bool (w_res rfl) w_lit) rfl
theorem attach_call{q:Program}{loose:List Str}{XP:(OU)->Heap->Prop}{YP:World->Heap->Prop}{d:DefRec}
  (hn:l.most=some n)(hdf:d.params.defaults=[])
  (call:∀(w:World) (s₀ s₁:Shared) (mg mb:OU) (fa:Addr) (o:Obj) (pm cd doc:Value) (a:Addr) (vs:List Value) (ns:List Int),
   Ground q loose [] XP w s₀ mg mb s₁.heap->YP w s₁.heap->
   s₁.heap.get? fa=some o->o.data=.func (docDef d.name d.params d.body d.scope pm cd doc)->s₁.heap.CodeRec cd d.name->mg d.name=some (.ref fa)->
   s₁.heap.get? a=some {cls:=.type "list",data:=.seq vs.toArray}->IntsAre vs ns->ns.length≤n->s₁.gens= #[]->
   codeAny (model l.prog w) callerA (.call (.ref fa) ⟨[.ref a],[]⟩) (fun r s'=>r=.ok (.ret (.bool true))/\OldK s₁.heap s'.heap/\s'.os=s₁.os/\AllBare s'.gens) s₁):
  WalkO q loose XP YP l.row.toRowW d [] (fun f vs=>PySem.call f vs):=by
 intro w s₀ s₁ mg mb G Y fa o pm cd doc dV kV ho hd hcd hD hmg hg args vals as hpre hlay hrd hwl hlo;obtain rfl:dV=.none:=Dflts.none hD hdf;obtain rfl:kV=.none:=Dflts.noKw hD;obtain⟨a,vs,ns,rfl,rfl,hobj,hints,hlen⟩:=script_of hn hpre hwl;refine enter_call (Xl (call w s₀ s₁ mg mb fa o pm cd doc a vs ns G Y ho (fd_plain hd) hcd hmg hobj hints hlen hg) fun r s' hq=>?_)
 obtain⟨rfl,h2,h3,h4⟩:=hq;exact⟨.inl ⟨.bool true,.bool true,[],rfl,fun _=>rfl,.bool true,post_true l _,fun _=>⟨List.Pairwise.nil,fun _ hm=>(nomatch hm)⟩⟩,h2,h3,h4⟩
section
variable{prog:Program}{w:World}{A:Around}{E:OE}{s:Shared}{K:Frag}
end
end Att
namespace L2
open PySem PySem.Spec PyProof.Rows
variable{P:Program}{X:Cx}{fd:FuncData}{pos:Pos}{ps:List Str}{qual x:Str}{w:World}
theorem b0G:∀{vs:List Value}{ns:List Int},IntsAre vs ns->v2_ (ns.map V.int) vs
 |_,_,.nil=>.nil
 |_,_,.cons n t h=>.cons ⟨t,rfl⟩ (b0G h)
def a2U(s:Stmt):Arguments:=match s with
 |.FunctionDef _ a _ _ _ _ _ _ _ _=>a
 |_=>{posonlyargs:=[],args:=[],vararg:=none,kwonlyargs:=[],kw_defaults:=[],kwarg:=none,defaults:=[]}
def a1f(s:Stmt):List Stmt:=match s with
 |.FunctionDef _ _ b _ _ _ _ _ _ _=>b
 |_=>[]
def y0_(s:Stmt):Scope:=match s with
 |.FunctionDef _ _ _ _ _ _ sc _ _ _=>sc
 |_=>{kind:=.function,names:=[],isGenerator:=false,isCoroutine:=false}
abbrev CX0:CXT:=fun _ _ _ _ _ _=>False
abbrev E0:XK:=fun _ _ _=>False
theorem a7h:a5k CX0 X E0:=fun _ _ _ _ _ _ _ h=>h.elim
structure Fun(K:Qz)(x qual:Str)(st:Stmt)(f:Addr)(fd:FuncData):Prop where
 ex:∃(oc:Value) (od:Option Addr) (kV doc pm:Value) (an:Option Addr) (cdv ct:Value) (osl:Array (Option Value)),
  fd=PySem.W.fnOf x qual (a2U st) (a1f st) (y0_ st) .none kV doc pm an cdv ct/\K.lookup f=some ⟨oc,od,.func fd,osl⟩/\PySem.W.codeIn K cdv qual=true
 kp:PySem.W.keepIn K (.ref f)=true
section
variable{K:Qz}{mg:OU}{base:Heap}
theorem Fun.ok{st:Stmt}{f:Addr}{N:List Str}{k:Nat}{sp:Sp}(F:Fun K x qual st f fd)(S:FnScope N ps (y0_ st))(len:∀vs H Q E,sp vs H Q E->vs.length=ps.length)
  (hbody:∀(cdv:Value) (A:Around) (outer:List Env) (s:Shared) (H:Hp) (vs:List V) (Q:VK) (E:XK),Room k (A.deeper (envOfC qual (y0_ st) s.heap.objs.size f cdv))->sp vs H Q E->
   ∃t,PSs (g7_ CX0 P w K mg base N qual (y0_ st) f cdv A outer s H E).nox (a1f st) t/\t {nx:=fun _ H'=>Q .non H',rt:=Q} (start N vs) H):FnOk P w K mg base CX0 (k+1) f fd ps sp:=by
 obtain⟨oc,od,kV,doc,pm,an,cdv,ct,osl,rfl,lk,hcd⟩:=F.ex;refine a7c lk hcd S len fun A outer s H vs Q E hr hsp=>?_
 obtain⟨t,h,q⟩:=hbody cdv A outer s H vs Q E hr hsp;exact⟨t,h.nox,q⟩
theorem Fun.binds{st:Stmt}{f:Addr}(F:Fun K x qual st f fd)
  (h:∀(kV doc pm:Value) (an:Option Addr) (cdv ct:Value) (us:List Value),us.length=ps.length->bindArgs (PySem.W.fnOf x qual (a2U st) (a1f st) (y0_ st) .none kV doc pm an cdv ct) ⟨us,[]⟩=pure (ps.zip us)):a0x K fd ps []:=by
 obtain⟨oc,od,kV,doc,pm,an,cdv,ct,osl,rfl,lk,hcd⟩:=F.ex;exact .all (h kV doc pm an cdv ct)
theorem b6c{st:Stmt}{f:Addr}{oc:Value}{od an:Option Addr}{osl:Array (Option Value)}{kV doc pm cdv ct:Value}(l:K.lookup f=some ⟨oc,od,.func (PySem.W.fnOf x qual (a2U st) (a1f st) (y0_ st) .none kV doc pm an cdv ct),osl⟩)
  (c:PySem.W.codeIn K cdv qual=true)(k:PySem.W.keepIn K (.ref f)=true):Fun K x qual st f (PySem.W.fnOf x qual (a2U st) (a1f st) (y0_ st) .none kV doc pm an cdv ct):=⟨⟨oc,od,kV,doc,pm,an,cdv,ct,osl,rfl,l,c⟩,k⟩
end
theorem a5s{n:Nat}(h:n≤1000):n<sizeLine:=Tz h (by decide)
theorem pv(i:Nat)(hN:X.N[i]? =some x:=by rfl)(hv:Vis X.env.scope x:=by first|exact Or.inl rfl|exact Or.inr (Or.inl rfl)|exact Or.inr (Or.inr rfl))(hd:(x==("__debug__":Str))=false:=by decide)
  (hcd:(x==("__classdict__":Str))=false:=by decide):PE X (.Name x pos) (a0Z i):=a6P hN hv hd hcd
section
variable{κ:Type}[DecidableEq κ]
end
theorem b6d{k:Key}{u:Value}(r:v4_ (kV k) u):(k3_ P w).is k u=true:=by
 cases k with
 |inl i=>obtain⟨t,e⟩:=(show∃t,u=Value.int i t from r);subst e;exact b4s P w i t
 |inr x=>obtain⟨t,e⟩:=(show∃t,u=Value.str x t from r);subst e;exact b4t P w x t
theorem a7i{P:Program}{w:World}:∀{ks:List Key}{us:List Value},v2_ (ks.map kV) us->ItemsAre (k3_ P w) ks us
 |[],_,r=>by rw[Vc]at r;cases r;exact .nil
 |k::ks,_,r=>by
  rw[Qd]at r;cases r with
  |cons h t=>exact .cons (b6d h) (a7i t)
section
variable{H:Hp}{h:Heap}{a:Addr}
theorem b6e{ks:List Key}(ok:HOk P w H h)(e:H a=some (.tup (ks.map kV))):(tupleKind (k3_ P w)).is h ks a:=by
 obtain⟨_,its,r,o,h1,h2,_,n,h3⟩:=(show x5_ P w H h a (.tup (ks.map kV))from ok a _ e)
 exact⟨o,its.toArray,n,h1,h2,h3,by simpa using a7i r⟩
end
section
variable{pins:OX}{σ:St}{H:Hp}{s:Shared}{a:Addr}{y v:V}{u r:Value}{o:Option V}{A:Around}{E:OE}
theorem a7j{h':Heap}{t':Nat}{ob:HO}(I:Inv X pins σ H s)(mu:Mut (H a))(hs:Heap.SameBut a s.heap h')(he:∃q,h'.get? a=some q)(new:x5_ X.prog X.w (upd H a ob) h' a ob):
  Inv X pins σ (upd H a ob) {s with heap:=h',toks:=t'}:=
 I.write (x:=a) (e:=a) mu (.inl rfl) (fun b q hb z=>(hs.2 b hb).trans z) he new
end
def b6f(i:Expr):Prop:=∀ov iv,subscripted i false ov iv=operate [ov,iv] (getItem ov iv)
theorem b6g{prog:Program}{A:Around}{E:OE}{s:Shared}{env:Env}{value slice:Expr}{T id:String}{Q:OE}
  (hl:typeLookup (.type T) "__getitem__"=pure (some (.builtin id)))(hs:b6f slice)
  (h:wpAny (model prog w) A (eval value env) (fun o s₁=>wpAny (model prog w) A (eval slice env) (fun i s₂=>s₂.TypeIs o T/\wpAny (model prog w) A (getItem o i) Q E s₂) E s₁) E s):
  wpAny (model prog w) A (eval (.Subscript value slice pos) env) Q E s:=by
 refine Subscript_ (Zn h (fun o s₁ h₁=>Zn h₁ (fun i s₂ h₂=>?_) fun _ _ x=>x) fun _ _ x=>x)
 obtain⟨hT,h₂⟩:=h₂;unfold subscriptTail;refine Qq ?_
 rw[getitemInPython_of_ne hT.not_modules];refine Qq (Vg hT hl ?_);have fin:wpAny (model prog w) A (subscripted slice false o i) (fun r s₃=>wpAny (model prog w) A (letTemporaryGo value o r>>=fun _=>pure r) Q E s₃) E s₂:=by
  rw[hs o i];exact wpAny_operating (Zn h₂ (fun r s₃ h₃=>Qq (wpAny_letTemporaryGo (Qj h₃))) fun _ _ x=>x)
 first
  |exact Qj (Qq fin)
  |exact Qq (Qj (Qq fin))
  |exact Qq fin
theorem Inv.big(I:Inv X pins σ H s):sysModules<s.heap.objs.size:=by
 have h:mainGlobals<s.heap.objs.size:=(I.mod.glob.keeps I.bk).lt
 exact Vq (by decide) h
end L2
namespace L2.Mir
open PySem PySem.Spec PyProof.Rows
variable{B:OA}{E:OE}{G G' G1 G2 H H' H1 H2:Hp}{N N':List Str}{Q:VK}{T:String}{X:Cx}{a p:Addr}{b c e iter tg:Expr}{es:List Expr}{i j k more n:Nat}{neg:Bool}{o:HO}{op op':CmpOp}{pins:OX}{pos:Pos}{r r':R2}{s:Shared}{scope:Scope}{t':TT}{v:V}{x y:Str}{xs:List V}{α β:Type}{σ σ' σ1:St}
inductive KX where
 |t (ns:List Int)|p (ns:List Int) (m:Int)
 deriving Inhabited,DecidableEq
variable{ks:List KX}
def KX.kind:KX->Bool
 |.t _=>false
 |.p _ _=>true
def a5t(ns:List Int):Int:=reduceHash (Builtin.Tuple.tupleHashOf (ns.map hashInt))
def a5u:KX->Int
 |.t ns=>a5t ns
 |.p ns m=>reduceHash (Builtin.Tuple.tupleHashOf [a5t ns,hashInt m])
inductive Ob where
 |exc (n:Str)|fn (n:Str)|dk (kvs:List (Key×Key))|dt (kvs:List (Str×List Int))
 deriving Inhabited
inductive D where
 |non|bl (b:Bool)|int (i:Int)|str (x:Str)|tup (ds:List D)|lst (ds:List D)|emp|obj (o:Ob)|dct (ks:OI) (vs:List D)|dcx (ks:List KX) (vs:List D)
 deriving Inhabited
variable{d:D}{ds vs:List D}{g':Int->Int->D}
def b0H(K:Qz)(t:Value):Prop:=∀T∈(["tuple","list","int","bool","str"]:List String),PySem.W.kitOne K t (.type T)=some false
def SqU(K:Qz)(G:Hp)(a:Addr)(xs:List V):Prop:=G a=some (.tup xs)∨ ∃(o:Obj) (its:Array Value) (n:Nat),K.lookup a=some o/\o.cls=.type "tuple"/\o.dict=none/\o.data=.seq its n/\its.size≤sizeLine/\v2_ xs its.toList
theorem SqU.t{K:Qz}(h:SqU K G a xs):SqT K G a xs:=h.imp (fun e=>.inl e) id
def a3w(K:Qz)(G:Hp):List (Key×V)->List (Str×List Int)->Prop
 |[],[]=>True
 |p::ps,q::qs=>p.1=.inr q.1/\(∃a,p.2=.ref a/\SqU K G a (q.2.map V.int))/\a3w K G ps qs
 |_,_=>False
def a5v(K:Qz)(G:Hp)(v:V):Ob->Prop
 |.exc n=>∃a C HP,v=.ref a/\PySem.W.nsIn K mainGlobals n=some (some (.ref C))/\G a=some (.ext HP)/\PySem.W.KitX K (.ref a) (.ref C) HP/\b0H K (.ref C)
 |.fn n=>∃f,v=.ref f/\PySem.W.nsIn K mainGlobals n=some (some (.ref f))/\PySem.W.KitX K (.ref f) (.type "function") (fun _=>True)
 |.dk kvs=>∃a,v=.ref a/\G a=some (.dK (kvs.map fun p=>(p.1,kV p.2)))
 |.dt kvs=>∃a ps,v=.ref a/\G a=some (.dK ps)/\a3w K G ps kvs
abbrev k4_(k:List Int):List Key:=k.map Sum.inl
def a5w(K:Qz):Addr->List Key->Prop:=fun b k=>SqU K (fun _=>none) b (k.map kV)
def u6_(K:Qz)(G:Hp)(v:Value):KX->Prop
 |.t ns=>∃b,v=.ref b/\SqU K G b (ns.map V.int)
 |.p ns m=>∃b c,v=.ref b/\SqU K G b [.ref c,.int m]/\SqU K G c (ns.map V.int)
inductive EsK (K:Qz) (G:Hp):List DictEntry->List KX->List V->Prop
 |nil:EsK K G [] [] []
 |cons {e:DictEntry}{es:List DictEntry}{k:KX}{ks:List KX}{x:V}{xs:List V}(h1:e.hash=a5u k) (h2:u6_ K G e.key k) (h3:v4_ x e.val) (t:EsK K G es ks xs):EsK K G (e::es) (k::ks) (x::xs)
def u7_(ks:List KX):Prop:=(∃n,∀k∈ks,k.kind=n)/\ks.Nodup
mutual
def Rep(K:Qz)(G:Hp):V->D->Prop
 |v,.non=>v=.non
 |v,.bl b=>v=.bl b
 |v,.int i=>v=.int i
 |v,.str x=>v=.str x/\x.length≤sizeLine
 |v,.tup ds=>∃a xs,v=.ref a/\SqU K G a xs/\z9_ K G xs ds
 |v,.lst ds=>∃a xs,v=.ref a/\SqL K G a xs/\z9_ K G xs ds
 |v,.emp=>∃a kvs,v=.ref a/\G a=some (.dK kvs)
 |v,.obj o=>a5v K G v o
 |v,.dct ks vs=>∃a kvs,v=.ref a/\G a=some (.dT (a5w K) kvs)/\kvs.map (·.1)=ks.map k4_/\z9_ K G (kvs.map (·.2)) vs
 |v,.dcx ks vs=>∃a es ep xs,v=.ref a/\G a=some (.dX es ep)/\EsK K G es.toList ks xs/\u7_ ks/\z9_ K G xs vs
def z9_(K:Qz)(G:Hp):List V->List D->Prop
 |xs,[]=>xs=[]
 |xs,d::ds=>∃x r,xs=x::r/\Rep K G x d/\z9_ K G r ds
end
def Le(G G':Hp):Prop:=∀b o,G b=some o->G' b=some o
theorem Le.refl:Le G G:=fun _ _ e=>e
theorem Le.trans(a:Le G G1)(b:Le G1 G2):Le G G2:=fun x o e=>b x o (a x o e)
theorem Le.upd(h:G a=none):Le G (upd G a o):=fun b u e=>by rw[v0_ (u5_ e h)];exact e
theorem Le.sqU{K:Qz}(l:Le G G')(h:SqU K G a xs):SqU K G' a xs:=h.imp (fun e=>l _ _ e) id
theorem Le.sqT{K:Qz}(l:Le G G')(h:SqU K G a xs):SqT K G' a xs:=(l.sqU h).t
theorem Le.sqT'{K:Qz}(l:Le G G')(h:SqT K G a xs):SqT K G' a xs:=by
 rcases h with h|h
 ·rcases h with h|⟨o,h⟩
  ·exact .inl (.inl (l _ _ h))
  ·exact .inl (.inr ⟨o,l _ _ h⟩)
 ·exact .inr h
theorem Le.sqL{K:Qz}(l:Le G G')(h:SqL K G a xs):SqL K G' a xs:=by
 rcases h with h|h
 ·rcases h with h|⟨o,h⟩
  ·exact .inl (.inl (l _ _ h))
  ·exact .inl (.inr ⟨o,l _ _ h⟩)
 ·exact .inr h
theorem a3w.mono{K:Qz}{G G':Hp}(l:Le G G'):∀{ps:List (Key×V)}{qs:List (Str×List Int)},a3w K G ps qs->a3w K G' ps qs
 |[],[],_=>trivial
 |_::_,_::_,⟨h1,⟨a,h2,h3⟩,h4⟩=>⟨h1,⟨a,h2,l.sqU h3⟩,a3w.mono l h4⟩
theorem a5v.mono{K:Qz}(l:Le G G'):∀{o:Ob},a5v K G v o->a5v K G' v o
 |.exc n,⟨a,C,HP,h1,h2,h3,h4⟩=>⟨a,C,HP,h1,h2,l _ _ h3,h4⟩
 |.fn n,h=>h
 |.dk kvs,⟨a,h1,h2⟩=>⟨a,h1,l _ _ h2⟩
 |.dt kvs,⟨a,ps,h1,h2,h3⟩=>⟨a,ps,h1,l _ _ h2,h3.mono l⟩
theorem u6_.mono{K:Qz}(l:Le G G'){v:Value}:∀{k:KX},u6_ K G v k->u6_ K G' v k
 |.t ns,⟨b,e,h⟩=>⟨b,e,l.sqU h⟩
 |.p ns m,⟨b,c,e,h,g⟩=>⟨b,c,e,l.sqU h,l.sqU g⟩
theorem EsK.mono{K:Qz}(l:Le G G'){es:List DictEntry}(h:EsK K G es ks xs):EsK K G' es ks xs:=by
 induction h with
 |nil=>exact .nil
 |cons h1 h2 h3 _ ih=>exact .cons h1 (h2.mono l) h3 ih
mutual
theorem Rep.mono{K:Qz}{G G':Hp}(l:Le G G'):∀(d:D) {v:V},Rep K G v d->Rep K G' v d
 |.non,_,h=>by simpa only[Rep]using h
 |.bl b,_,h=>by simpa only[Rep]using h
 |.int i,_,h=>by simpa only[Rep]using h
 |.str x,_,h=>by simpa only[Rep]using h
 |.tup ds,_,h=>by
  simp only[Rep]at h ⊢;obtain⟨a,xs,e,q,r⟩:=h;exact⟨a,xs,e,l.sqU q,z9_.mono l ds r⟩
 |.lst ds,_,h=>by
  simp only[Rep]at h ⊢;obtain⟨a,xs,e,q,r⟩:=h;exact⟨a,xs,e,l.sqL q,z9_.mono l ds r⟩
 |.emp,_,h=>by
  simp only[Rep]at h ⊢;obtain⟨a,kvs,e,q⟩:=h;exact⟨a,kvs,e,l _ _ q⟩
 |.obj o,_,h=>by
  simp only[Rep]at h ⊢;exact h.mono l
 |.dct ks vs,_,h=>by
  simp only[Rep]at h ⊢;obtain⟨a,kvs,e,q,k,r⟩:=h;exact⟨a,kvs,e,l _ _ q,k,z9_.mono l vs r⟩
 |.dcx ks vs,_,h=>by
  simp only[Rep]at h ⊢;obtain⟨a,es,ep,xs,e,q,k,o,r⟩:=h;exact⟨a,es,ep,xs,e,l _ _ q,k.mono l,o,z9_.mono l vs r⟩
theorem z9_.mono{K:Qz}{G G':Hp}(l:Le G G'):∀(ds:List D) {xs:List V},z9_ K G xs ds->z9_ K G' xs ds
 |[],_,h=>by simpa only[z9_]using h
 |d::ds,_,h=>by
  simp only[z9_]at h ⊢;obtain⟨x,r,e,q,t⟩:=h;exact⟨x,r,e,Rep.mono l d q,z9_.mono l ds t⟩
end
theorem repL_nil{K:Qz}:z9_ K G [] []:=by simp only[z9_]
theorem repL_cons{K:Qz}{x:V}(h:Rep K G x d)(t:z9_ K G xs ds):z9_ K G (x::xs) (d::ds):=by
 simp only[z9_];exact⟨x,xs,rfl,h,t⟩
theorem z9_.length{K:Qz}{G:Hp}:∀{ds:List D}{xs:List V},z9_ K G xs ds->xs.length=ds.length
 |[],_,h=>by simp only[z9_]at h;subst h;rfl
 |d::ds,_,h=>by
  simp only[z9_]at h;obtain⟨x,r,e,q,t⟩:=h;subst e
  simp[z9_.length t]
theorem z9_.append{K:Qz}{G:Hp}:∀{ds es:List D}{xs ys:List V},z9_ K G xs ds->z9_ K G ys es->z9_ K G (xs++ys) (ds++es)
 |[],_,_,_,h,t=>by simp only[z9_]at h;subst h;exact t
 |d::ds,_,_,_,h,t=>by
  simp only[z9_]at h;obtain⟨x,r,e,q,u⟩:=h;subst e;exact repL_cons q (z9_.append u t)
theorem z9_.get{K:Qz}{G:Hp}:∀{ds:List D}{xs:List V}{i:Nat}{d:D},z9_ K G xs ds->ds[i]? =some d->∃x,xs[i]? =some x/\Rep K G x d
 |[],_,i,d,h,e=>by simp at e
 |d::ds,_,i,d',h,e=>by
  simp only[z9_]at h;obtain⟨x,r,e1,q,t⟩:=h;subst e1;cases i with
  |zero=>simp at e;subst e;exact⟨x,rfl,q⟩
  |succ i=>simpa using z9_.get (i:=i) t (by simpa using e)
theorem z9_.get'{K:Qz}{x:V}(h:z9_ K G xs ds)(e:xs[i]? =some x):∃d,ds[i]? =some d/\Rep K G x d:=by
 have hl:=h.length
 have hi:i<xs.length:=(Qy.mp e).1
 obtain⟨x',e',r⟩:=h.get (i:=i) (d:=ds[i]'(by omega)) (by simp)
 rw[e]at e';cases e';exact⟨_,by simp,r⟩
theorem z9_.take{K:Qz}:∀{ds:List D}{xs:List V}(n:Nat),z9_ K G xs ds->z9_ K G (xs.take n) (ds.take n)
 |_,_,0,_=>by simp[repL_nil]
 |[],_,n+1,h=>by simp only[z9_]at h;subst h;simp[repL_nil]
 |d::ds,_,n+1,h=>by
  simp only[z9_]at h;obtain⟨x,r,e,q,t⟩:=h;subst e;exact repL_cons q (t.take n)
theorem z9_.drop{K:Qz}:∀{ds:List D}{xs:List V}(n:Nat),z9_ K G xs ds->z9_ K G (xs.drop n) (ds.drop n)
 |_,_,0,h=>h
 |[],_,n+1,h=>by simp only[z9_]at h;subst h;simp[repL_nil]
 |d::ds,_,n+1,h=>by
  simp only[z9_]at h;obtain⟨x,r,e,q,t⟩:=h;subst e;exact t.drop n
theorem z9_.reverse{K:Qz}:∀{ds:List D}{xs:List V},z9_ K G xs ds->z9_ K G xs.reverse ds.reverse
 |[],_,h=>by simp only[z9_]at h;subst h;simp[repL_nil]
 |d::ds,_,h=>by
  simp only[z9_]at h;obtain⟨x,r,e,q,t⟩:=h;subst e;simp only[Th];exact t.reverse.append (repL_cons q repL_nil)
theorem z9_.set{K:Qz}:∀{ds:List D}{xs:List V}{x:V}{d:D}(n:Nat),z9_ K G xs ds->Rep K G x d->z9_ K G (xs.set n x) (ds.set n d)
 |[],_,_,_,n,h,_=>by simp only[z9_]at h;subst h;simp[repL_nil]
 |d::ds,_,_,_,0,h,q'=>by
  simp only[z9_]at h;obtain⟨x,r,e,q,t⟩:=h;subst e;exact repL_cons q' t
 |d::ds,_,_,_,n+1,h,q'=>by
  simp only[z9_]at h;obtain⟨x,r,e,q,t⟩:=h;subst e;exact repL_cons q (t.set n q')
inductive Mu where
 |l (ds:List D)|d (ks:OI) (vs:List D)|x (ks:List KX) (vs:List D)
 deriving Inhabited
variable{m:Mu}
inductive W where
 |nil|dat (d:D)|own (ds:List D)|par (ds:List D)|ownD (ks:OI) (vs:List D)|parD (ks:OI) (vs:List D)|ownX (ks:List KX) (vs:List D)|parX (ks:List KX) (vs:List D)
 deriving Inhabited
variable{w w2:W}{ws':List W}
abbrev Env':=List W
abbrev OZ:=D->Env'->Option Env'
variable{env env' env1:Env'}
def W.mut:W->Option Mu
 |.own ds=>some (.l ds)
 |.par ds=>some (.l ds)
 |.ownD ks vs=>some (.d ks vs)
 |.parD ks vs=>some (.d ks vs)
 |.ownX ks vs=>some (.x ks vs)
 |.parX ks vs=>some (.x ks vs)
 |_=>none
def W.mutX:W->Option (List KX×List D)
 |.ownX ks vs=>some (ks,vs)
 |.parX ks vs=>some (ks,vs)
 |_=>none
def W.mutL:W->Option (List D)
 |.own ds=>some ds
 |.par ds=>some ds
 |_=>none
def W.put:W->List D->W
 |.own _,ds=>.own ds
 |.par _,ds=>.par ds
 |w,_=>w
def W.isOwn:W->Bool
 |.own _=>true
 |.ownD _ _=>true
 |.ownX _ _=>true
 |_=>false
def W.isPar:W->Bool
 |.par _=>true
 |.parD _ _=>true
 |.parX _ _=>true
 |_=>false
def W.putM(w:W):Mu->W
 |.l ds=>if w.isOwn then .own ds else if w.isPar then .par ds else w
 |.d ks vs=>if w.isOwn then .ownD ks vs else if w.isPar then .parD ks vs else w
 |.x ks vs=>if w.isOwn then .ownX ks vs else if w.isPar then .parX ks vs else w
theorem W.mutL_of(h:w.mutL=some ds):w.mut=some (.l ds):=by cases w<;>first|(cases h;rfl)|cases h
theorem W.mutX_of(h:w.mutX=some (ks,vs)):w.mut=some (.x ks vs):=by cases w<;>first|(cases h;rfl)|cases h
theorem W.put_eq(h:w.mutL=some ds)(ds':List D):w.put ds'=w.putM (.l ds'):=by cases w<;>first|rfl|cases h
theorem W.putM_mut(h:w.mut=some m)(m':Mu):(w.putM m').mut=some m':=by
 cases w<;>cases m'<;>first|rfl|cases h
theorem W.putM_own(h:w.mut=some m)(m':Mu):(w.putM m').isOwn=w.isOwn:=by
 cases w<;>cases m'<;>first|rfl|cases h
theorem W.putM_par(h:w.mut=some m)(m':Mu):(w.putM m').isPar=w.isPar:=by
 cases w<;>cases m'<;>first|rfl|cases h
def Owned(σ:St)(env:Env')(a:Addr):Prop:=∃(i:Nat) (w:W) (m:Mu),env[i]? =some w/\w.mut=some m/\σ[i]? =some (some (V.ref a))
theorem own_mut(h:w.isOwn=true):∃m,w.mut=some m:=by cases w<;>first|exact⟨_,rfl⟩|cases h
theorem par_mut(h:w.isPar=true):∃m,w.mut=some m:=by cases w<;>first|exact⟨_,rfl⟩|cases h
def NT(o:HO):Prop:=∀ps,o≠.tbl ps
theorem nt_lst:NT (.lst xs):=fun _ z=>by cases z
theorem nt_tup:NT (.tup xs):=fun _ z=>by cases z
def lamQ(q:Str):Str:=(q++".<locals>.")++"<lambda>"
def tabQ(K:Qz)(P:Addr)(q:Str):Bool:=K.all fun p=>match p.2 with
 |⟨.type "code",_,.fields vs,_⟩=>(match (vs[11]? :Option Value)with|some (.ref P')=>P' !=P|_=>true)||(match vs.toList with|_::.str n _::_=>n==q|_=>false)
 |_=>true
def LamC(K:Qz)(P a:Addr):HO:=.ext fun h=>∀q,tabQ K P q=true->h.CodeRec (.ref a) (lamQ q)
def TabsOk(K:Qz)(H:Hp):Prop:=∀P ps,H P=some (.tbl ps)->TriplesOk ps.toList/\∀pos v,codeAmong pos ps.toList=some v->∃a,v=.ref a/\H a=some (LamC K P a)
theorem TabsOk.mono{K:Qz}(t:TabsOk K H)(h1:∀P ps,H' P=some (.tbl ps)->H P=some (.tbl ps))(h2:∀a φ,H a=some (.ext φ)->H' a=some (.ext φ)):TabsOk K H':=fun P ps e=>by
 obtain⟨q1,q2⟩:=t P ps (h1 P ps e);refine⟨q1,fun pos v e=>?_⟩
 obtain⟨a,e1,e2⟩:=q2 pos v e;exact⟨a,e1,h2 _ _ e2⟩
theorem TabsOk.upd{K:Qz}(t:TabsOk K H)(no:NT o)(h:∀φ,H a≠some (.ext φ)):TabsOk K (upd H a o):=
 t.mono (fun P ps e=>by
  by_cases hb:P=a
  ·subst hb;rw[x0_]at e;cases e;exact absurd rfl (no ps)
  ·rw[v0_ hb]at e;exact e) fun b φ e=>by
  by_cases hb:b=a
  ·subst hb;exact absurd e (h φ)
  ·rw[v0_ hb];exact e
def RepM(K:Qz)(G:Hp)(o:HO):Mu->Prop
 |.l ds=>∃xs,o=.lst xs/\z9_ K G xs ds
 |.d ks vs=>∃kvs,o=.dT (a5w K) kvs/\kvs.map (·.1)=ks.map k4_/\z9_ K G (kvs.map (·.2)) vs
 |.x ks vs=>∃es ep xs,o=.dX es ep/\EsK K G es.toList ks xs/\u7_ ks/\z9_ K G xs vs
theorem RepM.mono{K:Qz}(l:Le G G'):∀{m:Mu},RepM K G o m->RepM K G' o m
 |.l ds,⟨xs,e,r⟩=>⟨xs,e,z9_.mono l ds r⟩
 |.d ks vs,⟨kvs,e,k,r⟩=>⟨kvs,e,k,z9_.mono l vs r⟩
 |.x ks vs,⟨es,ep,xs,e,k,o,r⟩=>⟨es,ep,xs,e,k.mono l,o,z9_.mono l vs r⟩
theorem RepM.nt{K:Qz}:∀{m:Mu},RepM K G o m->NT o
 |.l ds,⟨xs,e,r⟩=>by subst e;exact nt_lst
 |.d ks vs,⟨kvs,e,k,r⟩=>by subst e;exact fun _ z=>by cases z
 |.x ks vs,⟨es,ep,xs,e,k,r⟩=>by subst e;exact fun _ z=>by cases z
theorem RepM.ne{K:Qz}(r:RepM K G o m):∀φ,o≠.ext φ:=by
 cases m with
 |l ds=>obtain⟨xs,e,_⟩:=r;subst e;exact fun _ z=>by cases z
 |d ks vs=>obtain⟨xs,e,_⟩:=r;subst e;exact fun _ z=>by cases z
 |x ks vs=>obtain⟨es,ep,xs,e,_⟩:=r;subst e;exact fun _ z=>by cases z
structure Rel(K:Qz)(B:OA)(G:Hp)(σ:St)(env:Env')(H:Hp):Prop where
 sub:Le G H
 len:env.length=σ.length
 dat:∀(i:Nat) (d:D),env[i]? =some (.dat d)->∃v,σ[i]? =some (some v)/\Rep K G v d
 own:∀(i:Nat) (w:W) (m:Mu),env[i]? =some w->w.mut=some m->∃a o,σ[i]? =some (some (V.ref a))/\H a=some o/\RepM K G o m/\G a=none
 inj:∀(i j:Nat) (w w':W) (ds es:Mu) (a:Addr),env[i]? =some w->w.mut=some ds->env[j]? =some w'->w'.mut=some es->σ[i]? =some (some (V.ref a))->σ[j]? =some (some (V.ref a))->i=j
 fresh:∀(i:Nat) (w:W) (a:Addr),env[i]? =some w->w.isOwn=true->σ[i]? =some (some (V.ref a))-> ¬ B a
 old:∀b,B b->H b≠none
 tabs:TabsOk K H
 gnt:∀b o,G b=some o->NT o
structure Ev(K:Qz)(B:OA)(G:Hp)(σ:St)(env:Env')(H:Hp)(G':Hp)(σ':St)(env':Env')(H':Hp):Prop where
 rel:Rel K B G' σ' env' H'
 same:Le G G'
 keep:∀b o,¬ Owned σ env b->NT o->H b=some o->H' b=some o
 live:∀b,H b≠none->H' b≠none
 stay:∀b,H b≠none-> ¬ Owned σ env b->G b=none->G' b=none
 sub:∀a,Owned σ' env' a->Owned σ env a∨H a=none
 par:∀(i:Nat) (w:W),env'[i]? =some w->w.isPar=true->σ'[i]? =σ[i]? /\ ∃w0,env[i]? =some w0/\w0.isPar=true
 slen:σ'.length=σ.length
theorem Ev.refl{K:Qz}(r:Rel K B G σ env H):Ev K B G σ env H G σ env H:=
 ⟨r,Le.refl,fun _ _ _ _ e=>e,fun _ e=>e,fun _ _ _ e=>e,fun _ e=>.inl e,fun _ w e h=>⟨rfl,w,e,h⟩,rfl⟩
theorem Ev.trans{K:Qz}{σ2:St}{env2:Env'}(a:Ev K B G σ env H G1 σ1 env1 H1)(b:Ev K B G1 σ1 env1 H1 G2 σ2 env2 H2):Ev K B G σ env H G2 σ2 env2 H2 where
 rel:=b.rel
 same:=a.same.trans b.same
 keep:=fun x o n t e=>b.keep x o (fun z=>(a.sub x z).elim n fun q=>by rw[e]at q;cases q) t (a.keep x o n t e)
 live:=fun x e=>b.live x (a.live x e)
 stay:=fun x e n g=>b.stay x (a.live x e) (fun z=>(a.sub x z).elim n fun q=>e q) (a.stay x e n g)
 sub:=fun x z=>(b.sub x z).elim (fun q=>a.sub x q) fun q=>.inr (by
  cases h:H x with
  |none=>rfl
  |some o=>exact absurd q (a.live x (by rw[h];simp)))
 par:=fun i w e h=>by
  obtain⟨h1,d1,e1,p1⟩:=b.par i w e h;obtain⟨h2,d2,e2,p2⟩:=a.par i d1 e1 p1;exact⟨h1.trans h2,d2,e2,p2⟩
 slen:=b.slen.trans a.slen
theorem Rel.ownL{K:Qz}(r:Rel K B G σ env H)(i:Nat)(w:W)(ds:List D)(e1:env[i]? =some w)(e2:w.mutL=some ds):∃a xs,σ[i]? =some (some (V.ref a))/\H a=some (.lst xs)/\z9_ K G xs ds/\G a=none:=by
 obtain⟨a,o,h1,h2,⟨xs,rfl,h3⟩,h4⟩:=r.own i w (.l ds) e1 (W.mutL_of e2);exact⟨a,xs,h1,h2,h3,h4⟩
theorem Rel.ownX{K:Qz}(r:Rel K B G σ env H)(i:Nat)(w:W)(ks:List KX)(vs:List D)(e1:env[i]? =some w)(e2:w.mutX=some (ks,vs)):∃a es ep xs,σ[i]? =some (some (V.ref a))/\H a=some (.dX es ep)/\EsK K G es.toList ks xs/\u7_ ks/\z9_ K G xs vs/\G a=none:=by
 obtain⟨a,o,h1,h2,⟨es,ep,xs,rfl,h3,h4,h5⟩,h6⟩:=r.own i w (.x ks vs) e1 (W.mutX_of e2);exact⟨a,es,ep,xs,h1,h2,h3,h4,h5,h6⟩
abbrev Mo(α:Type):=Env'->Option (α×Env')
variable{ma mb mc:Mo D}{ms:Mo (List D)}
section
variable(K:Qz)(B:OA)
def TD(m:Mo D):TE:=fun σ H Q=>∃G env d env',Rel K B G σ env H/\m env=some (d,env')/\∀v G' H',Ev K B G σ env H G' σ env' H'->Rep K G' v d->Q v H'
def TL(m:Mo (List D)):TE:=fun σ H Q=>∃G env ds env',Rel K B G σ env H/\m env=some (ds,env')/\∀a xs G' H',Ev K B G σ env H G' σ env' H'->H a=none-> ¬ Owned σ env' a->H' a=some (.lst xs)->G' a=none->z9_ K G' xs ds->Q (.ref a) H'
def TTm(m:Mo Bool):TT:=fun σ H Q=>∃G env b env',Rel K B G σ env H/\m env=some (b,env')/\∀G' H',Ev K B G σ env H G' σ env' H'->Q b H'
inductive Ar where
 |d (d:D)|sl (i:Nat)
 deriving Inhabited
def RepA(G:Hp)(σ:St):List V->List Ar->Prop
 |xs,[]=>xs=[]
 |xs,.d d::as=>∃x r,xs=x::r/\Rep K G x d/\RepA G σ r as
 |xs,.sl i::as=>∃x r,xs=x::r/\σ[i]? =some (some x)/\RepA G σ r as
def TAm(m:Mo (List Ar)):TA:=fun σ H Q=>∃G env as env',Rel K B G σ env H/\m env=some (as,env')/\∀vs G' H',Ev K B G σ env H G' σ env' H'->RepA K G' σ vs as->Q vs H'
def TDs(m:Mo (List D)):TA:=fun σ H Q=>∃G env ds env',Rel K B G σ env H/\m env=some (ds,env')/\∀vs G' H',Ev K B G σ env H G' σ env' H'->z9_ K G' vs ds->Q vs H'
inductive Fl where
 |nx|bk|ct|ret (d:D)|retL (ds:List D)|retX (ks:List KX) (vs:List D)
def Post(G:Hp)(σ:St)(env:Env')(H:Hp)(env':Env')(D:Ends):Fl->Prop
 |.nx=>∀σ' G' H',Ev K B G σ env H G' σ' env' H'->D.nx σ' H'
 |.bk=>∀σ' G' H',Ev K B G σ env H G' σ' env' H'->D.bk σ' H'
 |.ct=>∀σ' G' H',Ev K B G σ env H G' σ' env' H'->D.ct σ' H'
 |.ret d=>∀v σ' G' H',Ev K B G σ env H G' σ' env' H'->Rep K G' v d->D.rt v H'
 |.retL ds=>∀a xs σ' G' H',Ev K B G σ env H G' σ' env' H'-> ¬ B a-> ¬ Owned σ' env' a->H' a=some (.lst xs)->G' a=none->z9_ K G' xs ds->D.rt (.ref a) H'
 |.retX ks vs=>∀a o σ' G' H',Ev K B G σ env H G' σ' env' H'-> ¬ B a-> ¬ Owned σ' env' a->H' a=some o->G' a=none->RepM K G' o (.x ks vs)->D.rt (.ref a) H'
def TSm(m:Mo Fl):TS:=fun D σ H=>∃G env fl env',Rel K B G σ env H/\m env=some (fl,env')/\Post K B G σ env H env' D fl
theorem Post.after{D:Ends}{fl:Fl}(k:Post K B G σ env H env' D fl)(ev:Ev K B G σ env H G1 σ1 env1 H1):Post K B G1 σ1 env1 H1 env' D fl:=by
 cases fl with
 |nx=>exact fun σ2 G2 H2 ev2=>k σ2 G2 H2 (ev.trans ev2)
 |bk=>exact fun σ2 G2 H2 ev2=>k σ2 G2 H2 (ev.trans ev2)
 |ct=>exact fun σ2 G2 H2 ev2=>k σ2 G2 H2 (ev.trans ev2)
 |ret d=>exact fun v σ2 G2 H2 ev2=>k v σ2 G2 H2 (ev.trans ev2)
 |retL d=>exact fun a xs σ2 G2 H2 ev2=>k a xs σ2 G2 H2 (ev.trans ev2)
 |retX ks vs=>exact fun a xs σ2 G2 H2 ev2=>k a xs σ2 G2 H2 (ev.trans ev2)
end
variable{as:Mo (List Ar)}
abbrev ED(X:Cx)(B:OA)(e:Expr)(m:Mo D):Prop:=PE X e (TD X.K B m)
abbrev EL(X:Cx)(B:OA)(e:Expr)(m:Mo (List D)):Prop:=PE X e (TL X.K B m)
abbrev ET(X:Cx)(B:OA)(e:Expr)(m:Mo Bool):Prop:=PT X e (TTm X.K B m)
abbrev EAr(X:Cx)(B:OA)(es:List Expr)(m:Mo (List Ar)):Prop:=PA X es (TAm X.K B m)
abbrev EDs(X:Cx)(B:OA)(es:List Expr)(m:Mo (List D)):Prop:=PA X es (TDs X.K B m)
abbrev ES(X:Cx)(B:OA)(s:Stmt)(m:Mo Fl):Prop:=PS X s (TSm X.K B m)
abbrev ESs(X:Cx)(B:OA)(s:List Stmt)(m:Mo Fl):Prop:=PSs X s (TSm X.K B m)
theorem pe_imp{t t':TE}(h:PE X e t)(i:∀σ H Q,t' σ H Q->t σ H Q):PE X e t':=fun pins s σ H Q I q=>h pins s σ H Q I (i σ H Q q)
theorem pt_imp{t:TT}(h:PT X e t)(i:∀σ H Q,t' σ H Q->t σ H Q):PT X e t':=fun pins s σ H Q I q=>h pins s σ H Q I (i σ H Q q)
theorem pw_imp{t:TT}(h:PW X e t)(i:∀σ H Q,t' σ H Q->t σ H Q):PW X e t':=fun wh pins s σ H Q I q=>h wh pins s σ H Q I (i σ H Q q)
theorem pa_imp{e:List Expr}{t t':TA}(h:PA X e t)(i:∀σ H Q,t' σ H Q->t σ H Q):PA X e t':=fun pos pins s σ H Q I q=>h pos pins s σ H Q I (i σ H Q q)
theorem ps_imp{e:Stmt}{t t':TS}(h:PS X e t)(i:∀D σ H,t' D σ H->t D σ H):PS X e t':=fun pins s σ H D I q=>h pins s σ H D I (i D σ H q)
theorem pss_imp{e:List Stmt}{t t':TS}(h:PSs X e t)(i:∀D σ H,t' D σ H->t D σ H):PSs X e t':=fun pins s σ H D I q=>h pins s σ H D I (i D σ H q)
section
variable{K:Qz}
theorem Rel.gnone(r:Rel K B G σ env H)(h:H p=none):G p=none:=by
 cases e:G p with
 |none=>rfl
 |some o=>rw[r.sub p o e]at h;cases h
theorem Rel.unowned(r:Rel K B G σ env H)(h:H p=none):¬ Owned σ env p:=by
 rintro⟨i,w,ds,e1,e2,e3⟩;obtain⟨a,xs,e4,e5,_⟩:=r.own i w ds e1 e2;rw[e3]at e4;cases e4;rw[h]at e5;cases e5
theorem a7k(h:∀b o,G b=some o->NT o)(no:NT o):∀b u,upd G p o b=some u->NT u:=fun b u e=>by
 by_cases hb:b=p
 ·subst hb;rw[x0_]at e;cases e;exact no
 ·rw[v0_ hb]at e;exact h b u e
theorem Rel.alloc(r:Rel K B G σ env H)(h:H p=none)(no:NT o:=by intro _ z;cases z):Ev K B G σ env H (upd G p o) σ env (upd H p o):=by
 have gp:=r.gnone h
 refine⟨⟨fun b u e=>?_,r.len,fun i d e=>?_,fun i w ds e1 e2=>?_,r.inj,r.fresh,fun b e=>?_,r.tabs.upd no (fun φ z=>by rw[h]at z;cases z),a7k r.gnt no⟩,Le.upd gp,fun b u _ _ e=>?_,fun b e=>?_,fun b e _ g=>?_,fun a z=>.inl z,fun i w e hp=>⟨rfl,w,e,hp⟩,rfl⟩
 ·by_cases hb:b=p
  ·subst hb;rw[x0_]at e ⊢;exact e
  ·rw[v0_ hb]at e ⊢;exact r.sub b u e
 ·obtain⟨v,e1,e2⟩:=r.dat i d e
  exact⟨v,e1,Rep.mono (Le.upd gp) d e2⟩
 ·obtain⟨a,xs,e3,e4,e5,e6⟩:=r.own i w ds e1 e2
  have ha:a≠p:=u5_ e4 h
  exact⟨a,xs,e3,by rw[v0_ ha];exact e4,e5.mono (Le.upd gp),by rw[v0_ ha];exact e6⟩
 ·by_cases hb:b=p
  ·subst hb;rw[x0_];simp
  ·rw[v0_ hb];exact r.old b e
 ·rw[v0_ (u5_ e h)];exact e
 ·by_cases hb:b=p
  ·subst hb;rw[x0_];simp
  ·rw[v0_ hb];exact e
 ·have hb:b≠p:=fun z=>e (z ▸ h)
  rw[v0_ hb];exact g
theorem Rel.allocM(r:Rel K B G σ env H)(h:H p=none)(no:NT o:=by intro _ z;cases z):Ev K B G σ env H G σ env (upd H p o):=by
 refine⟨⟨fun b u e=>?_,r.len,r.dat,fun i w ds e1 e2=>?_,r.inj,r.fresh,fun b e=>?_,r.tabs.upd no (fun φ z=>by rw[h]at z;cases z),r.gnt⟩,Le.refl,fun b u _ _ e=>?_,fun b e=>?_,fun b e _ g=>g,fun a z=>.inl z,fun i w e hp=>⟨rfl,w,e,hp⟩,rfl⟩
 ·rw[v0_ (u5_ (r.sub b u e) h)];exact r.sub b u e
 ·obtain⟨a,xs,e3,e4,e5,e6⟩:=r.own i w ds e1 e2
  exact⟨a,xs,e3,by rw[v0_ (u5_ e4 h)];exact e4,e5,e6⟩
 ·by_cases hb:b=p
  ·subst hb;rw[x0_];simp
  ·rw[v0_ hb];exact r.old b e
 ·rw[v0_ (u5_ e h)];exact e
 ·by_cases hb:b=p
  ·subst hb;rw[x0_];simp
  ·rw[v0_ hb];exact e
theorem Ev.frz(v:Ev K B G σ env H G' σ' env' H')(ha:H a=none)(no:¬ Owned σ' env' a)(h':H' a=some (.lst xs))(g':G' a=none):
  Ev K B G σ env H (upd G' a (.lst xs)) σ' env' H':=by
 refine⟨⟨fun b u e=>?_,v.rel.len,fun i d e=>?_,fun i w ds e1 e2=>?_,v.rel.inj,v.rel.fresh,v.rel.old,v.rel.tabs,a7k v.rel.gnt nt_lst⟩,v.same.trans (Le.upd g'),v.keep,v.live,fun b e n g=>?_,v.sub,v.par,v.slen⟩
 ·by_cases hb:b=a
  ·subst hb;rw[x0_]at e;cases e;exact h'
  ·rw[v0_ hb]at e;exact v.rel.sub b u e
 ·obtain⟨x,e1,e2⟩:=v.rel.dat i d e
  exact⟨x,e1,Rep.mono (Le.upd g') d e2⟩
 ·obtain⟨p,ys,e3,e4,e5,e6⟩:=v.rel.own i w ds e1 e2
  have hp:p≠a:=fun z=>no ⟨i,w,ds,e1,e2,by rw[←z];exact e3⟩
  exact⟨p,ys,e3,e4,e5.mono (Le.upd g'),by rw[v0_ hp];exact e6⟩
 ·have hb:b≠a:=fun z=>e (z ▸ ha)
  rw[v0_ hb];exact v.stay b e n g
theorem b0I(h:G a=some (.lst xs))(r:z9_ K G xs ds):Rep K G (.ref a) (.lst ds):=by
 simp only[Rep];exact⟨a,xs,rfl,.inl (.inl h),r⟩
theorem a2V(h:G a=some (.tup xs))(r:z9_ K G xs ds):Rep K G (.ref a) (.tup ds):=by
 simp only[Rep];exact⟨a,xs,rfl,.inl h,r⟩
theorem Rel.frzSlotM{w0:W}(r:Rel K B G σ env H)(e:env[i]? =some w0)(em:w0.mut=some m)(hrep:∀G1 a o,G1 a=some o->RepM K G1 o m->Rep K G1 (.ref a) d):
  ∃a o,σ[i]? =some (some (.ref a))/\Rep K (upd G a o) (.ref a) d/\Ev K B G σ env H (upd G a o) σ (env.set i (.dat d)) H:=by
 obtain⟨a,o,e1,e2,e3,e4⟩:=r.own i _ m e em;have rp:Rep K (upd G a o) (.ref a) d:=hrep _ a o x0_ (e3.mono (Le.upd e4));have ow:Owned σ env a:=⟨i,_,m,e,em,e1⟩;have hi:i<env.length:=(Qy.mp e).1;have ne:∀j w es,(env.set i (.dat d))[j]? =some w->w.mut=some es->j≠i/\env[j]? =some w:=fun j w es q1 q2=>by
  by_cases hj:j=i
  ·subst hj;rw[Yz hi]at q1;cases q1;cases q2
  ·rw[Ql (Zh hj)]at q1;exact⟨hj,q1⟩
 refine⟨a,o,e1,rp,⟨⟨fun b u q=>?_,by rw[Za];exact r.len,fun j d q=>?_,fun j w es q1 q2=>?_,fun j k w w' es fs b q1 q2 q3 q4 q5 q6=>?_,fun j w b q1 qo q2=>?_,r.old,r.tabs,a7k r.gnt e3.nt⟩,Le.upd e4,fun b o _ _ q=>q,fun b q=>q,fun b q n g=>?_,fun b z=>?_,fun j w q qp=>?_,rfl⟩⟩
 ·by_cases hb:b=a
  ·subst hb;rw[x0_]at q;cases q;exact e2
  ·rw[v0_ hb]at q;exact r.sub b u q
 ·by_cases hj:j=i
  ·subst hj;rw[Yz hi]at q;cases q;exact⟨_,e1,rp⟩
  ·rw[Ql (Zh hj)]at q
   obtain⟨x,q1,q2⟩:=r.dat j d q;exact⟨x,q1,Rep.mono (Le.upd e4) d q2⟩
 ·obtain⟨hj,q⟩:=ne j w es q1 q2
  obtain⟨p,ys,e3',e4',e5',e6'⟩:=r.own j w es q q2;have hp:p≠a:=fun z=>hj (r.inj j i w _ es m a q q2 e em (by rw[e3',z]) e1)
  exact⟨p,ys,e3',e4',e5'.mono (Le.upd e4),by rw[v0_ hp];exact e6'⟩
 ·exact r.inj j k w w' es fs b (ne j w es q1 q2).2 q2 (ne k w' fs q3 q4).2 q4 q5 q6
 ·obtain⟨es,hm⟩:=own_mut qo
  exact r.fresh j w b (ne j _ es q1 hm).2 qo q2
 ·have hb:b≠a:=fun z=>n (z ▸ ow)
  rw[v0_ hb];exact g
 ·obtain⟨j,w,es,q1,q2,q3⟩:=z
  exact .inl ⟨j,w,es,(ne j w es q1 q2).2,q2,q3⟩
 ·obtain⟨es,hm⟩:=par_mut qp
  exact⟨rfl,w,(ne j _ es q hm).2,qp⟩
theorem Rel.frzSlot(r:Rel K B G σ env H)(e:env[i]? =some (.own ds)):
  ∃a o,σ[i]? =some (some (.ref a))/\Rep K (upd G a o) (.ref a) (.lst ds)/\Ev K B G σ env H (upd G a o) σ (env.set i (.dat (.lst ds))) H:=
 r.frzSlotM (m:=.l ds) e rfl fun G1 a o h ⟨xs,z,q⟩=>by subst z;exact b0I h q
theorem Rel.frzSlotD{ks:OI}(r:Rel K B G σ env H)(e:env[i]? =some (.ownD ks vs)):
  ∃a o,σ[i]? =some (some (.ref a))/\Rep K (upd G a o) (.ref a) (.dct ks vs)/\Ev K B G σ env H (upd G a o) σ (env.set i (.dat (.dct ks vs))) H:=
 r.frzSlotM (m:=.d ks vs) e rfl fun G1 a o h ⟨kvs,z,q1,q2⟩=>by subst z;simp only[Rep];exact⟨a,kvs,rfl,h,q1,q2⟩
theorem Rel.frzSlotX(r:Rel K B G σ env H)(e:env[i]? =some (.ownX ks vs)):
  ∃a o,σ[i]? =some (some (.ref a))/\Rep K (upd G a o) (.ref a) (.dcx ks vs)/\Ev K B G σ env H (upd G a o) σ (env.set i (.dat (.dcx ks vs))) H:=
 r.frzSlotM (m:=.x ks vs) e rfl fun G1 a o h ⟨es,ep,xs,z,q1,q2,q3⟩=>by subst z;simp only[Rep];exact⟨a,es,ep,xs,rfl,h,q1,q2,q3⟩
end
def z0_(i:Nat):Mo D:=fun env=>match env[i]? with
 |some (.dat d)=>some (d,env)
 |some (.own ds)=>some (.lst ds,env.set i (.dat (.lst ds)))
 |some (.ownD ks vs)=>some (.dct ks vs,env.set i (.dat (.dct ks vs)))
 |some (.ownX ks vs)=>some (.dcx ks vs,env.set i (.dat (.dcx ks vs)))
 |_=>none
def mC(d:D):Mo D:=fun env=>some (d,env)
theorem z2_(h:PE X (.Name x pos) (a0Z i)):ED X B (.Name x pos) (z0_ i):=by
 refine pe_imp h fun σ H Q q=>?_
 obtain⟨G,env,d,env',r,e,k⟩:=q;unfold z0_ at e;split at e
 ·rename_i d' e1
  cases e;obtain⟨v,e2,e3⟩:=r.dat i _ e1;exact⟨v,e2,k v G H (.refl r) e3⟩
 ·rename_i ds e1
  cases e;obtain⟨a,xs,e2,e3,e4⟩:=r.frzSlot e1;exact⟨_,e2,k _ _ H e4 e3⟩
 ·rename_i ks vs e1
  cases e;obtain⟨a,xs,e2,e3,e4⟩:=r.frzSlotD e1;exact⟨_,e2,k _ _ H e4 e3⟩
 ·rename_i ks vs e1
  cases e;obtain⟨a,xs,e2,e3,e4⟩:=r.frzSlotX e1;exact⟨_,e2,k _ _ H e4 e3⟩
 ·cases e
theorem a4l(h:PE X e (tC v))(hd:∀K G,Rep K G v d):ED X B e (mC d):=by
 refine pe_imp h fun σ H Q q=>?_
 obtain⟨G,env,d',env',r,e,k⟩:=q;cases e;exact k v G H (.refl r) (hd _ _)
theorem q0_{i:Int}:ED X B (.Constant (.int i) j pos) (mC (.int i)):=a4l a9W fun _ _=>by simp only[Rep]
theorem k5_{b:Bool}:ED X B (.Constant (.bool b) j pos) (mC (.bl b)):=a4l b4y fun _ _=>by simp only[Rep]
theorem a1V:ED X B (.Constant .none j pos) (mC .non):=a4l a9X fun _ _=>by simp only[Rep]
theorem j3_(hx:x.length≤1000):ED X B (.Constant (.str x) j pos) (mC (.str x)):=a4l b4z fun _ _=>by simp only[Rep];exact⟨trivial,Up (a5s hx)⟩
theorem b6h{i:Int}{t:Tok}(hg:Gl X x)(hm:X.mg x=some (.int i t))(hd:(x==("__debug__":Str))=false:=by decide):ED X B (.Name x pos) (mC (.int i)):=
 a4l (a9Y (v:=.int i) hg hm ⟨t,rfl⟩ hd) fun _ _=>by simp only[Rep]
def z5_(f:D->D->Option D)(ma mb:Mo D):Mo D:=fun env=>(ma env).bind fun p=>(mb p.2).bind fun q=>(f p.1 q.1).map fun d=>(d,q.2)
def OpD(X:Cx)(B:OA)(r:R2)(f:D->D->Option D):Prop:=
 ∀(G:Hp) (σ:St) (env:Env') (H:Hp) (x y:V) (a b c:D) (Q:VK),Rel X.K B G σ env H->Rep X.K G x a->Rep X.K G y b->f a b=some c->
  (∀v G' H',Ev X.K B G σ env H G' σ env H'->Rep X.K G' v c->Q v H')->r x y H Q
theorem a5x{f:D->D->Option D}(o:OpD X B r f):∀σ H Q,TD X.K B (z5_ f ma mb) σ H Q->tOp r (TD X.K B ma) (TD X.K B mb) σ H Q:=by
 rintro σ H Q ⟨G,env,d,env',rl,e,k⟩;unfold z5_ at e;cases ea:ma env with
 |none=>rw[ea]at e;cases e
 |some p=>
  obtain⟨d1,env1⟩:=p;rw[ea]at e;simp only[Qk]at e;cases eb:mb env1 with
  |none=>rw[eb]at e;cases e
  |some p=>
   obtain⟨d2,env2⟩:=p;rw[eb]at e;simp only[Qk]at e;cases ef:f d1 d2 with
   |none=>rw[ef]at e;cases e
   |some c=>
    rw[ef]at e;cases e;refine⟨G,env,d1,env1,rl,ea,fun v1 G1 H1 v r1=>⟨G1,env1,d2,_,v.rel,eb,fun v2 G2 H2 v' r2=>?_⟩⟩
    exact o G2 σ _ H2 v1 v2 d1 d2 _ Q v'.rel (Rep.mono v'.same _ r1) r2 ef fun v3 G3 H3 v3' r3=>k v3 G3 H3 ((v.trans v').trans v3') r3
theorem v9_{op:Operator}{f:D->D->Option D}{a:Expr}(ho:OpR X (binaryOp op) r)(o:OpD X B r f)(ha:ED X B a ma)(hb:ED X B b mb):ED X B (.BinOp a op b pos) (z5_ f ma mb):=
 pe_imp (b0f ho ha hb) (a5x o)
theorem a2W{f:D->D->Option D}{a:Expr}(ho:OpR X (compareOp op) r)(o:OpD X B r f)(ha:ED X B a ma)(hb:ED X B b mb)(hm:behindInMarks op b=false):ED X B (.Compare a [op] [b] pos) (z5_ f ma mb):=
 pe_imp (b5C ho ha hb hm) (a5x o)
def fI(C:Int->Int->Bool)(g:Int->Int->D):D->D->Option D
 |.int i,.int j=>if C i j then some (g i j)else none
 |_,_=>none
theorem a5y{C:Int->Int->Prop}{c:Int->Int->Bool}{g:Int->Int->V}(hc:∀i j,c i j=true->C i j)(hg:∀K G i j,Rep K G (g i j) (g' i j)):OpD X B (rI C g) (fI c g'):=by
 intro G σ env H x y a b d Q rl ra rb e k;cases a<;>cases b<;>first|(exact absurd (show(none:Option D)=some d from e) (by simp))|skip
 rename_i i j;simp only[Rep]at ra rb;subst ra rb;simp only[fI]at e;split at e
 ·rename_i h
  cases e;exact⟨i,j,rfl,rfl,hc i j h,k _ G H (.refl rl) (hg _ _ i j)⟩
 ·cases e
theorem a4m{g:Int->Int->V}(hg:∀K G i j,Rep K G (g i j) (g' i j)):OpD X B (rI0 g) (fI (fun _ _=>true) g'):=by
 intro G σ env H x y a b d Q rl ra rb e k;cases a<;>cases b<;>first|(exact absurd (show(none:Option D)=some d from e) (by simp))|skip
 rename_i i j;simp only[Rep]at ra rb;subst ra rb;simp only[fI,Yw]at e;cases e;exact⟨i,j,rfl,rfl,k _ G H (.refl rl) (hg _ _ i j)⟩
theorem OpR.or{f:Value->Value->Sem Value}(h:OpR X f r)(h':OpR X f r'):OpR X f (fun x y H Q=>r x y H Q∨r' x y H Q):=by
 intro pins s σ H x y v u Q I rx ry q
 rcases q with q|q
 ·exact h pins s σ H x y v u Q I rx ry q
 ·exact h' pins s σ H x y v u Q I rx ry q
def fOr(f g:D->D->Option D):D->D->Option D:=fun a b=>match f a b with
 |some c=>some c
 |none=>g a b
theorem OpD.or{f g:D->D->Option D}(h:OpD X B r f)(h':OpD X B r' g):OpD X B (fun x y H Q=>r x y H Q∨r' x y H Q) (fOr f g):=by
 intro G σ env H x y a b d Q rl ra rb e k;unfold fOr at e;split at e
 ·rename_i c ec
  cases e;exact .inl (h G σ env H x y a b _ Q rl ra rb ec k)
 ·exact .inr (h' G σ env H x y a b d Q rl ra rb e k)
def a2X(i j:Int):Bool:=(decide (-(2^64)<i)&&decide (i<2^64))||(decide (-(2^64)<j)&&decide (j<2^64))
def a5z(_ j:Int):Bool:=decide (0<j)&&decide (j<1073741824)
def a5A(i j:Int):Bool:=decide (0≤j)&&decide (j≤1000000)&&decide (i.natAbs<2^64)
def a1g:=fI (fun _ _=>true) fun i j=>.int (i-j)
def a7l:=fI a2X fun i j=>.int (i * j)
def a4n:=fI a5z fun i j=>.int (i/j)
def g8_:=fI (fun _ j=>decide (0<j)) fun i j=>.int (i%j)
def a0J:=fI a5A fun i j=>.int (i^j.toNat)
def a5B:=fI (fun _ _=>true) fun i j=>.int (i+j)
def dLt:=fI (fun _ _=>true) fun i j=>.bl (decide (i<j))
def dLe:=fI (fun _ _=>true) fun i j=>.bl (decide (i≤j))
def dGe:=fI (fun _ _=>true) fun i j=>.bl (decide (j≤i))
theorem b6i:OpD X B (rI0 fun i j=>.int (i-j)) a1g:=a4m fun _ _ _ _=>by simp only[Rep]
theorem b0J:OpD X B (rI0 fun i j=>.int (i+j)) a5B:=a4m fun _ _ _ _=>by simp only[Rep]
theorem b6j:OpD X B (rI a2S fun i j=>.int (i * j)) a7l:=a5y (fun i j h=>by simpa [a2S,a2X]using h) fun _ _ _ _=>by simp only[Rep]
theorem b6k:OpD X B (rI a6X fun i j=>.int (i/j)) a4n:=a5y (fun i j h=>by simpa [a6X,a5z]using h) fun _ _ _ _=>by simp only[Rep]
theorem b6l:OpD X B (rI (fun _ j=>0<j) fun i j=>.int (i%j)) g8_:=a5y (fun i j h=>by simpa using h) fun _ _ _ _=>by simp only[Rep]
theorem b6m:OpD X B (rI a6Y fun i j=>.int (i^j.toNat)) a0J:=a5y (fun i j h=>by simpa [a6Y,a5A,and_assoc]using h) fun _ _ _ _=>by simp only[Rep]
theorem b6n:OpD X B (rI0 fun i j=>.bl (decide (i<j))) dLt:=a4m fun _ _ _ _=>by simp only[Rep]
theorem b6o:OpD X B (rI0 fun i j=>.bl (decide (i≤j))) dLe:=a4m fun _ _ _ _=>by simp only[Rep]
theorem b6p:OpD X B (rI0 fun i j=>.bl (decide (j≤i))) dGe:=a4m fun _ _ _ _=>by simp only[Rep]
section
variable{a:Expr}{ta tb:Mo Bool}
theorem TD.bind{K:Qz}{m:Mo D}(r:Rel K B G σ env H)(e:m env=some (d,env'))
  (k:∀v G' H',Ev K B G σ env H G' σ env' H'->Rep K G' v d->Q v H'):TD K B m σ H Q:=⟨G,env,d,env',r,e,k⟩
def asB:D×Env'->Option (Bool×Env')
 |(.bl b,e)=>some (b,e)
 |_=>none
def mT(m:Mo D):Mo Bool:=fun env=>(m env).bind asB
theorem a7m{t:TE}{m:Mo D}(i:∀σ H Q,TD X.K B m σ H Q->t σ H Q)(mono:True):∀σ H Q,TTm X.K B (mT m) σ H Q->(fun σ H (Q:Bool->Hp->Prop)=>t σ H fun x H'=>∃k,x=.bl k/\Q k H') σ H Q:=by
 rintro σ H Q ⟨G,env,b,env',rl,e,k⟩;unfold mT at e;cases em:m env with
 |none=>rw[em]at e;cases e
 |some p=>
  obtain⟨d,env1⟩:=p;rw[em]at e;simp only[Qk]at e;cases d<;>first|(exact absurd (show(none:Option (Bool×Env'))=some (b,env')from e) (by simp))|skip
  cases e;refine i σ H _ (.bind rl em fun v G' H' ev r=>?_)
  simp only[Rep]at r;exact⟨_,r,k G' H' ev⟩
theorem j4_(h:ED X B e ma)(he:∀whole,isTrue e X.env whole=(do let v←whole;standAt e.pos;holding [v] (truthy v)):=by intro _;rfl):ET X B e (mT ma):=
 pt_imp (b4A h he) (a7m (fun _ _ _ q=>q) trivial)
theorem j5_{f:D->D->Option D}(ho:OpR X (compareOp op) r)(o:OpD X B r f)(ha:ED X B a ma)(hb:ED X B b mb)(hm:behindInMarks op b=false):ET X B (.Compare a [op] [b] pos) (mT (z5_ f ma mb)):=
 pt_imp (b5D ho ha hb hm) (a7m (a5x o) trivial)
def y5_(t:Mo Bool):Mo Bool:=fun env=>(t env).map fun p=>(!p.1,p.2)
theorem j6_(h:ET X B a ta):ET X B (.UnaryOp .Not a pos) (y5_ ta):=by
 refine pt_imp (b4G h) ?_
 rintro σ H Q ⟨G,env,b,env',rl,e,k⟩;unfold y5_ at e;cases em:ta env with
 |none=>rw[em]at e;cases e
 |some p=>rw[em]at e;cases e;exact⟨G,env,_,_,rl,em,k⟩
def a4o(t u:Mo Bool):Mo Bool:=fun env=>(t env).bind fun p=>if p.1 then u p.2 else some (false,p.2)
def w6_(t u:Mo Bool):Mo Bool:=fun env=>(t env).bind fun p=>if p.1 then some (true,p.2)else u p.2
theorem b6q:∀σ H Q,TTm X.K B (a4o ta tb) σ H Q->a9Z (TTm X.K B ta) (TTm X.K B tb) σ H Q:=by
 rintro σ H Q ⟨G,env,b,env',rl,e,k⟩;unfold a4o at e;cases em:ta env with
 |none=>rw[em]at e;cases e
 |some p=>
  obtain⟨b1,env1⟩:=p;rw[em]at e;simp only[Qk]at e;refine⟨G,env,b1,env1,rl,em,fun G1 H1 ev=>?_⟩
  cases b1 with
  |true=>
   simp only[Yw]at e ⊢;exact⟨G1,env1,b,env',ev.rel,e,fun G2 H2 ev2=>k G2 H2 (ev.trans ev2)⟩
  |false=>
   simp only[Qs,Zc]at e ⊢;cases e;exact k G1 H1 ev
theorem b6r:∀σ H Q,TTm X.K B (w6_ ta tb) σ H Q->tOr (TTm X.K B ta) (TTm X.K B tb) σ H Q:=by
 rintro σ H Q ⟨G,env,b,env',rl,e,k⟩;unfold w6_ at e;cases em:ta env with
 |none=>rw[em]at e;cases e
 |some p=>
  obtain⟨b1,env1⟩:=p;rw[em]at e;simp only[Qk]at e;refine⟨G,env,b1,env1,rl,em,fun G1 H1 ev=>?_⟩
  cases b1 with
  |false=>
   simp only[Qs,Zc]at e ⊢;exact⟨G1,env1,b,env',ev.rel,e,fun G2 H2 ev2=>k G2 H2 (ev.trans ev2)⟩
  |true=>
   simp only[Yw]at e ⊢;cases e;exact k G1 H1 ev
abbrev EW(X:Cx)(B:OA)(e:Expr)(m:Mo Bool):Prop:=PW X e (TTm X.K B m)
variable{rest:List Expr}
theorem a7n(h:ET X B a ta):EW X B (.BoolOp .And [a] pos) ta:=b4C h
theorem a1w(h:ET X B a ta):EW X B (.BoolOp .Or [a] pos) ta:=b4D h
theorem a7o(h:ET X B a ta)(h2:EW X B (.BoolOp .And (b::rest) pos) tb):EW X B (.BoolOp .And (a::b::rest) pos) (a4o ta tb):=pw_imp (b4E h h2) b6q
theorem a1x(h:ET X B a ta)(h2:EW X B (.BoolOp .Or (b::rest) pos) tb):EW X B (.BoolOp .Or (a::b::rest) pos) (w6_ ta tb):=pw_imp (b4F h h2) b6r
theorem a1a(h:EW X B e ta):ET X B e ta:=h.pt
def a0h(m n:Mo D):Mo D:=fun env=>(m env).bind fun p=>match p.1 with
 |.bl true=>n p.2
 |.bl false=>some (.bl false,p.2)
 |_=>none
theorem a2q{op}(h:ED X B a ma):ED X B (.BoolOp op [a] pos) ma:=b4J h
theorem a2r(ha:ED X B a ma)(hb:ED X B (.BoolOp .And (b::rest) pos) mb):ED X B (.BoolOp .And (a::b::rest) pos) (a0h ma mb):=by
 refine pe_imp (b4K ha hb) ?_
 rintro σ H Q ⟨G,env,d,env',rl,e,k⟩;unfold a0h at e;cases em:ma env with
 |none=>rw[em]at e;cases e
 |some p=>
  obtain⟨d1,env1⟩:=p;rw[em]at e;simp only[Qk]at e;refine .bind rl em fun v G1 H1 ev r1=>?_
  split at e
  ·simp only[Rep]at r1
   exact⟨true,r1,by simp only[Yw];exact .bind ev.rel e fun v2 G2 H2 ev2 r2=>k v2 G2 H2 (ev.trans ev2) r2⟩
  ·simp only[Rep]at r1
   cases e;exact⟨false,r1,by simp only[Qs,Zc];exact k _ G1 H1 ev (by simp only[Rep])⟩
  ·cases e
def a5C(m:Mo D):Mo D:=fun env=>(m env).bind fun p=>match p.1 with
 |.bl b=>some (.bl (!b),p.2)
 |_=>none
theorem a7p(ha:ED X B a ma):ED X B (.UnaryOp .Not a pos) (a5C ma):=by
 refine pe_imp (b4L ha) ?_
 rintro σ H Q ⟨G,env,d,env',rl,e,k⟩;unfold a5C at e;cases em:ma env with
 |none=>rw[em]at e;cases e
 |some p=>
  obtain⟨d1,env1⟩:=p;rw[em]at e;simp only[Qk]at e;refine .bind rl em fun v G1 H1 ev r1=>?_
  split at e
  ·rename_i b1
   simp only[Rep]at r1;cases e;exact⟨b1,r1,k _ G1 H1 ev (by simp only[Rep])⟩
  ·cases e
def j8_(m:Mo D):Mo D:=fun env=>(m env).bind fun p=>match p.1 with
 |.int b=>some (.int (-b),p.2)
 |_=>none
theorem a1W(ha:ED X B a ma):ED X B (.UnaryOp .USub a pos) (j8_ ma):=by
 refine pe_imp (b0g b0h ha) ?_
 rintro σ H Q ⟨G,env,d,env',rl,e,k⟩;unfold j8_ at e;cases em:ma env with
 |none=>rw[em]at e;cases e
 |some p=>
  obtain⟨d1,env1⟩:=p;rw[em]at e;simp only[Qk]at e;refine .bind rl em fun v G1 H1 ev r1=>?_
  split at e
  ·rename_i b1
   simp only[Rep]at r1;cases e;exact⟨b1,r1,k _ G1 H1 ev (by simp only[Rep])⟩
  ·cases e
def a0K(f g:D->D->Option D)(ma mb mc:Mo D):Mo D:=fun env=>(ma env).bind fun p=>(mb p.2).bind fun q=>match f p.1 q.1 with
 |some (.bl true)=>(mc q.2).bind fun r=>(g q.1 r.1).map fun d=>(d,r.2)
 |some (.bl false)=>some (.bl false,q.2)
 |_=>none
theorem b0K{f g:D->D->Option D}(o:OpD X B r f)(o':OpD X B r' g):∀σ H Q,TD X.K B (a0K f g ma mb mc) σ H Q->a6Z r r' (TD X.K B ma) (TD X.K B mb) (TD X.K B mc) σ H Q:=by
 rintro σ H Q ⟨G,env,d,env',rl,e,k⟩;unfold a0K at e;cases ea:ma env with
 |none=>rw[ea]at e;cases e
 |some p=>
  obtain⟨d1,env1⟩:=p;rw[ea]at e;simp only[Qk]at e;cases eb:mb env1 with
  |none=>rw[eb]at e;cases e
  |some p=>
   obtain⟨d2,env2⟩:=p;rw[eb]at e;simp only[Qk]at e;refine .bind rl ea fun v1 G1 H1 ev1 r1=>.bind ev1.rel eb fun v2 G2 H2 ev2 r2=>?_
   split at e
   ·rename_i ef
    refine o G2 σ _ H2 v1 v2 d1 d2 _ _ ev2.rel (Rep.mono ev2.same _ r1) r2 ef fun v3 G3 H3 ev3 r3=>?_
    simp only[Rep]at r3;refine⟨true,r3,?_⟩;simp only[Yw];cases ec:mc env2 with
    |none=>rw[ec]at e;cases e
    |some p=>
     obtain⟨d3,env3⟩:=p;rw[ec]at e;simp only[Qk]at e;cases eg:g d2 d3 with
     |none=>rw[eg]at e;cases e
     |some d4=>
      rw[eg]at e;cases e;refine .bind ev3.rel ec fun v4 G4 H4 ev4 r4=>?_
      exact o' G4 σ _ H4 v2 v4 d2 d3 _ Q ev4.rel (Rep.mono ev4.same _ (Rep.mono ev3.same _ r2)) r4 eg fun v5 G5 H5 ev5 r5=>k v5 G5 H5 ((((ev1.trans ev2).trans ev3).trans ev4).trans ev5) r5
   ·rename_i ef
    cases e;refine o G2 σ _ H2 v1 v2 d1 d2 _ _ ev2.rel (Rep.mono ev2.same _ r1) r2 ef fun v3 G3 H3 ev3 r3=>?_
    simp only[Rep]at r3;refine⟨false,r3,?_⟩;simp only[Qs,Zc];exact k _ G3 H3 ((ev1.trans ev2).trans ev3) (by simp only[Rep])
   ·cases e
theorem a7q{f g:D->D->Option D}(ho:OpR X (compareOp op) r)(ho':OpR X (compareOp op') r')(o:OpD X B r f)(o':OpD X B r' g)(ha:ED X B a ma)(hb:ED X B b mb)(hc:ED X B c mc)
  (hm:lastMarks [op,op'] [b,c]=false:=by with_unfolding_all rfl):ED X B (.Compare a [op,op'] [b,c] pos) (a0K f g ma mb mc):=pe_imp (b5E ho ho' ha hb hc hm) (b0K o o')
theorem a7r{f g:D->D->Option D}(ho:OpR X (compareOp op) r)(ho':OpR X (compareOp op') r')(o:OpD X B r f)(o':OpD X B r' g)(ha:ED X B a ma)(hb:ED X B b mb)(hc:ED X B c mc)
  (hm:lastMarks [op,op'] [b,c]=false:=by with_unfolding_all rfl):ET X B (.Compare a [op,op'] [b,c] pos) (mT (a0K f g ma mb mc)):=pt_imp (b5F ho ho' ha hb hc hm) (a7m (b0K o o') trivial)
def z3_:Mo (List D):=fun env=>some ([],env)
def z1_(m:Mo D)(ms:Mo (List D)):Mo (List D):=fun env=>(m env).bind fun p=>(ms p.2).map fun q=>(p.1::q.1,q.2)
theorem z7_:EDs X B [] z3_:=by
 refine pa_imp a1u ?_
 rintro σ H Q ⟨G,env,d,env',rl,e,k⟩;cases e;exact k [] G H (.refl rl) repL_nil
theorem z4_(ha:ED X B e ma)(hr:EDs X B es ms)(hs:starEach (e::es) X.env=(false,eval e X.env)::starEach es X.env:=by rfl):EDs X B (e::es) (z1_ ma ms):=by
 refine pa_imp (a0e ha hr hs) ?_
 rintro σ H Q ⟨G,env,d,env',rl,e,k⟩;unfold z1_ at e;cases ea:ma env with
 |none=>rw[ea]at e;cases e
 |some p=>
  obtain⟨d1,env1⟩:=p;rw[ea]at e;simp only[Qk]at e;cases eb:ms env1 with
  |none=>rw[eb]at e;cases e
  |some p=>
   obtain⟨d2,env2⟩:=p;rw[eb]at e;cases e;exact .bind rl ea fun v1 G1 H1 ev1 r1=>⟨G1,env1,d2,_,ev1.rel,eb,fun vs G2 H2 ev2 r2=>k _ G2 H2 (ev1.trans ev2) (repL_cons (Rep.mono ev2.same _ r1) r2)⟩
def z8_:Mo (List Ar):=fun env=>some ([],env)
def z6_(m:Mo D)(ms:Mo (List Ar)):Mo (List Ar):=fun env=>(m env).bind fun p=>(ms p.2).map fun q=>(.d p.1::q.1,q.2)
def x6_(i:Nat)(ms:Mo (List Ar)):Mo (List Ar):=fun env=>((env[i]?).bind W.mut).bind fun _=>(ms env).map fun q=>(.sl i::q.1,q.2)
theorem v1_:EAr X B [] z8_:=by
 refine pa_imp a1u ?_
 rintro σ H Q ⟨G,env,d,env',rl,e,k⟩;cases e;exact k [] G H (.refl rl) (by simp only[RepA])
theorem q2_(ha:ED X B e ma)(hr:EAr X B es as)(hs:starEach (e::es) X.env=(false,eval e X.env)::starEach es X.env:=by rfl):EAr X B (e::es) (z6_ ma as):=by
 refine pa_imp (a0e ha hr hs) ?_
 rintro σ H Q ⟨G,env,d,env',rl,e,k⟩;unfold z6_ at e;cases ea:ma env with
 |none=>rw[ea]at e;cases e
 |some p=>
  obtain⟨d1,env1⟩:=p;rw[ea]at e;simp only[Qk]at e;cases eb:as env1 with
  |none=>rw[eb]at e;cases e
  |some p=>
   obtain⟨d2,env2⟩:=p;rw[eb]at e;cases e;exact .bind rl ea fun v1 G1 H1 ev1 r1=>⟨G1,env1,d2,_,ev1.rel,eb,fun vs G2 H2 ev2 r2=>k _ G2 H2 (ev1.trans ev2) (by simp only[RepA];exact⟨_,_,rfl,Rep.mono ev2.same _ r1,r2⟩)⟩
theorem a0r{p:Pos}(ha:PE X (.Name x p) (a0Z i))(hr:EAr X B es as)(hs:starEach (.Name x p::es) X.env=(false,eval (.Name x p) X.env)::starEach es X.env:=by rfl):EAr X B (.Name x p::es) (x6_ i as):=by
 refine pa_imp (a0e ha hr hs) ?_
 rintro σ H Q ⟨G,env,d,env',rl,e,k⟩;unfold x6_ at e;cases ew:env[i]? with
 |none=>rw[ew]at e;cases e
 |some w=>
  rw[ew]at e;simp only[Qk]at e;cases em:w.mut with
  |none=>rw[em]at e;cases e
  |some ds=>
   rw[em]at e;simp only[Qk]at e;cases eb:as env with
   |none=>rw[eb]at e;cases e
   |some p=>
    obtain⟨d2,env2⟩:=p;rw[eb]at e;cases e;obtain⟨a',xs,hv,_⟩:=rl.own i w ds ew em;exact⟨_,hv,G,env,d2,_,rl,eb,fun vs G2 H2 ev2 r2=>k _ G2 H2 ev2 (by simp only[RepA];exact⟨_,_,rfl,hv,r2⟩)⟩
end
section
variable{a:Expr}
theorem q4_{o:Option α}{f:α->Option β}{y:β}(h:o.bind f=some y):∃x,o=some x/\f x=some y:=by
 cases o with
 |none=>cases h
 |some x=>exact⟨x,rfl,h⟩
theorem x2_{o:Option α}{f:α->β}{y:β}(h:o.map f=some y):∃x,o=some x/\f x=y:=by
 cases o with
 |none=>cases h
 |some x=>exact⟨x,rfl,Zs h⟩
def q5_(ms:Mo (List D)):Mo D:=fun env=>(ms env).bind fun p=>if p.1.length≤1000 then some (.tup p.1,p.2)else none
theorem y2_{x1:Nat}(h:EDs X B es ms):ED X B (.Tuple es x1 pos) (q5_ ms):=by
 refine pe_imp (b0n h) ?_
 rintro σ H Q ⟨G,env,d,env',rl,e,k⟩;obtain⟨⟨ds,env1⟩,e1,e2⟩:=q4_ e;dsimp only at e2;split at e2
 ·rename_i hl
  cases e2;refine⟨G,env,ds,_,rl,e1,fun vs G1 H1 ev r1=>⟨by rw[r1.length];exact Up (a5s hl),fun p hp=>?_⟩⟩
  exact k _ _ _ (ev.trans (ev.rel.alloc hp)) (a2V x0_ (z9_.mono (Le.upd (ev.rel.gnone hp)) _ r1))
 ·cases e2
def x3_(ms:Mo (List D)):Mo (List D):=fun env=>(ms env).bind fun p=>if p.1.length≤1000 then some p else none
theorem a5D{K:Qz}(ev:Ev K B G σ env H G1 σ env1 H1)(hp:H1 p=none)(r:z9_ K G1 xs ds)
  (k:∀a xs G' H',Ev K B G σ env H G' σ env1 H'->H a=none-> ¬ Owned σ env1 a->H' a=some (.lst xs)->G' a=none->z9_ K G' xs ds->Q (.ref a) H'):Q (.ref p) (upd H1 p (.lst xs)):=by
 refine k p xs G1 _ (ev.trans (ev.rel.allocM hp)) ?_ (ev.rel.unowned hp) x0_ (ev.rel.gnone hp) r;cases h:H p with
 |none=>rfl
 |some o=>exact absurd hp (ev.live p (by rw[h];simp))
theorem w9_(h:EDs X B es ms):EL X B (.List es pos) (x3_ ms):=by
 refine pe_imp (b5J h) ?_
 rintro σ H Q ⟨G,env,d,env',rl,e,k⟩;obtain⟨⟨ds,env1⟩,e1,e2⟩:=q4_ e;dsimp only at e2;split at e2
 ·rename_i hl
  cases e2;exact⟨G,env,_,_,rl,e1,fun vs G1 H1 ev r1=>⟨by rw[r1.length];exact Up (a5s hl),fun p hp=>a5D ev hp r1 k⟩⟩
 ·cases e2
def mF(m:Mo (List D)):Mo D:=fun env=>(m env).map fun p=>(.lst p.1,p.2)
theorem y6_(h:EL X B e ms):ED X B e (mF ms):=by
 refine pe_imp h ?_
 rintro σ H Q ⟨G,env,d,env',rl,e,k⟩;obtain⟨⟨ds,env1⟩,e1,e2⟩:=x2_ e;cases e2;exact⟨G,env,ds,_,rl,e1,fun a xs G' H' ev ha no h' g' r=>k (.ref a) _ H' (ev.frz ha no h' g') (b0I x0_ (z9_.mono (Le.upd g') ds r))⟩
theorem a7s{K:Qz}{k:Int}(r:z9_ K G xs ds)(h:atI ds k=some d):∃x,atI xs k=some x/\Rep K G x d:=by
 unfold atI at h ⊢;rw[r.length];obtain⟨j,e1,e2⟩:=q4_ h;rw[e1];exact r.get e2
def dIx:D->D->Option D
 |.lst ds,.int k=>atI ds k
 |.tup ds,.int k=>atI ds k
 |_,_=>none
theorem b6s:OpD X B (rIx X.K) dIx:=by
 intro G σ env H x y a b d Q rl ra rb e k;cases a<;>cases b<;>first|(exact absurd (show(none:Option D)=some d from e) (by simp))|skip
 ·simp only[Rep]at ra rb
  obtain⟨p,xs,e1,q,r⟩:=ra;subst e1 rb;obtain⟨v,e3,e4⟩:=a7s r e;exact .inr (.inl ⟨p,xs,_,v,rfl,rfl,rl.sub.sqT q,e3,k v G H (.refl rl) e4⟩)
 ·simp only[Rep]at ra rb
  obtain⟨p,xs,e1,q,r⟩:=ra;subst e1 rb;obtain⟨v,e3,e4⟩:=a7s r e;exact .inl ⟨p,xs,_,v,rfl,rfl,rl.sub.sqL q,e3,k v G H (.refl rl) e4⟩
theorem k6_(ha:ED X B a ma)(hb:ED X B b mb)(hs:a5o b):ED X B (.Subscript a b pos) (z5_ dIx ma mb):=pe_imp (b0w b5U ha hb hs) (a5x b6s)
def g9_(i:Nat)(mb:Mo D):Mo D:=fun env=>(mb env).bind fun p=>((p.2[i]?).bind W.mutL).bind fun ds=>(dIx (.lst ds) p.1).map fun d=>(d,p.2)
theorem a1X{p:Pos}(ha:PE X (.Name x p) (a0Z i))(hb:ED X B b mb)(hs:a5o b)(hr:∀env d env' w ds,mb env=some (d,env')->env'[i]? =some w->w.mut=some ds->∃w0 ds0,env[i]? =some w0/\w0.mut=some ds0):
  ED X B (.Subscript (.Name x p) b pos) (g9_ i mb):=by
 refine pe_imp (b0w b0A ha hb hs) ?_
 rintro σ H Q ⟨G,env,d,env',rl,e,k⟩;obtain⟨⟨d1,env1⟩,e1,e2⟩:=q4_ e;obtain⟨ds,e3,e4⟩:=q4_ e2;obtain⟨w,e5,e6⟩:=q4_ e3;obtain⟨d2,e7,e8⟩:=x2_ e4;cases e8;obtain⟨w0,ds0,e9,e10⟩:=hr env d1 _ w (.l ds) e1 e5 (W.mutL_of e6);obtain⟨q,xs,h1,_⟩:=rl.own i w0 ds0 e9 e10;refine⟨_,h1,.bind rl e1 fun v G1 H1 ev r1=>?_⟩
 obtain⟨q',ys,h2,h3,h4,h5⟩:=ev.rel.ownL i w ds e5 e6;rw[h1]at h2;cases h2;dsimp only at e7;cases d1<;>first|(exact absurd (show(none:Option D)=some _ from e7) (by simp))|skip
 simp only[Rep]at r1;obtain⟨z,h6,h7⟩:=a7s h4 e7;exact⟨q,ys,_,z,rfl,r1,.inl (.inl h3),h6,k z G1 H1 ev h7⟩
def a1h(X:Cx)(B:OA)(r:List V->Hp->VK->Prop)(f:List D->Option D):Prop:=
 ∀(G:Hp) (σ:St) (env:Env') (H:Hp) (xs:List V) (ds:List D) (c:D) (Q:VK),Rel X.K B G σ env H->z9_ X.K G xs ds->f ds=some c->
  (∀v G' H',Ev X.K B G σ env H G' σ env H'->Rep X.K G' v c->Q v H')->r xs H Q
def a7t(X:Cx)(B:OA)(r:List V->Hp->VK->Prop)(f:List D->Option (List D)):Prop:=
 ∀(G:Hp) (σ:St) (env:Env') (H:Hp) (xs:List V) (ds:List D) (c:List D) (Q:VK),Rel X.K B G σ env H->z9_ X.K G xs ds->f ds=some c->
  (∀p ys G' H',Ev X.K B G σ env H G' σ env H'->H' p=none->z9_ X.K G' ys c->Q (.ref p) (upd H' p (.lst ys)))->r xs H Q
def mCB(f:List D->Option D)(ms:Mo (List D)):Mo D:=fun env=>(ms env).bind fun p=>(f p.1).map fun d=>(d,p.2)
def mCL(f:List D->Option (List D))(ms:Mo (List D)):Mo (List D):=fun env=>(ms env).bind fun p=>(f p.1).map fun d=>(d,p.2)
theorem b0L{r:List V->Hp->VK->Prop}{f:List D->Option D}(o:a1h X B r f):∀σ H Q,TD X.K B (mCB f ms) σ H Q->tCB r (TDs X.K B ms) σ H Q:=by
 rintro σ H Q ⟨G,env,d,env',rl,e,k⟩;obtain⟨⟨ds,env1⟩,e1,e2⟩:=q4_ e;obtain⟨d1,e3,e4⟩:=x2_ e2;cases e4;exact⟨G,env,ds,_,rl,e1,fun vs G1 H1 ev r1=>o G1 σ _ H1 vs ds _ Q ev.rel r1 e3 fun v G2 H2 ev2 r2=>k v G2 H2 (ev.trans ev2) r2⟩
theorem b6t{r:List V->Hp->VK->Prop}{f:List D->Option (List D)}(o:a7t X B r f):∀σ H Q,TL X.K B (mCL f ms) σ H Q->tCB r (TDs X.K B ms) σ H Q:=by
 rintro σ H Q ⟨G,env,d,env',rl,e,k⟩;obtain⟨⟨ds,env1⟩,e1,e2⟩:=q4_ e;obtain⟨d1,e3,e4⟩:=x2_ e2;cases e4;exact⟨G,env,ds,_,rl,e1,fun vs G1 H1 ev r1=>o G1 σ _ H1 vs ds _ Q ev.rel r1 e3 fun p ys G2 H2 ev2 hp r2=>a5D (ev.trans ev2) hp r2 k⟩
variable{r:List V->Hp->VK->Prop}{f:List D->Option D}{g:List D->Option (List D)}{id:String}{p:Pos}
theorem x1_(hc:g2_ X (.builtin id) r)(o:a1h X B r f)(hg:Gl X x)(hm:X.mg x=none)(hv:bootBuiltins x=some (.builtin id))(ha:EDs X B (e::es) ms)(hn:x≠"__name__":=by decide)(hdb:(x==("__debug__":Str))=false:=by decide)
  (he:starEach (e::es) X.env=(false,eval e X.env)::starEach es X.env:=by rfl)(hpl:(backTo pos (starEach es X.env)).any (·.1)=false:=by rfl):ED X B (.Call (.Name x p) (e::es) [] pos) (mCB f ms):=
 pe_imp (a3v hc hg hm hv ha hn hdb he hpl) (b0L o)
theorem a1i(hc:g2_ X (.type T) r)(o:a1h X B r f)(hg:Gl X x)(hm:X.mg x=none)(hv:bootBuiltins x=some (.type T))(ha:EDs X B (e::es) ms)(hn:x≠"__name__":=by decide)(hdb:(x==("__debug__":Str))=false:=by decide)
  (he:starEach (e::es) X.env=(false,eval e X.env)::starEach es X.env:=by rfl)(hpl:(backTo pos (starEach es X.env)).any (·.1)=false:=by rfl):ED X B (.Call (.Name x p) (e::es) [] pos) (mCB f ms):=
 pe_imp (a7d hc hg hm hv ha hn hdb he hpl) (b0L o)
theorem a7u(hc:g2_ X (.type T) r)(o:a7t X B r g)(hg:Gl X x)(hm:X.mg x=none)(hv:bootBuiltins x=some (.type T))(ha:EDs X B (e::es) ms)(hn:x≠"__name__":=by decide)(hdb:(x==("__debug__":Str))=false:=by decide)
  (he:starEach (e::es) X.env=(false,eval e X.env)::starEach es X.env:=by rfl)(hpl:(backTo pos (starEach es X.env)).any (·.1)=false:=by rfl):EL X B (.Call (.Name x p) (e::es) [] pos) (mCL g ms):=
 pe_imp (a7d hc hg hm hv ha hn hdb he hpl) (b6t o)
theorem a0L{K:Qz}(h:z9_ K G xs [d]):∃x,xs=[x]/\Rep K G x d:=by
 simp only[z9_]at h;obtain⟨x,r,e,q,t⟩:=h;subst t;exact⟨x,e,q⟩
theorem a3x{K:Qz}{d':D}(h:z9_ K G xs [d,d']):∃x y,xs=[x,y]/\Rep K G x d/\Rep K G y d':=by
 simp only[z9_]at h;obtain⟨x,r,e,q,y,r2,e2,q2,t⟩:=h;subst t e2;exact⟨x,y,e,q,q2⟩
def D.items:D->Option (List D)
 |.lst ds=>some ds
 |.tup ds=>some ds
 |_=>none
theorem a7v{K:Qz}(l:Le G H)(r:Rep K G v d)(h:d.items=some ds):∃a xs,v=.ref a/\(SqL K H a xs∨SqT K H a xs)/\z9_ K G xs ds:=by
 cases d<;>first|(exact absurd (show(none:Option (List D))=some ds from h) (by simp))|skip
 ·cases h;simp only[Rep]at r;obtain⟨a,xs,e,q,t⟩:=r;exact⟨a,xs,e,.inr (l.sqT q),t⟩
 ·cases h;simp only[Rep]at r;obtain⟨a,xs,e,q,t⟩:=r;exact⟨a,xs,e,.inl (l.sqL q),t⟩
def v3_:List D->Option D
 |[d]=>d.items.map fun ds=>.int ds.length
 |_=>none
theorem b6u:a1h X B (fun xs H Q=>∃p ys,xs=[.ref p]/\(SqL X.K H p ys∨SqT X.K H p ys)/\Q (.int ys.length) H) v3_:=by
 intro G σ env H xs ds c Q rl r e k
 match ds,e with
 |[d],e=>
  obtain⟨x,rfl,q⟩:=a0L r;obtain⟨ds,e1,e2⟩:=x2_ e;obtain⟨a,ys,rfl,h1,h2⟩:=a7v rl.sub q e1;exact⟨a,ys,rfl,h1,k _ G H (.refl rl) (by rw[←e2,h2.length];simp only[Rep])⟩
def a0s:List D->Option D
 |[d]=>d.items.map fun ds=>.tup ds
 |_=>none
theorem b6v:a1h X B (fun xs H Q=>∃p ys,xs=[.ref p]/\((SqL X.K H p ys/\∀l,H l=none->Q (.ref l) (upd H l (.tup ys)))∨(SqT X.K H p ys/\Q (.ref p) H))) a0s:=by
 intro G σ env H xs ds c Q rl r e k
 match ds,e with
 |[d],e=>
  obtain⟨x,rfl,q⟩:=a0L r;obtain⟨ds,e1,e2⟩:=x2_ e;subst e2;cases d<;>first|(exact absurd (show(none:Option (List D))=some ds from e1) (by simp))|skip
  ·cases e1
   have q0:=q
   simp only[Rep]at q;obtain⟨a,ys,rfl,h1,h2⟩:=q;exact⟨a,ys,rfl,.inr ⟨rl.sub.sqT h1,k _ G H (.refl rl) q0⟩⟩
  ·cases e1
   simp only[Rep]at q;obtain⟨a,ys,rfl,h1,h2⟩:=q;exact⟨a,ys,rfl,.inl ⟨rl.sub.sqL h1,fun l hl=>k _ _ _ (rl.alloc hl) (a2V x0_ (z9_.mono (Le.upd (rl.gnone hl)) _ h2))⟩⟩
def a4p:List D->Option (List D)
 |[d]=>d.items
 |_=>none
theorem b6w:a7t X B (fun xs H Q=>∃p ys,xs=[.ref p]/\(SqL X.K H p ys∨SqT X.K H p ys)/\∀l,H l=none->Q (.ref l) (upd H l (.lst ys))) a4p:=by
 intro G σ env H xs ds c Q rl r e k
 match ds,e with
 |[d],e=>
  obtain⟨x,rfl,q⟩:=a0L r;obtain⟨a,ys,rfl,h1,h2⟩:=a7v rl.sub q e;exact⟨a,ys,rfl,h1,fun l hl=>k l ys G H (.refl rl) hl h2⟩
end
section
variable{K:Qz}
theorem j0_{l:List α}{a b:α}(h:(l.set i a)[j]? =some b):(j=i/\b=a)∨(j≠i/\l[j]? =some b):=by
 by_cases hj:j=i
 ·subst hj
  have hl:j<l.length:=by
   have:=(Qy.mp h).1;rwa [Za]at this
  rw[Yz hl]at h;cases h;exact .inl ⟨rfl,rfl⟩
 ·rw[Ql (Zh hj)]at h
  exact .inr ⟨hj,h⟩
theorem a3y{l:List α}{m:List β}{a b:α}{c:β}(h:(l.set i a)[i]? =some b)(hl:l.length=m.length):(m.set i c)[i]? =some c:=by
 have:=(Qy.mp h).1;rw[Za]at this;exact Yz (by omega)
theorem Ev.setDat(ev:Ev K B G σ env H G1 σ1 env1 H1)(r:Rep K G1 v d):Ev K B G σ env H G1 (σ1.set i (some v)) (env1.set i (.dat d)) H1:=by
 have rl:=ev.rel
 have ne:∀(j:Nat) (w:W) (es:Mu),(env1.set i (.dat d))[j]? =some w->w.mut=some es->j≠i/\env1[j]? =some w:=fun j w es q1 q2=>by
  rcases j0_ q1 with⟨_,z⟩|z
  ·rw[z]at q2;cases q2
  ·exact z
 refine⟨⟨rl.sub,by rw[Za,Za];exact rl.len,fun j d' q=>?_,fun j w es q1 q2=>?_,fun j k w w' es fs b q1 q2 q3 q4 q5 q6=>?_,fun j w b q1 qo q2=>?_,rl.old,rl.tabs,rl.gnt⟩,ev.same,ev.keep,ev.live,ev.stay,fun b z=>?_,fun j w q qp=>?_,by rw[Za];exact ev.slen⟩
 ·rcases j0_ q with⟨z1,z2⟩|⟨z1,z2⟩
  ·subst z1;cases z2
   exact⟨v,a3y q rl.len,r⟩
  ·obtain⟨x,q1,q2⟩:=rl.dat j d' z2
   exact⟨x,by rw[Ql (Zh z1)];exact q1,q2⟩
 ·obtain⟨hj,q⟩:=ne j w es q1 q2
  obtain⟨p,ys,e3,e4⟩:=rl.own j w es q q2;exact⟨p,ys,by rw[Ql (Zh hj)];exact e3,e4⟩
 ·obtain⟨h1,h2⟩:=ne j w es q1 q2
  obtain⟨h3,h4⟩:=ne k w' fs q3 q4;rw[Ql (Zh h1)]at q5;rw[Ql (Zh h3)]at q6;exact rl.inj j k w w' es fs b h2 q2 h4 q4 q5 q6
 ·obtain⟨es,hm⟩:=own_mut qo
  obtain⟨h1,h2⟩:=ne j _ es q1 hm;rw[Ql (Zh h1)]at q2;exact rl.fresh j w b h2 qo q2
 ·obtain⟨j,w,es,q1,q2,q3⟩:=z
  obtain⟨h1,h2⟩:=ne j w es q1 q2;rw[Ql (Zh h1)]at q3;exact ev.sub b ⟨j,w,es,h2,q2,q3⟩
 ·obtain⟨es,hm⟩:=par_mut qp
  obtain⟨h1,h2⟩:=ne j _ es q hm;obtain⟨h3,h4⟩:=ev.par j w h2 qp;exact⟨by rw[Ql (Zh h1)];exact h3,h4⟩
theorem Ev.setOwnM{wn:W}(ev:Ev K B G σ env H G1 σ1 env1 H1)(nb:¬ B a)(ha:H a=none)(no:¬ Owned σ1 env1 a)(h1:H1 a=some o)(g1:G1 a=none)(r:RepM K G1 o m)(wm:wn.mut=some m)(wo:wn.isPar=false):
  Ev K B G σ env H G1 (σ1.set i (some (.ref a))) (env1.set i wn) H1:=by
 have rl:=ev.rel
 refine⟨⟨rl.sub,by rw[Za,Za];exact rl.len,fun j d' q=>?_,fun j w es q1 q2=>?_,fun j k w w' es fs b q1 q2 q3 q4 q5 q6=>?_,fun j w b q1 qo q2=>?_,rl.old,rl.tabs,rl.gnt⟩,ev.same,ev.keep,ev.live,ev.stay,fun b z=>?_,fun j w q qp=>?_,by rw[Za];exact ev.slen⟩
 ·rcases j0_ q with⟨z1,z2⟩|⟨z1,z2⟩
  ·rw[←z2]at wm;cases wm
  ·obtain⟨x,q1,q2⟩:=rl.dat j d' z2
   exact⟨x,by rw[Ql (Zh z1)];exact q1,q2⟩
 ·rcases j0_ q1 with⟨z1,z2⟩|⟨z1,z2⟩
  ·subst z1 z2;rw[wm]at q2;cases q2
   exact⟨a,o,a3y q1 rl.len,h1,r,g1⟩
  ·obtain⟨p,ys,e3,e4⟩:=rl.own j w es z2 q2
   exact⟨p,ys,by rw[Ql (Zh z1)];exact e3,e4⟩
 ·rcases j0_ q1 with⟨z1,z2⟩|⟨z1,z2⟩
  ·rcases j0_ q3 with⟨y1,y2⟩|⟨y1,y2⟩
   ·rw[z1,y1]
   ·subst z1
    rw[a3y q1 rl.len]at q5;cases q5;rw[Ql (Zh y1)]at q6;exact absurd ⟨k,w',fs,y2,q4,q6⟩ no
  ·rw[Ql (Zh z1)]at q5
   rcases j0_ q3 with⟨y1,y2⟩|⟨y1,y2⟩
   ·subst y1
    rw[a3y q3 rl.len]at q6;cases q6;exact absurd ⟨j,w,es,z2,q2,q5⟩ no
   ·rw[Ql (Zh y1)]at q6
    exact rl.inj j k w w' es fs b z2 q2 y2 q4 q5 q6
 ·rcases j0_ q1 with⟨z1,z2⟩|⟨z1,z2⟩
  ·subst z1
   rw[a3y q1 rl.len]at q2;cases q2;exact nb
  ·rw[Ql (Zh z1)]at q2
   exact rl.fresh j w b z2 qo q2
 ·obtain⟨j,w,es,q1,q2,q3⟩:=z
  rcases j0_ q1 with⟨z1,z2⟩|⟨z1,z2⟩
  ·subst z1
   rw[a3y q1 rl.len]at q3;cases q3;exact .inr ha
  ·rw[Ql (Zh z1)]at q3
   exact ev.sub b ⟨j,w,es,z2,q2,q3⟩
 ·rcases j0_ q with⟨z1,z2⟩|⟨z1,z2⟩
  ·rw[z2,wo]at qp;cases qp
  ·obtain⟨h3,h4⟩:=ev.par j w z2 qp
   exact⟨by rw[Ql (Zh z1)];exact h3,h4⟩
theorem Ev.setOwn(ev:Ev K B G σ env H G1 σ1 env1 H1)(nb:¬ B a)(ha:H a=none)(no:¬ Owned σ1 env1 a)(h1:H1 a=some (.lst xs))(g1:G1 a=none)(r:z9_ K G1 xs ds):
  Ev K B G σ env H G1 (σ1.set i (some (.ref a))) (env1.set i (.own ds)) H1:=ev.setOwnM (m:=.l ds) nb ha no h1 g1 ⟨xs,rfl,r⟩ rfl rfl
theorem Ev.setNil(ev:Ev K B G σ env H G1 σ1 env1 H1):Ev K B G σ env H G1 σ1 (env1.set i .nil) H1:=by
 have rl:=ev.rel
 have ne:∀(j:Nat) (w:W),(env1.set i .nil)[j]? =some w->w≠.nil->j≠i/\env1[j]? =some w:=fun j w q1 q2=>by
  rcases j0_ q1 with⟨_,z⟩|z
  ·exact absurd z q2
  ·exact z
 have nm:∀(w:W) (es:Mu),w.mut=some es->w≠.nil:=fun w es h z=>by rw[z]at h;cases h
 refine⟨⟨rl.sub,by rw[Za];exact rl.len,fun j d' q=>rl.dat j d' (ne j _ q (by simp)).2,fun j w es q1 q2=>rl.own j w es (ne j w q1 (nm w es q2)).2 q2,fun j k w w' es fs b q1 q2 q3 q4 q5 q6=>rl.inj j k w w' es fs b (ne j w q1 (nm _ _ q2)).2 q2 (ne k w' q3 (nm _ _ q4)).2 q4 q5 q6,
  fun j w b q1 qo q2=>rl.fresh j w b (ne j _ q1 (by rintro rfl;cases qo)).2 qo q2,rl.old,rl.tabs,rl.gnt⟩,ev.same,ev.keep,ev.live,ev.stay,fun b z=>?_,fun j w q qp=>ev.par j w (ne j _ q (by rintro rfl;cases qp)).2 qp,ev.slen⟩
 obtain⟨j,w,es,q1,q2,q3⟩:=z;exact ev.sub b ⟨j,w,es,(ne j w q1 (nm _ _ q2)).2,q2,q3⟩
theorem Ev.writeM{o':HO}{m':Mu}(ev:Ev K B G σ env H G1 σ1 env1 H1)(e1:env1[i]? =some w)(e2:w.mut=some m)(e3:σ1[i]? =some (some (.ref a)))(r:RepM K G1 o' m'):
  Ev K B G σ env H G1 σ1 (env1.set i (w.putM m')) (upd H1 a o'):=by
 have rl:=ev.rel
 obtain⟨a',o0,h1,h2,h3,h4⟩:=rl.own i w m e1 e2;rw[e3]at h1;cases h1;have ow:Owned σ1 env1 a:=⟨i,w,m,e1,e2,e3⟩;have wp:(w.putM m').mut=some m':=W.putM_mut e2 m';have nd:∀d,w.putM m'≠.dat d:=fun d z=>by rw[z]at wp;cases wp
 have oo:Owned σ env a∨H a=none:=ev.sub a ow
 refine⟨⟨fun b u e=>?_,by rw[Za];exact rl.len,fun j d' q=>?_,fun j v es q1 q2=>?_,fun j k v v' es fs b q1 q2 q3 q4 q5 q6=>?_,fun j v b q1 qo q2=>?_,fun b hb=>?_,rl.tabs.upd r.nt (fun φ z=>by rw[h2]at z;cases z;exact h3.ne φ rfl),rl.gnt⟩,ev.same,fun b o n t e=>?_,fun b e=>?_,ev.stay,fun b z=>?_,fun j v q qp=>?_,ev.slen⟩
 ·have hb:b≠a:=fun z=>by rw[z,h4]at e;cases e
  rw[v0_ hb];exact rl.sub b u e
 ·rcases j0_ q with⟨z1,z2⟩|⟨z1,z2⟩
  ·exact absurd z2.symm (nd d')
  ·exact rl.dat j d' z2
 ·rcases j0_ q1 with⟨z1,z2⟩|⟨z1,z2⟩
  ·subst z1 z2
   rw[wp]at q2;cases q2;exact⟨a,o',e3,x0_,r,h4⟩
  ·obtain⟨p,ys,f1,f2,f3,f4⟩:=rl.own j v es z2 q2
   have hp:p≠a:=fun z=>z1 (rl.inj j i v w es m a z2 q2 e1 e2 (by rw[f1,z]) e3)
   exact⟨p,ys,f1,by rw[v0_ hp];exact f2,f3,f4⟩
 ·have g:∀(n:Nat) (v:W) (es:Mu),(env1.set i (w.putM m'))[n]? =some v->v.mut=some es->∃v0 es0,env1[n]? =some v0/\v0.mut=some es0:=fun n v es y1 y2=>by
   rcases j0_ y1 with⟨z1,z2⟩|⟨z1,z2⟩
   ·rw[z1];exact⟨w,m,e1,e2⟩
   ·exact⟨v,es,z2,y2⟩
  obtain⟨v0,es0,y1,y2⟩:=g j v es q1 q2;obtain⟨v1,es1,y3,y4⟩:=g k v' fs q3 q4;exact rl.inj j k v0 v1 es0 es1 b y1 y2 y3 y4 q5 q6
 ·rcases j0_ q1 with⟨z1,z2⟩|⟨z1,z2⟩
  ·subst z1
   exact rl.fresh j w b e1 (by rw[z2,W.putM_own e2]at qo;exact qo) q2
  ·exact rl.fresh j v b z2 qo q2
 ·by_cases h:b=a
  ·subst h;rw[x0_];simp
  ·rw[v0_ h];exact rl.old b hb
 ·have hb:b≠a:=fun z=>by
   rcases oo with q|q
   ·exact n (z ▸ q)
   ·rw[z,q]at e;cases e
  rw[v0_ hb];exact ev.keep b o n t e
 ·by_cases h:b=a
  ·subst h;rw[x0_];simp
  ·rw[v0_ h];exact ev.live b e
 ·obtain⟨j,v,es,q1,q2,q3⟩:=z
  rcases j0_ q1 with⟨z1,z2⟩|⟨z1,z2⟩
  ·rw[z1,e3]at q3;cases q3
   exact oo
  ·exact ev.sub b ⟨j,v,es,z2,q2,q3⟩
 ·rcases j0_ q with⟨z1,z2⟩|⟨z1,z2⟩
  ·subst z1
   exact ev.par j w e1 (by rw[z2,W.putM_par e2]at qp;exact qp)
  ·exact ev.par j v z2 qp
theorem Ev.write{xs':List V}{ds':List D}(ev:Ev K B G σ env H G1 σ1 env1 H1)(e1:env1[i]? =some w)(e2:w.mutL=some ds)(e3:σ1[i]? =some (some (.ref a)))(r:z9_ K G1 xs' ds'):
  Ev K B G σ env H G1 σ1 (env1.set i (w.put ds')) (upd H1 a (.lst xs')):=by
 rw[W.put_eq e2];exact ev.writeM e1 (W.mutL_of e2) e3 ⟨xs',rfl,r⟩
end
section
variable{a:Expr}{st:Stmt}{rest:List Stmt}{s1 s2:Mo Fl}
def mNx:Mo Fl:=fun env=>some (.nx,env)
def q1_(m n:Mo Fl):Mo Fl:=fun env=>(m env).bind fun p=>match p.1 with
 |.nx=>n p.2
 |fl=>some (fl,p.2)
theorem x8_:ESs X B [] mNx:=by
 refine pss_imp b4P ?_
 rintro D σ H ⟨G,env,fl,env',rl,e,k⟩;cases e;exact k σ G H (.refl rl)
theorem q6_(h1:ES X B st s1)(h2:ESs X B rest s2):ESs X B (st::rest) (q1_ s1 s2):=by
 refine pss_imp (a3t h1 h2) ?_
 rintro D σ H ⟨G,env,fl,env',rl,e,k⟩;obtain⟨⟨fl1,env1⟩,e1,e2⟩:=q4_ e;dsimp only at e2;cases fl1 with
 |nx=>
  dsimp only at e2;exact⟨G,env,.nx,env1,rl,e1,fun σ1 G1 H1 ev=>⟨G1,env1,fl,env',ev.rel,e2,Post.after _ _ k ev⟩⟩
 |bk=>cases e2;exact⟨G,env,.bk,_,rl,e1,k⟩
 |ct=>cases e2;exact⟨G,env,.ct,_,rl,e1,k⟩
 |ret d=>cases e2;exact⟨G,env,.ret d,_,rl,e1,k⟩
 |retL d=>cases e2;exact⟨G,env,.retL d,_,rl,e1,k⟩
 |retX ks vs=>cases e2;exact⟨G,env,.retX ks vs,_,rl,e1,k⟩
theorem q8_(h1:ES X B st s1):ESs X B [st] s1:=b0a h1
def v8_(t:Mo Bool)(m n:Mo Fl):Mo Fl:=fun env=>(t env).bind fun p=>if p.1 then m p.2 else n p.2
theorem x9_{s t:List Stmt}{tc:Mo Bool}(hc:ET X B c tc)(h1:ESs X B s s1)(h2:ESs X B t s2):ES X B (.If c s t pos) (v8_ tc s1 s2):=by
 refine ps_imp (b0b hc h1 h2) ?_
 rintro D σ H ⟨G,env,fl,env',rl,e,k⟩;obtain⟨⟨b1,env1⟩,e1,e2⟩:=q4_ e;dsimp only at e2;refine⟨G,env,b1,env1,rl,e1,fun G1 H1 ev=>?_⟩
 cases b1 with
 |true=>simp only[Yw]at e2 ⊢;exact⟨G1,env1,fl,env',ev.rel,e2,Post.after _ _ k ev⟩
 |false=>simp only[Qs,Zc]at e2 ⊢;exact⟨G1,env1,fl,env',ev.rel,e2,Post.after _ _ k ev⟩
def a3z:Mo Fl:=fun _=>none
theorem a3A:ES X B st a3z:=by
 refine ps_imp b4T ?_
 rintro D σ H ⟨G,env,fl,env',rl,e,k⟩;cases e
def q9_(m:Mo D):Mo Fl:=fun env=>(m env).map fun p=>(.ret p.1,p.2)
theorem y3_(h:ED X B e ma):ES X B (.Return (some e) pos) (q9_ ma):=by
 refine ps_imp (a6Q h) ?_
 rintro D σ H ⟨G,env,fl,env',rl,e,k⟩;obtain⟨⟨d,env1⟩,e1,e2⟩:=x2_ e;cases e2;exact⟨G,env,d,_,rl,e1,fun v G' H' ev r=>k v σ G' H' ev r⟩
def a2Y(m:Mo (List D)):Mo Fl:=fun env=>(m env).map fun p=>(.retL p.1,p.2)
theorem a5E(h:EL X B e ms):ES X B (.Return (some e) pos) (a2Y ms):=by
 refine ps_imp (a6Q h) ?_
 rintro D σ H ⟨G,env,fl,env',rl,e,k⟩;obtain⟨⟨d,env1⟩,e1,e2⟩:=x2_ e;cases e2;exact⟨G,env,d,_,rl,e1,fun a xs G' H' ev ha no h' g' r=>k a xs σ G' H' ev (fun z=>rl.old a z ha) no h' g' r⟩
def c3S(i:Nat):Mo Fl:=fun env=>match env[i]? with
 |some (.own ds)=>some (.retL ds,env.set i .nil)
 |_=>none
def v6_(i:Nat)(m:Mo D):Mo Fl:=fun env=>(m env).map fun p=>(.nx,p.2.set i (.dat p.1))
def u8_(i:Nat)(m:Mo (List D)):Mo Fl:=fun env=>(m env).map fun p=>(.nx,p.2.set i (.own p.1))
section
variable{pos':Pos}
theorem x4_(hN:X.N.Nodup)(hi:X.N[i]? =some x)(hx:Loc X.env.scope x)(he:ED X B e ma)(hs:swapsWith e (some (.Name x pos')) pos.line X.env=pure false:=by rfl)(hf:X.fn x=true∨X.env.scope.names.lookup x=some .local:=by first|exact .inl rfl|exact .inr rfl|assumption):
  ES X B (.Assign [.Name x pos'] e pos) (v6_ i ma):=by
 refine ps_imp (a3u hN hi hx he hs hf) ?_
 rintro D σ H ⟨G,env,fl,env',rl,e,k⟩;obtain⟨⟨d,env1⟩,e1,e2⟩:=x2_ e;cases e2;exact⟨G,env,d,_,rl,e1,fun v G' H' ev r=>k _ G' H' (ev.setDat r)⟩
theorem a2s(hN:X.N.Nodup)(hi:X.N[i]? =some x)(hx:Loc X.env.scope x)(he:EL X B e ms)(hs:swapsWith e (some (.Name x pos')) pos.line X.env=pure false:=by rfl)(hf:X.fn x=true∨X.env.scope.names.lookup x=some .local:=by first|exact .inl rfl|exact .inr rfl|assumption):
  ES X B (.Assign [.Name x pos'] e pos) (u8_ i ms):=by
 refine ps_imp (a3u hN hi hx he hs hf) ?_
 rintro D σ H ⟨G,env,fl,env',rl,e,k⟩;obtain⟨⟨d,env1⟩,e1,e2⟩:=x2_ e;cases e2;exact⟨G,env,d,_,rl,e1,fun a xs G' H' ev ha no h' g' r=>k _ G' H' (ev.setOwn (fun z=>rl.old a z ha) ha no h' g' r)⟩
def a5F(i:Nat)(f:D->D->Option D)(m:Mo D):Mo Fl:=fun env=>match env[i]? with
 |some (.dat d0)=>(m env).bind fun p=>(f d0 p.1).map fun d=>(.nx,p.2.set i (.dat d))
 |_=>none
theorem b0M{op:Operator}{f:D->D->Option D}(hN:X.N.Nodup)(hi:X.N[i]? =some x)(hx:Loc X.env.scope x)(he:ED X B e ma)(ho:OpR X (inplaceOp op) r)(o:OpD X B r f)
  (hf:X.fn x=true∨X.env.scope.names.lookup x=some .local:=by first|exact .inl rfl|exact .inr rfl|assumption):ES X B (.AugAssign (.Name x pos') op e pos) (a5F i f ma):=by
 refine ps_imp (b5g hN hi hx he (ti:=r) (fun pins s σ H x y v u Q I rx ry q=>ho pins s σ H x y v u Q I rx ry q) hf) ?_
 rintro D σ H ⟨G,env,fl,env',rl,e,k⟩;unfold a5F at e;split at e
 ·rename_i d0 e0
  obtain⟨⟨d,env1⟩,e1,e2⟩:=q4_ e;obtain⟨d2,e3,e4⟩:=x2_ e2;cases e4;obtain⟨v0,h0,r0⟩:=rl.dat i d0 e0;exact⟨v0,h0,.bind rl e1 fun v G' H' ev r1=>o G' σ _ H' v0 v d0 d _ _ ev.rel (Rep.mono ev.same _ r0) r1 e3 fun v2 G2 H2 ev2 r2=>k _ G2 H2 ((ev.trans ev2).setDat r2)⟩
 ·cases e
end
def a2t(i:Nat)(m:Mo D):Mo Fl:=fun env=>((env[i]?).bind W.mutL).bind fun _=>(m env).bind fun p=>(p.2[i]?).bind fun w=>w.mutL.bind fun ds=>if ds.length<100000 then some (.nx,p.2.set i (w.put (ds++[p.1])))else none
theorem a3B{p apos cpos:Pos}(ho:PE X (.Name x p) (a0Z i))(ha:EDs X B [e] (z1_ ma z3_))
  (hbase:attributeBase (.Name x p) "append" X.env (eval (.Name x p) X.env)=eval (.Name x p) X.env:=by rfl)
  (hfew:((backTo cpos (starEach [e] X.env)).all (fun x=>!x.1)&&(backToKw cpos (keywordEach [] X.env)).all (fun x=>x.1.isSome)
   &&decide ([e].length+([]:List Keyword).length+(if([]:List Keyword).isEmpty then 0 else 1)<30))=true:=by rfl)
  (hline:(apos.endLine==cpos.line)=true:=by rfl)(hs:starEach [e] X.env=(false,eval e X.env)::starEach [] X.env:=by rfl)(hplain:(backTo cpos (starEach [] X.env)).any (·.1)=false:=by rfl)
  (hsw:swapsWith (.Call (.Attribute (.Name x p) "append" apos) [e] [] cpos) none pos.line X.env=pure false:=by rfl):
  ES X B (.Expr (.Call (.Attribute (.Name x p) "append" apos) [e] [] cpos) pos) (a2t i ma):=by
 refine ps_imp (a5h (a5r Vo PySem.F.slot_list_append PySem.F.type_list_append b0E ho ha hbase hfew hline hs hplain) hsw) ?_
 rintro D σ H ⟨G,env,fl,env',rl,e,k⟩;obtain⟨ds0,e0,e⟩:=q4_ e;obtain⟨w0,e00,em0⟩:=q4_ e0;obtain⟨⟨d,env1⟩,e1,e2⟩:=q4_ e;obtain⟨w,e3,e4⟩:=q4_ e2;obtain⟨ds,e5,e6⟩:=q4_ e4;dsimp only at e3 e6;split at e6
 ·rename_i hl
  cases e6;obtain⟨q,xs0,h1,h2,h3,h4⟩:=rl.ownL i w0 ds0 e00 em0;refine⟨_,h1,.inl ⟨rfl,xs0,.inl (.inl h2)⟩,G,env,[d],env1,rl,by show(ma env).bind _=_;rw[e1];rfl,fun vs G1 H1 ev r1=>?_⟩
  obtain⟨v,rfl,rv⟩:=a0L r1;obtain⟨q',xs,g1,g2,g3,g4⟩:=ev.rel.ownL i w ds e3 e5;rw[h1]at g1;cases g1;have hz:xs.length<sizeLine:=by rw[g3.length];exact Vq hl (by decide)
  exact⟨q,xs,v,rfl,rfl,g2,hz,k _ G1 _ (ev.write e3 e5 h1 (g3.append (repL_cons rv repL_nil)))⟩
 ·cases e6
end
section
variable(K:Qz)(B:OA)
def TGm(n:Nat)(g:OZ):TG:=fun v σ H Q=>∃G env d env',Rel K B G σ env H/\Rep K G v d/\g d env=some env'/\∀σ' G' H',Ev K B G σ env H G' σ' env' H'->(∀j,j<n->σ'[j]? =σ[j]?)->Q σ' H'
def b6x(n:Nat)(g:List D->Env'->Option Env'):TGs:=fun vs σ H Q=>∃G env ds env',Rel K B G σ env H/\z9_ K G vs ds/\g ds env=some env'/\∀σ' G' H',Ev K B G σ env H G' σ' env' H'->(∀j,j<n->σ'[j]? =σ[j]?)->Q σ' H'
end
abbrev EG(X:Cx)(B:OA)(n:Nat)(e:Expr)(g:OZ):Prop:=PG X e (TGm X.K B n g)
abbrev EGs(X:Cx)(B:OA)(n:Nat)(es:List Expr)(g:List D->Env'->Option Env'):Prop:=PGs X es (b6x X.K B n g)
theorem a5G{t t':TG}(h:PG X e t)(i:∀v σ H Q,t' v σ H Q->t v σ H Q):PG X e t':=fun pins s σ H v u Q I r q=>h pins s σ H v u Q I r (i v σ H Q q)
theorem b0N{e:List Expr}{t t':TGs}(h:PGs X e t)(i:∀v σ H Q,t' v σ H Q->t v σ H Q):PGs X e t':=fun pins s σ H v u Q I r q=>h pins s σ H v u Q I r (i v σ H Q q)
def gN(i:Nat):OZ:=fun d env=>some (env.set i (.dat d))
def gNl:List D->Env'->Option Env':=fun ds env=>match ds with
 |[]=>some env
 |_=>none
def gCn(g:OZ)(gs:List D->Env'->Option Env'):List D->Env'->Option Env':=fun ds env=>match ds with
 |d::ds=>(g d env).bind (gs ds)
 |[]=>none
def gT(n:Nat)(gs:List D->Env'->Option Env'):OZ:=fun d env=>match d with
 |.tup ds=>if ds.length=n then gs ds env else none
 |_=>none
section
variable{a:Expr}{g:OZ}{gs:List D->Env'->Option Env'}
theorem y7_(hn:n≤i)(hN:X.N.Nodup)(hi:X.N[i]? =some x)(hx:Loc X.env.scope x)(hf:X.fn x=true∨X.env.scope.names.lookup x=some .local:=by first|exact .inl rfl|exact .inr rfl|assumption):EG X B n (.Name x pos) (gN i):=by
 refine a5G (b4U hN hi hx hf) ?_
 rintro v σ H Q ⟨G,env,d,env',rl,r,e,k⟩;cases e;exact k _ G H ((Ev.refl rl).setDat r) fun j hj=>Ql (by omega)
theorem a1Y:EGs X B n [] gNl:=by
 refine b0N b4X ?_
 rintro vs σ H Q ⟨G,env,ds,env',rl,r,e,k⟩;unfold gNl at e;split at e
 ·cases e
  simp only[z9_]at r;exact⟨r,k _ G H (.refl rl) fun _ _=>rfl⟩
 ·cases e
theorem a0i(h1:EG X B n e g)(h2:EGs X B n es gs)(hs:(assignEach (e::es) X.env).map (·.2)=assign e X.env::(assignEach es X.env).map (·.2):=by rfl):EGs X B n (e::es) (gCn g gs):=by
 refine b0N (b4Y h1 h2 hs) ?_
 rintro vs σ H Q ⟨G,env,ds,env',rl,r,e,k⟩;unfold gCn at e;split at e
 ·rename_i d ds
  obtain⟨env1,e1,e2⟩:=q4_ e;simp only[z9_]at r;obtain⟨x,xs,e3,r1,r2⟩:=r;exact⟨x,xs,e3,G,env,d,env1,rl,r1,e1,fun σ1 G1 H1 ev y1=>⟨G1,env1,ds,env',ev.rel,z9_.mono ev.same _ r2,e2,fun σ2 G2 H2 ev2 y2=>k σ2 G2 H2 (ev.trans ev2) fun j hj=>(y2 j hj).trans (y1 j hj)⟩⟩
 ·cases e
theorem a1Z{nb k':Nat}(hc:X.calm=true)(h:EGs X B nb es gs)(hn:(assignEach es X.env).length=n:=by rfl)(hst:(assignEach es X.env).findIdx? (·.1)=none:=by rfl):EG X B nb (.Tuple es k' pos) (gT n gs):=by
 refine a5G (b5a hc h hn hst) ?_
 rintro v σ H Q ⟨G,env,d,env',rl,r,e,k⟩;unfold gT at e;split at e
 ·rename_i ds
  split at e
  ·rename_i hl
   simp only[Rep]at r;obtain⟨p,xs,e1,q,t⟩:=r;exact⟨p,xs,e1,rl.sub.sqT q,t.length.trans hl,G,env,ds,env',rl,t,e,k⟩
  ·cases e
 ·cases e
def gS(s:Nat)(mi:Mo D):OZ:=fun d env=>((env[s]?).bind W.mutL).bind fun _=>(mi env).bind fun p=>match p.1 with
 |.int k=>(p.2[s]?).bind fun w=>w.mutL.bind fun ds=>(ixN ds.length k).map fun j=>p.2.set s (w.put (ds.set j d))
 |_=>none
theorem a7w{s:Nat}{p:Pos}(ho:PE X (.Name x p) (a0Z s))(hi:ED X B b mb)
  (ha:∀v,assign (.Subscript (.Name x p) b pos) X.env v=(do
   let ov←holding [v] (eval (.Name x p) X.env)
   let iv←holding [v,ov] (eval b X.env)
   standAt pos
   holding [v,ov,iv] (setItem ov iv v)
   release [v,ov,iv] []):=by intro _;rfl):EG X B n (.Subscript (.Name x p) b pos) (gS s mb):=by
 refine a5G (b0e ho hi b5X ha) ?_
 rintro v σ H Q ⟨G,env,d,env',rl,r,e,k⟩;obtain⟨ds0,e0,e⟩:=q4_ e;obtain⟨w0,e00,em0⟩:=q4_ e0;obtain⟨⟨d1,env1⟩,e1,e2⟩:=q4_ e;dsimp only at e2;split at e2
 ·rename_i kk
  obtain⟨w,e3,e4⟩:=q4_ e2;obtain⟨ds,e5,e6⟩:=q4_ e4;obtain⟨j,e7,e8⟩:=x2_ e6;cases e8;obtain⟨q,xs0,h1,h2,h3,h4⟩:=rl.ownL s w0 ds0 e00 em0;refine⟨_,h1,.bind rl e1 fun iv G1 H1 ev r1=>?_⟩
  simp only[Rep]at r1;obtain⟨q',xs,g1,g2,g3,g4⟩:=ev.rel.ownL s w ds e3 e5;rw[h1]at g1;cases g1;exact⟨q,xs,kk,j,rfl,r1,g2,by rw[g3.length];exact e7,k _ G1 _ (ev.write e3 e5 h1 (g3.set j (Rep.mono ev.same _ r))) fun _ _=>rfl⟩
 ·cases e2
def u9_(m:Mo D)(g:OZ):Mo Fl:=fun env=>(m env).bind fun p=>(g p.1 p.2).map fun e=>(.nx,e)
theorem a2u(he:ED X B e ma)(hg:EG X B 0 tg g)(hs:swapsWithSole [tg] e pos.line X.env=pure false:=by rfl)(hw:swappedStores [tg] e X.env=pure none:=by rfl)
  (h1:(assignEach [tg] X.env).map (·.2)=[assign tg X.env]:=by rfl):ES X B (.Assign [tg] e pos) (u9_ ma g):=by
 refine ps_imp (b5c he hg hs hw h1) ?_
 rintro D σ H ⟨G,env,fl,env',rl,e,k⟩;obtain⟨⟨d1,env1⟩,e1,e2⟩:=q4_ e;obtain⟨env2,e3,e4⟩:=x2_ e2;cases e4;exact .bind rl e1 fun v G1 H1 ev r=>⟨G1,env1,d1,_,ev.rel,r,e3,fun σ2 G2 H2 ev2 _=>k σ2 G2 H2 (ev.trans ev2)⟩
def a4q(i j:Nat)(ms:Mo (List D)):Mo Fl:=fun env=>(ms env).bind fun p=>match p.1 with
 |[d,d']=>some (.nx,(p.2.set i (.dat d)).set j (.dat d'))
 |_=>none
theorem b0O{px py pt pt2:Pos}{kt k2}(hc:X.calm=true)(hN:X.N.Nodup)(hi:X.N[i]? =some x)(hj:X.N[j]? =some y)(hij:i≠j)
  (hx:X.env.scope.names.lookup x=some .local)(hy:X.env.scope.names.lookup y=some .local)(ha:EDs X B [a,b] ms)
  (hw:swappedStores [.Tuple [.Name x px,.Name y py] kt pt] (.Tuple [a,b] k2 pt2) X.env=pure (some [x,y]))
  (hs:swapsWithSole [.Tuple [.Name x px,.Name y py] kt pt] (.Tuple [a,b] k2 pt2) pos.line X.env=pure false:=by rfl):
  ES X B (.Assign [.Tuple [.Name x px,.Name y py] kt pt] (.Tuple [a,b] k2 pt2) pos) (a4q i j ms):=by
 refine ps_imp (b5e hc hN hi hj hij hx hy ha hw hs) ?_
 rintro D σ H ⟨G,env,fl,env',rl,e,k⟩;obtain⟨⟨ds,env1⟩,e1,e2⟩:=q4_ e;dsimp only at e2;split at e2
 ·cases e2
  refine⟨G,env,_,env1,rl,e1,fun vs G1 H1 ev r=>?_⟩
  obtain⟨v,w,rfl,r1,r2⟩:=a3x r;exact⟨v,w,rfl,k _ G1 H1 ((ev.setDat r1).setDat r2)⟩
 ·cases e2
structure ItD(K:Qz)(J:It)(G:Hp)(ds:List D):Prop where
 go:∀i H,Le G H->i<ds.length->J.go i H
 stop:∀i H,Le G H->ds.length≤i->J.stop i H
 yld:∀i H x H' d,Le G H->J.yld i H x H'->ds[i]? =some d->(H'=H/\Rep K G x d)∨ ∃p o,NT o/\H p=none/\H'=upd H p o/\Rep K (upd G p o) x d
end
section
variable(K:Qz)(B:OA)
def TIm(m:Mo (List D)):TI:=fun σ H R=>∃G env ds env',Rel K B G σ env H/\m env=some (ds,env')/\∀J G' H',Ev K B G σ env H G' σ env' H'->ItD K J G' ds->R J H'
end
abbrev EI(X:Cx)(B:OA)(tg e:Expr)(m:Mo (List D)):Prop:=PI X tg e (TIm X.K B m)
theorem a7x{t t':TI}(h:PI X tg e t)(i:∀σ H R,t' σ H R->t σ H R):PI X tg e t':=fun pins s σ H R I q=>h pins s σ H R I (i σ H R q)
section
variable{a:Expr}{g:OZ}{gs:List D->Env'->Option Env'}
def b6y(K:Qz)(tl:TE):TI:=fun σ H R=>tl σ H fun x H1=>∃a,x=.ref a/\(((∃xs,SqL K H1 a xs)/\R (Itl K a) H1)∨((∃xs,SqT K H1 a xs)/\R (Itt K a) H1))
theorem b6z{l:Expr}{tl:TE}(hl:PE X l tl):PI X tg l (b6y X.K tl):=by
 intro pins s σ H R I h;refine thn (hl pins s σ H _ I h) fun v s1 ⟨x,H1,I1,r1,q1⟩=>?_
 obtain⟨a,e,q⟩:=q1;subst e;cases r1
 rcases q with⟨⟨xs,hq⟩,q⟩|⟨⟨xs,hq⟩,q⟩
 ·obtain⟨its,rv,p,hz⟩:=I1.list hq
  refine Uw p.isList ?_
  refine⟨s1.heap.objs.size,[s1.heap.objs.size],_,_,H1,rfl,I1.kept (t':=s1.toks) fun b o e=>Qx _ e,b5h a _,⟨_,Qu _ rfl,rfl,rfl⟩,fun b hb=>?_,q⟩
  have e:b=s1.heap.objs.size:=by simpa using hb
  subst e;exact I1.fpOk (Qb _) (I1.hok.fresh (Qb _))
 ·obtain⟨its,rv,p,hz⟩:=I1.tuple hq
  refine Vl (show s1.heap.IsTuple a its.toArray from p) ?_
  refine⟨s1.heap.objs.size,[s1.heap.objs.size],_,_,H1,rfl,I1.kept (t':=s1.toks) fun b o e=>Qx _ e,b5i a _,⟨_,Qu _ rfl,rfl,rfl⟩,fun b hb=>?_,q⟩
  have e:b=s1.heap.objs.size:=by simpa using hb
  subst e;exact I1.fpOk (Qb _) (I1.hok.fresh (Qb _))
def y4_(m:Mo D):Mo (List D):=fun env=>(m env).bind fun p=>p.1.items.map fun ds=>(ds,p.2)
theorem b6A{K:Qz}(q:SqL K G p xs)(r:z9_ K G xs ds):ItD K (Itl K p) G ds where
 go:=fun i H l hi=>⟨xs,xs[i]'(by rw[r.length];exact hi),l.sqL q,by simp⟩
 stop:=fun i H l hi=>⟨xs,l.sqL q,by rw[r.length];exact hi⟩
 yld:=fun i H x H' d l y e=>by
  obtain⟨rfl,y⟩:=y;obtain⟨x',e1,e2⟩:=r.get e;have:=y xs (l.sqL q);rw[e1]at this;cases this;exact .inl ⟨rfl,e2⟩
theorem b6B{K:Qz}(q:SqU K G p xs)(r:z9_ K G xs ds):ItD K (Itt K p) G ds where
 go:=fun i H l hi=>⟨xs,xs[i]'(by rw[r.length];exact hi),l.sqT q,by simp⟩
 stop:=fun i H l hi=>⟨xs,l.sqT q,by rw[r.length];exact hi⟩
 yld:=fun i H x H' d l y e=>by
  obtain⟨rfl,y⟩:=y;obtain⟨x',e1,e2⟩:=r.get e;have:=y xs (l.sqT q);rw[e1]at this;cases this;exact .inl ⟨rfl,e2⟩
theorem j9_(h:ED X B e ma):EI X B tg e (y4_ ma):=by
 refine a7x (b6z h) ?_
 rintro σ H R ⟨G,env,ds,env',rl,e,k⟩;obtain⟨⟨d,env1⟩,e1,e2⟩:=q4_ e;obtain⟨ds',e3,e4⟩:=x2_ e2;cases e4;refine .bind rl e1 fun v G1 H1 ev r=>?_
 cases d<;>first|(exact absurd (show(none:Option (List D))=some _ from e3) (by simp))|skip
 ·cases e3
  simp only[Rep]at r;obtain⟨p,xs,e5,q,t⟩:=r;exact⟨p,e5,.inr ⟨⟨xs,ev.rel.sub.sqT q⟩,k _ G1 H1 ev (b6B q t)⟩⟩
 ·cases e3
  simp only[Rep]at r;obtain⟨p,xs,e5,q,t⟩:=r;exact⟨p,e5,.inl ⟨⟨xs,ev.rel.sub.sqL q⟩,k _ G1 H1 ev (b6A q t)⟩⟩
def a0M(lo:Int)(n:Nat):List D:=(List.range n).map fun(i:Nat)=>D.int (lo+i)
theorem b6C{K:Qz}{lo:Int}:ItD K (Itr lo n) G (a0M lo n)where
 go:=fun i H l hi=>by
  have h:i<n:=by simpa [a0M]using hi
  exact h
 stop:=fun i H l hi=>by
  have h:n≤i:=by simpa [a0M]using hi
  exact h
 yld:=fun i H x H' d l y e=>by
  obtain⟨rfl,rfl⟩:=y;refine .inl ⟨rfl,?_⟩;unfold a0M at e;rw[Zd]at e;cases hr:(List.range n)[i]? with
  |none=>rw[hr]at e;cases e
  |some j=>
   rw[hr]at e;cases e;obtain⟨h1,h2⟩:=Qy.mp hr
   simp at h2
   subst h2;simp only[Rep]
def w3_(ms:Mo (List D)):Mo (List D):=fun env=>(ms env).bind fun p=>match p.1 with
 |[.int j]=>if-1000000<j/\j<1000000 then some (a0M 0 j.toNat,p.2)else none
 |_=>none
theorem a0j{p:Pos}(hg:Gl X "range")(hm:X.mg "range"=none)(ha:EDs X B [a] ms)(hs:starEach [a] X.env=[(false,eval a X.env)]:=by rfl):EI X B tg (.Call (.Name "range" p) [a] [] pos) (w3_ ms):=by
 have h0:=b5m (tg:=tg) (p:=p) (pos:=pos) hg hm ha hs
 refine a7x h0 ?_
 rintro σ H R ⟨G,env,ds,env',rl,e,k⟩;obtain⟨⟨ds',env1⟩,e1,e2⟩:=q4_ e;dsimp only at e2;split at e2
 ·rename_i j
  split at e2
  ·rename_i hj
   cases e2;refine⟨G,env,_,_,rl,e1,fun vs G1 H1 ev r=>?_⟩
   obtain⟨v,rfl,r1⟩:=a0L r;simp only[Rep]at r1;subst r1;exact⟨j,rfl,by omega,by omega,k _ G1 H1 ev b6C⟩
  ·cases e2
 ·cases e2
def loop(g:OZ)(body:Mo Fl):List D->Mo Fl
 |[],env=>some (.nx,env)
 |d::ds,env=>(g d env).bind fun e1=>(body e1).bind fun p=>match p.1 with
  |.nx=>loop g body ds p.2
  |.ct=>loop g body ds p.2
  |.bk=>some (.nx,p.2)
  |.ret d=>some (.ret d,p.2)
  |.retL d=>some (.retL d,p.2)
  |.retX ks vs=>some (.retX ks vs,p.2)
def w7_(mi:Mo (List D))(g:OZ)(body:Mo Fl):Mo Fl:=fun env=>(mi env).bind fun p=>loop g body p.1 p.2
theorem a0a{body:List Stmt}{mi:Mo (List D)}{mbd:Mo Fl}(hp:PassesOwn (model X.prog X.w) X.A X.env X.xe)(hc:X.calm=true)(hi:EI X B tg iter mi)(hg:EG X B 0 tg g)(hb:ESs X B body mbd)
  (hs:∀x,foldedSetIterable iter X.env x=pure x:=by intro _;rfl):ES X B (.For tg iter body [] pos) (w7_ mi g mbd):=by
 refine ps_imp (b5p hp hc hi hg hb hs) ?_
 rintro D σ H ⟨G,env,fl,env',rl,e,k⟩;obtain⟨⟨ds,env1⟩,e1,e2⟩:=q4_ e;dsimp only at e2;refine⟨G,env,ds,env1,rl,e1,fun J G1 H1 ev1 it=>?_⟩
 refine⟨fun i m σ2 H2=>m=ds.length-i/\i≤ds.length/\∃G2 env2,Ev X.K B G σ env H G2 σ2 env2 H2/\Le G1 G2/\loop g mbd (ds.drop i) env2=some (fl,env'),⟨_,rfl,Xx _,G1,env1,ev1,Le.refl,by simpa using e2⟩,?_⟩
 rintro i m σ2 H2 ⟨rfl,hi2,G2,env2,ev2,l2,e3⟩;have lH:Le G1 H2:=l2.trans ev2.rel.sub
 by_cases hlt:i<ds.length
 ·refine .inr ⟨it.go i H2 lH hlt,fun σ' H'=>∃G3 env3,Ev X.K B G σ env H G3 σ' env3 H'/\Le G1 G3/\loop g mbd (ds.drop (i+1)) env3=some (fl,env'),?_,fun x H3 y=>?_⟩
  ·rintro σ' H' ⟨G3,env3,ev3,l3,e4⟩
   exact⟨ds.length-(i+1),by omega,rfl,hlt,G3,env3,ev3,l3,e4⟩
  ·have ed:ds.drop i=ds[i]::ds.drop (i+1):=Vf hlt
   rw[ed]at e3;obtain⟨env4,e4,e5⟩:=q4_ e3;obtain⟨⟨fl5,env5⟩,e6,e7⟩:=q4_ e5;have hget:ds[i]? =some ds[i]:=by simp[hlt]
   have st:∃G3,Ev X.K B G σ env H G3 σ2 env2 H3/\Le G1 G3/\Rep X.K G3 x ds[i]:=by
    rcases it.yld i H2 x H3 ds[i] lH y hget with⟨rfl,r⟩|⟨p,o,hno,hp2,rfl,r⟩
    ·exact⟨G2,ev2,l2,Rep.mono l2 _ r⟩
    ·have gp:=ev2.rel.gnone hp2
     refine⟨upd G2 p o,ev2.trans (ev2.rel.alloc hp2 hno),l2.trans (Le.upd gp),Rep.mono (fun b u q=>?_) _ r⟩
     by_cases hb2:b=p
     ·subst hb2;rw[x0_]at q ⊢;exact q
     ·rw[v0_ hb2]at q ⊢;exact l2 b u q
   obtain⟨G3,ev3,l3,r3⟩:=st;refine⟨G3,env2,ds[i],env4,ev3.rel,r3,e4,fun σ4 G4 H4 ev4 _=>?_⟩
   have ev5:=ev3.trans ev4
   refine⟨G4,env4,fl5,env5,ev4.rel,e6,?_⟩;cases fl5 with
   |nx=>exact fun σ6 G6 H6 ev6=>⟨G6,env5,ev5.trans ev6,(l3.trans ev4.same).trans ev6.same,e7⟩
   |ct=>exact fun σ6 G6 H6 ev6=>⟨G6,env5,ev5.trans ev6,(l3.trans ev4.same).trans ev6.same,e7⟩
   |bk=>cases e7;exact fun σ6 G6 H6 ev6=>k σ6 G6 H6 (ev5.trans ev6)
   |ret d=>cases e7;exact fun v σ6 G6 H6 ev6=>k v σ6 G6 H6 (ev5.trans ev6)
   |retL d=>cases e7;exact fun a xs σ6 G6 H6 ev6=>k a xs σ6 G6 H6 (ev5.trans ev6)
   |retX ks vs=>cases e7;exact fun a xs σ6 G6 H6 ev6=>k a xs σ6 G6 H6 (ev5.trans ev6)
 ·have ei:i=ds.length:=by omega
  subst ei;rw[Tr]at e3;cases e3;exact .inl ⟨it.stop _ H2 lH (Qb _),k σ2 G2 H2 ev2⟩
end
inductive Rr where
 |d (d:D)|l (ds:List D)|x (ks:List KX) (vs:List D)
abbrev Fn:=List W->Option (Rr×List W)
def a0b:OA:=fun _=>False
def a4r(ws:List W):Prop:=∀w∈ws,(∃d,w=.dat d)∨w.isPar=true
def b6D(K:Qz)(G:Hp)(vs:List V)(ws:List W)(H:Hp)(ws':List W)(Q:VK):Rr->Prop
 |.d d=>∀v G' H',Ev K a0b G (vs.map some) ws H G' (vs.map some) ws' H'->Rep K G' v d->Q v H'
 |.l ds=>∀a xs G' H',Ev K a0b G (vs.map some) ws H G' (vs.map some) ws' H'->H a=none-> ¬ Owned (vs.map some) ws' a->H' a=some (.lst xs)->G' a=none->z9_ K G' xs ds->Q (.ref a) H'
 |.x ks us=>∀a o G' H',Ev K a0b G (vs.map some) ws H G' (vs.map some) ws' H'->H a=none-> ¬ Owned (vs.map some) ws' a->H' a=some o->G' a=none->RepM K G' o (.x ks us)->Q (.ref a) H'
def SpF(K:Qz)(n:Nat)(f:Fn):Sp:=fun vs H Q _=>∃G ws r ws',ws.length=n/\a4r ws/\Rel K a0b G (vs.map some) ws H/\f ws=some (r,ws')/\b6D K G vs ws H ws' Q r
def a5H:W->W->W
 |.par _,.par ds=>.par ds
 |.par _,.parD ks vs=>.parD ks vs
 |.parD _ _,.par ds=>.par ds
 |.parD _ _,.parD ks vs=>.parD ks vs
 |.par _,.parX ks vs=>.parX ks vs
 |.parD _ _,.parX ks vs=>.parX ks vs
 |.parX _ _,.par ds=>.par ds
 |.parX _ _,.parD ks vs=>.parD ks vs
 |.parX _ _,.parX ks vs=>.parX ks vs
 |.parX _ _,_=>.nil
 |.par _,_=>.nil
 |.parD _ _,_=>.nil
 |w,_=>w
def a0y(ws env:List W):List W:=List.zipWith a5H ws env
def fnM(N:Nat)(mb:Mo Fl):Fn:=fun ws=>match mb (ws++List.replicate (N-ws.length) .nil)with
 |some (.ret d,env)=>some (.d d,a0y ws env)
 |some (.retL ds,env)=>some (.l ds,a0y ws env)
 |some (.retX ks vs,env)=>some (.x ks vs,a0y ws env)
 |some (.nx,env)=>some (.d .non,a0y ws env)
 |_=>none
theorem a1j{vs:List V}(hi:i<vs.length):(start N vs)[i]? =(vs.map some)[i]?:=by
 unfold start;rw[Jm (by simpa using hi)]
theorem a2v{l:List α}{a b:α}(h:(l++List.replicate n a)[i]? =some b):(i<l.length/\l[i]? =some b)∨(l.length≤i/\b=a):=by
 by_cases hi:i<l.length
 ·rw[Jm hi]at h;exact .inl ⟨hi,h⟩
 ·rw[List.getElem?_append_right (by omega),Jr]at h
  split at h
  ·cases h;exact .inr ⟨by omega,rfl⟩
  ·cases h
section
variable{K:Qz}{vs:List V}{ws:List W}
theorem b0P(hl:ws.length=vs.length):Owned (start N vs) (ws++List.replicate n .nil) a↔Owned (vs.map some) ws a:=by
 constructor
 ·rintro⟨i,w,ds,e1,e2,e3⟩
  rcases a2v e1 with⟨h1,h2⟩|⟨h1,h2⟩
  ·rw[a1j (by omega)]at e3;exact⟨i,w,ds,h2,e2,e3⟩
  ·rw[h2]at e2;cases e2
 ·rintro⟨i,w,ds,e1,e2,e3⟩
  have hi:i<ws.length:=(Qy.mp e1).1
  exact⟨i,w,ds,by rw[Jm hi];exact e1,e2,by rw[a1j (by omega)];exact e3⟩
theorem a7y(r:Rel K a0b G (vs.map some) ws H)(ok:a4r ws)(hN:vs.length≤N.length):Rel K (fun b=>H b≠none) G (start N vs) (ws++List.replicate (N.length-ws.length) .nil) H:=by
 have hl:ws.length=vs.length:=by have:=r.len;rwa [Qv]at this
 have noOwn:∀(i:Nat) (w:W),ws[i]? =some w->w.isOwn=true->False:=fun i w e h=>by
  rcases ok _ (Yc e)with⟨d,z⟩|z
  ·subst z;cases h
  ·cases w<;>first|(cases h;done)|(cases z;done)
 refine⟨r.sub,?_,fun i d e=>?_,fun i w ds e1 e2=>?_,fun i j w w' ds es a q1 q2 q3 q4 q5 q6=>?_,fun i w a q1 qo q2=>?_,fun b h=>h,r.tabs,r.gnt⟩
 ·unfold start
  simp only[Qt,Yk,Qv]
  omega
 ·rcases a2v e with⟨h1,h2⟩|⟨h1,h2⟩
  ·obtain⟨v,e1,e2⟩:=r.dat i d h2
   exact⟨v,by rw[a1j (by omega)];exact e1,e2⟩
  ·cases h2
 ·rcases a2v e1 with⟨h1,h2⟩|⟨h1,h2⟩
  ·obtain⟨a,xs,e3,e4⟩:=r.own i w ds h2 e2
   exact⟨a,xs,by rw[a1j (by omega)];exact e3,e4⟩
  ·rw[h2]at e2;cases e2
 ·rcases a2v q1 with⟨h1,h2⟩|⟨h1,h2⟩
  ·rcases a2v q3 with⟨h3,h4⟩|⟨h3,h4⟩
   ·rw[a1j (by omega)]at q5 q6
    exact r.inj i j w w' ds es a h2 q2 h4 q4 q5 q6
   ·rw[h4]at q4;cases q4
  ·rw[h2]at q2;cases q2
 ·rcases a2v q1 with⟨h1,h2⟩|⟨h1,h2⟩
  ·exact(noOwn i w h2 qo).elim
  ·subst h2;cases qo
theorem a3C{ws env:List W}(h:(a0y ws env)[i]? =some w):∃w1 w2,ws[i]? =some w1/\env[i]? =some w2/\w=a5H w1 w2:=by
 unfold a0y at h;rw[Jh]at h;cases e1:ws[i]? with
 |none=>rw[e1]at h;cases h
 |some w1=>
  cases e2:env[i]? with
  |none=>rw[e1,e2]at h;cases h
  |some w2=>rw[e1,e2]at h;cases h;exact⟨w1,w2,rfl,rfl,rfl⟩
theorem a4s{w1:W}(ok:(∃d,w1=.dat d)∨w1.isPar=true)(h:(a5H w1 w2).mut=some m):w2.mut=some m/\w2.isPar=true/\a5H w1 w2=w2/\w1.isPar=true:=by
 rcases ok with⟨d,z⟩|z
 ·subst z;cases h
 ·cases w1<;>cases w2<;>first|exact⟨h,rfl,rfl,rfl⟩|(cases z;done)|(cases h;done)
theorem a2a(r:Rel K a0b G (vs.map some) ws H)(ok:a4r ws)(hN:vs.length≤N.length)
  (ev:Ev K (fun b=>H b≠none) G (start N vs) (ws++List.replicate (N.length-ws.length) .nil) H G' σ' env' H'):Ev K a0b G (vs.map some) ws H G' (vs.map some) (a0y ws env') H':=by
 have hl:ws.length=vs.length:=by have:=r.len;rwa [Qv]at this
 have okg:∀{i:Nat}{w:W},ws[i]? =some w->(∃d,w=.dat d)∨w.isPar=true:=fun e=>ok _ (Yc e)
 have hle:ws.length≤env'.length:=by
  have h1:=ev.rel.len
  have h2:=ev.slen
  have h3:(start N vs).length=N.length:=by unfold start;simp only[Qt,Yk,Qv];omega
  omega
 have par:∀(i:Nat) (w:W) (m:Mu),(a0y ws env')[i]? =some w->w.mut=some m->∃w0,ws[i]? =some w0/\w0.isPar=true/\env'[i]? =some w/\w.isPar=true/\σ'[i]? =(vs.map some)[i]?:=fun i w m e1 e2=>by
  obtain⟨w1,w2,h1,h2,h3⟩:=a3C e1;subst h3;obtain⟨h4,h5,h6,h7⟩:=a4s (okg h1) e2;have hi:i<vs.length:=by have:=(Qy.mp h1).1;omega
  rw[h6];exact⟨w1,h1,h7,h2,h5,(ev.par i w2 h2 h5).1.trans (a1j hi)⟩
 refine⟨⟨ev.rel.sub,?_,fun i d e=>?_,fun i w ds e1 e2=>?_,fun i j w w' ds es a q1 q2 q3 q4 q5 q6=>?_,fun i w a q1 qo q2 h=>h,fun b h=>h.elim,ev.rel.tabs,ev.rel.gnt⟩,ev.same,fun b o n t e=>ev.keep b o (fun z=>n ((b0P hl).mp z)) t e,ev.live,fun b e n g=>ev.stay b e (fun z=>n ((b0P hl).mp z)) g,fun a z=>?_,fun i w e hp=>?_,rfl⟩
 ·unfold a0y
  rw[Yi,Qv];omega
 ·obtain⟨w1,w2,h1,h2,h3⟩:=a3C e
  rcases okg h1 with⟨d1,z⟩|z
  ·subst z
   cases h3;obtain⟨v,e1,e2⟩:=r.dat i d h1;exact⟨v,e1,Rep.mono ev.same d e2⟩
  ·cases w1<;>cases w2<;>first|(cases h3;done)|(cases z;done)
 ·obtain⟨d0,h1,hp,h2,h3,h4⟩:=par i w ds e1 e2
  obtain⟨a,xs,e3,e4⟩:=ev.rel.own i _ ds h2 e2;exact⟨a,xs,by rw[←h4];exact e3,e4⟩
 ·obtain⟨d0,h1,hp,h2,h3,h4⟩:=par i w ds q1 q2
  obtain⟨d1,h5,hp',h6,h7,h8⟩:=par j w' es q3 q4;exact ev.rel.inj i j _ _ ds es a h2 q2 h6 q4 (by rw[h4];exact q5) (by rw[h8];exact q6)
 ·obtain⟨i,w,ds,e1,e2,e3⟩:=z
  obtain⟨d0,h1,hp,h2,h3,h4⟩:=par i w ds e1 e2;obtain⟨m0,hm0⟩:=par_mut hp;exact .inl ⟨i,_,m0,h1,hm0,e3⟩
 ·obtain⟨m,hm⟩:=par_mut hp
  obtain⟨d0,h1,hp',h2,h3,h4⟩:=par i _ m e hm;exact⟨rfl,d0,h1,hp'⟩
end
theorem k7_{P:Program}{w:World}{K:Qz}{mg:OU}{base:Heap}{qual:Str}{st:Stmt}{f:Addr}{fd:FuncData}{ps:List Str}{mb:Mo Fl}(F:Fun K x qual st f fd)(S:FnScope N ps (y0_ st))
  (hb:∀(cdv:Value) (A:Around) (outer:List Env) (s:Shared) (H:Hp) (E:XK),Room k (A.deeper (envOfC qual (y0_ st) s.heap.objs.size f cdv))->
   ESs (g7_ CX0 P w K mg base N qual (y0_ st) f cdv A outer s H E).nox (fun b=>H b≠none) (a1f st) mb):FnOk P w K mg base CX0 (k+1) f fd ps (SpF K ps.length (fnM N.length mb)):=by
 have hpl:ps.length≤N.length:=by have:=Ys List.length S.pre;rw[Jp]at this;omega
 refine F.ok S (fun vs H Q E h=>?_) (fun cdv A outer s H vs Q E hr h=>?_)
 ·obtain⟨G,ws,r,ws',hl,ok,rl,_⟩:=h
  have:=rl.len;rw[Qv]at this;omega
 ·obtain⟨G,ws,r,ws',hl,ok,rl,e,k⟩:=h
  have hv:ws.length=vs.length:=by have:=rl.len;rwa [Qv]at this
  refine⟨_,hb cdv A outer s H E hr,?_⟩;have rl':=a7y (N:=N) rl ok (by omega)
  unfold fnM at e;split at e
  ·rename_i d env em
   cases e;refine⟨G,_,_,env,rl',em,?_⟩;exact fun v σ' G' H' ev rp=>k v G' H' (a2a rl ok (by omega) ev) rp
  ·rename_i ds env em
   cases e;refine⟨G,_,_,env,rl',em,?_⟩;intro a xs σ' G' H' ev nb no h' g' rp;refine k a xs G' H' (a2a rl ok (by omega) ev) (Ye nb) ?_ h' g' rp
   rintro⟨i,w',es,e1,e2,e3⟩;obtain⟨w1,w2,q1,q2,q3⟩:=a3C e1;subst q3;obtain⟨q4,q5,q6,q7⟩:=a4s (ok _ (Yc q1)) e2;have hi:i<vs.length:=by have:=(Qy.mp q1).1;omega
   exact no ⟨i,_,es,q2,q4,by rw[(ev.par i w2 q2 q5).1,a1j hi];exact e3⟩
  ·rename_i ks us env em
   cases e;refine⟨G,_,_,env,rl',em,?_⟩;intro a o σ' G' H' ev nb no h' g' rp;refine k a o G' H' (a2a rl ok (by omega) ev) (Ye nb) ?_ h' g' rp
   rintro⟨i,w',es,e1,e2,e3⟩;obtain⟨w1,w2,q1,q2,q3⟩:=a3C e1;subst q3;obtain⟨q4,q5,q6,q7⟩:=a4s (ok _ (Yc q1)) e2;have hi:i<vs.length:=by have:=(Qy.mp q1).1;omega
   exact no ⟨i,_,es,q2,q4,by rw[(ev.par i w2 q2 q5).1,a1j hi];exact e3⟩
  ·rename_i env em
   cases e;refine⟨G,_,_,env,rl',em,?_⟩;exact fun σ' G' H' ev=>k .non G' H' (a2a rl ok (by omega) ev) (by simp only[Rep])
  ·cases e
def slots:List Ar->List Nat
 |[]=>[]
 |.d _::r=>slots r
 |.sl i::r=>i::slots r
def a2w:Mu->W
 |.l ds=>.par ds
 |.d ks vs=>.parD ks vs
 |.x ks vs=>.parX ks vs
theorem b0Q(c:Mu):(a2w c).mut=some c:=by cases c<;>rfl
theorem b0R(c:Mu):(a2w c).isPar=true:=by cases c<;>rfl
def a0c(c:Mu):Ar->W
 |.d d=>.dat d
 |.sl _=>a2w c
def a2b:List W->Option Mu
 |[]=>none
 |.par ds::_=>some (.l ds)
 |.parD ks vs::_=>some (.d ks vs)
 |.parX ks vs::_=>some (.x ks vs)
 |_::r=>a2b r
def a1y(n:Nat)(f:Fn)(as:Mo (List Ar)):Mo Rr:=fun env=>(as env).bind fun p=>if p.1.length=n then
 match slots p.1 with
 |[]=>(f (p.1.map (a0c (.l [])))).map fun q=>(q.1,p.2)
 |[i]=>(p.2[i]?).bind fun w=>w.mut.bind fun c=>(f (p.1.map (a0c c))).bind fun q=>(a2b q.2).map fun c'=>(q.1,p.2.set i (w.putM c'))
 |_=>none
 else none
theorem a2x:∀{as:List Ar},slots as=[]->∀(k j:Nat),as[k]? ≠some (.sl j)
 |[],_,k,j,e=>by simp at e
 |.d _::r,h,k,j,e=>by
  cases k with
  |zero=>simp at e
  |succ k=>exact a2x (as:=r) h k j (by simpa using e)
 |.sl i::r,h,k,j,e=>by simp[slots]at h
theorem a7z:∀{as:List Ar}{i:Nat},slots as=[i]->∃k:Nat,as[k]? =some (.sl i)/\∀(k' j:Nat),as[k']? =some (.sl j)->k'=k/\j=i
 |[],_,h=>by simp[slots]at h
 |.d _::r,i,h=>by
  obtain⟨k,h1,h2⟩:=a7z (as:=r) h;refine⟨k+1,by simpa using h1,fun k' j e=>?_⟩
  cases k' with
  |zero=>simp at e
  |succ k'=>
   obtain⟨a,b⟩:=h2 k' j (by simpa using e)
   exact⟨by omega,b⟩
 |.sl i'::r,i,h=>by
  simp only[slots,Vh]at h;obtain⟨rfl,h⟩:=h;refine⟨0,by simp,fun k' j e=>?_⟩
  cases k' with
  |zero=>simp at e;exact⟨rfl,e.symm⟩
  |succ k'=>exact absurd (by simpa using e) (a2x h k' j)
theorem a3D:∀{ws:List W}{c:Mu},a2b ws=some c->∃k:Nat,ws[k]? =some (a2w c)
 |[],_,h=>by simp[a2b]at h
 |.par ds::r,c,h=>by simp only[a2b,Yq]at h;subst h;exact⟨0,by simp[a2w]⟩
 |.parD ks vs::r,c,h=>by simp only[a2b,Yq]at h;subst h;exact⟨0,by simp[a2w]⟩
 |.parX ks vs::r,c,h=>by simp only[a2b,Yq]at h;subst h;exact⟨0,by simp[a2w]⟩
 |.ownX _ _::r,c,h=>by obtain⟨k,e⟩:=a3D (ws:=r) h;exact⟨k+1,by simpa using e⟩
 |.nil::r,c,h=>by obtain⟨k,e⟩:=a3D (ws:=r) h;exact⟨k+1,by simpa using e⟩
 |.dat _::r,c,h=>by obtain⟨k,e⟩:=a3D (ws:=r) h;exact⟨k+1,by simpa using e⟩
 |.own _::r,c,h=>by obtain⟨k,e⟩:=a3D (ws:=r) h;exact⟨k+1,by simpa using e⟩
 |.ownD _ _::r,c,h=>by obtain⟨k,e⟩:=a3D (ws:=r) h;exact⟨k+1,by simpa using e⟩
section
variable{K:Qz}
theorem RepA.length:∀{as:List Ar}{vs:List V},RepA K G σ vs as->vs.length=as.length
 |[],_,h=>by simp only[RepA]at h;subst h;rfl
 |.d d::as,_,h=>by
  simp only[RepA]at h;obtain⟨x,r,rfl,_,t⟩:=h
  simp[RepA.length t]
 |.sl i::as,_,h=>by
  simp only[RepA]at h;obtain⟨x,r,rfl,_,t⟩:=h
  simp[RepA.length t]
theorem RepA.getD:∀{as:List Ar}{vs:List V}{k:Nat}{d:D},RepA K G σ vs as->as[k]? =some (.d d)->∃v,vs[k]? =some v/\Rep K G v d
 |[],_,k,d,h,e=>by simp at e
 |.d d'::as,_,k,d,h,e=>by
  simp only[RepA]at h;obtain⟨x,r,rfl,q,t⟩:=h;cases k with
  |zero=>simp at e;subst e;exact⟨x,by simp,q⟩
  |succ k=>simpa using RepA.getD (k:=k) t (by simpa using e)
 |.sl i::as,_,k,d,h,e=>by
  simp only[RepA]at h;obtain⟨x,r,rfl,q,t⟩:=h;cases k with
  |zero=>simp at e
  |succ k=>simpa using RepA.getD (k:=k) t (by simpa using e)
theorem RepA.getS:∀{as:List Ar}{vs:List V}{k i:Nat},RepA K G σ vs as->as[k]? =some (.sl i)->∃v,vs[k]? =some v/\σ[i]? =some (some v)
 |[],_,k,i,h,e=>by simp at e
 |.d d'::as,_,k,i,h,e=>by
  simp only[RepA]at h;obtain⟨x,r,rfl,q,t⟩:=h;cases k with
  |zero=>simp at e
  |succ k=>simpa using RepA.getS (k:=k) t (by simpa using e)
 |.sl i'::as,_,k,i,h,e=>by
  simp only[RepA]at h;obtain⟨x,r,rfl,q,t⟩:=h;cases k with
  |zero=>simp at e;subst e;exact⟨x,by simp,q⟩
  |succ k=>simpa using RepA.getS (k:=k) t (by simpa using e)
end
section
variable{K:Qz}{as:List Ar}{vs:List V}{c:Mu}
theorem a7A:a4r (as.map (a0c c)):=fun w hw=>by
 obtain⟨a,_,rfl⟩:=Qa.mp hw;cases a with
 |d d=>exact .inl ⟨d,rfl⟩
 |sl i=>exact .inr (b0R c)
theorem a3E(e:(as.map (a0c c))[k]? =some w):(∃d,as[k]? =some (.d d)/\w=.dat d)∨ ∃j,as[k]? =some (.sl j)/\w=a2w c:=by
 rw[Zd]at e;cases h:as[k]? with
 |none=>rw[h]at e;cases e
 |some a=>
  rw[h]at e;cases a with
  |d d=>cases e;exact .inl ⟨d,rfl,rfl⟩
  |sl j=>cases e;exact .inr ⟨j,rfl,rfl⟩
theorem b0S(h:vs[k]? =some v):(vs.map some)[k]? =some (some v):=by rw[Zd,h];rfl
theorem b0T(h:(vs.map some)[k]? =some (some v)):vs[k]? =some v:=by
 rw[Zd]at h;cases e:vs[k]? with
 |none=>rw[e]at h;cases h
 |some u=>rw[e]at h;cases h;rfl
theorem a7B(rl:Rel K B G σ env H)(ra:RepA K G σ vs as)(u:∀(k j:Nat),as[k]? =some (.sl j)->j=i/\env[i]? =some w/\w.mut=some c)(un:∀(k k' j j':Nat),as[k]? =some (.sl j)->as[k']? =some (.sl j')->k=k'):
  Rel K a0b G (vs.map some) (as.map (a0c c)) H:=by
 refine⟨rl.sub,by rw[Qv,Qv,ra.length],fun k d e=>?_,fun k v ds e1 e2=>?_,fun k k' v v' ds es a q1 q2 q3 q4 q5 q6=>?_,fun k w a e _ _ h=>h,fun b h=>h.elim,rl.tabs,rl.gnt⟩
 ·rcases a3E e with⟨d',h1,h2⟩|⟨j,h1,h2⟩
  ·cases h2
   obtain⟨v,q1,q2⟩:=ra.getD h1;exact⟨v,b0S q1,q2⟩
  ·cases c<;>cases h2
 ·rcases a3E e1 with⟨d',h1,h2⟩|⟨j,h1,h2⟩
  ·subst h2;cases e2
  ·subst h2;rw[b0Q]at e2;cases e2
   obtain⟨v,q1,q2⟩:=ra.getS h1;obtain⟨rfl,q3,q4⟩:=u k j h1;obtain⟨a,xs,q5,q6,q7,q8⟩:=rl.own j w c q3 q4;rw[q2]at q5;cases q5;exact⟨a,xs,b0S q1,q6,q7,q8⟩
 ·rcases a3E q1 with⟨d',h1,h2⟩|⟨j,h1,h2⟩
  ·subst h2;cases q2
  ·rcases a3E q3 with⟨d',h3,h4⟩|⟨j',h3,h4⟩
   ·subst h4;cases q4
   ·exact un k k' j j' h1 h3
theorem b0U(ra:RepA K G σ vs as)(u:∀(k j:Nat),as[k]? =some (.sl j)->j=i)(h:Owned (vs.map some) (as.map (a0c c)) a):σ[i]? =some (some (V.ref a))/\∃k:Nat,as[k]? =some (Ar.sl i):=by
 obtain⟨k,v,ds,e1,e2,e3⟩:=h
 rcases a3E e1 with⟨d',h1,h2⟩|⟨j,h1,h2⟩
 ·subst h2;cases e2
 ·obtain⟨v',q1,q2⟩:=ra.getS h1
  have:=u k j h1;subst this;have e4:=b0T e3;rw[q1]at e4;cases e4;exact⟨q2,k,h1⟩
theorem a5I(rl:Rel K B G σ env H)(ra:RepA K G σ vs as)(hs:slots as=[])(ev:Ev K a0b G (vs.map some) (as.map (a0c c)) H G2 (vs.map some) ws' H2):Ev K B G σ env H G2 σ env H2:=by
 have no:∀a,¬ Owned (vs.map some) (as.map (a0c c)) a:=fun a z=>by
  obtain⟨_,k,e⟩:=b0U (i:=0) ra (fun k j e=>absurd e (a2x hs k j)) z
  exact a2x hs k 0 e
 refine⟨⟨ev.rel.sub,rl.len,fun i d e=>?_,fun i w ds e1 e2=>?_,rl.inj,rl.fresh,fun b h=>ev.live b (rl.old b h),ev.rel.tabs,ev.rel.gnt⟩,ev.same,fun b o _ t e=>ev.keep b o (no b) t e,ev.live,fun b e _ g=>ev.stay b e (no b) g,fun a z=>.inl z,fun i w e hp=>⟨rfl,w,e,hp⟩,rfl⟩
 ·obtain⟨v,q1,q2⟩:=rl.dat i d e
  exact⟨v,q1,Rep.mono ev.same d q2⟩
 ·obtain⟨a,xs,q1,q2,q3,q4⟩:=rl.own i w ds e1 e2
  exact⟨a,xs,q1,ev.keep a _ (no a) q3.nt q2,q3.mono ev.same,ev.stay a (by rw[q2];simp) (no a) q4⟩
theorem a7C{c':Mu}(rl:Rel K B G σ env H)(ra:RepA K G σ vs as)(hs:slots as=[i])(e1:env[i]? =some w)(e2:w.mut=some c)(hp:a2b ws'=some c')
  (ev:Ev K a0b G (vs.map some) (as.map (a0c c)) H G2 (vs.map some) ws' H2):Ev K B G σ env H G2 σ (env.set i (w.putM c')) H2:=by
 obtain⟨k,hk,uk⟩:=a7z hs;obtain⟨a,xs,h1,h2,h3,h4⟩:=rl.own i w c e1 e2;have ow:Owned σ env a:=⟨i,w,c,e1,e2,h1⟩;have isA:∀b,Owned (vs.map some) (as.map (a0c c)) b->b=a:=fun b z=>by
  obtain⟨q,_⟩:=b0U ra (fun k j e=>(uk k j e).2) z
  rw[h1]at q;cases q;rfl
 obtain⟨k',hk'⟩:=a3D hp;have ek:k'=k:=by
  obtain⟨_,d0,q,qp⟩:=ev.par k' _ hk' (b0R c')
  rcases a3E q with⟨d',z1,z2⟩|⟨j,z1,z2⟩
  ·subst z2;cases qp
  ·exact(uk k' j z1).1
 subst ek;obtain⟨a2,ys,g1,g2,g3,g4⟩:=ev.rel.own k' _ c' hk' (b0Q c');obtain⟨v,q1,q2⟩:=ra.getS hk;have g5:=b0T g1;rw[q1]at g5;cases g5;rw[h1]at q2;cases q2;have wp:(w.putM c').mut=some c':=W.putM_mut e2 c';have nd:∀d,w.putM c'≠.dat d:=fun d z=>by rw[z]at wp;cases wp
 refine⟨⟨ev.rel.sub,by rw[Za];exact rl.len,fun j d' q=>?_,fun j v es y1 y2=>?_,fun j m v v' es fs b y1 y2 y3 y4 y5 y6=>?_,fun j v b y1 yo y2=>?_,fun b h=>ev.live b (rl.old b h),ev.rel.tabs,ev.rel.gnt⟩,ev.same,fun b o n t e=>ev.keep b o (fun z=>n (isA b z ▸ ow)) t e,ev.live,fun b e n g=>ev.stay b e (fun z=>n (isA b z ▸ ow)) g,fun b z=>.inl ?_,fun j v q qp=>⟨rfl,?_⟩,rfl⟩
 ·rcases j0_ q with⟨z1,z2⟩|⟨z1,z2⟩
  ·exact absurd z2.symm (nd d')
  ·obtain⟨v,q1,q2⟩:=rl.dat j d' z2
   exact⟨v,q1,Rep.mono ev.same d' q2⟩
 ·rcases j0_ y1 with⟨z1,z2⟩|⟨z1,z2⟩
  ·subst z1 z2
   rw[wp]at y2;cases y2;exact⟨a,ys,h1,g2,g3,g4⟩
  ·obtain⟨p,zs,f1,f2,f3,f4⟩:=rl.own j v es z2 y2
   have hp:p≠a:=fun z=>z1 (rl.inj j i v w es c a z2 y2 e1 e2 (by rw[f1,z]) h1)
   have np:¬ Owned (vs.map some) (as.map (a0c c)) p:=fun z=>hp (isA p z)
   exact⟨p,zs,f1,ev.keep p _ np f3.nt f2,f3.mono ev.same,ev.stay p (by rw[f2];simp) np f4⟩
 ·have g:∀(m:Nat) (v:W) (es:Mu),(env.set i (w.putM c'))[m]? =some v->v.mut=some es->∃v0 es0,env[m]? =some v0/\v0.mut=some es0:=fun m v es y1 y2=>by
   rcases j0_ y1 with⟨z1,z2⟩|⟨z1,z2⟩
   ·rw[z1];exact⟨w,c,e1,e2⟩
   ·exact⟨v,es,z2,y2⟩
  obtain⟨v0,es0,x1,x2⟩:=g j v es y1 y2;obtain⟨v1,es1,x3,x4⟩:=g m v' fs y3 y4;exact rl.inj j m v0 v1 es0 es1 b x1 x2 x3 x4 y5 y6
 ·rcases j0_ y1 with⟨z1,z2⟩|⟨z1,z2⟩
  ·subst z1
   exact rl.fresh j w b e1 (by rw[z2,W.putM_own e2]at yo;exact yo) y2
  ·exact rl.fresh j v b z2 yo y2
 ·obtain⟨j,v,es,y1,y2,y3⟩:=z
  rcases j0_ y1 with⟨z1,z2⟩|⟨z1,z2⟩
  ·rw[z1,h1]at y3;cases y3;exact ow
  ·exact⟨j,v,es,z2,y2,y3⟩
 ·rcases j0_ q with⟨z1,z2⟩|⟨z1,z2⟩
  ·subst z1
   exact⟨w,e1,by rw[z2,W.putM_par e2]at qp;exact qp⟩
  ·exact⟨v,z2,qp⟩
end
def asD:Rr×Env'->Option (D×Env')
 |(.d d,e)=>some (d,e)
 |_=>none
def asL:Rr×Env'->Option (List D×Env')
 |(.l d,e)=>some (d,e)
 |_=>none
def mCD(n:Nat)(f:Fn)(as:Mo (List Ar)):Mo D:=fun env=>(a1y n f as env).bind asD
def a2c(n:Nat)(f:Fn)(as:Mo (List Ar)):Mo (List D):=fun env=>(a1y n f as env).bind asL
def b6E(K:Qz)(B:OA)(G:Hp)(σ:St)(env:Env')(H:Hp)(env':Env')(Q:VK):Rr->Prop
 |.d d=>∀v G' H',Ev K B G σ env H G' σ env' H'->Rep K G' v d->Q v H'
 |.l ds=>∀a xs G' H',Ev K B G σ env H G' σ env' H'->H a=none-> ¬ Owned σ env' a->H' a=some (.lst xs)->G' a=none->z9_ K G' xs ds->Q (.ref a) H'
 |.x ks us=>∀a o G' H',Ev K B G σ env H G' σ env' H'->H a=none-> ¬ Owned σ env' a->H' a=some o->G' a=none->RepM K G' o (.x ks us)->Q (.ref a) H'
theorem a7D{K:Qz}{f:Fn}{r:Rr}{E:XK}(rl:Rel K B G σ env H)(e:a1y n f as env=some (r,env'))
  (k:b6E K B G σ env H env' Q r):
  b0o (SpF K n f) [] E (TAm K B as) σ H Q:=by
 obtain⟨⟨av,env1⟩,e1,e2⟩:=q4_ e;dsimp only at e2;split at e2
 ·rename_i hn
  refine⟨G,env,av,env1,rl,e1,fun vs G1 H1 ev ra=>?_⟩
  show SpF K n f (vs++[]) H1 Q E;rw[Yt];have hnone:∀a,H1 a=none->H a=none:=fun a h=>by
   cases q:H a with
   |none=>rfl
   |some o=>exact absurd h (ev.live a (by rw[q];simp))
  split at e2
  ·rename_i hs
   obtain⟨⟨r',ws'⟩,e3,e4⟩:=x2_ e2;cases e4;refine⟨G1,av.map (a0c (.l [])),r',ws',by rw[Qv];exact hn,a7A,a7B (i:=0) (w:=.nil) ev.rel ra (fun k j e=>absurd e (a2x hs k j)) (fun k k' j j' e=>absurd e (a2x hs k j)),e3,?_⟩
   cases r' with
   |d d=>exact fun v G2 H2 ev2 rp=>k v G2 H2 (ev.trans (a5I ev.rel ra hs ev2)) rp
   |l ds=>
    intro a xs G2 H2 ev2 ha no h' g' rp;exact k a xs G2 H2 (ev.trans (a5I ev.rel ra hs ev2)) (hnone a ha) (ev.rel.unowned ha) h' g' rp
   |x ks us=>
    intro a o G2 H2 ev2 ha no h' g' rp;exact k a o G2 H2 (ev.trans (a5I ev.rel ra hs ev2)) (hnone a ha) (ev.rel.unowned ha) h' g' rp
  ·rename_i i hs
   obtain⟨w,e3,e4⟩:=q4_ e2;obtain⟨c,e5,e6⟩:=q4_ e4;obtain⟨⟨r',ws'⟩,e7,e8⟩:=q4_ e6;obtain⟨c',e9,e10⟩:=x2_ e8;cases e10;obtain⟨kk,hk,uk⟩:=a7z hs;refine⟨G1,av.map (a0c c),r',ws',by rw[Qv];exact hn,a7A,a7B (i:=i) (w:=w) ev.rel ra (fun k j e=>⟨(uk k j e).2,e3,e5⟩) (fun k k' j j' h1 h2=>(uk k j h1).1.trans (uk k' j' h2).1.symm),e7,?_⟩
   cases r' with
   |d d=>exact fun v G2 H2 ev2 rp=>k v G2 H2 (ev.trans (a7C ev.rel ra hs e3 e5 e9 ev2)) rp
   |l ds=>
    intro a xs G2 H2 ev2 ha no h' g' rp;have evc:=a7C ev.rel ra hs e3 e5 e9 ev2;refine k a xs G2 H2 (ev.trans evc) (hnone a ha) (fun z=>?_) h' g' rp
    rcases evc.sub a z with q|q
    ·exact ev.rel.unowned ha q
    ·obtain⟨j,v,es,y1,y2,y3⟩:=z
     rcases j0_ y1 with⟨z1,z2⟩|⟨z1,z2⟩
     ·subst z1
      exact ev.rel.unowned ha ⟨j,w,c,e3,e5,y3⟩
     ·exact ev.rel.unowned ha ⟨j,v,es,z2,y2,y3⟩
   |x ks us=>
    intro a o G2 H2 ev2 ha no h' g' rp;have evc:=a7C ev.rel ra hs e3 e5 e9 ev2;refine k a o G2 H2 (ev.trans evc) (hnone a ha) (fun z=>?_) h' g' rp
    rcases evc.sub a z with q|q
    ·exact ev.rel.unowned ha q
    ·obtain⟨j,v,es,y1,y2,y3⟩:=z
     rcases j0_ y1 with⟨z1,z2⟩|⟨z1,z2⟩
     ·subst z1
      exact ev.rel.unowned ha ⟨j,w,c,e3,e5,y3⟩
     ·exact ev.rel.unowned ha ⟨j,v,es,z2,y2,y3⟩
  ·cases e2
 ·cases e2
section
variable{p:Pos}{fn:Fn}{f:Addr}{fd:FuncData}{ps:List Str}
theorem b6F(F:FnOk X.prog X.w X.K X.mg X.base CX0 k f fd ps (SpF X.K ps.length fn))(hr:Room k X.A)(hg:Gl X x)(hm:X.mg x=some (.ref f))(hk:PySem.W.keepIn X.K (.ref f)=true)(hb:a0x X.K fd ps [])
  (ha:EAr X B (e::es) as)(hdb:(x==("__debug__":Str))=false:=by decide)(he:starEach (e::es) X.env=(false,eval e X.env)::starEach es X.env:=by rfl)(hpl:(backTo pos (starEach es X.env)).any (·.1)=false:=by rfl):
  ED X B (.Call (.Name x p) (e::es) [] pos) (mCD ps.length fn as):=by
 refine pe_imp (a5l F hr hg hm hk hb .nil a7h ha hdb he hpl) ?_
 rintro σ H Q ⟨G,env,d,env',rl,e,k⟩;obtain⟨⟨r,env1⟩,e1,e2⟩:=q4_ e;cases r with
 |d d'=>cases e2;exact a7D rl e1 k
 |l ds=>cases e2
 |x ks us=>cases e2
theorem b6G(F:FnOk X.prog X.w X.K X.mg X.base CX0 k f fd ps (SpF X.K ps.length fn))(hr:Room k X.A)(hg:Gl X x)(hm:X.mg x=some (.ref f))(hk:PySem.W.keepIn X.K (.ref f)=true)(hb:a0x X.K fd ps [])
  (ha:EAr X B (e::es) as)(hdb:(x==("__debug__":Str))=false:=by decide)(he:starEach (e::es) X.env=(false,eval e X.env)::starEach es X.env:=by rfl)(hpl:(backTo pos (starEach es X.env)).any (·.1)=false:=by rfl):
  EL X B (.Call (.Name x p) (e::es) [] pos) (a2c ps.length fn as):=by
 refine pe_imp (a5l F hr hg hm hk hb .nil a7h ha hdb he hpl) ?_
 rintro σ H Q ⟨G,env,d,env',rl,e,k⟩;obtain⟨⟨r,env1⟩,e1,e2⟩:=q4_ e;cases r with
 |d d'=>cases e2
 |l ds=>cases e2;exact a7D rl e1 k
 |x ks us=>cases e2
end
def u0_(cells:List (Str×Addr)):List (Str×NameKind)->List (Str×Addr)->List (Str×Addr)
 |[],acc=>acc
 |(n,k)::r,acc=>if k==.free then(match cells.lookup n with
  |some c=>u0_ cells r ((n,c)::acc)
  |none=>u0_ cells r acc)else u0_ cells r acc
theorem a0z{n:Str}{a:α}{r:List (Str×α)}:((n,a)::r).lookup x=if x=n then some a else r.lookup x:=by
 rw[List.lookup_cons]
 by_cases h:x=n
 ·subst h;simp
 ·have:(x==n)=false:=by simpa using h
  rw[this,Qm h]
theorem a2y{cells:List (Str×Addr)}:∀{names:List (Str×NameKind)}{acc:List (Str×Addr)}{x:Str}{c:Addr},(u0_ cells names acc).lookup x=some c->acc.lookup x=some c∨cells.lookup x=some c
 |[],acc,x,c,h=>.inl h
 |(n,k)::r,acc,x,c,h=>by
  unfold u0_ at h;split at h
  ·split at h
   ·rename_i c' hc
    rcases a2y h with q|q
    ·rw[a0z]at q
     split at q
     ·rename_i e;subst e;cases q;exact .inr hc
     ·exact .inl q
    ·exact .inr q
   ·exact a2y h
  ·exact a2y h
theorem a5J{cells:List (Str×Addr)}:∀{names:List (Str×NameKind)}{acc:List (Str×Addr)}{x:Str},(acc.lookup x).isSome=true->((u0_ cells names acc).lookup x).isSome=true
 |[],acc,x,h=>h
 |(n,k)::r,acc,x,h=>by
  unfold u0_;split
  ·split
   ·refine a5J ?_
    rw[a0z];split<;>simp[h]
   ·exact a5J h
  ·exact a5J h
theorem a2Z{cells:List (Str×Addr)}:∀{names:List (Str×NameKind)}{acc:List (Str×Addr)}{x:Str},(x,NameKind.free)∈names->(cells.lookup x).isSome=true->((u0_ cells names acc).lookup x).isSome=true
 |[],acc,x,h,_=>by cases h
 |(n,k)::r,acc,x,h,hc=>by
  unfold u0_
  rcases Qc.mp h with e|h
  ·cases e
   rw[Qh (by decide)]
   split
   ·refine a5J ?_
    rw[a0z];simp
   ·rename_i hn;rw[hn]at hc;cases hc
  ·split
   ·split
    ·exact a2Z h hc
    ·exact a2Z h hc
   ·exact a2Z h hc
theorem a7E:∀{names:List (Str×NameKind)}{h:Heap}{acc:List (Str×Addr)}{x:Str}{c:Addr},(cellsFrom h.objs.size names acc).lookup x=some c->
  acc.lookup x=some c∨((pushCells h names).IsCell c none/\h.objs.size≤c/\(x,NameKind.cell)∈names)
 |[],h,acc,x,c,q=>.inl q
 |(n,k)::r,h,acc,x,c,q=>by
  unfold cellsFrom at q;unfold pushCells;split at q
  ·rename_i hk
   rw[Qh hk];have hk':k=.cell:=by simpa using hk
   have ih:=a7E (names:=r) (h:=h.push {cls:=.type "cell",data:=.cell none}) (acc:=(n,h.objs.size)::acc) (x:=x) (c:=c) (by rw[Yh];exact q)
   rcases ih with z|⟨z1,z2,z3⟩
   ·rw[a0z]at z
    split at z
    ·rename_i e;subst e;cases z
     exact .inr ⟨⟨_,Xr _ _ _ _ (Qu _ rfl),rfl⟩,Qb _,by rw[hk'];exact Zf⟩
    ·exact .inl z
   ·rw[Yh]at z2
    exact .inr ⟨z1,by omega,Zp _ z3⟩
  ·rename_i hk
   rw[Qm hk]
   rcases a7E q with z|⟨z1,z2,z3⟩
   ·exact .inl z
   ·exact .inr ⟨z1,z2,Zp _ z3⟩
theorem a7F:∀{names:List (Str×NameKind)}{n:Nat}{acc:List (Str×Addr)},(∀x y c,acc.lookup x=some c->acc.lookup y=some c->x=y)->(∀x c,acc.lookup x=some c->c<n)->
  ∀x y c,(cellsFrom n names acc).lookup x=some c->(cellsFrom n names acc).lookup y=some c->x=y
 |[],n,acc,h1,h2=>h1
 |(m,k)::r,n,acc,h1,h2=>by
  unfold cellsFrom;split
  ·refine a7F (names:=r) (fun x y c q1 q2=>?_) (fun x c q=>?_)
   ·rw[a0z]at q1 q2
    split at q1<;>split at q2
    ·rename_i e1 e2;rw[e1,e2]
    ·cases q1;exact absurd (h2 _ _ q2) (Jw _)
    ·cases q2;exact absurd (h2 _ _ q1) (Jw _)
    ·exact h1 x y c q1 q2
   ·rw[a0z]at q
    split at q
    ·cases q;exact Nat.lt_succ_self _
    ·exact Tn (h2 _ _ q)
  ·exact a7F (names:=r) h1 h2
theorem a5K{env:Env}{x:Str}:∀{names:List (Str×NameKind)},((names.map fun(n,k)=>if(k==NameKind.free&&env.scope.kind==.function&&env.kindOf n==some .cell)then(n,NameKind.cell)else(n,k)).lookup x)=
  (names.lookup x).map fun k=>if(k==NameKind.free&&env.scope.kind==.function&&env.kindOf x==some .cell)then NameKind.cell else k
 |[]=>rfl
 |(n,k)::r=>by
  have ih:=a5K (env:=env) (x:=x) (names:=r)
  show List.lookup x ((if(k==NameKind.free&&env.scope.kind==.function&&env.kindOf n==some .cell)=true then(n,NameKind.cell)else(n,k))::_)=_
  by_cases hx:x=n
  ·subst hx
   rw[a0z (a:=k),Qh rfl]
   by_cases hc:(k==NameKind.free&&env.scope.kind==.function&&env.kindOf x==some .cell)=true
   ·rw[Qh hc,a0z,Qh rfl]
    show _=some (if(k==NameKind.free&&env.scope.kind==.function&&env.kindOf x==some .cell)=true then NameKind.cell else k)
    rw[Qh hc]
   ·rw[Qm hc,a0z,Qh rfl]
    show _=some (if(k==NameKind.free&&env.scope.kind==.function&&env.kindOf x==some .cell)=true then NameKind.cell else k)
    rw[Qm hc]
  ·rw[a0z (a:=k),Qm hx]
   by_cases hc:(k==NameKind.free&&env.scope.kind==.function&&env.kindOf n==some .cell)=true
   ·rw[Qh hc,a0z,Qm hx];exact ih
   ·rw[Qm hc,a0z,Qm hx];exact ih
theorem a5L:∀{names:List (Str×NameKind)}{n:Nat}{acc:List (Str×Addr)}{x:Str}{c0:Addr},acc.lookup x=some c0->∃c,(cellsFrom n names acc).lookup x=some c/\(c=c0∨n≤c)
 |[],n,acc,x,c0,h=>⟨c0,h,.inl rfl⟩
 |(m,k)::r,n,acc,x,c0,h=>by
  unfold cellsFrom;split
  ·by_cases hx:x=m
   ·obtain⟨c,h1,h2⟩:=a5L (names:=r) (n:=n+1) (acc:=(m,n)::acc) (x:=x) (c0:=n) (by rw[a0z,Qh hx])
    exact⟨c,h1,.inr (h2.elim (fun z=>Nat.le_of_eq z.symm) fun z=>Uy z)⟩
   ·obtain⟨c,h1,h2⟩:=a5L (names:=r) (n:=n+1) (acc:=(m,n)::acc) (x:=x) (c0:=c0) (by rw[a0z,Qm hx];exact h)
    exact⟨c,h1,h2.elim .inl fun z=>.inr (Uy z)⟩
  ·exact a5L h
theorem a7G:∀{names:List (Str×NameKind)}{n:Nat}{acc:List (Str×Addr)}{x:Str},(x,NameKind.cell)∈names->∃c,(cellsFrom n names acc).lookup x=some c/\n≤c
 |[],n,acc,x,h=>by cases h
 |(m,k)::r,n,acc,x,h=>by
  unfold cellsFrom
  rcases Qc.mp h with e|h
  ·cases e
   rw[Qh (by decide)]
   obtain⟨c,h1,h2⟩:=a5L (names:=r) (n:=n+1) (acc:=(m,n)::acc) (x:=m) (c0:=n) (by rw[a0z,Qh rfl])
   exact⟨c,h1,h2.elim (fun z=>Nat.le_of_eq z.symm) fun z=>Uy z⟩
  ·split
   ·obtain⟨c,h1,h2⟩:=a7G (names:=r) (n:=n+1) (acc:=(m,n)::acc) h
    exact⟨c,h1,Uy h2⟩
   ·exact a7G h
def a3F(scope:Scope)(env:Env)(C:Addr):Env:=
 {scope:=relabel scope env,locals:=C,globals:=env.globals,cells:=cellsFrom (C+1) scope.names (u0_ env.cells scope.names []),qual:=env.qual,func:=none,code:=env.code,frame:=env.frame,builtins:=env.builtins}
def k1_(X:Cx)(N':List Str)(scope:Scope)(s:Shared)(H:Hp)(fp:List Addr):Cx where
 prog:=X.prog
 w:=X.w
 K:=X.K
 mg:=X.mg
 base:=X.base
 A:=X.A
 N:=N'
 s₀:=s
 H₀:=H
 env:=a3F scope X.env s.heap.objs.size
 outer:=X.stack
 stack:=X.stack
 ex:=fp
 fn:=fun x=>scope.names.lookup x==some .cell
 calm:=X.calm
 pn:=[]
 xe:=fun _ _=>False
structure CompOk(X:Cx)(N':List Str)(scope:Scope)(keep:List Bool)(more:Nat):Prop where
 kind:scope.kind=.function
 uniq:∀y∈scope.names,scope.names.lookup y.1=some y.2
 clos:closureFor scope X.env=pure (u0_ X.env.cells scope.names [])
 free:∀y∈scope.names,y.2=.free->(X.env.cells.lookup y.1).isSome=true
 klen:keep.length=X.N.length
 len:N'.length=X.N.length+more
 kept:∀(i:Nat) (x:Str),keep[i]? =some true->N'[i]? =some x->X.N[i]? =some x/\scope.names.lookup x≠some .local/\scope.names.lookup x≠some .cell
 outVis:∀(i:Nat) (x:Str),keep[i]? =some true->X.N[i]? =some x->scope.names.lookup x=some .free->X.env.scope.names.lookup x=some .cell∨X.env.scope.names.lookup x=some .free
def u1_(keep:List Bool)(more:Nat)(σ:St):St:=List.zipWith (fun k v=>if k then v else none) keep σ++List.replicate more none
theorem a3a{keep:List Bool}(h:(u1_ keep more σ)[i]? =some (some v)):keep[i]? =some true/\σ[i]? =some (some v):=by
 unfold u1_ at h
 rcases a2v h with⟨_,h⟩|⟨_,h⟩
 ·rw[Jh]at h
  cases e1:keep[i]? with
  |none=>rw[e1]at h;cases h
  |some k=>
   cases e2:σ[i]? with
   |none=>rw[e1,e2]at h;cases h
   |some u=>
    rw[e1,e2]at h;cases k with
    |true=>simp at h;exact⟨rfl,by rw[h]⟩
    |false=>simp at h
 ·cases h
theorem b6H{keep:List Bool}{fp:List Addr}(ok:CompOk X N' scope keep more)(I:Inv X pins σ H s)
  (hf:∀b∈fp,a0q X pins H b/\b<s.heap.objs.size):
  Inv (k1_ X N' scope s H fp) [] (u1_ keep more σ) H {s with heap:=pushCells (s.heap.push {cls:=.type "dict",data:=.dict #[]}) scope.names}:=by
 have hsz:(s.heap.push {cls:=.type "dict",data:=.dict #[]}).objs.size=s.heap.objs.size+1:=Yh ..
 have keepAll:∀b u,s.heap.get? b=some u->(pushCells (s.heap.push {cls:=.type "dict",data:=.dict #[]}) scope.names).get? b=some u:=fun b u e=>Xr _ _ _ _ (Qx _ e)
 have cases':∀x c,(a3F scope X.env s.heap.objs.size).cells.lookup x=some c->X.env.cells.lookup x=some c∨((pushCells (s.heap.push {cls:=.type "dict",data:=.dict #[]}) scope.names).IsCell c none/\s.heap.objs.size+1≤c/\(x,NameKind.cell)∈scope.names):=fun x c e=>by
  have e':(cellsFrom ((s.heap.push {cls:=.type "dict",data:=.dict #[]}).objs.size) scope.names (u0_ X.env.cells scope.names [])).lookup x=some c:=by rw[hsz];exact e
  rcases a7E e' with z|⟨z1,z2,z3⟩
  ·rcases a2y z with y|y
   ·cases y
   ·exact .inl y
  ·rw[hsz]at z2;exact .inr ⟨z1,z2,z3⟩
 have cellLt:∀x c,X.env.cells.lookup x=some c->c<s.heap.objs.size:=fun x c e=>by
  obtain⟨v,q⟩:=I.cell x c e;exact q.lt
 have fsSub:∀b∈frs X.stack,b<s.heap.objs.size:=fun b hb=>by
  obtain⟨_,o,ho,_⟩:=I.stack.mem hb;exact Qg ho
 refine⟨⟨I.ok.mod,?_,I.ok.glob,I.ok.blt,Qb _,fun x y c e1 e2=>?_,fun x hx=>?_,fun x c e1 e2=>?_,I.ok.hd,I.ok.frames,.inl rfl,fun b hb=>?_,I.bs,Zt I.ok.bsz I.sz,fun b o e hb=>?_,fun b hb hb2=>?_,I.stack,I.stkFree⟩,
  rfl,I.bare,Un.kept keepAll,⟨fun _=>none,(Heap.Ns.new s.heap (.type "dict")).keeps (Xr _ _),fun i x v e1 e2 e3=>?_⟩,fun x c e=>?_,I.hok.fresh (Qb _),fun x c e=>?_,fun p hp=>absurd (show p∈([]:OX)from hp) (by simp),I.hok.kept keepAll,?_⟩
 ·show(relabel scope X.env).kind=.function
  exact ok.kind
 ·refine a7F (names:=scope.names) (n:=s.heap.objs.size+1) (acc:=u0_ X.env.cells scope.names []) (fun x y c q1 q2=>?_) (fun x c q=>?_) x y c e1 e2
  ·rcases a2y q1 with z1|z1
   ·cases z1
   ·rcases a2y q2 with z2|z2
    ·cases z2
    ·exact I.ok.inj x y c z1 z2
  ·rcases a2y q with z1|z1
   ·cases z1
   ·exact Tn (cellLt x c z1)
 ·have hx':(relabel scope X.env).names.lookup x=some .cell∨(relabel scope X.env).names.lookup x=some .free:=hx
  have h1:scope.names.lookup x=some .cell∨scope.names.lookup x=some .free:=by
   unfold relabel at hx';rw[a5K]at hx';cases q:scope.names.lookup x with
   |none=>rw[q]at hx';simp at hx'
   |some k=>
    rw[q]at hx';cases k<;>simp at hx'<;>first|exact .inl rfl|exact .inr rfl
  refine Yg.mp (Ut scope.names _ _ ?_)
  rcases h1 with h1|h1
  ·exact .inl h1
  ·exact .inr (a2Z (Zj h1) (ok.free _ (Zj h1) rfl))
 ·have e1':scope.names.lookup x=some .cell:=by simpa [k1_]using e1
  obtain⟨c',q1,q2⟩:=a7G (names:=scope.names) (n:=s.heap.objs.size+1) (acc:=u0_ X.env.cells scope.names []) (Zj e1');have e2':(cellsFrom (s.heap.objs.size+1) scope.names (u0_ X.env.cells scope.names [])).lookup x=some c:=e2;rw[q1]at e2';cases e2';exact Uy q2
 ·refine⟨Qi (hf b hb).2,fun x c e z=>?_⟩
  rcases cases' x c e with y|⟨_,y,_⟩
  ·exact(hf b hb).1.2.2.2.2.1 x c y z
  ·exact absurd (Qr (hf b hb).2 (Uy y)) (by rw[z];exact Jw _)
 ·have:=(I.bs b o e).1
  rcases(hf b hb).1.2.2.2.1 with z|z
  ·exact I.ok.noex b o e z
  ·exact absurd (Qr (Qg e) (Zt I.ok.bsz z)) (Jw _)
 ·rcases Qc.mp (I.stkSub b hb2)with z|z
  ·exact(hf b hb).1.2.1 z
  ·exact(hf b hb).1.2.2.1 z
 ·obtain⟨k1,k2⟩:=a3a e2
  obtain⟨h1,h2,h3⟩:=ok.kept i x k1 e1;have e3':(relabel scope X.env).names.lookup x=some .local∨(relabel scope X.env).names.lookup x=some .cell∨(relabel scope X.env).names.lookup x=some .free:=e3;have hfree:scope.names.lookup x=some .free:=by
   unfold relabel at e3';rw[a5K]at e3';cases q:scope.names.lookup x with
   |none=>rw[q]at e3';simp at e3'
   |some k=>
    rw[q]at e3' h2 h3;cases k<;>simp at e3' h2 h3<;>rfl
  obtain⟨m,hn,hl⟩:=I.loc;have ov:=ok.outVis i x k1 h1 hfree;obtain⟨u,r,l⟩:=hl i x v h1 k2 (.inr ov);refine⟨u,r,.inr ?_⟩;obtain⟨c0,hc0⟩:=Yg.mp (ok.free _ (Zj hfree) rfl);have hcell:s.heap.IsCell c0 (some u):=by
   rcases l with⟨kl,_⟩|⟨_,c,hc,hz⟩
   ·have kl':X.env.scope.names.lookup x=some .local:=kl
    rcases ov with z|z<;>(rw[z]at kl';cases kl')
   ·have hc':X.env.cells.lookup x=some c:=hc
    have hc0':X.env.cells.lookup x=some c0:=hc0
    rw[hc']at hc0';cases hc0';exact hz
  have hk:(a3F scope X.env s.heap.objs.size).kindOf x=some .cell∨(a3F scope X.env s.heap.objs.size).kindOf x=some .free:=by
   show(relabel scope X.env).names.lookup x=some .cell∨(relabel scope X.env).names.lookup x=some .free
   rcases e3' with z|z
   ·exfalso
    unfold relabel at z;rw[a5K,hfree]at z;simp only[Option.map_some,Yq]at z;split at z<;>cases z
   ·exact z
  refine⟨hk,c0,?_,hcell.keeps keepAll⟩;obtain⟨c1,hc1⟩:=Yg.mp (Ut (x:=x) scope.names (s.heap.objs.size+1) (u0_ X.env.cells scope.names []) (.inr (a2Z (Zj hfree) (ok.free _ (Zj hfree) rfl))));have hc1':(a3F scope X.env s.heap.objs.size).cells.lookup x=some c1:=hc1
  rcases cases' x c1 hc1' with z|⟨_,_,z⟩
  ·have hc0':X.env.cells.lookup x=some c0:=hc0
   rw[hc0']at z;cases z;exact hc1'
  ·have:=ok.uniq _ z
   rw[hfree]at this;cases this
 ·rcases cases' x c e with y|⟨y,_,_⟩
  ·obtain⟨v,q⟩:=I.cell x c y
   exact⟨v,q.keeps keepAll⟩
  ·exact⟨none,y⟩
 ·rcases cases' x c e with y|⟨_,y,_⟩
  ·exact I.freeC x c y
  ·exact I.hok.fresh (by omega)
 ·show(u1_ keep more σ).length=N'.length
  unfold u1_;rw[Qt,Yi,Yk,ok.len,ok.klen,I.len]
  omega
section
variable{prog:Program}{w:World}{A:Around}{R:Result->Shared->Prop}
theorem b6I{M:Model}{env:Env}{Q:Env->Shared->Prop}(cl:List (Str×Addr))
  (h:Q {scope:=scope,locals:=s.heap.objs.size,globals:=env.globals,cells:=cellsFrom (s.heap.objs.size+1) scope.names cl,qual:=env.qual,func:=none,code:=env.code,frame:=env.frame,builtins:=env.builtins}
   {s with heap:=pushCells (s.heap.push {cls:=.type "dict",data:=.dict #[]}) scope.names}):
  wpAny M A (newFunctionEnv scope env.globals cl [] env.qual none .none (some env)) Q E s:=by
 simp only[newFunctionEnv,Option.isSome_some,Yw];refine Qq (wpAny_alloc ?_);refine Qq (wpAny_layCells _ (fun name kind cells=>by cases hkc:kind==NameKind.cell<;>simp[hkc]) _ _ _ _ ?_)
 rw[show({s with heap:=s.heap.push {cls:=.type "dict",data:=.dict #[]}}:Shared).heap.objs.size=s.heap.objs.size+1 from Yh ..]
 exact Qq (by rw[List.forIn_nil];exact Qj (Qj h))
end
def a1k(X:Cx)(ifs:List Expr)(t:TT):Prop:=
 ∀(pins:OX) (s:Shared) (σ:St) (H:Hp) (Q:Bool->Hp->Prop),Inv X pins σ H s->t σ H Q->
  wpAny (model X.prog X.w) X.A (forIn ifs true fun c r=>if r=true then do let ok←isTrue c X.env (eval c X.env);pure (ForInStep.yield ok)else pure (ForInStep.yield r)) (TP X pins σ Q) X.xe s
theorem b6J:a1k X [] (fun _ H Q=>Q true H):=fun _ _ _ H _ I h=>wpAny_tests_nil ⟨H,I,h⟩
theorem b6K{t:TT}(h:PT X c t):a1k X [c] t:=fun pins s σ H Q I q=>wpAny_tests_one (h pins s σ H Q I q)
section
variable{keep:List Bool}{elt:Expr}{ifs:List Expr}{g:TG}{tt:TT}{te:TE}
end
def u2_(keep:List Bool)(more:Nat)(env:Env'):Env':=List.zipWith (fun k w=>if k then w else .nil) keep env++List.replicate more .nil
def a1l:Bool->W->W->Option W
 |false,w,_=>some w
 |true,.nil,_=>some .nil
 |true,.dat d,_=>some (.dat d)
 |true,.own _,.own ds=>some (.own ds)
 |true,.own _,.dat d=>some (.dat d)
 |true,.par _,.par ds=>some (.par ds)
 |true,.ownD _ _,.ownD ks vs=>some (.ownD ks vs)
 |true,.ownD _ _,.dat d=>some (.dat d)
 |true,.parD _ _,.parD ks vs=>some (.parD ks vs)
 |true,.ownX _ _,.ownX ks vs=>some (.ownX ks vs)
 |true,.ownX _ _,.dat d=>some (.dat d)
 |true,.parX _ _,.parX ks vs=>some (.parX ks vs)
 |_,_,_=>none
theorem b6L{w':W}(h:a1l true w w2=some w')(e:w'.mut=some m):w2=w'/\∃d0,w.mut=some d0/\w.isOwn=w'.isOwn/\w.isPar=w'.isPar:=by
 cases w<;>cases w2<;>first
  |(simp only[a1l,Yq]at h;subst h;exact⟨rfl,_,rfl,rfl,rfl⟩)
  |(simp only[a1l,Yq]at h;subst h;cases e;done)
  |(simp[a1l]at h;done)
theorem b6M(h:a1l true w w2=some (.dat d)):w=.dat d∨(w2=.dat d/\∃d0,w.mut=some d0):=by
 cases w<;>cases w2<;>first
  |(simp only[a1l,Yq]at h;exact .inl h)
  |(simp only[a1l,Yq]at h;exact .inr ⟨h,_,rfl⟩)
  |(simp[a1l]at h;done)
def g3_:List Bool->Env'->Env'->Option Env'
 |[],[],_=>some []
 |k::ks,w::ws,w2::ws2=>(a1l k w w2).bind fun x=>(g3_ ks ws ws2).map fun r=>x::r
 |_,_,_=>none
theorem a7H:∀{keep:List Bool}{env env2 env':Env'}{i:Nat}{w':W},g3_ keep env env2=some env'->env'[i]? =some w'->∃k w w2,keep[i]? =some k/\env[i]? =some w/\env2[i]? =some w2/\a1l k w w2=some w'
 |[],[],_,env',i,w',h,e=>by simp only[g3_,Yq]at h;subst h;simp at e
 |[],_::_,_,env',i,w',h,e=>by simp[g3_]at h
 |k::ks,[],_,env',i,w',h,e=>by simp[g3_]at h
 |k::ks,w::ws,[],env',i,w',h,e=>by simp[g3_]at h
 |k::ks,w::ws,w2::ws2,env',i,w',h,e=>by
  unfold g3_ at h;obtain⟨x,h1,h2⟩:=q4_ h;obtain⟨r,h3,h4⟩:=x2_ h2;subst h4;cases i with
  |zero=>simp at e;subst e;exact⟨k,w,w2,rfl,rfl,rfl,h1⟩
  |succ i=>simpa using a7H (i:=i) h3 (by simpa using e)
theorem b0V:∀{keep:List Bool}{env env2 env':Env'},g3_ keep env env2=some env'->env'.length=env.length
 |[],[],_,env',h=>by simp only[g3_,Yq]at h;subst h;rfl
 |[],_::_,_,env',h=>by simp[g3_]at h
 |k::ks,[],_,env',h=>by simp[g3_]at h
 |k::ks,w::ws,[],env',h=>by simp[g3_]at h
 |k::ks,w::ws,w2::ws2,env',h=>by
  unfold g3_ at h;obtain⟨x,h1,h2⟩:=q4_ h;obtain⟨r,h3,h4⟩:=x2_ h2;subst h4
  simp[b0V h3]
theorem a3b{keep:List Bool}(h:(u2_ keep more env)[i]? =some w)(hw:w≠.nil):keep[i]? =some true/\env[i]? =some w:=by
 unfold u2_ at h
 rcases a2v h with⟨_,h⟩|⟨_,h⟩
 ·rw[Jh]at h
  cases e1:keep[i]? with
  |none=>rw[e1]at h;cases h
  |some k=>
   cases e2:env[i]? with
   |none=>rw[e1,e2]at h;cases h
   |some u=>
    rw[e1,e2]at h;cases k with
    |true=>simp at h;exact⟨rfl,by rw[h]⟩
    |false=>simp at h;exact absurd h.symm hw
 ·exact absurd h hw
theorem a4t{keep:List Bool}{v:Option V}(hk:keep[i]? =some true)(h:σ[i]? =some v):(u1_ keep more σ)[i]? =some v:=by
 unfold u1_;have h1:i<keep.length:=(Qy.mp hk).1;have h2:i<σ.length:=(Qy.mp h).1;rw[Jm (by rw[Yi];omega),Jh,hk,h]
 rfl
theorem a4u{ds:Mu}(h:w.mut=some ds):w≠.nil:=fun z=>by rw[z]at h;cases h
section
variable{K:Qz}{env2:Env'}{keep:List Bool}
theorem a7I(h:Owned (u1_ keep more σ) (u2_ keep more env) a):Owned σ env a:=by
 obtain⟨i,w,ds,e1,e2,e3⟩:=h;exact⟨i,w,ds,(a3b e1 (a4u e2)).2,e2,(a3a e3).2⟩
theorem Rel.ext(r:Rel K B G σ env H)(hk:keep.length=σ.length):Rel K B G (u1_ keep more σ) (u2_ keep more env) H:=by
 refine⟨r.sub,?_,fun i d e=>?_,fun i w ds e1 e2=>?_,fun i j w w' ds es a q1 q2 q3 q4 q5 q6=>?_,fun i w a q1 qo q2=>?_,r.old,r.tabs,r.gnt⟩
 ·unfold u2_ u1_
  rw[Qt,Qt,Yi,Yi,Yk,Yk,r.len]
 ·obtain⟨k1,k2⟩:=a3b e (by simp)
  obtain⟨v,e1,e2⟩:=r.dat i d k2;exact⟨v,a4t k1 e1,e2⟩
 ·obtain⟨k1,k2⟩:=a3b e1 (a4u e2)
  obtain⟨a,xs,e3,e4⟩:=r.own i w ds k2 e2;exact⟨a,xs,a4t k1 e3,e4⟩
 ·exact r.inj i j w w' ds es a (a3b q1 (a4u q2)).2 q2 (a3b q3 (a4u q4)).2 q4 (a3a q5).2 (a3a q6).2
 ·exact r.fresh i w a (a3b q1 (by rintro rfl;cases qo)).2 qo (a3a q2).2
theorem Ev.out(r:Rel K B G σ env H)(hk:keep.length=σ.length)(ev:Ev K B G (u1_ keep more σ) (u2_ keep more env) H G' σ' env2 H')(hσ:∀j,j<σ.length->σ'[j]? =(u1_ keep more σ)[j]?)(ho:g3_ keep env env2=some env'):
  Ev K B G σ env H G' σ env' H':=by
 have mutO:∀(i:Nat) (w':W) (ds:Mu),env'[i]? =some w'->w'.mut=some ds->∃w0 d0,env[i]? =some w0/\w0.mut=some d0/\w0.isOwn=w'.isOwn/\w0.isPar=w'.isPar/\
   ∃a o,σ[i]? =some (some (V.ref a))/\H' a=some o/\RepM K G' o ds/\G' a=none:=fun i w' ds e1 e2=>by
  obtain⟨k,w,w2,h1,h2,h3,h4⟩:=a7H ho e1;have hi:i<σ.length:=by have:=(Qy.mp h2).1;rw[←r.len];exact this
  cases k with
  |false=>
   simp only[a1l,Yq]at h4;subst h4;obtain⟨a,xs,q1,q2,q3,q4⟩:=r.own i w ds h2 e2;have no:¬ Owned (u1_ keep more σ) (u2_ keep more env) a:=by
    rintro⟨j,v,es,y1,y2,y3⟩;obtain⟨z1,z2⟩:=a3b y1 (a4u y2);have:=r.inj j i v w es ds a z2 y2 h2 e2 (a3a y3).2 q1;subst this;rw[h1]at z1;cases z1
   exact⟨w,ds,h2,e2,rfl,rfl,a,xs,q1,ev.keep a _ no q3.nt q2,q3.mono ev.same,ev.stay a (by rw[q2];simp) no q4⟩
  |true=>
   obtain⟨z,d0,z1,z2,z3⟩:=b6L h4 e2;subst z;refine⟨w,d0,h2,z1,z2,z3,?_⟩;obtain⟨a,xs,q1,q2,q3,q4⟩:=ev.rel.own i w2 ds h3 e2;obtain⟨a0,xs0,p1,_⟩:=r.own i w d0 h2 z1;rw[hσ i hi,a4t h1 p1]at q1;cases q1;exact⟨a,xs,p1,q2,q3,q4⟩
 refine⟨⟨ev.rel.sub,by rw[b0V ho];exact r.len,fun i d e=>?_,fun i w ds e1 e2=>?_,fun i j w w' ds es a q1 q2 q3 q4 q5 q6=>?_,fun i w a q1 qo q2=>?_,ev.rel.old,ev.rel.tabs,ev.rel.gnt⟩,ev.same,fun b o n t e=>ev.keep b o (fun z=>n (a7I z)) t e,ev.live,fun b e n g=>ev.stay b e (fun z=>n (a7I z)) g,fun a z=>.inl ?_,fun i w e hp=>⟨rfl,?_⟩,rfl⟩
 ·obtain⟨k,w,w2,h1,h2,h3,h4⟩:=a7H ho e
  have hi:i<σ.length:=by have:=(Qy.mp h2).1;rw[←r.len];exact this
  have old:w=.dat d->∃v,σ[i]? =some (some v)/\Rep K G' v d:=fun z=>by
   subst z;obtain⟨v,e1,e2⟩:=r.dat i d h2;exact⟨v,e1,Rep.mono ev.same d e2⟩
  cases k with
  |false=>simp only[a1l,Yq]at h4;exact old h4
  |true=>
   rcases b6M h4 with z|⟨z,d0,z0⟩
   ·exact old z
   ·subst z
    obtain⟨v,q1,q2⟩:=ev.rel.dat i d h3;obtain⟨a0,xs0,p1,_⟩:=r.own i _ d0 h2 z0;rw[hσ i hi,a4t h1 p1]at q1;cases q1;exact⟨_,p1,q2⟩
 ·obtain⟨w0,d0,_,_,_,_,q⟩:=mutO i w ds e1 e2
  exact q
 ·obtain⟨w0,d0,y1,y2,_⟩:=mutO i w ds q1 q2
  obtain⟨w1,d1,y3,y4,_⟩:=mutO j w' es q3 q4;exact r.inj i j w0 w1 d0 d1 a y1 y2 y3 y4 q5 q6
 ·obtain⟨m,hm⟩:=own_mut qo
  obtain⟨w0,d0,y1,_,y3,_⟩:=mutO i _ m q1 hm;exact r.fresh i w0 a y1 (y3.trans qo) q2
 ·obtain⟨i,w,ds,e1,e2,e3⟩:=z
  obtain⟨w0,d0,y1,y2,_⟩:=mutO i w ds e1 e2;exact⟨i,w0,d0,y1,y2,e3⟩
 ·obtain⟨m,hm⟩:=par_mut hp
  obtain⟨w0,d0,y1,_,_,y4,_⟩:=mutO i _ m e hm;exact⟨w0,y1,y4.trans hp⟩
theorem Ev.swapAt(ev:Ev K B G σ env H G' σ' env' H')(no:¬ Owned σ env p)(hp:H p≠none)(gp:G p=none)(nt:NT o)(nx:∀φ,H' p≠some (.ext φ)):Ev K B G σ env (upd H p o) G' σ' env' (upd H' p o):=by
 have np:∀(i:Nat) (w:W) (ds:Mu) (a:Addr),env'[i]? =some w->w.mut=some ds->σ'[i]? =some (some (V.ref a))->a≠p:=fun i w ds a e1 e2 e3 z=>by
  rcases ev.sub a ⟨i,w,ds,e1,e2,e3⟩with q|q
  ·exact no (z ▸ q)
  ·exact hp (z ▸ q)
 have gp':G' p=none:=ev.stay p hp no gp
 have live':∀b,H' b≠none->(upd H' p o) b≠none:=fun b h=>by
  by_cases hb:b=p
  ·subst hb;rw[x0_];simp
  ·rw[v0_ hb];exact h
 refine⟨⟨fun b u e=>?_,ev.rel.len,ev.rel.dat,fun i w ds e1 e2=>?_,ev.rel.inj,ev.rel.fresh,fun b h=>live' b (ev.rel.old b h),ev.rel.tabs.upd nt nx,ev.rel.gnt⟩,ev.same,fun b u n t e=>?_,fun b e=>?_,fun b e n g=>?_,fun a z=>?_,ev.par,ev.slen⟩
 ·have hb:b≠p:=fun z=>by rw[z,gp']at e;cases e
  rw[v0_ hb];exact ev.rel.sub b u e
 ·obtain⟨a,xs,e3,e4,e5,e6⟩:=ev.rel.own i w ds e1 e2
  exact⟨a,xs,e3,by rw[v0_ (np i w ds a e1 e2 e3)];exact e4,e5,e6⟩
 ·by_cases hb:b=p
  ·subst hb;rw[x0_]at e ⊢;exact e
  ·rw[v0_ hb]at e ⊢;exact ev.keep b u n t e
 ·by_cases hb:b=p
  ·subst hb;rw[x0_];simp
  ·rw[v0_ hb]at e ⊢;exact ev.live b e
 ·by_cases hb:b=p
  ·subst hb;exact gp'
  ·rw[v0_ hb]at e;exact ev.stay b e n g
 ·obtain⟨i,w,ds,e1,e2,e3⟩:=id z
  rw[v0_ (np i w ds a e1 e2 e3)];exact ev.sub a z
end
def j7_(g:OZ)(t:Mo Bool)(m:Mo D):List D->Mo (List D)
 |[],env=>some ([],env)
 |d::ds,env=>(g d env).bind fun e1=>(t e1).bind fun p=>if p.1 then(m p.2).bind fun q=>(j7_ g t m ds q.2).map fun r=>(q.1::r.1,r.2)else j7_ g t m ds p.2
def y1_(mi:Mo (List D))(keep:List Bool)(more:Nat)(g:OZ)(t:Mo Bool)(m:Mo D):Mo (List D):=fun env=>(mi env).bind fun p=>if p.1.length≤100000 then
 (j7_ g t m p.1 (u2_ keep more p.2)).bind fun q=>(g3_ keep p.2 q.2).map fun e=>(q.1,e)else none
def y8_:Mo Bool:=fun env=>some (true,env)
theorem g4_:a1k X [] (TTm X.K B y8_):=fun pins s σ H Q I h=>by
 obtain⟨G,env,b,env',rl,e,k⟩:=h;cases e;exact b6J pins s σ H Q I (k G H (.refl rl))
theorem a5M{t:Mo Bool}(h:ET X B c t):a1k X [c] (TTm X.K B t):=b6K h
section
variable{keep:List Bool}{elt:Expr}{ifs:List Expr}{g:OZ}{t:Mo Bool}{m:Mo D}{mi:Mo (List D)}
end
section
variable{a:Expr}
def tyD:D->String
 |.non=>"NoneType"|.bl _=>"bool"|.int _=>"int"|.str _=>"str"|.tup _=>"tuple"|.lst _=>"list"|.emp=>"dict"|.obj _=>"object"|.dct _ _=>"dict"|.dcx _ _=>"dict"
def j1_(K:Qz)(T:String):Prop:=T∈(["tuple","list","int","bool","str"]:List String)
def a0A(t T:String):Bool:=t==T||(t=="bool"&&T=="int")
theorem a7J{K:Qz}(h:j1_ K T):∀d,(∀o,d≠.obj o)->PySem.W.kitOne K (.type (tyD d)) (.type T)=some (a0A (tyD d) T):=by
 intro d hd;unfold j1_ at h;simp only[Qc,Zy,Jj]at h
 rcases h with rfl|rfl|rfl|rfl|rfl<;>cases d<;>first|rfl|exact absurd rfl (hd _)
theorem b6N{A:Around}{Q:OE}{x:V}{u:Value}(I:Inv X pins σ H s)(l:Le G H)(rx:v4_ x u)(rp:Rep X.K G x d)
  (kt:j1_ X.K T)(h:∀tk,Q (.bool (a0A (tyD d) T)) {s with toks:=tk}):wpAny (model X.prog X.w) A (call (.builtin "isinstance") [u,.type T]) Q E s:=by
 have e:=a7J kt d
 cases d with
 |non=>simp only[Rep]at rp;subst rp;exact a2p I rx (.non) (e nofun) h
 |bl b=>simp only[Rep]at rp;subst rp;exact a2p I rx (.bl b) (e nofun) h
 |int i=>simp only[Rep]at rp;subst rp;exact a2p I rx (.int i) (e nofun) h
 |str z=>simp only[Rep]at rp;obtain⟨rp,_⟩:=rp;subst rp;exact a2p I rx (.str z) (e nofun) h
 |tup ds=>
  simp only[Rep]at rp;obtain⟨a,xs,rfl,q,_⟩:=rp;cases rx;obtain⟨its,_,⟨o,h1,h2,_⟩,_⟩:=I.tuple (l.sqT q);exact Zv Tq I.kIn ⟨o,h1,h2⟩ (e nofun) (fun z=>nomatch z) h
 |lst ds=>
  simp only[Rep]at rp;obtain⟨a,xs,rfl,q,_⟩:=rp;cases rx;obtain⟨its,_,⟨o,n,h1,h2,_⟩,_⟩:=I.list (l.sqL q);exact Zv Xz I.kIn ⟨o,h1,h2⟩ (e nofun) (fun z=>nomatch z) h
 |emp=>
  simp only[Rep]at rp;obtain⟨a,kvs,rfl,q⟩:=rp;exact a2p I rx (.dK (l _ _ q)) (e nofun) h
 |dct ks vs=>
  simp only[Rep]at rp;obtain⟨a,kvs,rfl,q,_⟩:=rp;exact a2p I rx (.dT (l _ _ q)) (e nofun) h
 |dcx ks vs=>
  simp only[Rep]at rp;obtain⟨a,es,ep,xs,rfl,q,_⟩:=rp;exact a2p I rx (.dX (l _ _ q)) (e nofun) h
 |obj o=>
  have h0:a0A "object" T=false:=by
   unfold j1_ at kt;simp only[Qc,Zy,Jj]at kt
   rcases kt with rfl|rfl|rfl|rfl|rfl<;>rfl
  have h':∀tk,Q (.bool false) {s with toks:=tk}:=fun tk=>by have:=h tk;rwa [show a0A (tyD (.obj o)) T=false from h0]at this
  simp only[Rep]at rp;cases o with
  |exc n=>
   obtain⟨a,C,HP,rfl,_,h3,h4,h5⟩:=rp;cases rx;exact Zv h4 I.kIn (I.hok a _ (l _ _ h3)).1 (h5 T kt) (fun z=>nomatch z) h'
  |fn n=>
   obtain⟨f,rfl,_,h4⟩:=rp;cases rx;refine Zv h4 I.kIn True.intro ?_ (fun z=>nomatch z) h'
   unfold j1_ at kt;simp only[Qc,Zy,Jj]at kt
   rcases kt with rfl|rfl|rfl|rfl|rfl<;>rfl
  |dk kvs=>
   obtain⟨a,rfl,q⟩:=rp;obtain⟨_,_,vs,_,dd⟩:=(show x5_ X.prog X.w H s.heap a (.dK _)from I.hok a _ (l _ _ q))
   obtain⟨o,h1,h2⟩:∃o,s.heap.get? a=some o/\o.cls=.type "dict":=by
    obtain⟨o,es,ep,g1,g2,_⟩:=dd;exact⟨o,g1,g2.1⟩
   cases rx;refine Zv Yb I.kIn ⟨o,h1,h2⟩ ?_ (fun z=>nomatch z) h'
   unfold j1_ at kt;simp only[Qc,Zy,Jj]at kt
   rcases kt with rfl|rfl|rfl|rfl|rfl<;>rfl
  |dt kvs=>
   obtain⟨a,ps,rfl,q,_⟩:=rp;obtain⟨_,_,vs,_,dd⟩:=(show x5_ X.prog X.w H s.heap a (.dK _)from I.hok a _ (l _ _ q))
   obtain⟨o,h1,h2⟩:∃o,s.heap.get? a=some o/\o.cls=.type "dict":=by
    obtain⟨o,es,ep,g1,g2,_⟩:=dd;exact⟨o,g1,g2.1⟩
   cases rx;refine Zv Yb I.kIn ⟨o,h1,h2⟩ ?_ (fun z=>nomatch z) h'
   unfold j1_ at kt;simp only[Qc,Zy,Jj]at kt
   rcases kt with rfl|rfl|rfl|rfl|rfl<;>rfl
theorem b6O{K:Qz}:j1_ K "tuple":=by simp[j1_]
theorem b6P{K:Qz}:j1_ K "list":=by simp[j1_]
theorem b6Q{K:Qz}:j1_ K "int":=by simp[j1_]
theorem b6R{K:Qz}:j1_ K "bool":=by simp[j1_]
def mIs(T:String)(m:Mo D):Mo D:=fun env=>(m env).map fun p=>(.bl (a0A (tyD p.1) T),p.2)
theorem a0t{p p2:Pos}(kt:j1_ X.K T)(ha:ED X B a ma)(hg:Gl X "isinstance")(hm:X.mg "isinstance"=none)(hgT:Gl X y)(hmT:X.mg y=none)(hvT:bootBuiltins y=some (.type T))
  (hnT:y≠"__name__":=by decide)(hdT:(y==("__debug__":Str))=false:=by decide)
  (he:starEach [a,.Name y p2] X.env=[(false,eval a X.env),(false,eval (.Name y p2) X.env)]:=by rfl):ED X B (.Call (.Name "isinstance" p) [a,.Name y p2] [] pos) (mIs T ma):=by
 have hT:PE X (.Name y p2) (tC (.ty T)):=a4h hgT hmT hvT rfl hnT hdT
 have hc:g2_ X (.builtin "isinstance") (fun xs H Q=>∃x G d,xs=[x,.ty T]/\Le G H/\Rep X.K G x d/\Q (.bl (a0A (tyD d) T)) H):=by
  intro pins s σ H xs us Q I r h;obtain⟨x,G,d,rfl,l,rp,q⟩:=h;obtain⟨u,w',rfl,r1,r2⟩:=a1U r;cases r2;exact b6N I l r1 rp kt fun tk=>⟨.bl _,H,I.tok _,rfl,q⟩
 have h1:starEach [Expr.Name y p2] X.env=[(false,eval (.Name y p2) X.env)]:=rfl
 refine pe_imp (a3v (pos:=pos) (p:=p) hc hg hm (by decide+kernel) (a0e ha (a0e hT a1u) he) (he:=he)) ?_
 rintro σ H Q ⟨G,env,d,env',rl,e,k⟩;obtain⟨⟨d1,env1⟩,e1,e2⟩:=x2_ e;cases e2;exact .bind rl e1 fun v G1 H1 ev r=>⟨v,G1,d1,rfl,ev.rel.sub,r,k _ G1 H1 ev (by simp only[Rep])⟩
def a0u:List D->Option Bool
 |[]=>some true
 |.bl b::r=>(a0u r).map fun k=>b&&k
 |_::_=>none
def a0B:List D->Option D
 |[.lst ds]=>(a0u ds).map fun k=>.bl k
 |_=>none
theorem b0W{K:Qz}{G:Hp}:∀{ds:List D}{xs:List V}{us:List Value}{k:Bool},z9_ K G xs ds->v2_ xs us->a0u ds=some k->∃bs,LSm.BoolsAre us bs/\bs.all id=k
 |[],_,us,k,r,v,e=>by
  simp only[z9_]at r;subst r;cases v;cases e;exact⟨[],.nil,rfl⟩
 |d::ds,_,us,k,r,v,e=>by
  simp only[z9_]at r;obtain⟨x,t,rfl,q,r⟩:=r;cases d<;>first|(exact absurd (show(none:Option Bool)=some k from e) (by simp))|skip
  obtain⟨k',e1,e2⟩:=x2_ (show(a0u ds).map _=some k from e)
  simp only[Rep]at q;subst q;cases v with
  |cons v1 v2=>
   cases v1;obtain⟨bs,h1,h2⟩:=b0W r v2 e1;exact⟨_::bs,.cons _ h1,by rw[←e2,←h2];rfl⟩
theorem a2z(hc:X.calm=true):g2_ X (.builtin "all") (fun xs H Q=>∃p G ys ds k,xs=[.ref p]/\Le G H/\SqL X.K G p ys/\z9_ X.K G ys ds/\a0u ds=some k/\Q (.bl k) H):=by
 intro pins s σ H xs us Q I r h;obtain⟨p,G,ys,ds,k,rfl,l,hq,rp,ek,q⟩:=h;obtain⟨u,rfl,rx⟩:=a1T r;cases rx;obtain⟨its,r',pl,hz⟩:=I.list (l.sqL hq);obtain⟨bs,hb,hk⟩:=b0W rp r' ek;have hh:X.A.handled=none:=I.ok.hd hc;have hl:=pl.isList;have hlt:p<s.heap.objs.size:=by obtain⟨_,e,_⟩:=hl;exact Qg e
 refine call_all_walk (Uw hl ?_);refine⟨s.heap.objs.size,[s.heap.objs.size,p],[s.heap.objs.size],its.toArray.size,_,_,fun i=>(bs[i]?).getD true,rfl,Walks.list (A:=X.A.in1) hh _ p (Qi hlt) its.toArray,
  ⟨⟨_,Qu _ rfl,rfl,rfl⟩,hl.push _⟩,fun i v s' Q' E' hP hQ=>?_,fun h' tk hk'=>?_⟩
 ·obtain⟨b,e,rfl⟩:=hb.get i v (by simpa using hP)
  simp only[e,Option.getD_some]at hQ;exact Yp hQ
 ·have e:((List.range its.toArray.size).all fun i=>(bs[i]?).getD true)=bs.all id:=by
   rw[Qn,hb.length];exact LSm.range_all bs
  rw[e,hk];exact⟨.bl k,H,I.kept (t':=tk) (LSm.kept_iter hk'),rfl,q⟩
theorem b6S:a1h X B (fun xs H Q=>∃p G ys ds k,xs=[.ref p]/\Le G H/\SqL X.K G p ys/\z9_ X.K G ys ds/\a0u ds=some k/\Q (.bl k) H) a0B:=by
 intro G σ env H xs ds c Q rl r e k;unfold a0B at e;split at e
 ·rename_i ds
  obtain⟨x,rfl,q⟩:=a0L r;obtain⟨k',e1,e2⟩:=x2_ e;subst e2;simp only[Rep]at q;obtain⟨a,ys,rfl,h1,h2⟩:=q;exact⟨a,G,ys,ds,k',rfl,rl.sub,h1,h2,e1,k _ G H (.refl rl) (by simp only[Rep])⟩
 ·cases e
def a3G:List D->Option D
 |[.int i,.int j]=>some (.int (if j>i then j else i))
 |_=>none
def a3H:List D->Option D
 |[.int i,.int j]=>some (.int (if j<i then j else i))
 |_=>none
def a7K:List D->Option D
 |[.int i]=>some (.int i)
 |[.bl k]=>some (.int (if k then 1 else 0))
 |_=>none
theorem b6T:a1h X B (fun xs H Q=>∃i j,xs=[.int i,.int j]/\Q (.int (if j>i then j else i)) H) a3G:=by
 intro G σ env H xs ds c Q rl r e k;unfold a3G at e;split at e
 ·rename_i i j
  cases e;obtain⟨x,y,rfl,q1,q2⟩:=a3x r;simp only[Rep]at q1 q2;subst q1 q2;exact⟨i,j,rfl,k _ G H (.refl rl) (by simp only[Rep])⟩
 ·cases e
theorem b6U:a1h X B (fun xs H Q=>∃i j,xs=[.int i,.int j]/\Q (.int (if j<i then j else i)) H) a3H:=by
 intro G σ env H xs ds c Q rl r e k;unfold a3H at e;split at e
 ·rename_i i j
  cases e;obtain⟨x,y,rfl,q1,q2⟩:=a3x r;simp only[Rep]at q1 q2;subst q1 q2;exact⟨i,j,rfl,k _ G H (.refl rl) (by simp only[Rep])⟩
 ·cases e
theorem b6V:a1h X B (fun xs H Q=>(∃i,xs=[.int i]/\Q (.int i) H)∨ ∃k,xs=[.bl k]/\Q (.int (if k then 1 else 0)) H) a7K:=by
 intro G σ env H xs ds c Q rl r e k;unfold a7K at e;split at e
 ·rename_i i
  cases e;obtain⟨x,rfl,q1⟩:=a0L r;simp only[Rep]at q1;subst q1;exact .inl ⟨i,rfl,k _ G H (.refl rl) (by simp only[Rep])⟩
 ·rename_i b
  cases e;obtain⟨x,rfl,q1⟩:=a0L r;simp only[Rep]at q1;subst q1;exact .inr ⟨b,rfl,k _ G H (.refl rl) (by simp only[Rep])⟩
 ·cases e
def ints?:List D->Option (List Int)
 |[]=>some []
 |.int i::r=>(ints? r).map fun l=>i::l
 |_::_=>none
theorem a2A{K:Qz}{G:Hp}:∀{ds:List D}{xs:List V}{ns:List Int},z9_ K G xs ds->ints? ds=some ns->xs=ns.map V.int
 |[],_,ns,r,e=>by simp only[z9_]at r;subst r;cases e;rfl
 |d::ds,_,ns,r,e=>by
  simp only[z9_]at r;obtain⟨x,t,rfl,q,r⟩:=r;cases d<;>first|(exact absurd (show(none:Option (List Int))=some ns from e) (by simp))|skip
  obtain⟨l,e1,e2⟩:=x2_ (show(ints? ds).map _=some ns from e)
  subst e2;simp only[Rep]at q;subst q;rw[a2A r e1];rfl
def dIn(neg:Bool):D->D->Option D
 |.int i,d=>d.items.bind fun ds=>(ints? ds).map fun ns=>.bl (if neg then !ns.contains i else ns.contains i)
 |_,_=>none
theorem b6W(ns:List Int):(ns.map V.int).all a1e=true:=by
 induction ns with
 |nil=>rfl
 |cons n ns ih=>simp[a1e,ih]
theorem b6X(i:Int)(ns:List Int):inV (.int i) (ns.map V.int)=ns.contains i:=by
 unfold inV
 induction ns with
 |nil=>rfl
 |cons n ns ih=>
  rw[Qd,List.any_cons,ih,Tj]
  congr 1
  show(n==i)=(i==n);exact Bool.beq_comm ..
theorem b6Y:OpD X B (rIn X.K neg) (dIn neg):=by
 intro G σ env H x y a b d Q rl ra rb e k;cases a<;>first|(exact absurd (show(none:Option D)=some d from e) (by simp))|skip
 rename_i i;obtain⟨ds,e1,e2⟩:=q4_ (show b.items.bind _=some d from e)
 obtain⟨ns,e3,e4⟩:=x2_ e2;subst e4;simp only[Rep]at ra;subst ra;obtain⟨p,xs,rfl,h1,h2⟩:=a7v rl.sub rb e1;have hx:=a2A h2 e3;subst hx;exact⟨p,_,rfl,h1,rfl,b6W ns,k _ G H (.refl rl) (by rw[b6X];simp only[Rep])⟩
end
mutual
def toP:D->PyData
 |.non=>.none
 |.bl b=>.bool b
 |.int i=>.int i
 |.str x=>.str x
 |.tup ds=>.tuple (k8_ ds)
 |.lst ds=>.list (k8_ ds)
 |.emp=>.dict []
 |.obj _=>.dict []
 |.dct _ _=>.dict []
 |.dcx _ _=>.dict []
def k8_:List D->List PyData
 |[]=>[]
 |d::ds=>toP d::k8_ ds
end
def shp(d:D):Bool:=SeqAt.shaped (toP d)
mutual
theorem reads_of(I:Inv X pins σ H s)(l:Le G H):∀(d:D) (x:V) (u:Value),(toP d).canLay0=true->v4_ x u->Rep X.K G x d->∃as,Reads s.heap u (toP d) as
 |.non,x,u,c,r,p=>by simp only[Rep]at p;subst p;cases r;exact⟨_,.none⟩
 |.bl b,x,u,c,r,p=>by simp only[Rep]at p;subst p;cases r;exact⟨_,.bool b⟩
 |.int i,x,u,c,r,p=>by simp only[Rep]at p;subst p;obtain⟨t,rfl⟩:=r;exact⟨_,.int i t⟩
 |.str z,x,u,c,r,p=>by simp only[Rep]at p;obtain⟨p,_⟩:=p;subst p;obtain⟨t,rfl⟩:=r;exact⟨_,.str z t⟩
 |.tup ds,x,u,c,r,p=>by
  simp only[Rep]at p;obtain⟨a,xs,rfl,q,rp⟩:=p;cases r;obtain⟨its,rv,⟨o,h1,h2,n,h3⟩,_⟩:=I.tuple (l.sqT q);have hc:PyData.canLayAll0 (k8_ ds)=true:=by simpa [toP,PyData.canLay0]using c
  obtain⟨as,h⟩:=readsAll_of I l ds xs its hc rv rp;exact⟨_,.tuple h1 h2 h3 (by simpa using h)⟩
 |.lst ds,x,u,c,r,p=>by
  simp only[Rep]at p;obtain⟨a,xs,rfl,q,rp⟩:=p;cases r;obtain⟨its,rv,⟨o,n,h1,h2,_,h3⟩,_⟩:=I.list (l.sqL q);have hc:PyData.canLayAll0 (k8_ ds)=true:=by simpa [toP,PyData.canLay0]using c
  obtain⟨as,h⟩:=readsAll_of I l ds xs its hc rv rp;exact⟨_,.list h1 h2 h3 (by simpa using h)⟩
 |.emp,x,u,c,r,p=>by simp[toP,PyData.canLay0]at c
 |.obj _,x,u,c,r,p=>by simp[toP,PyData.canLay0]at c
 |.dct _ _,x,u,c,r,p=>by simp[toP,PyData.canLay0]at c
 |.dcx _ _,x,u,c,r,p=>by simp[toP,PyData.canLay0]at c
theorem readsAll_of(I:Inv X pins σ H s)(l:Le G H):∀(ds:List D) (xs:List V) (us:List Value),PyData.canLayAll0 (k8_ ds)=true->v2_ xs us->z9_ X.K G xs ds->∃as,ReadsAll s.heap us (k8_ ds) as
 |[],xs,us,c,v,p=>by simp only[z9_]at p;subst p;cases v;exact⟨_,.nil⟩
 |d::ds,xs,us,c,v,p=>by
  simp only[z9_]at p;obtain⟨x,r,rfl,q,t⟩:=p;have hc:(toP d).canLay0=true/\PyData.canLayAll0 (k8_ ds)=true:=by simpa [k8_,PyData.canLayAll0]using c
  cases v with
  |cons v1 v2=>
   obtain⟨as,h1⟩:=reads_of I l d x _ hc.1 v1 q;obtain⟨bs,h2⟩:=readsAll_of I l ds r _ hc.2 v2 t;exact⟨_,.cons h1 h2⟩
end
def rEqD(K:Qz)(neg:Bool):R2:=fun x y H Q=>∃G a b,Le G H/\Rep K G x a/\Rep K G y b/\shp a=true/\shp b=true/\Q (.bl (if neg then !PyData.eqv (toP a) (toP b)else PyData.eqv (toP a) (toP b))) H
theorem op_eqD(hu:X.A.units+64<cLine):OpR X (compareOp .Eq) (rEqD X.K false):=by
 intro pins s σ H x y v u Q I rx ry h;obtain⟨G,a,b,l,ra,rb,ha,hb,q⟩:=h;obtain⟨as,h1⟩:=reads_of I l a x v (Jt ha) rx ra;obtain⟨bs,h2⟩:=reads_of I l b y u (Jt hb) ry rb;exact eq_dataH h1 h2 ha hb hu ⟨.bl _,H,I,rfl,q⟩
theorem op_neD(hu:X.A.units+64<cLine):OpR X (compareOp .NotEq) (rEqD X.K true):=by
 intro pins s σ H x y v u Q I rx ry h;obtain⟨G,a,b,l,ra,rb,ha,hb,q⟩:=h;obtain⟨as,h1⟩:=reads_of I l a x v (Jt ha) rx ra;obtain⟨bs,h2⟩:=reads_of I l b y u (Jt hb) ry rb;exact ne_dataH h1 h2 ha hb hu ⟨.bl _,H,I,rfl,q⟩
def dEq(neg:Bool):D->D->Option D:=fun a b=>if shp a&&shp b then some (.bl (if neg then !PyData.eqv (toP a) (toP b)else PyData.eqv (toP a) (toP b)))else none
theorem opd_eq:OpD X B (rEqD X.K neg) (dEq neg):=by
 intro G σ env H x y a b d Q rl ra rb e k;unfold dEq at e;split at e
 ·rename_i h
  rw[Qp]at h;cases e;exact⟨G,a,b,rl.sub,ra,rb,h.1,h.2,k _ G H (.refl rl) (by simp only[Rep])⟩
 ·cases e
def rCatT'(K:Qz):R2:=fun x y H Q=>∃a b xs ys,x=.ref a/\y=.ref b/\SqT K H a xs/\SqT K H b ys/\xs.length+ys.length≤sizeLine/\
 (xs=[]->Q (.ref b) H)/\(ys=[]->Q (.ref a) H)/\(∀p,H p=none->Q (.ref p) (upd H p (.tup (xs++ys))))
theorem op_catT':OpR X (binaryOp .Add) (rCatT' X.K):=by
 intro pins s σ H x y v u Q I rx ry h;obtain⟨a,b,xs,ys,rfl,rfl,ha,hb,hz,q0,q1,q2⟩:=h;cases rx;cases ry;obtain⟨vs,r1,p1,_⟩:=I.tuple ha;obtain⟨ws,r2,p2,_⟩:=I.tuple hb;have hsz:vs.length+ws.length≤sizeLine:=by rw[←r1.length,←r2.length];exact hz
 obtain⟨⟨cls,dd,data,sl⟩,ho,hc,n,hd⟩:=id p1;obtain⟨⟨cls2,dd2,data2,sl2⟩,ho2,hc2,n2,hd2⟩:=id p2;simp only at hc hd hc2 hd2;subst hc hd hc2 hd2;have e:vs.toArray++ws.toArray=(vs++ws).toArray:=by simp
 by_cases hv:vs=[]
 ·exact concat_meets ⟨_,ho,rfl⟩ ⟨_,ho2,rfl⟩ noFill_tuple_add seq_tuple_add Xk Xq (Vd _ _)
   (tuple_addW0 a b vs.toArray ws.toArray n n2 dd dd2 sl sl2 (by simp[hv])) ⟨ho,ho2,⟨.ref b,H,I,rfl,q0 (r1.nil_iff.mp hv)⟩⟩
 ·by_cases hw:ws=[]
  ·exact concat_meets ⟨_,ho,rfl⟩ ⟨_,ho2,rfl⟩ noFill_tuple_add seq_tuple_add Xk Xq (Vd _ _)
    (tuple_addW1 a b vs.toArray ws.toArray n n2 dd dd2 sl sl2 (by simpa using hv) (by simp[hw])) ⟨ho,ho2,⟨.ref a,H,I,rfl,q1 (r2.nil_iff.mp hw)⟩⟩
  ·refine concat_meets ⟨_,ho,rfl⟩ ⟨_,ho2,rfl⟩ noFill_tuple_add seq_tuple_add Xk Xq (Vd _ _)
    (tuple_addW2 a b vs.toArray ws.toArray n n2 dd dd2 sl sl2 (by simpa using hv) (by simpa using hw) (by rw[Qn,Qn];exact hsz)) ⟨ho,ho2,?_⟩
   rw[e];refine⟨.ref s.heap.objs.size,_,I.laid (t':=s.toks) (o:=.tup (xs++ys)) (fun b ob q=>Qx _ q) (Qb _) ?_,rfl,q2 _ (I.hok.fresh (Qb _))⟩
   exact⟨by rw[Qt];exact hz,_,r1.append r2,a0Y.new _ _⟩
def rCatL'(K:Qz):R2:=fun x y H Q=>∃a b xs ys,x=.ref a/\y=.ref b/\SqL K H a xs/\SqL K H b ys/\xs.length+ys.length≤sizeLine/\
 (∀p,H p=none->Q (.ref p) (upd H p (.lst (xs++ys))))
theorem op_catL':OpR X (binaryOp .Add) (rCatL' X.K):=by
 intro pins s σ H x y v u Q I rx ry h;obtain⟨a,b,xs,ys,rfl,rfl,ha,hb,hz,q2⟩:=h;cases rx;cases ry;obtain⟨vs,r1,p1,_⟩:=I.list ha;obtain⟨ws,r2,p2,_⟩:=I.list hb;have hsz:vs.length+ws.length≤sizeLine:=by rw[←r1.length,←r2.length];exact hz
 obtain⟨⟨cls,dd,data,sl⟩,ho,hc,n,hd⟩:=id p1.isList;obtain⟨⟨cls2,dd2,data2,sl2⟩,ho2,hc2,n2,hd2⟩:=id p2.isList;simp only at hc hd hc2 hd2;subst hc hd hc2 hd2;have e:vs.toArray++ws.toArray=(vs++ws).toArray:=by simp
 refine concat_meets ⟨_,ho,rfl⟩ ⟨_,ho2,rfl⟩ noFill_list_add seq_list_add PySem.F.slot_list_add PySem.F.entry_list_add (PySem.F.args_list_add_2 _ _)
    (list_addW a b vs.toArray ws.toArray n n2 dd dd2 sl sl2 (by rw[Qn,Qn];exact hsz)) ⟨ho,ho2,?_⟩
 rw[e];refine⟨.ref s.heap.objs.size,_,I.lnew (t':=s.toks) (r1.append r2) (by rw[Qt];exact hz),rfl,q2 _ I.fresh⟩
end L2.Mir
namespace L2.Mir
open PySem PySem.Spec PyProof.Rows PySem.Builtin
open AutoSeq1 (wpAny_loadPart')
theorem b6Z:fillsNumberSlot (.type "tuple") "mul"=pure false:=
 PySem.fillsNumberSlot_seq (id:="tuple.__mul__") (r:=some (.builtin "tuple.__rmul__")) Xb.lookup (by decide+kernel) F.slot_tuple_rmul.lookup (by decide+kernel)
theorem b7a:seqRepeat? (.type "tuple")=pure (some (.builtin "tuple.__mul__")):=by
 unfold seqRepeat?;rw[PySem.seqSlot_of (T:="tuple") (name:="__mul__") (id:="tuple.__mul__") Xb.lookup (by decide+kernel),PySem.seqSlot_of (T:="tuple") (name:="__rmul__") (id:="tuple.__rmul__") F.slot_tuple_rmul.lookup (by decide+kernel)]
 rfl
theorem b7b(a:Int)(t:Tok)(l:Addr)(items:Array Value)(n:Nat)(dd:Option Addr)(sl:Array (Option Value)):
  Meets (Builtin.«int.__rmul__» ⟨[.int a t,.ref l],[]⟩) (fun _ R s=>s.heap.get? l=some {cls:=.type "tuple",dict:=dd,data:=.seq items n,slots:=sl}/\R (.ok (.ret Value.notImplemented)) s):=
 .of_wp fun prog w A R s h=>by obtain⟨hp,g,d,tk,os⟩:=s;obtain⟨hl,h⟩:=h;wp_walk;exact⟨_,rfl,h⟩
theorem b7c(l:Addr)(items:Array Value)(n:Nat)(dd:Option Addr)(sl:Array (Option Value))(x:Int)(u:Tok)(hx:x=1):
  Meets (Builtin.«tuple.__mul__» ⟨[.ref l,.int x u],[]⟩) (fun _ R s=>s.heap.get? l=some {cls:=.type "tuple",dict:=dd,data:=.seq items n,slots:=sl}/\R (.ok (.ret (.ref l))) s):=
 .of_wp fun prog w A R s h=>by
  obtain⟨hp,g,d,tk,os⟩:=s;obtain⟨hl,h⟩:=h;subst hx;have f1:=AutoSeq1.idx_int
  wp_walk using Jn hl
  exact⟨_,rfl,h⟩
theorem b7d(l:Addr)(its:List Value)(n:Nat)(dd:Option Addr)(sl:Array (Option Value))(x:Int)(u:Tok)(hi:its≠[])(h1:2≤x)(h2:x<2^63)(hz:its.length * x.toNat≤sizeLine):
  Meets (Builtin.«tuple.__mul__» ⟨[.ref l,.int x u],[]⟩) (fun _ R s=>s.heap.get? l=some {cls:=.type "tuple",dict:=dd,data:=.seq its.toArray n,slots:=sl}/\R (.ok (.ret (.ref s.heap.objs.size))) {s with heap:=s.heap.push {cls:=Value.type "tuple",data:=Data.seq (List.replicate x.toNat its).flatten.toArray}}):=
 .of_wp fun prog w A R s h=>by
  obtain⟨hp,g,d,tk,os⟩:=s;obtain⟨hl,h⟩:=h;have f1:=AutoSeq1.idx_int;have hi':its.toArray.isEmpty=false:=by simpa using hi
  have hb:¬ ((decide (x< -(2^63))||decide (x ≥ 2^63))=true):=by simp;omega
  have hc:¬ ((its.toArray.isEmpty||x==1)=true):=by rw[hi'];simp;omega
  have hd:¬ ((decide (x≤0)||its.toArray.isEmpty)=true):=by rw[hi'];simp;omega
  have e1:(its.toArray.size:Int) * x=((its.length * x.toNat:Nat):Int):=by rw[Qn,Int.natCast_mul,Int.toNat_of_nonneg (by omega)]
  have he:¬ ((its.toArray.size:Int) * x>(2^63-1)/8):=by
   have e2:(sizeLine:Nat)≤(2^63-1)/8:=by decide
   rw[e1];omega
  have hf:¬ (Tuple.tupleTooMany ((its.toArray.size:Int) * x)=true):=by
   rw[e1];intro z;have z':=of_decide_eq_true z
   omega
  have hnew:List.foldl (fun x1 x2=>x1++x2) #[] (List.replicate x.toNat its.toArray)=(List.replicate x.toNat its).flatten.toArray:=by
   have:=b0D its x.toNat [];rw[Ta]at this;exact this
  have hsz:sizeOk (.seq (List.replicate x.toNat its).flatten.toArray):=by
   show(List.replicate x.toNat its).flatten.toArray.size≤sizeLine;rw[Qn,b0F,Nat.mul_comm];exact hz
  wp_walk using Jn hl
  refine Us (Qe hb) ?_
  wp_walk using Jn hl
  refine Us (Qe hc) ?_
  wp_walk using Jn hl
  refine Us (Qe hd) ?_
  wp_walk using Jn hl
  refine Us (Qe he) ?_
  wp_walk using Jn hl
  refine Us (Qe hf) ?_
  rw[hnew]
  wp_walk using Jn hl
  refine Us (Qe (Nat.not_lt.mpr hsz)) ?_
  wp_walk using Jn hl
  exact⟨_,rfl,h⟩
section
variable{X:Cx}{B:OA}
def a5N(K:Qz):R2:=fun x y H Q=>∃a k xs,x=.ref a/\y=.int k/\SqT K H a xs/\xs≠[]/\1≤k/\k<2^63/\xs.length * k.toNat≤sizeLine/\
 (k=1->Q (.ref a) H)/\∀p,H p=none->Q (.ref p) (upd H p (.tup (List.replicate k.toNat xs).flatten))
theorem b7e:OpR X (binaryOp .Mult) (a5N X.K):=by
 intro pins s σ H x y v u Q I rx ry h;obtain⟨a,k,xs,rfl,rfl,ha,hne,h1,h2,hz,q1,q2⟩:=h;cases rx;obtain⟨t,rfl⟩:=ry;obtain⟨its,r,⟨⟨cls,dd,data,sl⟩,ho,hc,n,hd⟩,hzz⟩:=I.tuple ha;simp only at hc hd;subst hc hd;refine wpAny_binaryOp_repeat_ref (T:="tuple") (U:="int") (by decide) ⟨_,ho,rfl⟩ (fun s'=>typeIs_int s' k t) b6Z F.fills_int_mul F.slot_int_rmul b7a F.slot_int_index.lookup
  (Va F.slot_int_rmul (typeIs_int s k t) F.entry_int_rmul (F.args_int_rmul_2 _ _) (b7b k t a its.toArray n dd sl)
   ⟨ho,rfl,⟨_,ho,rfl⟩,?_⟩)
 by_cases hk:k=1
 ·exact Va Xb ⟨_,ho,rfl⟩ F.entry_tuple_mul (F.args_tuple_mul_2 _ _) (b7c a its.toArray n dd sl k t hk) ⟨ho,⟨.ref a,H,I,rfl,q1 hk⟩⟩
 ·refine Va Xb ⟨_,ho,rfl⟩ F.entry_tuple_mul (F.args_tuple_mul_2 _ _) (b7d a its n dd sl k t (fun z=>hne (r.nil_iff.mp z)) (by omega) h2 (by rw[←r.length];exact hz)) ⟨ho,?_⟩
  refine⟨.ref s.heap.objs.size,_,I.laid (t':=s.toks) (o:=.tup (List.replicate k.toNat xs).flatten) (fun b ob q=>Qx _ q) (Qb _) ?_,rfl,q2 _ (I.hok.fresh (Qb _))⟩
  exact⟨by rw[b0F,Nat.mul_comm];exact hz,_,r.rep k.toNat,a0Y.new _ _⟩
end
section
variable{X:Cx}{B:OA}{pos:Pos}{a b:Expr}{ma mb:Mo D}
def a7L:D->D->Option D
 |.tup xs,.tup ys=>if xs.length+ys.length≤10000 then some (.tup (xs++ys))else none
 |_,_=>none
theorem a7M{n:Nat}(h:n≤10000):n≤sizeLine:=Zt h (by decide)
theorem b7f:OpD X B (rCatT' X.K) a7L:=by
 intro G σ env H x y a b d Q rl ra rb e k;cases a<;>cases b<;>first|(exact absurd (show(none:Option D)=some d from e) (by simp))|skip
 rename_i ds es;simp only[a7L]at e;split at e
 ·rename_i hl
  cases e;have ra0:=ra;have rb0:=rb;simp only[Rep]at ra rb;obtain⟨p,xs,rfl,q1,r1⟩:=ra;obtain⟨p',ys,rfl,q2,r2⟩:=rb;refine⟨p,p',xs,ys,rfl,rfl,rl.sub.sqT q1,rl.sub.sqT q2,by rw[r1.length,r2.length];exact a7M hl,fun z=>?_,fun z=>?_,fun l hp=>?_⟩
  ·subst z
   have:ds=[]:=List.length_eq_zero_iff.mp r1.length.symm;subst this;exact k _ G H (.refl rl) rb0
  ·subst z
   have:es=[]:=List.length_eq_zero_iff.mp r2.length.symm;subst this;exact k _ G H (.refl rl) (by rw[Yt];exact ra0)
  ·exact k _ _ _ (rl.alloc hp) (a2V x0_ (z9_.mono (Le.upd (rl.gnone hp)) _ (r1.append r2)))
 ·cases e
def a7N:D->D->Option D
 |.tup [d],.int k=>if 1≤k/\k≤1000 then some (.tup (List.replicate k.toNat d))else none
 |_,_=>none
theorem b7g{α:Type}(x:α)(n:Nat):(List.replicate n [x]).flatten=List.replicate n x:=by
 induction n with
 |zero=>rfl
 |succ n ih=>rw[Yu,Ue,ih,Yu];rfl
theorem b0X{K:Qz}{G:Hp}{x:V}{d:D}(h:Rep K G x d):∀n,z9_ K G (List.replicate n x) (List.replicate n d)
 |0=>repL_nil
 |n+1=>by rw[Yu,Yu];exact repL_cons h (b0X h n)
theorem b7h:OpD X B (a5N X.K) a7N:=by
 intro G σ env H x y a b d Q rl ra rb e k;unfold a7N at e;split at e
 ·rename_i d0 n
  split at e
  ·rename_i hn
   cases e;have ra0:=ra;simp only[Rep]at ra rb;obtain⟨p,xs,rfl,q1,r1⟩:=ra;subst rb;obtain⟨v,rfl,rv⟩:=a0L r1;refine⟨p,n,[v],rfl,rfl,rl.sub.sqT q1,by simp,by omega,by omega,?_,fun z=>?_,fun l hp=>?_⟩
   ·exact a7M (by simp;omega)
   ·subst z
    exact k _ G H (.refl rl) ra0
   ·rw[b7g]
    exact k _ _ _ (rl.alloc hp) (a2V x0_ (z9_.mono (Le.upd (rl.gnone hp)) _ (b0X rv _)))
  ·cases e
 ·cases e
def v5_:=fOr a5B a7L
def u3_:=fOr a7l a7N
theorem b7i:OpR X (binaryOp .Add) (fun x y H Q=>rI0 (fun i j=>.int (i+j)) x y H Q∨rCatT' X.K x y H Q):=OpR.or b5q op_catT'
theorem b7j:OpD X B (fun x y H Q=>rI0 (fun i j=>.int (i+j)) x y H Q∨rCatT' X.K x y H Q) v5_:=b0J.or b7f
theorem b7k:OpR X (binaryOp .Mult) (fun x y H Q=>rI a2S (fun i j=>.int (i * j)) x y H Q∨a5N X.K x y H Q):=OpR.or b5s b7e
theorem b7l:OpD X B (fun x y H Q=>rI a2S (fun i j=>.int (i * j)) x y H Q∨a5N X.K x y H Q) u3_:=b6j.or b7h
def a0N(ma mb:Mo D):Mo (List D):=fun env=>(ma env).bind fun p=>(mb p.2).bind fun q=>match p.1,q.1 with
 |.lst xs,.lst ys=>if xs.length+ys.length≤10000 then some (xs++ys,q.2)else none
 |_,_=>none
theorem a2d(ha:ED X B a ma)(hb:ED X B b mb):EL X B (.BinOp a .Add b pos) (a0N ma mb):=by
 refine pe_imp (b0f op_catL' ha hb) ?_
 rintro σ H Q ⟨G,env,ds,env',rl,e,k⟩;obtain⟨⟨d1,env1⟩,e1,e2⟩:=q4_ e;obtain⟨⟨d2,env2⟩,e3,e4⟩:=q4_ e2;dsimp only at e4 e3;refine .bind rl e1 fun v1 G1 H1 ev1 r1=>.bind ev1.rel e3 fun v2 G2 H2 ev2 r2=>?_
 split at e4
 ·rename_i xs ys
  split at e4
  ·rename_i hl
   cases e4;have r1':=Rep.mono ev2.same _ r1;simp only[Rep]at r1' r2;obtain⟨p,us,rfl,q1,t1⟩:=r1';obtain⟨p',ws,rfl,q2,t2⟩:=r2;exact⟨p,p',us,ws,rfl,rfl,ev2.rel.sub.sqL q1,ev2.rel.sub.sqL q2,by rw[t1.length,t2.length];exact a7M hl,fun l hp=>a5D (ev1.trans ev2) hp (t1.append t2) k⟩
  ·cases e4
 ·cases e4
end
end L2.Mir
namespace HT
open PySem PySem.Spec PyProof.Rows
variable{Q:OE}{sl:Addr}
section
variable{prog:Program}{w:World}{A:Around}{E:OE}{s:Shared}
theorem getItem_tuple_whole{t:Addr}{items:Array Value}{vl vu:Value}{lo hi:Option Int}(ht:IsTup s.heap t items)(hs:s.heap.IsSliceOf sl vl vu .none)(pl:IsPart vl lo)(pu:IsPart vu hi)
  (hw:sIx items.size 0 lo=0/\sIx items.size items.size hi=items.size)
  (h:Q (.ref t) s):wpAny (model prog w) A (getItem (.ref t) (.ref sl)) Q E s:=by
 obtain⟨os,hos,hcs,hds⟩:=id hs;have hTs:s.TypeIs (.ref sl) "slice":=⟨os,hos,hcs⟩;unfold getItem
 try with_reducible refine Yj ?_
 first|refine Qq (Qj ?_)|skip
 refine Qq (wpAny_sequenceKey ht.typeIs (by decide) ?_)
 refine Qq (Zg (name:=Str.ofString "__getitem__") ht.typeIs Zw
  (Zb Zw ht.typeIs entry_tuple_getitem ?_ (args_tuple_getitem _ _)))
 show wpAny _ _ (Builtin.Tuple.tupleItemsOf (.ref t)>>=_) _ _ s;refine Qq (tupleItemsOf_ ht ?_);refine Qq (Uo hTs ?_);rw[Qh (by decide)]
 refine Qq (sliceApplied_gen hs pl pu ?_);have hno:((((sIx items.size 0 lo:Nat):Int)==0&&(1:Int)==1&&(sIx items.size items.size hi-sIx items.size 0 lo)==items.size)=true):=by
  rw[hw.1,hw.2];simp
 show wpAny _ _ (if(((sIx items.size 0 lo:Nat):Int)==0&&(1:Int)==1&&(sIx items.size items.size hi-sIx items.size 0 lo)==items.size)=true then _ else _) _ _ s
 rw[Qh hno];refine Qq (Qq (m:=typeOf (.ref t)) (Uo ht.typeIs (Qj ?_)));rw[Qh (by decide)]
 refine Qq (Ud ?_)
 first
  |exact Qj ⟨_,rfl,Qj h⟩
  |exact Qq (Qj ⟨_,rfl,Qj h⟩)
  |exact Qq (Qq (Qj ⟨_,rfl,Qj h⟩))
theorem sliceApplied_rev{t:Tok}{n:Nat}{Q:Int×Int×Nat->Shared->Prop}(hs:s.heap.IsSliceOf sl .none .none (.int (-1) t))
  (h:Q ((n:Int)-1,-1,n) s):wpAny (model prog w) A (Builtin.Slice.sliceApplied (.ref sl) (pure (n:Int))) Q E s:=by
 obtain⟨os,hos,hcs,hds⟩:=id hs;unfold Builtin.Slice.sliceApplied Builtin.Slice.sliceFields;refine Qq (Qq (Ze hos hds (x:=.none) rfl (Qq (Ze hos hds (x:=.none) rfl (Qq (Ze hos hds (x:=.int (-1) t) rfl (Qj ?_)))))));refine Qq (slicePart_int ?_);show wpAny _ _ (if((-1:Int)==0)=true then _ else _) _ _ s
 rw[Qm (by decide)]
 refine Qq (slicePart_none (Qq (slicePart_none (Qq (Qj ?_)))));have e:Builtin.Slice.slicePlaces ((n:Int)-1) (-1) (-1)=n:=by
  unfold Builtin.Slice.slicePlaces;have h1:¬ ((-1:Int)>0):=by omega
  simp only[h1,Zc];split
  ·rw[show(- -1:Int)=1 by decide,Int.ediv_one];omega
  ·omega
 show wpAny _ _ (pure ((n:Int)-1,(-1:Int),Builtin.Slice.slicePlaces ((n:Int)-1) (-1) (-1))) _ _ s;rw[e];exact Qj h
theorem filterMap_congr'{α β:Type}{f g:α->Option β}:∀{l:List α},(∀x∈l,f x=g x)->l.filterMap f=l.filterMap g
 |[],_=>rfl
 |a::l,h=>by
  rw[Js,Js,h a (by simp),filterMap_congr' (l:=l) fun x hx=>h x (by simp[hx])]
theorem pick_rev(xs:Array Value):((List.range xs.size).filterMap fun(m:Nat)=>xs[(((xs.size:Int)-1)+(m:Int) * (-1)).toNat]?).toArray=xs.toList.reverse.toArray:=by
 have h:=PySem.W.krv_all xs
 have h2:=Ys List.reverse h
 rw[←List.filterMap_reverse,←PySem.W.krv_range,List.filterMap_map]at h2;rw[←h2]
 congr 1
 apply filterMap_congr'
 intro m hm;have:=Zl.mp hm;show xs[_]? =xs[xs.size-1-m]?
 congr 1
 omega
theorem getItem_tuple_rev{t:Addr}{items:Array Value}{tk:Tok}(ht:IsTup s.heap t items)(hs:s.heap.IsSliceOf sl .none .none (.int (-1) tk))
  (h:Q (.ref s.heap.objs.size) {s with heap:=s.heap.push {cls:=.type "tuple",data:=.seq items.toList.reverse.toArray}})
  (hsz:items.size≤sizeLine):wpAny (model prog w) A (getItem (.ref t) (.ref sl)) Q E s:=by
 have htake:sizeOk (.seq items.toList.reverse.toArray):=by
  show items.toList.reverse.toArray.size≤sizeLine
  simpa using hsz
 obtain⟨os,hos,hcs,hds⟩:=id hs;have hTs:s.TypeIs (.ref sl) "slice":=⟨os,hos,hcs⟩;unfold getItem
 try with_reducible refine Yj ?_
 first|refine Qq (Qj ?_)|skip
 refine Qq (wpAny_sequenceKey ht.typeIs (by decide) ?_)
 refine Qq (Zg (name:=Str.ofString "__getitem__") ht.typeIs Zw
  (Zb Zw ht.typeIs entry_tuple_getitem ?_ (args_tuple_getitem _ _)))
 show wpAny _ _ (Builtin.Tuple.tupleItemsOf (.ref t)>>=_) _ _ s;refine Qq (tupleItemsOf_ ht ?_);refine Qq (Uo hTs ?_);rw[Qh (by decide)]
 refine Qq (sliceApplied_rev hs ?_);have hno:¬ ((((items.size:Int)-1)==0&&(-1:Int)==1&&items.size==items.size)=true):=by
  rw[show((-1:Int)==1)=false by decide];simp
 show wpAny _ _ (if(((items.size:Int)-1)==0&&(-1:Int)==1&&items.size==items.size)=true then _ else _) _ _ s
 rw[Qm hno,pick_rev]
 first
  |exact Qq (m:=Builtin.Tuple.tupleExact _) (Zq (Qj ⟨_,rfl,Qj h⟩) htake)
  |exact Qq (m:=Builtin.Tuple.tupleExact _) (Zq (Qq (Qj (Qj ⟨_,rfl,Qj h⟩))) htake)
  |exact Qq (Qq (m:=Builtin.Tuple.tupleExact _) (Zq (Qj (Qj ⟨_,rfl,Qj h⟩)) htake))
  |exact Qq (Qq (m:=Builtin.Tuple.tupleExact _) (Zq (Qj ⟨_,rfl,Qj h⟩) htake))
end
end HT
namespace L2.Mir
open PySem PySem.Spec PyProof.Rows
variable{A:Around}{B:OA}{C i1 i2 it l l1 l2 z:Addr}{E Q:OE}{G H:Hp}{K:Qz}{M:Model}{N ps:List Str}{P prog:Program}{T:String}{X:Cx}{a e:Expr}{as:Mo (List Ar)}{av:List Ar}{b y:Value}{base h h':Heap}{c c2:Bool}{ch:List Addr}{d:D}{ds:List D}{elts es:List Expr}{env:Env'}{fd:FuncData}{i k k1 k2 kk more n t':Nat}{m ma:Mo D}{mb:Mo Fl}{mg:OU}{mi ms:Mo (List D)}{p p2 pos tp:Pos}{pins:OX}{qual x:Str}{r:Rr}{s:Shared}{scope:Scope}{tk:Tok}{w:World}{ws ws':List W}{xs ys:Array Value}{σ:St}
section
variable{lo hi st:Expr}{ml mh:Mo D}
def b7m(K:Qz):V->Option Int->Option Int->Hp->VK->Prop:=fun x lo hi H Q=>∃a xs,x=.ref a/\SqT K H a xs/\
 ((HT.sIx xs.length 0 lo=0/\HT.sIx xs.length xs.length hi=xs.length)->Q (.ref a) H)/\∀p,H p=none->Q (.ref p) (upd H p (.tup (a2T xs lo hi)))
theorem b7n:SlR X (b7m X.K):=by
 intro pins s σ H x v vl vu lo hi sl Q I rx hs pl pu h;obtain⟨a,xs,rfl,hx,qw,q⟩:=h
 by_cases hw:HT.sIx xs.length 0 lo=0/\HT.sIx xs.length xs.length hi=xs.length
 ·cases rx
  obtain⟨its,r,ht,hz⟩:=I.tuple hx;have hlen:its.toArray.size=xs.length:=by rw[Qn];exact r.length.symm
  refine⟨"tuple",_,Zw.lookup,ht.typeIs,?_⟩;exact HT.getItem_tuple_whole ht hs pl pu (by rw[hlen];exact hw) ⟨.ref a,H,I,rfl,qw hw⟩
 ·exact a5n pins s σ H (.ref a) v vl vu lo hi sl Q I rx hs pl pu ⟨a,xs,rfl,hx,hw,q⟩
def a0O(xs:List D)(lo hi:Option Int):List D:=(xs.drop (HT.sIx xs.length 0 lo)).take (HT.sIx xs.length xs.length hi-HT.sIx xs.length 0 lo)
def w0_:Mo (Option Int):=fun env=>some (none,env)
def w1_(m:Mo D):Mo (Option Int):=fun env=>(m env).bind fun p=>match p.1 with
 |.int i=>some (some i,p.2)
 |_=>none
def TOm(K:Qz)(B:OA)(m:Mo (Option Int)):TO:=fun σ H Q=>∃G env o env',Rel K B G σ env H/\m env=some (o,env')/\∀G' H',Ev K B G σ env H G' σ env' H'->Q o H'
abbrev EO(X:Cx)(B:OA)(e:Option Expr)(m:Mo (Option Int)):Prop:=PO X e (TOm X.K B m)
theorem b0Y{e:Option Expr}{t t':TO}(h:PO X e t)(i:∀σ H Q,t' σ H Q->t σ H Q):PO X e t':=fun pins s σ H Q I q=>h pins s σ H Q I (i σ H Q q)
theorem a0k:EO X B none w0_:=by
 refine b0Y b5N ?_
 rintro σ H Q ⟨G,env,o,env',rl,e,k⟩;cases e;exact k G H (.refl rl)
theorem a0l(h:ED X B e ma):EO X B (some e) (w1_ ma):=by
 refine b0Y (b5O h) ?_
 rintro σ H Q ⟨G,env,o,env',rl,e,k⟩;obtain⟨⟨d,env1⟩,e1,e2⟩:=q4_ e;dsimp only at e2;split at e2
 ·rename_i i
  cases e2;refine .bind rl e1 fun v G1 H1 ev r=>?_
  simp only[Rep]at r;exact⟨i,r,k G1 H1 ev⟩
 ·cases e2
def mSl(m:Mo D)(ml mh:Mo (Option Int)):Mo D:=fun env=>(m env).bind fun p=>(ml p.2).bind fun q=>(mh q.2).bind fun r=>match p.1 with
 |.tup ds=>some (.tup (a0O ds q.1 r.1),r.2)
 |_=>none
theorem z9_.cut{xs:List V}(r:z9_ K G xs ds)(lo hi:Option Int):z9_ K G (a2T xs lo hi) (a0O ds lo hi):=by
 unfold a2T a0O;rw[r.length];exact(r.drop _).take _
theorem b7o{lo hi:Option Int}(h:HT.sIx ds.length 0 lo=0/\HT.sIx ds.length ds.length hi=ds.length):a0O ds lo hi=ds:=by
 unfold a0O;rw[h.1,h.2];simp
theorem a0m{lo hi:Option Expr}{ml mh:Mo (Option Int)}(he:ED X B e ma)(hl:EO X B lo ml)(hh:EO X B hi mh):ED X B (.Subscript e (.Slice lo hi none p2) pos) (mSl ma ml mh):=by
 refine pe_imp (b5P b7n he hl hh) ?_
 rintro σ H Q ⟨G,env,d,env',rl,e,k⟩;obtain⟨⟨d1,env1⟩,e1,e2⟩:=q4_ e;obtain⟨⟨l,env2⟩,e3,e4⟩:=q4_ e2;obtain⟨⟨u,env3⟩,e5,e6⟩:=q4_ e4;dsimp only at e3 e5 e6;split at e6
 ·rename_i ds
  cases e6;refine .bind rl e1 fun v G1 H1 ev1 r1=>⟨G1,env1,l,env2,ev1.rel,e3,fun G2 H2 ev2=>⟨G2,env2,u,_,ev2.rel,e5,fun G3 H3 ev3=>?_⟩⟩
  have r3:=Rep.mono (ev2.same.trans ev3.same) _ r1
  have r30:=r3
  simp only[Rep]at r3;obtain⟨p,xs,rfl,q,t⟩:=r3;refine⟨p,xs,rfl,ev3.rel.sub.sqT q,fun hw=>?_,fun l' hp=>?_⟩
  ·rw[t.length]at hw
   exact k _ G3 H3 ((ev1.trans ev2).trans ev3) (by rw[b7o hw];exact r30)
  ·exact k _ _ _ (((ev1.trans ev2).trans ev3).trans (ev3.rel.alloc hp)) (a2V x0_ (z9_.mono (Le.upd (ev3.rel.gnone hp)) _ (t.cut l u)))
 ·cases e6
theorem b7p{te:TE}(he:PE X e te)(hst:PE X st (tC (.int (-1)))):PE X (.Subscript e (.Slice none none (some st) p2) pos) (fun σ H Q=>te σ H fun x H1=>∃a xs,x=.ref a/\SqT X.K H1 a xs/\∀p,H1 p=none->Q (.ref p) (upd H1 p (.tup xs.reverse))):=by
 intro pins s σ H Q I h;refine Subscript_ (thn (he pins s σ H _ I h) fun v s1 ⟨x,H1,I1,r1,q1⟩=>?_)
 refine wpAny_Slice ?_
 rw[evalPart_none];refine Qj (Qj ?_);rw[evalPart_some];refine thn (hst pins s1 σ H1 (fun x H2=>x=.int (-1)/\H2=H1) I1 ⟨rfl,rfl⟩) fun vst s3 ⟨y,H3,I3,r3,q3⟩=>?_
 obtain⟨rfl,rfl⟩:=q3;obtain⟨tk,rfl⟩:=r3;obtain⟨a,xs,rfl,hx,q⟩:=q1;cases r1;have I4:Inv X pins σ H3 {s3 with heap:=s3.heap.push {cls:=.type "slice",data:=.fields #[.none,.none,.int (-1) tk]}}:=I3.kept (t':=s3.toks) fun b ob q=>Qx _ q
 obtain⟨its,r,ht,hz⟩:=I4.tuple hx;have hlen:its.toArray.size=xs.length:=by rw[Qn];exact r.length.symm
 show wpAny (model X.prog X.w) X.A (subscriptTail e (.Slice none none (some st) p2) (.ref a) (.ref s3.heap.objs.size)) (EP X pins σ Q) X.xe {s3 with heap:=s3.heap.push {cls:=.type "slice",data:=.fields #[.none,.none,.int (-1) tk]}}
 refine tail_any (ops:=[.ref a,.ref s3.heap.objs.size]) ht.typeIs Zw.lookup ?_ (by with_unfolding_all rfl)
 refine HT.getItem_tuple_rev (tk:=tk) ht (Heap.IsSliceOf.new ..) ?_ (by rw[hlen];exact hz)
 refine⟨.ref _,_,I4.laid (t':=s3.toks) (o:=.tup xs.reverse) (fun b ob q=>Qx _ q) (Qb _) ?_,rfl,q _ (I4.hok.fresh (Qb _))⟩
 exact⟨by rw[List.length_reverse];exact hz,_,r.reverse,a0Y.new _ _⟩
def a3I(m:Mo D):Mo D:=fun env=>(m env).bind fun p=>match p.1 with
 |.tup ds=>some (.tup ds.reverse,p.2)
 |_=>none
theorem a7O(he:ED X B e ma)(hst:PE X st (tC (.int (-1)))):ED X B (.Subscript e (.Slice none none (some st) p2) pos) (a3I ma):=by
 refine pe_imp (b7p he hst) ?_
 rintro σ H Q ⟨G,env,d,env',rl,e,k⟩;obtain⟨⟨d1,env1⟩,e1,e2⟩:=q4_ e;dsimp only at e2;split at e2
 ·rename_i ds
  cases e2;refine .bind rl e1 fun v G1 H1 ev1 r1=>?_
  simp only[Rep]at r1;obtain⟨p,xs,rfl,q,t⟩:=r1;exact⟨p,xs,rfl,ev1.rel.sub.sqT q,fun l' hp=>k _ _ _ (ev1.trans (ev1.rel.alloc hp)) (a2V x0_ (z9_.mono (Le.upd (ev1.rel.gnone hp)) _ t.reverse))⟩
 ·cases e2
theorem b0Z{j:Nat}:PE X (.UnaryOp .USub (.Constant (.int 1) j p) pos) (tC (.int (-1))):=pe_imp (b0g b0h a9W) fun σ H Q q=>⟨1,rfl,q⟩
end
theorem b1a(I:Inv X pins σ H s)(k:∀b o,b∉ch->s.heap.get? b=some o->h'.get? b=some o)(hf:∀b∈ch,a0q X pins H b):Inv X pins σ H {s with heap:=h',toks:=t'}:=by
 have nit:∀b u,H b=some u->b∉ch:=fun b u e z=>by rw[(hf b z).1]at e;cases e
 refine I.step (g':=s.gens) (d':=s.drawn) (ch:=ch) (fun b hb=>⟨(hf b hb).2.2.2.1,(hf b hb).2.1,(hf b hb).2.2.2.2.1,(hf b hb).2.2.2.2.2⟩) (fun b o _ _ hc e _=>k b o hc e) (fun b o _ _ hc e _=>⟨o.slots,k b o hc e⟩) (fun _ _ _ _ n=>n)
  (fun b o hc e=>⟨o,k b o hc e⟩) (fun _ _ e=>e) (fun _ _ _ e=>e) (fun b ps e=>⟨#[],by rw[e];simp⟩) (fun m hm=>?_) (fun b u e=>?_) I.bare
 ·obtain⟨o,es,ep,ho,r⟩:=hm
  exact⟨o,es,ep,k _ o (fun z=>(hf _ z).2.1 rfl) ho,r⟩
 ·refine(I.hok b u e).stay (fun c v hc q=>k c v ?_ q) (fun _ q=>q) fun _ _ q=>q
  rcases hc with z|z
  ·rw[z];exact nit b u e
  ·exact nit c _ z
theorem b7q{p:Addr}{o:HO}(I:Inv X pins σ H s)(k:∀b o,b∉ch->s.heap.get? b=some o->h'.get? b=some o)(hf:∀b∈ch,a0q X pins H b)
  (hp:s.heap.objs.size≤p)(new:x5_ X.prog X.w (upd H p o) h' p o):Inv X pins σ (upd H p o) {s with heap:=h',toks:=t'}:=by
 have nit:∀b u,H b=some u->b∉ch:=fun b u e z=>by rw[(hf b z).1]at e;cases e
 have hn:H p=none:=I.hok.fresh hp
 have np:∀b u,s.heap.get? b=some u->b≠p:=fun b u q=>Qi (Qr (Qg q) hp)
 refine I.step (g':=s.gens) (d':=s.drawn) (ch:=ch) (fun b hb=>⟨(hf b hb).2.2.2.1,(hf b hb).2.1,(hf b hb).2.2.2.2.1,(hf b hb).2.2.2.2.2⟩) (fun b o _ _ hc e _=>k b o hc e) (fun b o _ _ hc e _=>⟨o.slots,k b o hc e⟩) (fun b o _ e n=>by rw[v0_ (np b o e)];exact n)
  (fun b o hc e=>⟨o,k b o hc e⟩) (fun b xs q=>by rw[v0_ (u5_ q hn)];exact q) (fun b u xs q=>by rw[v0_ (u5_ q hn)];exact q) (fun b ps e=>⟨#[],by rw[v0_ (u5_ e hn),e];simp⟩) (fun m hm=>?_) (fun b u e=>?_) I.bare
 ·obtain⟨o,es,ep,ho,r⟩:=hm
  exact⟨o,es,ep,k _ o (fun z=>(hf _ z).2.1 rfl) ho,r⟩
 ·by_cases hb:b=p
  ·subst hb;rw[x0_]at e;cases e;exact new
  ·rw[v0_ hb]at e
   refine(I.hok b u e).stay (fun c v hc q=>k c v ?_ q) (fun c q=>by rw[v0_ (u5_ q hn)];exact q) fun c xs q=>by rw[v0_ (u5_ q hn)];exact q
   rcases hc with z|z
   ·rw[z];exact nit b u e
   ·exact nit c _ z
def Sq1(k:Bool)(h:Heap)(l:Addr)(xs:Array Value):Prop:=if k then h.IsTuple l xs else h.IsList l xs
def It1(k:Bool)(h:Heap)(i l:Addr)(n:Nat):Prop:=if k then h.IsTupleIter i l n else h.IsListIter i l n
section
variable{k:Bool}{i b:Addr}
theorem Sq1.at'(x:Sq1 k h l xs)(e:∀o,h.get? l=some o->h'.get? l=some o):Sq1 k h' l xs:=by
 cases k
 ·exact Heap.IsList.at (show h.IsList l xs from x) e
 ·obtain⟨o,ho,r⟩:=(show h.IsTuple l xs from x)
  exact(⟨o,e _ ho,r⟩:h'.IsTuple l xs)
theorem It1.at'(x:It1 k h i l n)(e:∀o,h.get? i=some o->h'.get? i=some o):It1 k h' i l n:=by
 cases k
 ·exact Heap.IsListIter.at (show h.IsListIter i l n from x) e
 ·exact Heap.IsTupleIter.at (show h.IsTupleIter i l n from x) e
theorem It1.get(x:It1 k h i l n):∃o,h.get? i=some o/\∀v,o.data≠.cell v:=by
 cases k
 ·obtain⟨o,ho,_,d⟩:=(show h.IsListIter i l n from x);exact⟨o,ho,fun v z=>by rw[d]at z;cases z⟩
 ·obtain⟨o,ho,_,d⟩:=(show h.IsTupleIter i l n from x);exact⟨o,ho,fun v z=>by rw[d]at z;cases z⟩
theorem It1.but(x:It1 k h i l n)(hs:Heap.ExtBut b h h')(hb:i≠b):It1 k h' i l n:=x.at' fun o e=>hs i o hb e
theorem Sq1.but(x:Sq1 k h l xs)(hs:Heap.ExtBut b h h')(hb:l≠b):Sq1 k h' l xs:=x.at' fun o e=>hs l o hb e
end
theorem b7r{items:Array Value}{x:Value}(hit:s.heap.IsTupleIter it l i)(hl:s.heap.IsTuple l items)(hx:items[i]? =some x)
  (hQ:∀h',h'.IsTupleIter it l (i+1)->Heap.SameBut it s.heap h'->Q x {s with heap:=h'}):wpAny (model prog w) A (Builtin.SmallTypes.nextOf (.ref it)) Q E s:=by
 obtain⟨o,ho,hc,hd⟩:=id hit;obtain⟨ol,hol,_,nl,hdl⟩:=hl;unfold Builtin.SmallTypes.nextOf;refine Qq (Zg (name:=Str.ofString "__next__") hit.typeIs Jb (Zb Jb hit.typeIs Xv ?_ (Xj _)));show wpAny _ _ (field (.ref it) 0>>=_) _ _ s;refine Qq (Ze ho hd (x:=.ref l) rfl ?_);rw[Qm (show ¬ ((Value.ref l==Value.none)=true)from Qo)]
 refine Qq (Ze ho hd (x:=.int i 0) rfl ?_);refine Qq (Yd hol hdl ?_);simp only[Zo,hx];refine Qq (Vz ho hd (by simp) (Qj ⟨x,rfl,Qj (hQ _ ⟨_,Uq _ ho (Xf (Je hd _)),(Obj.cls_mapFields ..).trans hc,?_⟩ (Jv ..))⟩))
 rw[Je hd];simp[rawInt]
theorem b7s{items:Array Value}(hh:A.handled=none)(hit:s.heap.IsTupleIter it l i)(hl:s.heap.IsTuple l items)(hx:items[i]? =none)
  (hE:∀h' e,Heap.ExtBut it s.heap h'->(∃o,h'.get? e=some o/\o.cls=.type "StopIteration")->E (.ref e) {s with heap:=h'}):wpAny (model prog w) A (Builtin.SmallTypes.nextOf (.ref it)) Q E s:=by
 obtain⟨o,ho,hc,hd⟩:=id hit;obtain⟨ol,hol,_,nl,hdl⟩:=hl;unfold Builtin.SmallTypes.nextOf;refine Qq (Zg (name:=Str.ofString "__next__") hit.typeIs Jb (Zb Jb hit.typeIs Xv ?_ (Xj _)));show wpAny _ _ (field (.ref it) 0>>=_) _ _ s;refine Qq (Ze ho hd (x:=.ref l) rfl ?_);rw[Qm (show ¬ ((Value.ref l==Value.none)=true)from Qo)]
 refine Qq (Ze ho hd (x:=.int i 0) rfl ?_);refine Qq (Yd hol hdl ?_);simp only[Zo,hx];refine Qq (Ud (Qq (Vz ho hd (by simp) ?_)))
 refine Qq ?_
 simp only[newExc,newTuple];refine Qq (Zq ?_ (by size_fits))
 refine Qq (m:=firstArgMember _ _) (wpAny_of_eq (a:=Value.none) (by first|rfl|(simp only[firstArgMember];rfl)) ?_)
 refine Zq ?_ (by size_fits)
 simp only[raiseNew];refine Qq (wpAny_handled ?_)
 first|rw[show A.in1.handled=none from hh]|rw[hh]
 refine Qq (Qj (wpAny_throw ?_));exact hE _ _ (((Jv ..).extBut.push _).push _) ⟨_,Qu _ rfl,rfl⟩
theorem a7P{k:Bool}{items:Array Value}{x:Value}(hit:It1 k s.heap it l i)(hl:Sq1 k s.heap l items)(hx:items[i]? =some x)
  (hQ:∀h',It1 k h' it l (i+1)->Heap.SameBut it s.heap h'->Q x {s with heap:=h'}):wpAny (model prog w) A (Builtin.SmallTypes.nextOf (.ref it)) Q E s:=by
 cases k
 ·exact wpAny_nextOf_list_item hit hl hx hQ
 ·exact b7r hit hl hx hQ
theorem b1b{k:Bool}{items:Array Value}(hh:A.handled=none)(hit:It1 k s.heap it l i)(hl:Sq1 k s.heap l items)(hx:items[i]? =none)
  (hE:∀h' e,Heap.ExtBut it s.heap h'->(∃o,h'.get? e=some o/\o.cls=.type "StopIteration")->E (.ref e) {s with heap:=h'}):wpAny (model prog w) A (Builtin.SmallTypes.nextOf (.ref it)) Q E s:=by
 cases k
 ·exact wpAny_nextOf_list_end hh hit hl hx hE
 ·exact b7s hh hit hl hx hE
section
variable{c1:Bool}
theorem b7t{TI TO:Addr}{x a:Value}(D:ZipApart z TI TO i1 i2 l1 l2)
  (hz:IsZip s.heap z TI TO .none)(hTI:IsPair s.heap TI (.ref i1) (.ref i2))(hTO:IsPair s.heap TO a b)
  (h1:It1 c1 s.heap i1 l1 k1)(h2:It1 c2 s.heap i2 l2 k2)(hl1:Sq1 c1 s.heap l1 xs)(hl2:Sq1 c2 s.heap l2 ys)(hx:xs[k1]? =some x)(hy:ys[k2]? =some y)
  (hQ:∀h',IsZip h' z TI TO (rawInt s.heap.objs.size)->IsPair h' TO x y->It1 c1 h' i1 l1 (k1+1)->It1 c2 h' i2 l2 (k2+1)->IsPair h' s.heap.objs.size x y->h'.objs.size=s.heap.objs.size+1->
   (∀c o,c≠z->c≠TO->c≠i1->c≠i2->s.heap.get? c=some o->h'.get? c=some o)->Q (.ref s.heap.objs.size) {s with heap:=h'}):
  wpAny (model prog w) A (Builtin.«zip.__next__» ⟨[.ref z],[]⟩) (fun fin s'=>∃v,fin=.done (.ret v)/\Q v s') E s:=by
 show wpAny _ _ (field (.ref z) 2>>=_) _ _ _;refine Qq (Ze hz rfl (x:=.bool false) rfl (Qq (Ze hz rfl (x:=.ref TI) rfl ?_)));refine Qq (Yd hTI rfl (Qq ?_));unfold Builtin.SmallTypes.ownedTupleIsFree;refine Qq (Ze hz rfl (x:=.none) rfl (Qj ?_));simp only[Yw];refine Qq (Ud (Qq (Ze hz rfl (x:=.ref TO) rfl ?_)));refine Qq (Jo hz (by simp) fun g1 (z1:IsZip g1 z TI TO .ellipsis) s1=>Qq ?_)
 simp only[List.zipIdx_cons,List.zipIdx_nil,List.forIn_cons,List.forIn_nil];refine Qq (Qq (Xu (Qq (m:=Builtin.SmallTypes.nextOf (.ref i1)) ?_)));refine a7P (h1.but s1.extBut D.i1z) (hl1.but s1.extBut D.l1z) hx fun g2 a2 s2=>Qj ?_
 have p2:IsPair g2 TO a b:=s2.extBut _ _ D.TOi1 (s1.extBut _ _ D.TOz hTO)
 refine Qq (Yd p2 rfl (Qq (Xs p2 fun g3 (p3:IsPair g3 TO x b) s3=>?_)))
 refine Qq (wpAny_letGo (Qj (Qq (Qq (Xu (Qq (m:=Builtin.SmallTypes.nextOf (.ref i2)) ?_))))));refine a7P (((h2.but s1.extBut D.i2z).but s2.extBut D.i12.symm).but s3.extBut D.TOi2.symm) (((hl2.but s1.extBut D.l2z).but s2.extBut D.l2i1).but s3.extBut D.l2TO) hy fun g4 a4 s4=>Qj ?_
 have p4:IsPair g4 TO x b:=s4.extBut _ _ D.TOi2 p3
 refine Qq (Yd p4 rfl (Qq (Xs p4 fun g5 (p5:IsPair g5 TO x y) s5=>?_)))
 refine Qq (wpAny_letGo (Qj (Qj (Qq (Yd p5 rfl (Qq (wpAny_newTuple ?_)))))));have hsz:g5.objs.size=s.heap.objs.size:=by rw[s5.1,s4.1,s3.1,s2.1,s1.1]
 have z5:IsZip g5 z TI TO .ellipsis:=s5.extBut _ _ D.TOz.symm (s4.extBut _ _ D.i2z.symm (s3.extBut _ _ D.TOz.symm (s2.extBut _ _ D.i1z.symm z1)))
 have k5:∀c o,c≠z->c≠TO->c≠i1->c≠i2->s.heap.get? c=some o->g5.get? c=some o:=fun c o n1 n2 n3 n4 e=>
  s5.extBut _ _ n2 (s4.extBut _ _ n4 (s3.extBut _ _ n2 (s2.extBut _ _ n3 (s1.extBut _ _ n1 e))))
 have b1:It1 c1 g5 i1 l1 (k1+1):=((a2.but s3.extBut D.TOi1.symm).but s4.extBut D.i12).but s5.extBut D.TOi1.symm
 have b2:It1 c2 g5 i2 l2 (k2+1):=a4.but s5.extBut D.TOi2.symm
 refine Qq (m:=Builtin.SmallTypes.ownedTupleHandOut (.ref z) (.ref g5.objs.size)) ?_
 unfold Builtin.SmallTypes.ownedTupleHandOut;have z6:IsZip (g5.push {cls:=.type "tuple",data:=.seq #[x,y]}) z TI TO .ellipsis:=Qx _ z5;refine Qq (Jo z6 (by simp) fun g7 (z7:IsZip g7 z TI TO (rawInt g5.objs.size)) s7=>?_)
 refine Jo z7 (by simp) fun g8 (z8:IsZip g8 z TI TO (rawInt g5.objs.size)) s8=>?_
 have up:∀c o,c≠z->g5.get? c=some o->g8.get? c=some o:=fun c o n1 e=>s8.extBut _ _ n1 (s7.extBut _ _ n1 (Qx _ e))
 have t8:IsPair g8 g5.objs.size x y:=s8.extBut _ _ (Xc (Qg z5)) (s7.extBut _ _ (Xc (Qg z5)) (Qu _ rfl))
 have e8:g8.objs.size=g5.objs.size+1:=by rw[s8.1,s7.1,Yh]
 rw[hsz]at z8 t8 e8;refine Qj ⟨_,rfl,?_⟩;show Q (.ref g5.objs.size) _;rw[hsz];exact hQ g8 z8 (up _ _ D.TOz p5) (b1.at' fun o e=>up _ o D.i1z e) (b2.at' fun o e=>up _ o D.i2z e) t8 e8 fun c o n1 n2 n3 n4 e=>up c o n1 (k5 c o n1 n2 n3 n4 e)
theorem b7u{TI TO:Addr}{a:Value}{Q:PySem.Fin->Shared->Prop}(hh:A.handled=none)(D:ZipApart z TI TO i1 i2 l1 l2)
  (hz:IsZip s.heap z TI TO .none)(hTI:IsPair s.heap TI (.ref i1) (.ref i2))(hTO:IsPair s.heap TO a b)
  (h1:It1 c1 s.heap i1 l1 k1)(h2:It1 c2 s.heap i2 l2 k2)(hl1:Sq1 c1 s.heap l1 xs)(hl2:Sq1 c2 s.heap l2 ys)(hend:xs[k1]? =none∨ys[k2]? =none)
  (hE:∀h' e,(∀c o,c≠z->c≠TO->c≠i1->c≠i2->s.heap.get? c=some o->h'.get? c=some o)->(∃o,h'.get? e=some o/\o.cls=.type "StopIteration")->E (.ref e) {s with heap:=h'}):
  wpAny (model prog w) A (Builtin.«zip.__next__» ⟨[.ref z],[]⟩) Q E s:=by
 show wpAny _ _ (field (.ref z) 2>>=_) _ _ _;refine Qq (Ze hz rfl (x:=.bool false) rfl (Qq (Ze hz rfl (x:=.ref TI) rfl ?_)));refine Qq (Yd hTI rfl (Qq ?_));unfold Builtin.SmallTypes.ownedTupleIsFree;refine Qq (Ze hz rfl (x:=.none) rfl (Qj ?_));simp only[Yw];refine Qq (Ud (Qq (Ze hz rfl (x:=.ref TO) rfl ?_)));refine Qq (Jo hz (by simp) fun g1 (z1:IsZip g1 z TI TO .ellipsis) s1=>Qq ?_)
 simp only[List.zipIdx_cons,List.zipIdx_nil,List.forIn_cons,List.forIn_nil];refine Qq (Qq (Xu (Qq (m:=Builtin.SmallTypes.nextOf (.ref i1)) ?_)));cases hx:xs[k1]? with
 |none=>
  refine b1b hh (h1.but s1.extBut D.i1z) (hl1.but s1.extBut D.l1z) hx fun g2 e s2 he=>?_
  obtain⟨oe,q1,q2⟩:=he;have z2:IsZip g2 z TI TO .ellipsis:=s2 _ _ D.i1z.symm z1;have ne:e≠z:=fun x=>by subst x;rw[z2]at q1;cases q1;simp at q2
  exact Jo z2 (by simp) fun g3 _ s3=>hE g3 e (fun c o n1 _ n3 _ x=>s3.extBut _ _ n1 (s2 _ _ n3 (s1.extBut _ _ n1 x))) ⟨oe,s3.extBut _ _ ne q1,q2⟩
 |some x=>
  have hy:ys[k2]? =none:=by
   rcases hend with h|h
   ·rw[hx]at h;cases h
   ·exact h
  refine a7P (h1.but s1.extBut D.i1z) (hl1.but s1.extBut D.l1z) hx fun g2 a2 s2=>Qj ?_
  have p2:IsPair g2 TO a b:=s2.extBut _ _ D.TOi1 (s1.extBut _ _ D.TOz hTO)
  refine Qq (Yd p2 rfl (Qq (Xs p2 fun g3 p3 s3=>?_)))
  refine Qq (wpAny_letGo (Qj (Qq (Qq (Xu (Qq (m:=Builtin.SmallTypes.nextOf (.ref i2)) ?_))))));refine b1b hh (((h2.but s1.extBut D.i2z).but s2.extBut D.i12.symm).but s3.extBut D.TOi2.symm) (((hl2.but s1.extBut D.l2z).but s2.extBut D.l2i1).but s3.extBut D.l2TO) hy fun g4 e s4 he=>?_
  obtain⟨oe,q1,q2⟩:=he;have z4:IsZip g4 z TI TO .ellipsis:=s4 _ _ D.i2z.symm (s3.extBut _ _ D.TOz.symm (s2.extBut _ _ D.i1z.symm z1));have ne:e≠z:=fun x=>by subst x;rw[z4]at q1;cases q1;simp at q2
  exact Jo z4 (by simp) fun g5 _ s5=>hE g5 e (fun c o n1 n2 n3 n4 x=>s5.extBut _ _ n1 (s4 _ _ n4 (s3.extBut _ _ n2 (s2.extBut _ _ n3 (s1.extBut _ _ n1 x))))) ⟨oe,s5.extBut _ _ ne q1,q2⟩
theorem b7v{TI TO:Addr}{x a:Value}{Q:Option Value->Shared->Prop}(D:ZipApart z TI TO i1 i2 l1 l2)
  (hz:IsZip s.heap z TI TO .none)(hTI:IsPair s.heap TI (.ref i1) (.ref i2))(hTO:IsPair s.heap TO a b)
  (h1:It1 c1 s.heap i1 l1 k1)(h2:It1 c2 s.heap i2 l2 k2)(hl1:Sq1 c1 s.heap l1 xs)(hl2:Sq1 c2 s.heap l2 ys)(hx:xs[k1]? =some x)(hy:ys[k2]? =some y)
  (hQ:∀h',IsZip h' z TI TO (rawInt s.heap.objs.size)->IsPair h' TO x y->It1 c1 h' i1 l1 (k1+1)->It1 c2 h' i2 l2 (k2+1)->IsPair h' s.heap.objs.size x y->h'.objs.size=s.heap.objs.size+1->
   (∀c o,c≠z->c≠TO->c≠i1->c≠i2->s.heap.get? c=some o->h'.get? c=some o)->Q (some (.ref s.heap.objs.size)) {s with heap:=h'}):
  wpAny (model prog w) A (pyNext (.ref z)) Q E s:=by
 have hT:s.TypeIs (.ref z) "zip":=⟨_,hz,rfl⟩
 unfold pyNext;exact Qq (Ux (Zg (name:=Str.ofString "__next__") hT Vj (Zb Vj hT PySem.F.entry_zip_next
  (b7t D hz hTI hTO h1 h2 hl1 hl2 hx hy fun h' a1 a2 a3 a4 a5 a6 a7=>Qj (hQ h' a1 a2 a3 a4 a5 a6 a7)) (PySem.F.args_zip_next_1 _))))
theorem b7w{TI TO:Addr}{a:Value}{Q:Option Value->Shared->Prop}(hh:A.handled=none)(D:ZipApart z TI TO i1 i2 l1 l2)
  (hz:IsZip s.heap z TI TO .none)(hTI:IsPair s.heap TI (.ref i1) (.ref i2))(hTO:IsPair s.heap TO a b)
  (h1:It1 c1 s.heap i1 l1 k1)(h2:It1 c2 s.heap i2 l2 k2)(hl1:Sq1 c1 s.heap l1 xs)(hl2:Sq1 c2 s.heap l2 ys)(hend:xs[k1]? =none∨ys[k2]? =none)
  (hQ:∀h',(∀c o,c≠z->c≠TO->c≠i1->c≠i2->s.heap.get? c=some o->h'.get? c=some o)->Q none {s with heap:=h'}):wpAny (model prog w) A (pyNext (.ref z)) Q E s:=by
 have hT:s.TypeIs (.ref z) "zip":=⟨_,hz,rfl⟩
 unfold pyNext;refine Qq (Ux (Zg (name:=Str.ofString "__next__") hT Vj (Zb Vj hT PySem.F.entry_zip_next
  (b7u hh D hz hTI hTO h1 h2 hl1 hl2 hend fun h' e hk he=>?_) (PySem.F.args_zip_next_1 _))))
 obtain⟨o,ho,hc⟩:=he;exact Qq (Yo (T:="StopIteration") (b:=true) ⟨o,ho,hc⟩ isSubtype_stop (Qj (hQ _ hk)))
end
def b1c(c:Bool):String:=if c then "tuple_iterator" else "list_iterator"
abbrev zh1(c1:Bool)(h:Heap)(l1:Addr):Heap:=h.push {cls:=.type (b1c c1),data:=.fields #[.ref l1,.int 0 0]}
abbrev zh2(c1 c2:Bool)(h:Heap)(l1 l2:Addr):Heap:=(zh1 c1 h l1).push {cls:=.type (b1c c2),data:=.fields #[.ref l2,.int 0 0]}
abbrev zh3(c1 c2:Bool)(h:Heap)(l1 l2:Addr):Heap:=(zh2 c1 c2 h l1 l2).push {cls:=.type "tuple",data:=.seq #[.ref h.objs.size,.ref (zh1 c1 h l1).objs.size]}
abbrev zh4(c1 c2:Bool)(h:Heap)(l1 l2:Addr):Heap:=(zh3 c1 c2 h l1 l2).push {cls:=.type "tuple",data:=.seq #[.none,.none]}
abbrev zh5(c1 c2:Bool)(h:Heap)(l1 l2:Addr):Heap:=(zh4 c1 c2 h l1 l2).push {cls:=.type "zip",data:=.fields #[.none,.bool false,.bool false,.ref (zh2 c1 c2 h l1 l2).objs.size,.ref (zh3 c1 c2 h l1 l2).objs.size]}
theorem b1d{items:Array Value}(hl:Sq1 c s.heap l items)(hQ:Q (.ref s.heap.objs.size) {s with heap:=zh1 c s.heap l}):wpAny (model prog w) A (pyIter (.ref l)) Q E s:=by
 cases c
 ·exact Uw hl hQ
 ·exact Vl hl hQ
theorem b7x(c1 c2:Bool)(l1 l2:Addr)(xs ys:Array Value):
  Meets (Builtin.«zip.__new__» ⟨[.type "zip",.ref l1,.ref l2],[]⟩) (fun _ R s=>Sq1 c1 s.heap l1 xs/\Sq1 c2 s.heap l2 ys/\R (.ok (.ret (.ref (zh4 c1 c2 s.heap l1 l2).objs.size))) {s with heap:=zh5 c1 c2 s.heap l1 l2}):=
 .of_wp fun prog w A R s h=>by
  obtain⟨hp,g,d,tk,os⟩:=s;obtain⟨hl1,hl2,h⟩:=h;have hsub:=sub_zip;have hL1:Sq1 c1 (Shared.heap ⟨hp,g,d,tk,os⟩) l1 xs:=hl1;have hL2:Sq1 c2 (Shared.heap ⟨zh1 c1 hp l1,g,d,tk,os⟩) l2 ys:=Sq1.at' hl2 fun o e=>Qx _ e
  wp_walk using b1d hL1,b1d hL2
  exact⟨_,rfl,h⟩
theorem b7y{c1:Bool}(hl1:Sq1 c1 s.heap l1 xs)(hl2:Sq1 c2 s.heap l2 ys)
  (h:∀h',IsZip h' (s.heap.objs.size+4) (s.heap.objs.size+2) (s.heap.objs.size+3) .none->IsPair h' (s.heap.objs.size+2) (.ref s.heap.objs.size) (.ref (s.heap.objs.size+1))->
   IsPair h' (s.heap.objs.size+3) .none .none->It1 c1 h' s.heap.objs.size l1 0->It1 c2 h' (s.heap.objs.size+1) l2 0->h'.objs.size=s.heap.objs.size+5->
   (∀c o,s.heap.get? c=some o->h'.get? c=some o)->Q (.ref (s.heap.objs.size+4)) {s with heap:=h'}):
  wpAny (model prog w) A (call (.type "zip") [.ref l1,.ref l2]) Q E s:=by
 refine callType_new PySem.F.called_zip (by decide) (PySem.F.typeCall_zip_2 _ _) (PySem.F.newCall_zip_2 _ _) (fun obj=>PySem.F.args_object_init_3 obj _ _) PySem.F.entry_zip_new (b7x c1 c2 l1 l2 xs ys) ⟨hl1,hl2,?_⟩
 have z1:(zh1 c1 s.heap l1).objs.size=s.heap.objs.size+1:=Yh ..
 have z2:(zh2 c1 c2 s.heap l1 l2).objs.size=s.heap.objs.size+2:=by rw[Yh,z1]
 have z3:(zh3 c1 c2 s.heap l1 l2).objs.size=s.heap.objs.size+3:=by rw[Yh,z2]
 have z4:(zh4 c1 c2 s.heap l1 l2).objs.size=s.heap.objs.size+4:=by rw[Yh,z3]
 have z5:(zh5 c1 c2 s.heap l1 l2).objs.size=s.heap.objs.size+5:=by rw[Yh,z4]
 have g5:(zh5 c1 c2 s.heap l1 l2).get? (zh4 c1 c2 s.heap l1 l2).objs.size=some _:=Qu _ rfl
 have g4:(zh5 c1 c2 s.heap l1 l2).get? (zh3 c1 c2 s.heap l1 l2).objs.size=some _:=Qx _ (Qu _ rfl)
 have g3:(zh5 c1 c2 s.heap l1 l2).get? (zh2 c1 c2 s.heap l1 l2).objs.size=some _:=Qx _ (Qx _ (Qu _ rfl))
 have g2:(zh5 c1 c2 s.heap l1 l2).get? (zh1 c1 s.heap l1).objs.size=some _:=Qx _ (Qx _ (Qx _ (Qu _ rfl)))
 have g1:(zh5 c1 c2 s.heap l1 l2).get? s.heap.objs.size=some _:=Qx _ (Qx _ (Qx _ (Qx _ (Qu _ rfl))))
 show _/\_;rw[z2,z3,z4]at g5;rw[z1,z2]at g3;rw[z3]at g4;rw[z1]at g2;rw[z4];refine⟨⟨_,g5,rfl⟩,h _ g5 g3 g4 ?_ ?_ z5 fun c o x=>Qx _ (Qx _ (Qx _ (Qx _ (Qx _ x))))⟩
 ·cases c1
  ·exact(⟨_,g1,rfl,rfl⟩:Heap.IsListIter _ _ _ _)
  ·exact(⟨_,g1,rfl,rfl⟩:Heap.IsTupleIter _ _ _ _)
 ·cases c2
  ·exact(⟨_,g2,rfl,rfl⟩:Heap.IsListIter _ _ _ _)
  ·exact(⟨_,g2,rfl,rfl⟩:Heap.IsTupleIter _ _ _ _)
def SqA(c:Bool)(K:Qz)(H:Hp)(a:Addr)(xs:List V):Prop:=if c then SqT K H a xs else SqL K H a xs
theorem Le.sqA{G':Hp}(l:Le G G'){a:Addr}{xs:List V}(h:SqA c K G a xs):SqA c K G' a xs:=by
 cases c
 ·exact l.sqL h
 ·exact l.sqT' h
section
variable{a b:Addr}{xs:List V}
theorem a3J(I:Inv X pins σ H s)(h:SqA c X.K H a xs):∃its:List Value,v2_ xs its/\Sq1 c s.heap a its.toArray/\xs.length≤sizeLine:=by
 cases c
 ·obtain⟨its,r,p,z⟩:=I.list h
  exact⟨its,r,p.isList,z⟩
 ·obtain⟨its,r,p,z⟩:=I.tuple h
  exact⟨its,r,p,z⟩
theorem a5O(I:Inv X pins σ H s)(f:a0q X pins H b)(h:SqA c X.K H a xs):a≠b:=by
 have k:∀{u:HO},Rd H a u->a≠b:=fun r z=>by
  subst z
  rcases r with r|⟨_,r⟩
  ·rw[f.1]at r;cases r
  ·rw[f.1]at r;cases r
 have m:∀{o:Obj},X.K.lookup a=some o->a≠b:=fun{o} q z=>by
  subst z;have e:X.base.get? a=some o:=I.mod.kin a o q
  rcases f.2.2.2.1 with z|z
  ·exact I.ok.noex a o e z
  ·exact absurd (Qr (Qg e) (Zt I.ok.bsz z)) (Jw _)
 cases c
 ·rcases h with h|⟨o,_,_,q,_⟩
  ·exact k h
  ·exact m q
 ·rcases h with h|⟨o,_,_,q,_⟩
  ·exact k h
  ·exact m q
end
def Itz(K:Qz)(c1 c2:Bool)(l1 l2:Addr)(xs ys:List V):It:=
 ⟨fun i H=>i<min xs.length ys.length/\SqA c1 K H l1 xs/\SqA c2 K H l2 ys,
  fun i H x H'=>∃p a b,H p=none/\x=.ref p/\H'=upd H p (.tup [a,b])/\xs[i]? =some a/\ys[i]? =some b,
  fun i H=>min xs.length ys.length≤i/\SqA c1 K H l1 xs/\SqA c2 K H l2 ys⟩
def b7z(c1 c2:Bool)(n:Nat)(l1 l2:Addr)(i:Nat)(h:Heap):Prop:=
 IsZip h (n+4) (n+2) (n+3) .none/\IsPair h (n+2) (.ref n) (.ref (n+1))/\(∃a b,IsPair h (n+3) a b)/\It1 c1 h n l1 i/\It1 c2 h (n+1) l2 i
theorem apart{n:Addr}(h1:∀j,j<5->l1≠n+j)(h2:∀j,j<5->l2≠n+j):ZipApart (n+4) (n+2) (n+3) n (n+1) l1 l2:=by
 constructor<;>first
  |(show(_:Nat)≠_;omega)
  |exact h1 4 (by decide)
  |exact h1 3 (by decide)
  |exact h1 1 (by decide)
  |exact h1 0 (by decide)
  |exact h2 4 (by decide)
  |exact h2 3 (by decide)
  |exact h2 1 (by decide)
  |exact h2 0 (by decide)
abbrev fp5(n:Nat):List Addr:=[n+4,n+2,n+3,n,n+1]
abbrev fp4(n:Nat):List Addr:=[n+4,n+3,n,n+1]
theorem a5P(n:Nat):∀{j:Nat},j<5->(n+j:Nat)∈fp5 n
 |0,_=>by simp[fp5]
 |1,_=>by simp[fp5]
 |2,_=>by simp[fp5]
 |3,_=>by simp[fp5]
 |4,_=>by simp[fp5]
 |j+5,h=>by omega
theorem b1e{c:Addr}(h:c∈fp4 n):c∈fp5 n:=by
 simp only[fp4,fp5,Qc,Zy,Jj]at h ⊢
 rcases h with h|h|h|h<;>simp[h]
theorem b7A{c:Addr}(h:c∈[n+4]):c∈fp5 n:=by
 simp only[Qc,Zy,Jj]at h;rw[h];simp
theorem le5{c:Addr}(h:c∈fp5 n):n≤c:=by
 simp only[fp5,Qc,Zy,Jj]at h
 rcases h with rfl|rfl|rfl|rfl|rfl
 ·exact Xg _ _
 ·exact Xg _ _
 ·exact Xg _ _
 ·exact Qb _
 ·exact Xg _ _
theorem b7B(c1 c2:Bool)(n l1 l2:Addr)(xs ys:List V):
  Turn P w K (.Tuple elts kk tp) (Itz K c1 c2 l1 l2 xs ys) [n+4,n+2,n+3,n,n+1] (n+4) (b7z c1 c2 n l1 l2)where
 mem:=by simp
 obj:=fun i h st b hb=>by
  obtain⟨hz,hI,⟨a,b',hO⟩,h1,h2⟩:=st;simp only[Qc,Zy,Jj]at hb
  rcases hb with rfl|rfl|rfl|rfl|rfl
  ·exact⟨_,hz,fun v z=>by cases z⟩
  ·exact⟨_,hI,fun v z=>by cases z⟩
  ·exact⟨_,hO,fun v z=>by cases z⟩
  ·exact h1.get
  ·exact h2.get
 keep:=fun i h h' st k=>by
  obtain⟨hz,hI,⟨a,b',hO⟩,h1,h2⟩:=st;exact⟨k _ (by simp) _ hz,k _ (by simp) _ hI,⟨a,b',k _ (by simp) _ hO⟩,h1.at' fun o e=>k _ (by simp) o e,h2.at' fun o e=>k _ (by simp) o e⟩
 item:=by
  intro X hP hw hK hc i pins s σ H E I hf st hg;subst hP hw hK;obtain⟨hi,q1,q2⟩:=hg;obtain⟨hz,hI,⟨a,b,hO⟩,h1,h2⟩:=st;obtain⟨its,r1,p1,_⟩:=a3J I q1;obtain⟨jts,r2,p2,_⟩:=a3J I q2;have ex:xs[i]? =some (xs[i]'(by omega)):=by simp
  have ey:ys[i]? =some (ys[i]'(by omega)):=by simp
  obtain⟨u,hu,ru⟩:=r1.get ex;obtain⟨v,hv,rv⟩:=r2.get ey;have D:ZipApart (n+4) (n+2) (n+3) n (n+1) l1 l2:=apart
   (fun j hj=>a5O I (hf _ (a5P n hj)) q1)
   (fun j hj=>a5O I (hf _ (a5P n hj)) q2)
  refine b7v D hz hI hO h1 h2 p1 p2 (x:=u) (y:=v) (by simpa using hu) (by simpa using hv) fun h' a1 a2 a3 a4 a5 a6 a7=>?_
  have hn:H s.heap.objs.size=none:=I.fresh
  have I1:Inv X pins σ (upd H s.heap.objs.size (.tup [xs[i]'(by omega),ys[i]'(by omega)])) {s with heap:=h'}:=b7q (ch:=[n+4,n+3,n,n+1]) (t':=s.toks) I
   (fun c o hc e=>a7 c o (fun z=>hc (by simp[z])) (fun z=>hc (by simp[z])) (fun z=>hc (by simp[z])) (fun z=>hc (by simp[z])) e)
   (fun c hc=>hf c (b1e hc)) (Qb _)
   ⟨by show 2≤sizeLine;decide,[u,v],.cons ru (.cons rv .nil),_,a5,rfl,rfl,0,rfl⟩
  have lt5:∀c∈[n+4,n+2,n+3,n,n+1],c≠s.heap.objs.size:=fun c hc=>by
   have:∃o,s.heap.get? c=some o:=by
    simp only[Qc,Zy,Jj]at hc
    rcases hc with rfl|rfl|rfl|rfl|rfl
    ·exact⟨_,hz⟩
    ·exact⟨_,hI⟩
    ·exact⟨_,hO⟩
    ·obtain⟨o,e,_⟩:=h1.get;exact⟨o,e⟩
    ·obtain⟨o,e,_⟩:=h2.get;exact⟨o,e⟩
   obtain⟨o,e⟩:=this;exact Qi (Qg e)
  have hf2:∀c∈[n+4,n+2,n+3,n,n+1],a0q X pins (upd H s.heap.objs.size (.tup [xs[i]'(by omega),ys[i]'(by omega)])) c:=fun c hc=>⟨by rw[v0_ (lt5 c hc)];exact(hf c hc).1,(hf c hc).2⟩
  have hI':IsPair h' (n+2) (.ref n) (.ref (n+1)):=a7 _ _ D.TIz D.TITO D.TIi1 D.TIi2 hI
  refine⟨.ref s.heap.objs.size,rfl,wpAny_letOwnedTupleGo_zip (s:={s with heap:=h'}) a1 fun h2' b1 b2=>?_⟩
  have I2:Inv X pins σ (upd H s.heap.objs.size (.tup [xs[i]'(by omega),ys[i]'(by omega)])) {s with heap:=h2'}:=b1a (s:={s with heap:=h'}) (ch:=[n+4]) (t':=s.toks) I1
   (fun c o hc e=>b2.extBut _ _ (fun z=>hc (by simp[z])) e) (fun c hc=>hf2 c (b7A hc))
  exact⟨.ref s.heap.objs.size,_,I2,rfl,⟨_,_,_,hn,rfl,rfl,ex,ey⟩,
   ⟨b1,b2.extBut _ _ D.TIz hI',⟨_,_,b2.extBut _ _ D.TOz a2⟩,a3.but b2.extBut D.i1z,a4.but b2.extBut D.i2z⟩,fun c hc=>(hf2 c hc).1⟩
 done:=by
  intro X hP hw hK hc i pins s σ H E I hf st hg;subst hP hw hK;obtain⟨hi,q1,q2⟩:=hg;obtain⟨hz,hI,⟨a,b,hO⟩,h1,h2⟩:=st;obtain⟨its,r1,p1,_⟩:=a3J I q1;obtain⟨jts,r2,p2,_⟩:=a3J I q2;have D:ZipApart (n+4) (n+2) (n+3) n (n+1) l1 l2:=apart
   (fun j hj=>a5O I (hf _ (a5P n hj)) q1)
   (fun j hj=>a5O I (hf _ (a5P n hj)) q2)
  have e1:=r1.length
  have e2:=r2.length
  have hend:its.toArray[i]? =none∨jts.toArray[i]? =none:=by
   by_cases h:its.length≤i
   ·exact .inl (by simp;omega)
   ·exact .inr (by simp;omega)
  exact b7w (I.ok.hd hc) D hz hI hO h1 h2 p1 p2 hend fun h' hk=>⟨rfl,b1a (ch:=[n+4,n+3,n,n+1]) (t':=s.toks) I
   (fun c o hc e=>hk c o (fun z=>hc (by simp[z])) (fun z=>hc (by simp[z])) (fun z=>hc (by simp[z])) (fun z=>hc (by simp[z])) e)
   (fun c hc=>hf c (b1e hc))⟩
 self:=fun _ _ _ _ _ st h=>wpAny_pyIter_zip st.1 h
theorem b7C:bootBuiltins "zip"=some (.type "zip"):=by decide+kernel
section
variable{b:Expr}
def b7D(K:Qz)(ta:TA):TI:=fun σ H R=>ta σ H fun vs H1=>∃c1 c2 l1 l2 xs ys,vs=[.ref l1,.ref l2]/\SqA c1 K H1 l1 xs/\SqA c2 K H1 l2 ys/\R (Itz K c1 c2 l1 l2 xs ys) H1
theorem b7E{ta:TA}(hg:Gl X "zip")(hm:X.mg "zip"=none)(ha:PA X [a,b] ta)(hs:starEach [a,b] X.env=[(false,eval a X.env),(false,eval b X.env)]:=by rfl)(hs2:starEach [b] X.env=[(false,eval b X.env)]:=by rfl):
  PI X (.Tuple elts kk tp) (.Call (.Name "zip" p) [a,b] [] pos) (b7D X.K ta):=by
 intro pins s σ H R I h;refine Call_ (a4g I hg hm b7C (Vk (thn (ha pos pins s σ H _ I h) fun us s1 ⟨vs,H1,I1,r1,q1⟩=>?_) (by rw[hs,hs2]) (by rw[hs2];rfl)))
 obtain⟨c1,c2,l1,l2,xs,ys,rfl,h1,h2,q⟩:=q1;obtain⟨u,v,rfl,ru,rv⟩:=a1U r1;cases ru;cases rv;obtain⟨its,r1,p1,_⟩:=a3J I1 h1;obtain⟨jts,r2,p2,_⟩:=a3J I1 h2;refine b7y p1 p2 fun h' a1 a2 a3 a4 a5 a6 a7=>?_
 refine wpAny_pyIter_zip a1 ?_
 refine⟨s1.heap.objs.size+4,_,_,_,H1,rfl,I1.kept (t':=s1.toks) a7,b7B c1 c2 s1.heap.objs.size l1 l2 xs ys,⟨a1,a2,⟨_,_,a3⟩,a4,a5⟩,fun c hc=>?_,q⟩
 have hle:s1.heap.objs.size≤c:=le5 hc
 exact I1.fpOk hle (I1.hok.fresh hle)
def a1I(xs ys:List D):List D:=(xs.zip ys).map fun p=>.tup [p.1,p.2]
def a3c(ms:Mo (List D)):Mo (List D):=fun env=>(ms env).bind fun p=>match p.1 with
 |[d,e]=>d.items.bind fun xs=>e.items.map fun ys=>(a1I xs ys,p.2)
 |_=>none
theorem b1f{v:V}(r:Rep K G v d)(h:d.items=some ds):∃c a xs,v=.ref a/\SqA c K G a xs/\z9_ K G xs ds:=by
 cases d<;>first|(exact absurd (show(none:Option (List D))=some ds from h) (by simp))|skip
 ·cases h;simp only[Rep]at r;obtain⟨a,xs,e,q,t⟩:=r;exact⟨true,a,xs,e,q.t,t⟩
 ·cases h;simp only[Rep]at r;obtain⟨a,xs,e,q,t⟩:=r;exact⟨false,a,xs,e,q,t⟩
theorem b7F{c1:Bool}{xs ys:List V}{es:List D}(h1:SqA c1 K G l1 xs)(h2:SqA c2 K G l2 ys)(r1:z9_ K G xs ds)(r2:z9_ K G ys es):ItD K (Itz K c1 c2 l1 l2 xs ys) G (a1I ds es)where
 go:=fun i H l hi=>⟨by rw[r1.length,r2.length];simpa [a1I]using hi,l.sqA h1,l.sqA h2⟩
 stop:=fun i H l hi=>⟨by rw[r1.length,r2.length];simpa [a1I]using hi,l.sqA h1,l.sqA h2⟩
 yld:=fun i H x H' d l y e=>by
  obtain⟨p,a,b,hp,rfl,rfl,ea,eb⟩:=y;obtain⟨da,e1,ra⟩:=r1.get' ea;obtain⟨db,e2,rb⟩:=r2.get' eb;have ed:d=.tup [da,db]:=by
   unfold a1I at e;rw[Zd,List.getElem?_zip_eq_some.mpr (⟨e1,e2⟩:ds[i]? =some (da,db).1/\es[i]? =some (da,db).2)]at e;cases e;rfl
  subst ed;have gp:G p=none:=by
   cases q:G p with
   |none=>rfl
   |some o=>rw[l p o q]at hp;cases hp
  exact .inr ⟨p,_,nt_tup,hp,rfl,a2V x0_ (repL_cons (Rep.mono (Le.upd gp) _ ra) (repL_cons (Rep.mono (Le.upd gp) _ rb) repL_nil))⟩
theorem a7Q(hg:Gl X "zip")(hm:X.mg "zip"=none)(ha:EDs X B [a,b] ms)(hs:starEach [a,b] X.env=[(false,eval a X.env),(false,eval b X.env)]:=by rfl)(hs2:starEach [b] X.env=[(false,eval b X.env)]:=by rfl):
  EI X B (.Tuple elts kk tp) (.Call (.Name "zip" p) [a,b] [] pos) (a3c ms):=by
 refine a7x (b7E hg hm ha hs hs2) ?_
 rintro σ H R ⟨G,env,ds,env',rl,e,k⟩;obtain⟨⟨ds',env1⟩,e1,e2⟩:=q4_ e;dsimp only at e2;split at e2
 ·rename_i d1 d2
  obtain⟨xs,e3,e4⟩:=q4_ e2;obtain⟨ys,e5,e6⟩:=x2_ e4;cases e6;refine⟨G,env,_,_,rl,e1,fun vs G1 H1 ev r=>?_⟩
  obtain⟨v,w,rfl,r1,r2⟩:=a3x r;obtain⟨c1,l1,us,rfl,q1,t1⟩:=b1f r1 e3;obtain⟨c2,l2,ws,rfl,q2,t2⟩:=b1f r2 e5;exact⟨c1,c2,l1,l2,us,ws,rfl,ev.rel.sub.sqA q1,ev.rel.sub.sqA q2,k _ G1 H1 ev (b7F q1 q2 t1 t2)⟩
 ·cases e2
end
section
variable{fin:Bool}{Q:Bool->Shared->Prop}
end
def keys(ds:List D):Option (OI):=ds.mapM fun d=>match d with
 |.tup es=>(ints? es).bind fun ns=>if ns.isEmpty then none else some ns
 |_=>none
theorem b7G(I:Inv X pins σ H s):sysModules<s.heap.objs.size:=by
 have h:mainGlobals<s.heap.objs.size:=(I.mod.glob.keeps I.bk).lt
 exact Vq (by decide) h
section
variable{fn:Fn}{f:Addr}
structure Def(P:Program)(w:World)(K:Qz)(mg:OU)(base:Heap)(x:Str)(k n:Nat)(fn:Fn):Prop where
 ex:∃(f:Addr) (fd:FuncData) (ps:List Str),FnOk P w K mg base CX0 k f fd ps (SpF K n fn)/\ps.length=n/\mg x=some (.ref f)/\PySem.W.keepIn K (.ref f)=true/\a0x K fd ps []
theorem v7_(D:Def X.prog X.w X.K X.mg X.base x k n fn)(hr:Room k X.A)(hg:Gl X x)(ha:EAr X B (e::es) as)(hdb:(x==("__debug__":Str))=false:=by decide)
  (he:starEach (e::es) X.env=(false,eval e X.env)::starEach es X.env:=by rfl)(hpl:(backTo pos (starEach es X.env)).any (·.1)=false:=by rfl):
  ED X B (.Call (.Name x p) (e::es) [] pos) (mCD n fn as):=by
 obtain⟨f,fd,ps,F,rfl,hm,hk,hb⟩:=D.ex;exact b6F F hr hg hm hk hb ha hdb he hpl
theorem a7R(D:Def X.prog X.w X.K X.mg X.base x k n fn)(hr:Room k X.A)(hg:Gl X x)(ha:EAr X B (e::es) as)(hdb:(x==("__debug__":Str))=false:=by decide)
  (he:starEach (e::es) X.env=(false,eval e X.env)::starEach es X.env:=by rfl)(hpl:(backTo pos (starEach es X.env)).any (·.1)=false:=by rfl):
  EL X B (.Call (.Name x p) (e::es) [] pos) (a2c n fn as):=by
 obtain⟨f,fd,ps,F,rfl,hm,hk,hb⟩:=D.ex;exact b6G F hr hg hm hk hb ha hdb he hpl
def a2B:Option NameKind->Option NameKind->Bool:=fun a b=>decide (a=b)
def b1g(outN N':List Str)(outNames:List (Str×NameKind))(cells:List (Str×Addr))(scope:Scope)(keep:List Bool)(more:Nat):Bool:=
 (decide (scope.kind=.function)&&(scope.names.all (fun y=>a2B (scope.names.lookup y.1) (some y.2))&&(scope.names.all (fun y=>!a2B (some y.2) (some .free)||(cells.lookup y.1).isSome)&&(decide (keep.length=outN.length)&&(decide (N'.length=outN.length+more)&&
  (List.range keep.length).all fun i=>!(keep.getD i false)||match N'[i]?,outN[i]? with
   |some x,some y=>decide (x=y)&&(!a2B (scope.names.lookup x) (some .local)&&(!a2B (scope.names.lookup x) (some .cell)&&(!a2B (scope.names.lookup x) (some .free)||(a2B (outNames.lookup x) (some .cell)||a2B (outNames.lookup x) (some .free)))))
   |_,_=>false)))))
theorem b7H{N':List Str}{keep:List Bool}(c:closureFor scope X.env=pure (u0_ X.env.cells scope.names []))(h:b1g X.N N' X.env.scope.names X.env.cells scope keep more=true):CompOk X N' scope keep more:=by
 unfold b1g at h;simp only[Qp,Zi,Qw,a2B]at h;obtain⟨h1,h2,h3,h4,h5,h6⟩:=h;have gt:∀(i:Nat) (x:Str),keep[i]? =some true->N'[i]? =some x->∃y,X.N[i]? =some y/\x=y/\ ¬ (scope.names.lookup x=some .local)/\ ¬ (scope.names.lookup x=some .cell)/\(scope.names.lookup x=some .free->X.env.scope.names.lookup x=some .cell∨X.env.scope.names.lookup x=some .free):=fun i x e1 e2=>by
  have hi:i<keep.length:=(Qy.mp e1).1
  have q:=h6 i (Zl.mpr hi)
  have e3:keep.getD i false=true:=by simp[e1]
  rw[e3,e2]at q;cases e4:X.N[i]? with
  |none=>rw[e4]at q;simp at q
  |some y=>
   rw[e4]at q;simp only[Uk,Bool.false_or,Qp,Zi,Tc,decide_eq_false_iff_not,To]at q;obtain⟨q1,q2,q3,q4⟩:=q;exact⟨y,rfl,q1,q2,q3,fun z=>q4.elim (fun n=>absurd z n) id⟩
 refine⟨h1,h2,c,fun y hy hf=>?_,h4,h5,fun i x e1 e2=>?_,fun i x e1 e2 e3=>?_⟩
 ·have q:=h3 y hy
  rw[hf]at q
  simpa using q
 ·obtain⟨y,g1,g2,g3,g4,_⟩:=gt i x e1 e2
  exact⟨by rw[g1,g2],g3,g4⟩
 ·have hi:i<keep.length:=(Qy.mp e1).1
  have hN:i<N'.length:=by omega
  obtain⟨y,g1,g2,g3,g4,g5⟩:=gt i _ e1 (Zz hN);rw[e2]at g1;cases g1;rw[g2]at g5;exact g5 e3
end
theorem b1h{i:Int}(hg:Gl X x)(hm:∃t,X.mg x=some (.int i t))(hd:(x==("__debug__":Str))=false:=by decide):ED X B (.Name x pos) (mC (.int i)):=by
 obtain⟨t,hm⟩:=hm;exact b6h hg hm hd
def Kp(i:Nat)(m:Mo D):Prop:=∀env d env' w ds,m env=some (d,env')->env'[i]? =some w->w.mut=some ds->∃w0 ds0,env[i]? =some w0/\w0.mut=some ds0
theorem a7S:Kp i (mC d):=fun env d' env' w ds e h1 h2=>by cases e;exact⟨w,ds,h1,h2⟩
theorem b7I(h:Kp i m):Kp i (j8_ m):=fun env d' env' w ds e h1 h2=>by
 obtain⟨⟨d,env1⟩,e1,e2⟩:=q4_ e;dsimp only at e2;split at e2
 ·cases e2;exact h env _ _ w ds e1 h1 h2
 ·cases e2
theorem b7J:bootBuiltins "int"=some (.type "int"):=by decide+kernel
theorem b7K:bootBuiltins "bool"=some (.type "bool"):=by decide+kernel
theorem b7L:bootBuiltins "tuple"=some (.type "tuple"):=by decide+kernel
theorem b1i:bootBuiltins "list"=some (.type "list"):=by decide+kernel
theorem b7M:bootBuiltins "all"=some (.builtin "all"):=by decide+kernel
theorem b7N:bootBuiltins "max"=some (.builtin "max"):=by decide+kernel
theorem b7O:bootBuiltins "min"=some (.builtin "min"):=by decide+kernel
theorem a5Q{K:Qz}{G:Hp}:∀ns:List Int,z9_ K G (ns.map V.int) (ns.map D.int)
 |[]=>repL_nil
 |n::ns=>repL_cons (by simp only[Rep]) (a5Q ns)
def a4v:Expr->Bool
 |.Starred _ _=>true
 |_=>false
theorem a5R{env:Env}(h:a4v e=false):starEach (e::es) env=(false,eval e env)::starEach es env:=by
 cases e<;>first|rfl|cases h
theorem se1{env:Env}(h:a4v a=false):starEach [a] env=[(false,eval a env)]:=by rw[a5R h];rfl
theorem se2{b:Expr}{env:Env}(h:a4v a=false)(h2:a4v b=false):starEach [a,b] env=[(false,eval a env),(false,eval b env)]:=by rw[a5R h,se1 h2]
theorem b1j{pos:Pos}{env:Env}:∀{es:List Expr},es.all (fun e=>!a4v e)=true->(backTo pos (starEach es env)).any (·.1)=false
 |[],_=>rfl
 |e::es,h=>by
  rw[Jy,Qp,Tc]at h;rw[a5R h.1];show(false||(backTo pos (starEach es env)).any (·.1))=false
  rw[b1j h.2];rfl
theorem w4_{m n:Mo Fl}{e e1:Env'}(h:m e=some (.nx,e1)):q1_ m n e=n e1:=by unfold q1_;rw[h];rfl
theorem a1z{m n:Mo Fl}{e e1:Env'}(h:m e=some (.ret d,e1)):q1_ m n e=some (.ret d,e1):=by unfold q1_;rw[h];rfl
theorem a1m{t:Mo Bool}{m n:Mo Fl}{e e1:Env'}(h:t e=some (true,e1)):v8_ t m n e=m e1:=by unfold v8_;rw[h];rfl
theorem a1b{t:Mo Bool}{m n:Mo Fl}{e e1:Env'}(h:t e=some (false,e1)):v8_ t m n e=n e1:=by unfold v8_;rw[h];rfl
theorem b7P(neg:Bool)(i j:Int):dEq neg (.int i) (.int j)=some (.bl (if neg then !(i==j)else(i==j))):=rfl
theorem a7T{g:OZ}{m:Mo D}{P:Env'->Prop}{f:D->D}:∀{ds:List D}{env:Env'},(∀d∈ds,∀e,P e->∃e1 e2,g d e=some e1/\m e1=some (f d,e2)/\P e2)->P env->
  ∃env',j7_ g y8_ m ds env=some (ds.map f,env')/\P env'
 |[],env,_,p=>⟨env,rfl,p⟩
 |d::ds,env,h,p=>by
  obtain⟨e1,e2,h1,h2,h3⟩:=h d (by simp) env p
  obtain⟨e3,h4,h5⟩:=a7T (ds:=ds) (fun x hx=>h x (by simp[hx])) h3
  refine⟨e3,?_,h5⟩;unfold j7_;rw[h1];simp only[Qk,y8_,Yw];rw[h2];simp only[Qk];rw[h4];rfl
theorem a5S{g:OZ}{b:Mo Fl}{P:Env'->Prop}:∀{ds:List D}{env:Env'},(∀d∈ds,∀e,P e->∃e1 e2,g d e=some e1/\b e1=some (.nx,e2)/\P e2)->P env->∃env',loop g b ds env=some (.nx,env')/\P env'
 |[],env,_,p=>⟨env,rfl,p⟩
 |d::ds,env,h,p=>by
  obtain⟨e1,e2,h1,h2,h3⟩:=h d (by simp) env p
  obtain⟨e3,h4,h5⟩:=a5S (ds:=ds) (fun x hx=>h x (by simp[hx])) h3
  refine⟨e3,?_,h5⟩;unfold loop;rw[h1];simp only[Qk];rw[h2];exact h4
theorem a2C{α:Type}(f:α->Bool):∀l:List α,a0u (l.map fun x=>D.bl (f x))=some (l.all f)
 |[]=>rfl
 |x::l=>by simp[a0u,a2C f l]
theorem w2_{N:Nat}{env:List W}(h:mb (ws++List.replicate (N-ws.length) .nil)=some (.ret d,env)):fnM N mb ws=some (.d d,a0y ws env):=by unfold fnM;rw[h]
theorem b1k{N:Nat}{env:List W}{d:List D}(h:mb (ws++List.replicate (N-ws.length) .nil)=some (.retL d,env)):fnM N mb ws=some (.l d,a0y ws env):=by unfold fnM;rw[h]
def stop(b:Bool)(d:D):Fl:=if b then .nx else .ret d
theorem b1l{g:OZ}{b:Mo Fl}{P:Env'->Prop}{ok:D->Bool}{r:D}:∀{ds:List D}{env:Env'},(∀d∈ds,∀e,P e->∃e1 e2,g d e=some e1/\b e1=some (stop (ok d) r,e2)/\P e2)->P env->∃env',loop g b ds env=some (stop (ds.all ok) r,env')/\P env'
 |[],env,_,p=>⟨env,rfl,p⟩
 |d::ds,env,h,p=>by
  obtain⟨e1,e2,h1,h2,h3⟩:=h d (by simp) env p
  by_cases hk:ok d=true
  ·obtain⟨e3,h4,h5⟩:=b1l (ds:=ds) (fun x hx=>h x (by simp[hx])) h3
   refine⟨e3,?_,h5⟩;unfold loop;rw[h1];simp only[Qk];rw[h2,hk,Jy,hk,Yy];exact h4
  ·have hk':ok d=false:=by simpa using hk
   refine⟨e2,?_,h3⟩;unfold loop;rw[h1];simp only[Qk];rw[h2,hk',Jy,hk',Jf];rfl
theorem b7Q{es:List D}{f:D->Bool}:a0u (es.map fun d=>.bl (f d))=some (es.all f):=a2C f es
theorem a3d{keep:List Bool}{g:OZ}{t:Mo Bool}{e1 e2 e3:Env'}{r:List D}(h:mi env=some (ds,e1))(hl:ds.length≤100000)(hc:j7_ g t m ds (u2_ keep more e1)=some (r,e2))(ho:g3_ keep e1 e2=some e3):
  y1_ mi keep more g t m env=some (r,e3):=by
 unfold y1_;rw[h];show(if ds.length≤100000 then(j7_ g t m ds (u2_ keep more e1)).bind _ else none)=_
 rw[Qh hl,hc];show(g3_ keep e1 e2).map _=_;rw[ho];rfl
theorem a5T{e1:Env'}{j:Int}(h:ms env=some ([.int j],e1))(h1: -1000000<j)(h2:j<1000000):w3_ ms env=some (a0M 0 j.toNat,e1):=by
 unfold w3_;rw[h];exact Qh ⟨h1,h2⟩
theorem k2_{f:List D->Option D}{e1:Env'}(h:ms env=some (ds,e1))(hf:f ds=some d):mCB f ms env=some (d,e1):=by unfold mCB;rw[h];show(f ds).map _=_;rw[hf];rfl
theorem q3_{e1 e2:Env'}(h:m env=some (d,e1))(h2:ms e1=some (ds,e2)):z1_ m ms env=some (d::ds,e2):=by unfold z1_;rw[h];show(ms e1).map _=_;rw[h2];rfl
theorem k9_{m:Mo (List D)}{e1:Env'}(h:m env=some (ds,e1)):mF m env=some (.lst ds,e1):=by unfold mF;rw[h];rfl
theorem a1A{e1:Env'}(h:m env=some (d,e1))(hd:d.items=some ds):y4_ m env=some (ds,e1):=by unfold y4_;rw[h];show d.items.map _=_;rw[hd];rfl
theorem q7_{f:D->D->Option D}{mb:Mo D}{e1 e2:Env'}{a b c:D}(h1:ma env=some (a,e1))(h2:mb e1=some (b,e2))(hf:f a b=some c):z5_ f ma mb env=some (c,e2):=by
 unfold z5_;rw[h1];show(mb e1).bind _=_;rw[h2];show(f a b).map _=_;rw[hf];rfl
theorem g5_{e1:Env'}(h:m env=some (d,e1)):q9_ m env=some (.ret d,e1):=by unfold q9_;rw[h];rfl
theorem b7R{m:Mo (List D)}{e1:Env'}{d:List D}(h:m env=some (d,e1)):a2Y m env=some (.retL d,e1):=by unfold a2Y;rw[h];rfl
theorem a0C{e1:Env'}(h:m env=some (d,e1)):v6_ i m env=some (.nx,e1.set i (.dat d)):=by unfold v6_;rw[h];rfl
theorem b1m{m:Mo (List D)}{e1:Env'}{d:List D}(h:m env=some (d,e1)):u8_ i m env=some (.nx,e1.set i (.own d)):=by unfold u8_;rw[h];rfl
theorem j2_{e1:Env'}{b:Bool}(h:m env=some (.bl b,e1)):mT m env=some (b,e1):=by unfold mT;rw[h];rfl
theorem a0d{m:Mo Bool}{e1:Env'}{b:Bool}(h:m env=some (b,e1)):y5_ m env=some (!b,e1):=by unfold y5_;rw[h];rfl
theorem a1c{g:OZ}{b:Mo Fl}{e1:Env'}(h:mi env=some (ds,e1)):w7_ mi g b env=loop g b ds e1:=by unfold w7_;rw[h];rfl
theorem a2e{f:Fn}{e1:Env'}(h:as env=some (av,e1))(hn:av.length=n)(hs:slots av=[])(hf:f (av.map (a0c (.l [])))=some (r,ws')):a1y n f as env=some (r,e1):=by
 unfold a1y;rw[h];show(if av.length=n then _ else none)=_
 rw[Qh hn];simp only[hs];rw[hf];rfl
theorem a4w{f:Fn}{e1:Env'}{w:W}{c c':List D}(h:as env=some (av,e1))(hn:av.length=n)(hs:slots av=[i])(hw:e1[i]? =some w)(hm:w.mutL=some c)(hf:f (av.map (a0c (.l c)))=some (r,ws'))(hp:a2b ws'=some (.l c')):
  a1y n f as env=some (r,e1.set i (w.put c')):=by
 unfold a1y;rw[h];show(if av.length=n then _ else none)=_
 rw[Qh hn];simp only[hs];rw[hw];simp only[Qk];rw[W.mutL_of hm];simp only[Qk];rw[hf];simp only[Qk];rw[hp,W.put_eq hm];rfl
theorem a1B{f:Fn}{e1:Env'}(h:a1y n f as env=some (.d d,e1)):mCD n f as env=some (d,e1):=by unfold mCD;rw[h];rfl
theorem b1n{f:Fn}{e1:Env'}{d:List D}(h:a1y n f as env=some (.l d,e1)):a2c n f as env=some (d,e1):=by unfold a2c;rw[h];rfl
def a2f(m:Mo D):Mo Fl:=fun env=>(m env).map fun p=>(.nx,p.2)
theorem a3e(h:ED X B e ma)(hsw:swapsWith e none pos.line X.env=pure false:=by rfl):ES X B (.Expr e pos) (a2f ma):=by
 refine ps_imp (a5h (te:=TD X.K B ma) h hsw) ?_
 rintro D σ H ⟨G,env,fl,env',rl,e,k⟩;obtain⟨⟨d,env1⟩,e1,e2⟩:=x2_ e;cases e2;exact .bind rl e1 fun v G' H' ev r=>k σ G' H' ev
theorem a5U{e1:Env'}(h:m env=some (d,e1)):a2f m env=some (.nx,e1):=by unfold a2f;rw[h];rfl
theorem b7S{N:Nat}{env:List W}(h:mb (ws++List.replicate (N-ws.length) .nil)=some (.nx,env)):fnM N mb ws=some (.d .non,a0y ws env):=by unfold fnM;rw[h]
section
variable{b c:Expr}{mb mc:Mo D}
theorem a4x{t:Value}{U:String}{b c:Bool}(h1:PySem.W.kitOne K t (.type T)=some b)(h2:PySem.W.kitOne K t (.type U)=some c):PySem.W.kitAny K t [.type T,.type U]=some (b||c):=by
 unfold PySem.W.kitAny;rw[h1];cases b with
 |true=>rfl
 |false=>
  dsimp only;unfold PySem.W.kitAny;rw[h2];cases c<;>rfl
theorem b7T{tp:Addr}{U:String}{x:V}{u:Value}(I:Inv X pins σ H s)(l:Le G H)(rx:v4_ x u)(rp:Rep X.K G x d)
  (ht:IsTup s.heap tp [Value.type T,.type U].toArray)(kt:j1_ X.K T)(ku:j1_ X.K U)(h:∀tk,Q (.bool (a0A (tyD d) T||a0A (tyD d) U)) {s with toks:=tk}):wpAny (model X.prog X.w) A (call (.builtin "isinstance") [u,.ref tp]) Q E s:=by
 obtain⟨⟨oc,od,odt,os⟩,t1,t2,n,t3⟩:=ht;dsimp only at t2 t3;subst t2 t3;have e:(∀o,d≠.obj o)->_:=fun hd=>a4x (a7J kt d hd) (a7J ku d hd)
 cases d with
 |non=>simp only[Rep]at rp;subst rp;cases (show u=Value.none from rx);exact Yx PySem.W.kitx_none I.kIn True.intro t1 (e nofun) (fun z=>nomatch z) h
 |bl b=>simp only[Rep]at rp;subst rp;cases (show u=Value.bool b from rx);exact Yx PySem.W.kitx_bool I.kIn True.intro t1 (e nofun) (fun z=>nomatch z) h
 |int i=>simp only[Rep]at rp;subst rp;obtain⟨t,q⟩:=(show∃t,u=Value.int i t from rx);cases q;exact Yx PySem.W.kitx_int I.kIn True.intro t1 (e nofun) (fun z=>nomatch z) h
 |str z=>simp only[Rep]at rp;obtain⟨rp,_⟩:=rp;subst rp;obtain⟨t,q⟩:=(show∃t,u=Value.str z t from rx);cases q;exact Yx PySem.W.kitx_str I.kIn True.intro t1 (e nofun) (fun z=>nomatch z) h
 |tup ds=>
  simp only[Rep]at rp;obtain⟨a,xs,rfl,q,_⟩:=rp;cases rx;obtain⟨its,_,⟨o,h1,h2,_⟩,_⟩:=I.tuple (l.sqT q);exact Yx Tq I.kIn ⟨o,h1,h2⟩ t1 (e nofun) (fun z=>nomatch z) h
 |lst ds=>
  simp only[Rep]at rp;obtain⟨a,xs,rfl,q,_⟩:=rp;cases rx;obtain⟨its,_,⟨o,n,h1,h2,_⟩,_⟩:=I.list (l.sqL q);exact Yx Xz I.kIn ⟨o,h1,h2⟩ t1 (e nofun) (fun z=>nomatch z) h
 |emp=>
  simp only[Rep]at rp;obtain⟨a,kvs,rfl,q⟩:=rp;cases rx;obtain⟨_,_,vs,_,dd⟩:=(show x5_ X.prog X.w H s.heap a (.dK _)from I.hok a _ (l _ _ q))
  obtain⟨o,h1,h2⟩:∃o,s.heap.get? a=some o/\o.cls=.type "dict":=by
   obtain⟨o,es,ep,g1,g2,_⟩:=dd;exact⟨o,g1,g2.1⟩
  exact Yx Yb I.kIn ⟨o,h1,h2⟩ t1 (e nofun) (fun z=>nomatch z) h
 |dct ks vs=>
  simp only[Rep]at rp;obtain⟨a,kvs,rfl,q,_⟩:=rp;cases rx;obtain⟨_,_,_,_,o,_,_,h1,h2,_⟩:=(show x5_ X.prog X.w H s.heap a (.dT _ _)from I.hok a _ (l _ _ q))
  exact Yx Yb I.kIn ⟨o,h1,h2.1⟩ t1 (e nofun) (fun z=>nomatch z) h
 |dcx ks vs=>
  simp only[Rep]at rp;obtain⟨a,es,ep,xs,rfl,q,_⟩:=rp;cases rx;obtain⟨_,_,o,h1,h2,_⟩:=(show x5_ X.prog X.w H s.heap a (.dX _ _)from I.hok a _ (l _ _ q))
  exact Yx Yb I.kIn ⟨o,h1,h2.1⟩ t1 (e nofun) (fun z=>nomatch z) h
 |obj o=>
  have h0:∀{T:String},j1_ X.K T->a0A "object" T=false:=fun{T} kt=>by
   unfold j1_ at kt;simp only[Qc,Zy,Jj]at kt
   rcases kt with rfl|rfl|rfl|rfl|rfl<;>rfl
  have hf:∀{T:String},j1_ X.K T->PySem.W.kitOne X.K (.type "function") (.type T)=some false:=fun{T} kt=>by
   unfold j1_ at kt;simp only[Qc,Zy,Jj]at kt
   rcases kt with rfl|rfl|rfl|rfl|rfl<;>rfl
  have h':∀tk,Q (.bool false) {s with toks:=tk}:=fun tk=>by have:=h tk;rwa [show a0A (tyD (.obj o)) T=false from h0 kt,show a0A (tyD (.obj o)) U=false from h0 ku]at this
  simp only[Rep]at rp;cases o with
  |exc n=>
   obtain⟨a,C,HP,rfl,_,h3,h4,h5⟩:=rp;cases rx;exact Yx h4 I.kIn (I.hok a _ (l _ _ h3)).1 t1 (a4x (h5 T kt) (h5 U ku)) (fun z=>nomatch z) h'
  |fn n=>
   obtain⟨f,rfl,_,h4⟩:=rp;cases rx;exact Yx h4 I.kIn True.intro t1 (a4x (hf kt) (hf ku)) (fun z=>nomatch z) h'
  |dk kvs=>
   obtain⟨a,rfl,q⟩:=rp;cases rx;obtain⟨_,_,vs,_,dd⟩:=(show x5_ X.prog X.w H s.heap a (.dK _)from I.hok a _ (l _ _ q))
   obtain⟨o,h1,h2⟩:∃o,s.heap.get? a=some o/\o.cls=.type "dict":=by
    obtain⟨o,es,ep,g1,g2,_⟩:=dd;exact⟨o,g1,g2.1⟩
   have hd:∀{T:String},j1_ X.K T->PySem.W.kitOne X.K (.type "dict") (.type T)=some false:=fun{T} kt=>by
    unfold j1_ at kt;simp only[Qc,Zy,Jj]at kt
    rcases kt with rfl|rfl|rfl|rfl|rfl<;>rfl
   exact Yx Yb I.kIn ⟨o,h1,h2⟩ t1 (a4x (hd kt) (hd ku)) (fun z=>nomatch z) h'
  |dt kvs=>
   obtain⟨a,ps,rfl,q,_⟩:=rp;cases rx;obtain⟨_,_,vs,_,dd⟩:=(show x5_ X.prog X.w H s.heap a (.dK _)from I.hok a _ (l _ _ q))
   obtain⟨o,h1,h2⟩:∃o,s.heap.get? a=some o/\o.cls=.type "dict":=by
    obtain⟨o,es,ep,g1,g2,_⟩:=dd;exact⟨o,g1,g2.1⟩
   have hd:∀{T:String},j1_ X.K T->PySem.W.kitOne X.K (.type "dict") (.type T)=some false:=fun{T} kt=>by
    unfold j1_ at kt;simp only[Qc,Zy,Jj]at kt
    rcases kt with rfl|rfl|rfl|rfl|rfl<;>rfl
   exact Yx Yb I.kIn ⟨o,h1,h2⟩ t1 (a4x (hd kt) (hd ku)) (fun z=>nomatch z) h'
def b1o(T U:String)(m:Mo D):Mo D:=fun env=>(m env).map fun p=>(.bl (a0A (tyD p.1) T||a0A (tyD p.1) U),p.2)
theorem b1p{U:String}{y z:Str}{p3 p4:Pos}{x1:Nat}(kt:j1_ X.K T)(ku:j1_ X.K U)(ha:ED X B a ma)(hg:Gl X "isinstance")(hm:X.mg "isinstance"=none)(hgT:Gl X y)(hmT:X.mg y=none)(hvT:bootBuiltins y=some (.type T))(hgU:Gl X z)(hmU:X.mg z=none)(hvU:bootBuiltins z=some (.type U))
  (hnT:y≠"__name__":=by decide)(hdT:(y==("__debug__":Str))=false:=by decide)(hnU:z≠"__name__":=by decide)(hdU:(z==("__debug__":Str))=false:=by decide)
  (he:starEach [a,.Tuple [.Name y p2,.Name z p3] x1 p4] X.env=[(false,eval a X.env),(false,eval (.Tuple [.Name y p2,.Name z p3] x1 p4) X.env)]:=by rfl):ED X B (.Call (.Name "isinstance" p) [a,.Tuple [.Name y p2,.Name z p3] x1 p4] [] pos) (b1o T U ma):=by
 have hT:PE X (.Name y p2) (tC (.ty T)):=a4h hgT hmT hvT rfl hnT hdT
 have hU:PE X (.Name z p3) (tC (.ty U)):=a4h hgU hmU hvU rfl hnU hdU
 have htup:PE X (.Tuple [.Name y p2,.Name z p3] x1 p4) (b0m (a7b (tC (.ty T)) (a7b (tC (.ty U)) b0l))):=b0n (a0e hT (a0e hU a1u))
 have hc:g2_ X (.builtin "isinstance") (fun xs H Q=>∃x q G d,xs=[x,.ref q]/\H q=some (.tup [.ty T,.ty U])/\Le G H/\Rep X.K G x d/\Q (.bl (a0A (tyD d) T||a0A (tyD d) U)) H):=by
  intro pins s σ H xs us Q I r h;obtain⟨x,q,G,d,rfl,hq,l,rp,qq⟩:=h;obtain⟨u,w',rfl,r1,r2⟩:=a1U r;cases r2;obtain⟨_,its,v,ht⟩:=(show x5_ X.prog X.w H s.heap q (.tup [.ty T,.ty U])from I.hok q _ hq)
  obtain⟨v1,v2,rfl,e1,e2⟩:=a1U v;cases e1;cases e2;exact b7T I l r1 rp ht.tup kt ku fun tk=>⟨.bl _,H,I.tok _,rfl,qq⟩
 refine pe_imp (a3v (pos:=pos) (p:=p) hc hg hm (by decide+kernel) (a0e ha (a0e htup a1u) he) (he:=he)) ?_
 rintro σ H Q ⟨G,env,d,env',rl,e,k⟩;obtain⟨⟨d1,env1⟩,e1,e2⟩:=x2_ e;cases e2;refine .bind rl e1 fun v G1 H1 ev r=>⟨(by decide:2≤sizeLine),fun q hq=>?_⟩
 have al:=ev.rel.allocM (o:=.tup [.ty T,.ty U]) hq
 exact⟨v,q,G1,d1,rfl,x0_,al.rel.sub,r,k _ G1 _ (ev.trans al) (by simp only[Rep])⟩
end
def b1q:List D->Option Bool
 |[]=>some false
 |.bl b::r=>(b1q r).map fun k=>b||k
 |_::_=>none
def dAny:List D->Option D
 |[.lst ds]=>(b1q ds).map fun k=>.bl k
 |_=>none
def a3f:List D->Option D
 |[.lst ds]=>(ints? ds).map fun ns=>.int ns.sum
 |[.tup ds]=>(ints? ds).map fun ns=>.int ns.sum
 |_=>none
theorem a5V:∀{us:List Value}{ns:List Int},IntsAre us ns->∀(i:Nat) (v:Value),us[i]? =some v->∃t,v=.int (ns.getD i 0) t
 |_,_,.nil,i,v,h=>by simp at h
 |_,_,.cons n t r,i,v,h=>by
  cases i with
  |zero=>simp at h;exact⟨t,by simp[←h]⟩
  |succ i=>exact a5V r i v (by simpa using h)
def b1r(X:Cx):List V->Hp->VK->Prop:=fun xs H Q=>∃(p:Addr) (ns:List Int),xs=[.ref p]/\(SqL X.K H p (ns.map V.int)∨SqT X.K H p (ns.map V.int))/\Q (.int ns.sum) H
theorem a5W(hc:X.calm=true):g2_ X (.builtin "sum") (b1r X):=by
 intro pins s σ H xs us Q I r h;obtain⟨p,ns,rfl,hq,q⟩:=h;obtain⟨u,rfl,rx⟩:=a1T r;cases rx;have hh:X.A.handled=none:=I.ok.hd hc
 rcases hq with hq|hq
 ·obtain⟨its,r',pl,hz⟩:=I.list hq
  have hi:IntsAre its ns:=a5m r'
  have hl:=pl.isList
  have hlt:p<s.heap.objs.size:=by obtain⟨_,e,_⟩:=hl;exact Qg e
  refine call_sum_walkG (Uw hl ?_);refine⟨s.heap.objs.size,[s.heap.objs.size,p],[s.heap.objs.size],its.toArray.size,_,_,fun i=>ns.getD i 0,rfl,Walks.list (A:=X.A.in1) hh _ p (Qi hlt) its.toArray,
   ⟨⟨_,Qu _ rfl,rfl,rfl⟩,hl.push _⟩,fun b hb=>?_,fun i v hP=>a5V hi i v (by simpa using hP),fun h' tk t' hk'=>?_⟩
  ·have hs:=Qg (Qu s.heap (o:={cls:=.type "list_iterator",data:=.fields #[.ref p,.int 0 0]}) rfl)
   rcases Qc.mp hb with rfl|hb
   ·exact hs
   ·rcases Qc.mp hb with rfl|hb
    ·exact Vq hlt hs
    ·cases hb
  ·rw[Qn,hi.length,PyProof.Rows.preSum_getD,Ua (Qb _)]
   exact⟨.int ns.sum,H,I.kept (t':=tk) (LSm.kept_iter hk'),⟨t',rfl⟩,q⟩
 ·obtain⟨its,r',pl,hz⟩:=I.tuple hq
  have hi:IntsAre its ns:=a5m r'
  have hl:s.heap.IsTuple p its.toArray:=pl
  have hlt:p<s.heap.objs.size:=by obtain⟨_,e,_⟩:=hl;exact Qg e
  refine call_sum_walkG (Vl hl ?_);refine⟨s.heap.objs.size,[s.heap.objs.size,p],[s.heap.objs.size],its.toArray.size,_,_,fun i=>ns.getD i 0,rfl,Walks.tuple (A:=X.A.in1) hh _ p (Qi hlt) its.toArray,
   ⟨⟨_,Qu _ rfl,rfl,rfl⟩,hl.push _⟩,fun b hb=>?_,fun i v hP=>a5V hi i v (by simpa using hP),fun h' tk t' hk'=>?_⟩
  ·have hs:=Qg (Qu s.heap (o:={cls:=.type "tuple_iterator",data:=.fields #[.ref p,.int 0 0]}) rfl)
   rcases Qc.mp hb with rfl|hb
   ·exact hs
   ·rcases Qc.mp hb with rfl|hb
    ·exact Vq hlt hs
    ·cases hb
  ·rw[Qn,hi.length,PyProof.Rows.preSum_getD,Ua (Qb _)]
   exact⟨.int ns.sum,H,I.kept (t':=tk) (LSm.kept_iter hk'),⟨t',rfl⟩,q⟩
theorem b7U:a1h X B (b1r X) a3f:=by
 intro G σ env H xs ds c Q rl r e k;unfold a3f at e;split at e
 ·rename_i ds
  obtain⟨x,rfl,q⟩:=a0L r;obtain⟨ns,e1,e2⟩:=x2_ e;subst e2;simp only[Rep]at q;obtain⟨a,ys,rfl,h1,h2⟩:=q;have:=a2A h2 e1;subst this;exact⟨a,ns,rfl,.inl (rl.sub.sqL h1),k _ G H (.refl rl) (by simp only[Rep])⟩
 ·rename_i ds
  obtain⟨x,rfl,q⟩:=a0L r;obtain⟨ns,e1,e2⟩:=x2_ e;subst e2;simp only[Rep]at q;obtain⟨a,ys,rfl,h1,h2⟩:=q;have:=a2A h2 e1;subst this;exact⟨a,ns,rfl,.inr (rl.sub.sqT h1),k _ G H (.refl rl) (by simp only[Rep])⟩
 ·cases e
theorem b7V:bootBuiltins "sum"=some (.builtin "sum"):=by decide+kernel
theorem b7W{f:Addr}:FnOk P w K mg base CX0 k f fd ps (SpF K n fun _=>none):=
 ⟨fun _ _ _ _ h=>(by obtain⟨_,_,_,_,_,_,_,e,_⟩:=h;cases e),fun _ _ _ _ _ _ _ _ _ _ _ _ _ h=>(by obtain⟨_,_,_,_,_,_,_,e,_⟩:=h;cases e)⟩
theorem b7X{p:Addr}{ns:List Int}(I:Inv X pins σ H s)(hh:X.A.in1.handled=none)(hq:SqL X.K H p (ns.map V.int)∨SqT X.K H p (ns.map V.int))
  (h:∀(o:Obj) (P:Nat->Value->Prop) (T:Nat->Heap->Prop),Walks X.prog X.w X.A.in1 s.heap.objs.size [s.heap.objs.size,p] [s.heap.objs.size] ns.length P T->T 0 (s.heap.push o)->(∀b∈[s.heap.objs.size,p],b<(s.heap.push o).objs.size)->
   (∀i v,P i v->i<ns.length/\∃t,v=.int (ns.getD i 0) t)->Q (.ref s.heap.objs.size) {s with heap:=s.heap.push o}):wpAny (model X.prog X.w) A (pyIter (.ref p)) Q E s:=by
 have key:∀(its:List Value),IntsAre its ns->∀i v,its.toArray[i]? =some v->i<ns.length/\∃t,v=.int (ns.getD i 0) t:=fun its hi i v hv=>by
  have hv':its[i]? =some v:=by simpa using hv
  refine⟨?_,a5V hi i v hv'⟩;have:=(Qy.mp hv').1;rw[hi.length]at this;exact this
 have low:∀(o:Obj),p<s.heap.objs.size->∀b∈[s.heap.objs.size,p],b<(s.heap.push o).objs.size:=fun o hlt b hb=>by
  have hs:s.heap.objs.size<(s.heap.push o).objs.size:=by rw[Yh];exact Nat.lt_succ_self _
  rcases Qc.mp hb with rfl|hb
  ·exact hs
  ·rcases Qc.mp hb with rfl|hb
   ·exact Vq hlt hs
   ·cases hb
 rcases hq with hq|hq
 ·obtain⟨its,r',pl,hz⟩:=I.list hq
  have hi:IntsAre its ns:=a5m r'
  have hl:=pl.isList
  have hlt:p<s.heap.objs.size:=by obtain⟨_,e,_⟩:=hl;exact Qg e
  have W:=Walks.list (prog:=X.prog) (w:=X.w) (A:=X.A.in1) hh s.heap.objs.size p (Qi hlt) its.toArray
  have es:its.toArray.size=ns.length:=by rw[Qn,hi.length]
  rw[es]at W;exact Uw hl (h _ _ _ W ⟨⟨_,Qu _ rfl,rfl,rfl⟩,hl.push _⟩ (low _ hlt) (key its hi))
 ·obtain⟨its,r',pl,hz⟩:=I.tuple hq
  have hi:IntsAre its ns:=a5m r'
  have hl:s.heap.IsTuple p its.toArray:=pl
  have hlt:p<s.heap.objs.size:=by obtain⟨_,e,_⟩:=hl;exact Qg e
  have W:=Walks.tuple (prog:=X.prog) (w:=X.w) (A:=X.A.in1) hh s.heap.objs.size p (Qi hlt) its.toArray
  have es:its.toArray.size=ns.length:=by rw[Qn,hi.length]
  rw[es]at W;exact Vl hl (h _ _ _ W ⟨⟨_,Qu _ rfl,rfl,rfl⟩,hl.push _⟩ (low _ hlt) (key its hi))
def a0n(gt:Bool)(ns:List Int):Int:=ns.getD (argBest (fun i j=>if gt then decide (ns.getD i 0>ns.getD j 0)else decide (ns.getD i 0<ns.getD j 0)) (ns.length-1)) 0
def b1s(X:Cx)(gt:Bool):List V->Hp->VK->Prop:=fun xs H Q=>∃(p:Addr) (ns:List Int),xs=[.ref p]/\(SqL X.K H p (ns.map V.int)∨SqT X.K H p (ns.map V.int))/\0<ns.length/\Q (.int (a0n gt ns)) H
theorem a5X(hc:X.calm=true):g2_ X (.builtin "min") (b1s X false):=by
 intro pins s σ H xs us Q I r h;obtain⟨p,ns,rfl,hq,h0,q⟩:=h;obtain⟨u,rfl,rx⟩:=a1T r;cases rx;have hh:X.A.handled=none:=I.ok.hd hc;refine call_min_walk (b7X I hh hq fun o P T W st low key=>?_)
 refine⟨_,_,_,_,_,_,_,rfl,W,st,low,h0,CmpOf.ints_lt (fun i=>ns.getD i 0) (fun i v hv=>(key i v hv).2),fun v h' tk hP hk=>?_⟩
 obtain⟨_,t,rfl⟩:=key _ v hP;exact⟨.int _,H,I.kept (t':=tk) (LSm.kept_iter hk),⟨t,rfl⟩,q⟩
def a0o(gt:Bool):List D->Option D
 |[.lst ds]=>(ints? ds).bind fun ns=>if ns.isEmpty then none else some (.int (a0n gt ns))
 |[.tup ds]=>(ints? ds).bind fun ns=>if ns.isEmpty then none else some (.int (a0n gt ns))
 |_=>none
theorem b7Y{gt:Bool}:a1h X B (b1s X gt) (a0o gt):=by
 intro G σ env H xs ds c Q rl r e k;unfold a0o at e;split at e
 ·rename_i ds
  obtain⟨x,rfl,q⟩:=a0L r;obtain⟨ns,e1,e2⟩:=q4_ e;split at e2
  ·cases e2
  ·rename_i h0
   cases e2;simp only[Rep]at q;obtain⟨a,ys,rfl,h1,h2⟩:=q;have:=a2A h2 e1;subst this;exact⟨a,ns,rfl,.inl (rl.sub.sqL h1),by cases ns with|nil=>simp at h0|cons _ _=>simp,k _ G H (.refl rl) (by simp only[Rep])⟩
 ·rename_i ds
  obtain⟨x,rfl,q⟩:=a0L r;obtain⟨ns,e1,e2⟩:=q4_ e;split at e2
  ·cases e2
  ·rename_i h0
   cases e2;simp only[Rep]at q;obtain⟨a,ys,rfl,h1,h2⟩:=q;have:=a2A h2 e1;subst this;exact⟨a,ns,rfl,.inr (rl.sub.sqT h1),by cases ns with|nil=>simp at h0|cons _ _=>simp,k _ G H (.refl rl) (by simp only[Rep])⟩
 ·cases e
section
variable{b c:Expr}
end
section
variable{c:Expr}{t:Mo Bool}
end
section
variable{ml:Mo (List D)}
end
theorem b1t(x:HOk P w H h)(k:∀b u o,H b=some u->h.get? b=some o->h'.get? b=some o):HOk P w H h':=fun a o e=>
 (x a o e).stay (fun b u hb q=>by
  rcases hb with rfl|hb
  ·exact k _ _ _ e q
  ·exact k _ _ _ hb q) (fun _ q=>q) fun _ _ q=>q
def CXE(P:Program)(w:World):CXT:=fun outer H s E ev s'=>
 ∃(e t C:Addr) (H':Hp) (Bh:Heap),ev=.ref e/\s'.os=s.os/\AllBare s'.gens/\Heap.FlyingW Bh outer e (.ref C) (.ref t) s'.heap/\
  Un (frs outer) [] H H' s.heap s'.heap/\HOk P w H' Bh/\(∀b o,s.heap.get? b=some o->H b=none->b∉frs outer->Bh.get? b=some o)/\
  (∀b o,s.heap.get? b=some o->b∉frs outer->∃o',Bh.get? b=some o')/\E (.ref C) none H'
section
variable{H':Hp}{s':Shared}{E:XK}{e t:Addr}{Bh:Heap}
theorem a5Y(hst:X.stack=X.env::X.outer)(hfr:X.env.frame=some X.env.locals)(hex:X.ex=[])(I:Inv X pins σ H s)(os:s'.os=s.os)(bare:AllBare s'.gens)(fly:Heap.FlyingW Bh X.outer e (.ref C) (.ref t) s'.heap)
  (kept:∀b o,s.heap.get? b=some o->H b=none->b∉frs X.stack->Bh.get? b=some o)
  (thr:∀b o,s.heap.get? b=some o->b∉frs X.stack->∃o',Bh.get? b=some o')
  (slots:∀b o,s.heap.get? b=some o->H b=none->b∈X.fs->∃sl,s'.heap.get? b=some {o with slots:=sl})
  (free:∀b o,s.heap.get? b=some o->H b=none->H' b=none)(tups:∀b xs,H b=some (.tup xs)->H' b=some (.tup xs))(frzs:∀b o u,H b=some (.frz o u)->H' b=some (.frz o u))
  (tbls:∀b ps,H b=some (.tbl ps)->∃more,H' b=some (.tbl (ps++more)))(hok:HOk X.prog X.w H' Bh)(hE:E (.ref C) none H'):
  CXE X.prog X.w X.outer X.H₀ X.s₀ E (.ref e) s':=by
 have nb:∀b o,X.s₀.heap.get? b=some o->b∉X.fs->b∉frs X.stack:=fun b o q n z=>by
  rw[hst]at z;unfold frs at z;rw[Js,hfr]at z
  rcases Qc.mp z with z|z
  ·exact absurd (Qg q) (Nat.not_lt.mpr (by rw[z];exact I.ok.above))
  ·exact n z
 have nx:∀b,b∉X.ex:=fun b z=>by rw[hex]at z;cases z
 refine⟨e,t,C,H',Bh,rfl,os.trans I.os,bare,fly,⟨fun b o q n hb _=>?_,fun b o q n hb _=>?_,fun b o q n _=>?_,fun b o q _=>?_,fun b xs q=>tups b xs (I.base.tups b xs q),fun b o u q=>frzs b o u (I.base.frzs b o u q),fun b ps q=>?_⟩,hok,fun b o q n hb=>?_,fun b o q hb=>?_,hE⟩
 ·exact fly.1 b o (kept b o (I.base.keep b o q n hb (nx b)) (I.base.free b o q n (nx b)) (nb b o q hb))
 ·obtain⟨sl,q1⟩:=I.base.slot b o q n hb (nx b)
  obtain⟨sl',q2⟩:=slots b _ q1 (I.base.free b o q n (nx b)) hb;exact⟨sl',q2⟩
 ·obtain⟨o',q1⟩:=I.base.there b o q (nx b)
  exact free b o' q1 (I.base.free b o q n (nx b))
 ·obtain⟨o',q1⟩:=I.base.there b o q (nx b)
  by_cases hb:b∈X.fs
  ·obtain⟨sl,q2⟩:=slots b _ q1 (I.base.free b o q (I.ok.frf b hb) (nx b)) hb
   exact⟨_,q2⟩
  ·obtain⟨o2,q2⟩:=thr b o' q1 (nb b o q hb)
   exact⟨o2,fly.1 b o2 q2⟩
 ·obtain⟨m1,e1⟩:=I.base.tbls b ps q
  obtain⟨m2,e2⟩:=tbls b _ e1;exact⟨m1++m2,by rw[e2,Array.append_assoc]⟩
 ·exact kept b o (I.base.keep b o q n hb (nx b)) (I.base.free b o q n (nx b)) (nb b o q hb)
 ·obtain⟨o',q1⟩:=I.base.there b o q (nx b)
  exact thr b o' q1 (nb b o q hb)
structure XOk(X:Cx)(E:XK):Prop where
 pass:a5k (CXE X.prog X.w) X E
 made:∀(pins:OX) (σ:St) (H:Hp) (s:Shared) (h':Heap) (e C:Addr) (vs:List Value),Inv X pins σ H s->Heap.MadeExcOf s.heap h' e (.ref C) vs->E (.ref C) none H->X.xe (.ref e) {s with heap:=h'}
end
theorem b7Z{f:Addr}{cd:Value}{outer:List Env}{s₀:Shared}{H₀:Hp}{E:XK}:
  XOk (g7_ (CXE P w) P w K mg base N qual scope f cd A outer s₀ H₀ E) E:=by
 refine⟨fun pins σ H s ev s' I h=>?_,fun pins σ H s h' e C vs I hm hE=>?_⟩
 ·obtain⟨e,t,C,H',Bh,rfl,os,bare,fly,un,hok,kept,thr,hE⟩:=h
  refine wpAny_leaves_onW (L:=s₀.heap.objs.size) I.ok.frames rfl fly fun h2 fly2 ups=>?_
  refine a5Y (X:=g7_ (CXE P w) P w K mg base N qual scope f cd A outer s₀ H₀ E) rfl rfl rfl I os bare fly2 kept thr (fun b o q n hb=>?_) (fun b o q n=>un.free b o q n (by simp)) un.tups un.frzs un.tbls hok hE
  obtain⟨sl,q1⟩:=un.any q n (by simp)
  obtain⟨_,o1,g1,g2⟩:=I.funs.mem hb;rw[q]at g1;cases g1;obtain⟨sl2,q2⟩:=ups b _ q1 g2;exact⟨sl2,q2⟩
 ·have hst:=I.stack
  have hmem:∀{b:Addr},b∈frs (g7_ (CXE P w) P w K mg base N qual scope f cd A outer s₀ H₀ E).stack->H b=none:=fun{b} hb=>I.stkFree b hb
  refine wpAny_leaves_madeW (L:=s₀.heap.objs.size) (base:=PySem.W.hideAll s.heap (frs (g7_ (CXE P w) P w K mg base N qual scope f cd A outer s₀ H₀ E).stack)) (h:=s.heap) I.ok.frames rfl (fun b o q=>PySem.W.of_hideAll _ q)
   (PySem.W.funFrames_hide hst fun env he b hb=>Xo.mpr ⟨env,he,hb⟩) hm fun h2 t fly _ hn ups=>?_
  refine a5Y (X:=g7_ (CXE P w) P w K mg base N qual scope f cd A outer s₀ H₀ E) (s:=s) (s':={s with heap:=h2}) rfl rfl rfl I rfl I.bare fly (fun b o q _ hb=>Ja _ q hb) (fun b o q hb=>⟨o,Ja _ q hb⟩) (fun b o q n hb=>?_) (fun b o q n=>n) (fun _ _ q=>q) (fun _ _ _ q=>q) (fun b ps q=>⟨#[],by rw[q];simp⟩) ?_ hE
  ·obtain⟨_,o1,g1,g2⟩:=I.funs.mem hb
   rw[q]at g1;cases g1;obtain⟨sl2,q2⟩:=ups b _ (hm.keeps b o q) g2;exact⟨sl2,q2⟩
  ·exact b1t (P:=P) (w:=w) I.hok fun b u o q1 q2=>Ja _ q2 fun z=>by rw[hmem z]at q1;cases q1
theorem PS.nox{st:Stmt}{t:TS}(h:PS X.nox st t):PS X st t:=fun pins s σ H D I hw=>
 Zn (h pins s σ H D (I.wish _) hw) (fun _ _ q=>q.unwish) fun _ _ z=>False.elim z
theorem PA.nox{t:TA}(h:PA X.nox es t):PA X es t:=fun pos pins s σ H Q I hw=>
 Zn (h pos pins s σ H Q (I.wish _) hw) (fun _ _ ⟨v,H',I',r,q⟩=>⟨v,H',I'.unwish,r,q⟩) fun _ _ z=>False.elim z
def vmro:List Value:=[.type "ValueError",.type "Exception",.type "BaseException",.type "object"]
def a2D(K:Qz)(n:Str):Bool:=match PySem.W.nsIn K mainGlobals n with
 |some (some (.ref C))=>PySem.W.excIn K C vmro "ValueError.__new__"
 |_=>false
theorem b1u{n:Str}(h:a2D K n=true):∃C,PySem.W.nsIn K mainGlobals n=some (some (.ref C))/\PySem.W.excIn K C vmro "ValueError.__new__"=true:=by
 unfold a2D at h;split at h
 ·rename_i C hC;exact⟨C,hC,h⟩
 ·cases h
theorem b8a{h₀:Heap}{bmB:List Value}{newId:String}(X:K.In h₀)(G:h₀.Ns mainGlobals mg)(e:PySem.W.nsIn K mainGlobals x=some (some (.ref C)))(q:PySem.W.excIn K C bmB newId=true):OwnCls x C bmB newId mg h₀:=by
 refine⟨Tp X G e,?_⟩;unfold PySem.W.excIn at q;split at q
 ·rename_i dd cd sl ho
  split at q
  ·rename_i C' bm k0 k1 k2 k3 n k5 hm hs
   simp only[Qp,Ju,Tc]at q;obtain⟨⟨⟨⟨⟨rfl,rfl⟩,hdel⟩,ht⟩,hok⟩,hni⟩:=q;obtain⟨nm,bs,mro,ns,qn,hd,sn,sub,ab,col,del⟩:=cd;dsimp only at hm hdel hok hni;subst hm hdel;have hsl:sl= #[k0,k1,k2,k3,some (.builtin n),k5]:=by
    obtain⟨l⟩:=sl;simp only at hs;rw[hs]
   subst hsl;exact⟨bm,ns,nm,qn,bs,hd,sn,sub,ab,col,dd,k0,k1,k2,k3,k5,_,X _ _ ho,.of_isNs (PySem.W.isNs_of_in X hok),PySem.W.nsMap_none_of_in X hok hni,PySem.W.tail_of_in X ht⟩
  ·cases q
 ·cases q
abbrev Mx:=Env'->Option Str
section
variable(K:Qz)(B:OA)(E:XK)
def XW(G:Hp)(σ:St)(env:Env')(H:Hp)(n:Str):Prop:=∃C,PySem.W.nsIn K mainGlobals n=some (some (.ref C))/\∀σ' G' env' H',Ev K B G σ env H G' σ' env' H'->E (.ref C) none H'
def TX(m:Mx)(σ:St)(H:Hp):Prop:=∃G env n,Rel K B G σ env H/\m env=some n/\XW K B E G σ env H n
end
theorem XW.after{E:XK}{G1:Hp}{σ1:St}{env1:Env'}{H1:Hp}{n:Str}(w:XW K B E G σ env H n)(ev:Ev K B G σ env H G1 σ1 env1 H1):XW K B E G1 σ1 env1 H1 n:=by
 obtain⟨C,h,k⟩:=w;exact⟨C,h,fun σ' G' env' H' ev2=>k σ' G' env' H' (ev.trans ev2)⟩
def EDx(X:Cx)(B:OA)(E:XK)(e:Expr)(m:Mx):Prop:=PE X e fun σ H _=>TX X.K B E m σ H
def ETx(X:Cx)(B:OA)(E:XK)(e:Expr)(m:Mx):Prop:=PT X e fun σ H _=>TX X.K B E m σ H
def EAx(X:Cx)(B:OA)(E:XK)(es:List Expr)(m:Mx):Prop:=PA X es fun σ H _=>TX X.K B E m σ H
def ESx(X:Cx)(B:OA)(E:XK)(st:Stmt)(m:Mx):Prop:=PS X st fun _ σ H=>TX X.K B E m σ H
def a2E(X:Cx)(B:OA)(E:XK)(st:List Stmt)(m:Mx):Prop:=PSs X st fun _ σ H=>TX X.K B E m σ H
def xNo:Mx:=fun _=>none
def xOr(x y:Mx):Mx:=fun env=>match x env with
 |some n=>some n
 |none=>y env
def a0P(x:Mx)(s:Mo Fl)(y:Mx):Mx:=fun env=>match x env with
 |some n=>some n
 |none=>match s env with
  |some (.nx,env1)=>y env1
  |_=>none
def xIf(t:Mo Bool)(x y:Mx):Mx:=fun env=>(t env).bind fun p=>if p.1 then x p.2 else y p.2
section
variable{E:XK}{st:Stmt}{rest:List Stmt}{x1 x2:Mx}{s1:Mo Fl}
theorem a3g:ESx X B E st xNo:=fun _ _ _ _ _ _ ⟨_,_,_,_,e,_⟩=>nomatch e
theorem a5Z:a2E X B E [] xNo:=fun _ _ _ _ _ _ ⟨_,_,_,_,e,_⟩=>nomatch e
theorem a2g(h1:ESx X B E st x1)(n1:ES X B st s1)(h2:a2E X B E rest x2):a2E X B E (st::rest) (a0P x1 s1 x2):=by
 intro pins s σ H D I ⟨G,env,n,rl,e,w⟩;unfold a0P at e;cases q:x1 env with
 |some m=>
  rw[q]at e;cases e;exact a3t h1 b0d pins s σ H D I ⟨G,env,_,rl,q,w⟩
 |none=>
  rw[q]at e;dsimp only at e;split at e
  ·rename_i env1 q1
   exact a3t n1 h2 pins s σ H D I ⟨G,env,.nx,env1,rl,q1,fun σ1 G1 H1 ev=>⟨G1,env1,n,ev.rel,e,w.after ev⟩⟩
  ·cases e
theorem a2F(h1:ESx X B E st x1):a2E X B E [st] x1:=by
 intro pins s σ H D I h;exact a3t h1 b0d pins s σ H D I h
theorem a6a{c:Expr}{s t:List Stmt}{tc:Mo Bool}(hc:ET X B c tc)(h1:a2E X B E s x1)(h2:a2E X B E t x2):ESx X B E (.If c s t pos) (xIf tc x1 x2):=by
 intro pins sh σ H D I ⟨G,env,n,rl,e,w⟩;obtain⟨⟨b1,env1⟩,e1,e2⟩:=q4_ e;dsimp only at e2;refine b0b hc h1 h2 pins sh σ H D I ⟨G,env,b1,env1,rl,e1,fun G1 H1 ev=>?_⟩
 cases b1 with
 |true=>simp only[Yw]at e2 ⊢;exact⟨G1,env1,n,ev.rel,e2,w.after ev⟩
 |false=>simp only[Qs,Zc]at e2 ⊢;exact⟨G1,env1,n,ev.rel,e2,w.after ev⟩
theorem a6b(h:EDx X B E e x1)(hsw:swapsWith e none pos.line X.env=pure false:=by rfl):ESx X B E (.Expr e pos) x1:=fun pins s σ H D I q=>a5h h hsw pins s σ H D I q
def a6c(n:Str)(ms:Mo (List D)):Mx:=fun env=>(ms env).bind fun p=>if p.1.length≤1000 then some n else none
theorem a6d{n:Str}{np cpos:Pos}(hx:XOk X E)(hc:X.calm=true)(ho:a2D X.K n=true)(hg:Gl X n)(ha:EDs X B (e::es) ms)
  (he:starEach (e::es) X.env=(false,eval e X.env)::starEach es X.env:=by rfl)(hpl:(backTo cpos (starEach es X.env)).any (·.1)=false:=by rfl)(hd:(n==("__debug__":Str))=false:=by decide):
  ESx X B E (.Raise (some (.Call (.Name n np) (e::es) [] cpos)) none pos) (a6c n ms):=by
 intro pins s σ H D I ⟨G,env,c,rl,em,w⟩;obtain⟨⟨ds,env1⟩,e1,e2⟩:=q4_ em;dsimp only at e2;split at e2
 ·rename_i hl
  cases e2;obtain⟨C,hC,hw⟩:=w;obtain⟨C',hC',hex⟩:=b1u ho;rw[hC]at hC';cases hC';have O:=b8a I.mod.kin I.mod.glob hC hex;obtain⟨tl,N,nm,q,bs,hdct,sn,sub,ab,col,dd,k0,k1,k2,k3,k5,mN,hCo,hN,hni,T⟩:=O.obj;refine wpAny_Raise_call_subU (C:=C) (nm:=nm) (q:=q) (N:=N) (bs:=bs) (bm:=tl) (hdct:=hdct) (sn:=sn) (sub:=sub) (ab:=ab) (col:=col) (dd:=dd) (k0:=k0) (k1:=k1) (k2:=k2) (k3:=k3) (k5:=k5)
   PySem.F.excBase_ValueError (by decide+kernel) PySem.F.excBase_ValueError (mN:=mN) (T.hasType PySem.F.excBase_ValueError.hasBase) (I.ok.hd hc) (by rw[he];show(false||(backTo cpos (starEach es X.env)).any (·.1))=false;rw[hpl];rfl) hni (a4f I hg O.bound ⟨rfl,?_⟩ hd)
  have h1:=ha cpos pins s σ H (fun vs H1=>vs.length≤sizeLine/\E (.ref C) none H1) I ⟨G,env,ds,env1,rl,e1,fun vs G1 H1 ev r=>⟨by rw[r.length];exact Up (a5s hl),hw σ G1 env1 H1 ev⟩⟩
  rw[he]at h1 ⊢;refine Calls.evalArgs_plain (Zn h1 (fun us s2 ⟨vs,H2,I2,r2,q1,q2⟩=>⟨rfl,by rw[←r2.length];exact q1,I2.bk _ _ hCo,hN.keeps I2.bk,T.keeps I2.bk,fun h' e hm=>?_⟩) fun _ _ y=>y)
  exact hx.made pins σ H2 s2 h' e C us I2 hm q2
 ·cases e2
def SpX(K:Qz)(n:Nat)(g:List W->Option Str):Sp:=fun vs H _ E=>∃G ws c C,ws.length=n/\a4r ws/\Rel K a0b G (vs.map some) ws H/\g ws=some c/\PySem.W.nsIn K mainGlobals c=some (some (.ref C))/\
 ∀G' ws' H',Ev K a0b G (vs.map some) ws H G' (vs.map some) ws' H'->E (.ref C) none H'
structure DefX(P:Program)(w:World)(K:Qz)(mg:OU)(base:Heap)(x:Str)(k n:Nat)(g:List W->Option Str):Prop where
 ex:∃(f:Addr) (fd:FuncData) (ps:List Str),FnOk P w K mg base (CXE P w) k f fd ps (SpX K n g)/\ps.length=n/\mg x=some (.ref f)/\PySem.W.keepIn K (.ref f)=true/\a0x K fd ps []
def a0f(n:Nat)(g:List W->Option Str)(as:Mo (List Ar)):Mx:=fun env=>(as env).bind fun p=>if p.1.length=n then(match slots p.1 with
 |[]=>g (p.1.map (a0c (.l [])))
 |_=>none)else none
theorem a2G{g:List W->Option Str}(hx:XOk X E)(Df:DefX X.prog X.w X.K X.mg X.base x k n g)(hr:Room k X.A)(hg:Gl X x)(ha:EAr X B (e::es) as)(hdb:(x==("__debug__":Str))=false:=by decide)
  (he:starEach (e::es) X.env=(false,eval e X.env)::starEach es X.env:=by rfl)(hpl:(backTo pos (starEach es X.env)).any (·.1)=false:=by rfl):
  EDx X B E (.Call (.Name x p) (e::es) [] pos) (a0f n g as):=by
 obtain⟨f,fd,ps,F,rfl,hm,hk,hb⟩:=Df.ex;intro pins s σ H Q I ⟨G,env,c,rl,em,C,hC,w⟩;refine a5l F hr hg hm hk hb .nil hx.pass ha hdb he hpl pins s σ H Q I ?_
 obtain⟨⟨av,env1⟩,e1,e2⟩:=q4_ em;dsimp only at e2;split at e2
 ·rename_i hn
  split at e2
  ·rename_i hs
   refine⟨G,env,av,env1,rl,e1,fun vs G1 H1 ev ra=>?_⟩
   show SpX X.K ps.length g (vs++[]) H1 Q E;rw[Yt];exact⟨G1,av.map (a0c (.l [])),c,C,by rw[Qv];exact hn,a7A,a7B (i:=0) (w:=.nil) ev.rel ra (fun k j e=>absurd e (a2x hs k j)) (fun k k' j j' e=>absurd e (a2x hs k j)),e2,hC,
    fun G2 ws' H2 ev2=>w σ G2 env1 H2 (ev.trans (a5I ev.rel ra hs ev2))⟩
  ·cases e2
 ·cases e2
end
def fnX(N:Nat)(mx:Mx):List W->Option Str:=fun ws=>mx (ws++List.replicate (N-ws.length) .nil)
theorem a6e{st:Stmt}{f:Addr}{mx:Mx}(F:Fun K x qual st f fd)(S:FnScope N ps (y0_ st))
  (hb:∀(cdv:Value) (A:Around) (outer:List Env) (s:Shared) (H:Hp) (E:XK),Room k (A.deeper (envOfC qual (y0_ st) s.heap.objs.size f cdv))->
   a2E (g7_ (CXE P w) P w K mg base N qual (y0_ st) f cdv A outer s H E) (fun b=>H b≠none) E (a1f st) mx):FnOk P w K mg base (CXE P w) (k+1) f fd ps (SpX K ps.length (fnX N.length mx)):=by
 have hpl:ps.length≤N.length:=by have:=Ys List.length S.pre;rw[Jp]at this;omega
 obtain⟨oc,od,kV,doc,pm,an,cdv,ct,osl,rfl,lk,hcd⟩:=F.ex;refine a7c lk hcd S (fun vs H Q E h=>?_) fun A outer s H vs Q E hr h=>?_
 ·obtain⟨G,ws,c,C,hl,ok,rl,_⟩:=h
  have:=rl.len;rw[Qv]at this;omega
 ·obtain⟨G,ws,c,C,hl,ok,rl,e,hC,k⟩:=h
  have hv:ws.length=vs.length:=by have:=rl.len;rwa [Qv]at this
  exact⟨_,hb cdv A outer s H E hr,G,_,c,a7y (N:=N) rl ok (by omega),e,C,hC,fun σ' G' env' H' ev=>k G' (a0y ws env') H' (a2a rl ok (by omega) ev)⟩
open PySem.W Builtin Builtin.ObjectAttr Builtin.Getset_descriptor PySem.Calls
def a0D(e C:Addr)(h:Heap):Prop:=∃o,h.get? e=some o/\o.cls=.ref C
theorem a0D.type{e:Addr}(p:a0D e C h):Looks M h (typeOf (.ref e)) (.ref C):=by
 obtain⟨o,h1,h2⟩:=p;exact h2 ▸ (Looks.ld h1).andThen .now
section
variable{K:Frag}{x:Addr}{g:Array GenState}{d:Drawn}{t:Nat}{os:OsState}
theorem b8b{R:Result->Shared->Prop}{tp:Value}(X:K.In h)(I:a0D x C h)(hm:mroIn K C (.type "object")=some true)
  (hq:R (.ok (.ret (.ref C))) ⟨h,g,d,t,os⟩):codeAny (model prog w) A (.call (.builtin "getset_descriptor.__get__") ⟨[.builtin "object.__class__",.ref x,tp],[]⟩) R ⟨h,g,d,t,os⟩:=by
 have L0:=I.type (M:=model prog w)
 have L1:=looks_mroIn (M:=model prog w) X hm
 refine codeAny_call_builtin KF.slot_gs.plain KF.entry_gs (KF.slot_gs.check _ _ _ _ _ _ _ _ KF.type_class (KF.args_gs _ _ _) ?_);unfold Builtin.«getset_descriptor.__get__» descrGet;rw[dga_obj];refine Qq (Qj ?_);unfold descrGetter descrCheckInstance descrNameAndClass isInstance;simp only[KF.owner_class]
 repeat (first|with_reducible refine L0.at ?_|with_reducible refine L1.at ?_|wp_step)
 refine⟨Code.quiet_builtin _ (by decide+kernel),codeAny_builtin KF.entry_class ?_⟩
 unfold Builtin.«object.__class__» shownTypeOf
 repeat (first|with_reducible refine L0.at ?_|with_reducible refine L1.at ?_|wp_step)
 exact hq
theorem b8c(X:K.In h)(I:a0D x C h)(ha:findIn K (.ref C) "__class__"=some (some (.builtin "object.__class__")))
  (hn:specialIn K (.builtin "object.__class__") "__get__"=some (some (.builtin "getset_descriptor.__get__")))(htk:takesIn K (.builtin "object.__class__")=some true)(M:Model):
  Looks M h (find (.ref x) (.ref C) "__class__") (.bind (.builtin "getset_descriptor.__get__") (.builtin "object.__class__")):=by
 have L1:=looks_findIn (M:=M) X ha
 have L2:Looks M h (getOf (some (.builtin "object.__class__"))) (some (.builtin "getset_descriptor.__get__")):=looks_specialIn X hn
 have L3:=looks_takesIn (M:=M) X htk
 exact L1.andThen (L2.andThen ((show Looks M h (dataDescriptor? (some (.builtin "object.__class__")) (some (.builtin "getset_descriptor.__get__"))) (some (.builtin "getset_descriptor.__get__",.builtin "object.__class__"))from L3.andThen .now).andThen (Looks.tag .now)))
theorem b8d{Q:Fin->Shared->Prop}(X:K.In h)(I:a0D x C h)(hm:mroIn K C (.type "object")=some true)(ha:findIn K (.ref C) "__class__"=some (some (.builtin "object.__class__")))
  (hn:specialIn K (.builtin "object.__class__") "__get__"=some (some (.builtin "getset_descriptor.__get__")))(htk:takesIn K (.builtin "object.__class__")=some true)(hq:Q (.done (.ret (.ref C))) ⟨h,g,d,t,os⟩):
  wpAny (model prog w) A (Builtin.«object.__getattribute__» ⟨[.ref x,.str "__class__" tk],[]⟩) Q E ⟨h,g,d,t,os⟩:=by
 have L0:=I.type (M:=model prog w)
 have L1:=b8c X I ha hn htk (model prog w)
 unfold Builtin.«object.__getattribute__»
 repeat (any_goals (first|assumption|with_reducible refine L0.at ?_|with_reducible refine L1.at ?_|wp_step))
 refine b8b X I hm ?_
 repeat (any_goals (first|assumption|wp_step))
theorem b8e{nameV:Value}{Q:Unit->Shared->Prop}(X:K.In h)(I:a0D x C h)(hm:mroIn K C (.type "BaseException")=some true)(hq:Q () ⟨h,g,d,t,os⟩):
  wpAny M A (checkBuiltinCall "BaseException.__getattribute__" ⟨[.ref x,nameV],[]⟩) Q E ⟨h,g,d,t,os⟩:=by
 have hk:builtinKind "BaseException.__getattribute__"=some .slot:=by decide+kernel
 have hsplit:splitId "BaseException.__getattribute__"=some ("BaseException","__getattribute__"):=by decide+kernel
 have L0:=I.type (M:=M)
 have L1:=looks_mroIn (M:=M) X hm
 have ha:=F.args_bexc_ga (.ref x) nameV
 simp only[checkBuiltinCall,hk,hsplit];refine Qq ?_
 unfold isInstance
 repeat (first|with_reducible refine L0.at ?_|with_reducible refine L1.at ?_|wp_step)
 exact hq
theorem b8f{fill expr:Bool}(X:K.In h)(I:a0D x C h)(hmB:mroIn K C (.type "BaseException")=some true)(hm:mroIn K C (.type "object")=some true)(ha:findIn K (.ref C) "__class__"=some (some (.builtin "object.__class__")))
  (hn:specialIn K (.builtin "object.__class__") "__get__"=some (some (.builtin "getset_descriptor.__get__")))(htk:takesIn K (.builtin "object.__class__")=some true)
  (hga:findIn K (.ref C) "__getattribute__"=some (some (.builtin "BaseException.__getattribute__")))(hno:findIn K (.ref C) "__getattr__"=some none)(hq:Q (.ref C) ⟨h,g,d,t,os⟩):
  wpAny (model prog w) A (getAttrBy (.ref x) (.str "__class__" tk) fill expr) Q E ⟨h,g,d,t,os⟩:=by
 have L0:=I.type (M:=model prog w)
 have L1:=looks_findIn (M:=model prog w) X hga
 have L2:=looks_findIn (M:=model prog w) X hno
 have f3:=F.attrBase_ValueError.ga.bind (.ref x)
 have hx0:(expr&&onTheHeap (Value.builtin "BaseException.__getattribute__"))=false:=by cases expr<;>rfl
 have hx2:(Value.builtin "BaseException.__getattribute__"==Value.builtin "object.__getattribute__")=false:=by decide+kernel
 have hx1:(onTheHeap (Value.ref C)&&Value.builtin "BaseException.__getattribute__"==Value.builtin "object.__getattribute__")=false:=by rw[hx2];rfl
 repeat (any_goals (first|assumption|with_reducible refine L0.at ?_|with_reducible refine L1.at ?_|with_reducible refine L2.at ?_|wp_step))
 refine codeAny_call_builtin F.attrBase_ValueError.ga.plain F.entry_bexc_ga (b8e X I hmB (b8d X I hm ha hn htk ?_))
 repeat (any_goals (first|assumption|wp_step))
theorem b8g{Q:Option Value->Shared->Prop}(X:K.In h)(I:a0D x C h)(hmB:mroIn K C (.type "BaseException")=some true)(hm:mroIn K C (.type "object")=some true)(ha:findIn K (.ref C) "__class__"=some (some (.builtin "object.__class__")))
  (hn:specialIn K (.builtin "object.__class__") "__get__"=some (some (.builtin "getset_descriptor.__get__")))(htk:takesIn K (.builtin "object.__class__")=some true)
  (hga:findIn K (.ref C) "__getattribute__"=some (some (.builtin "BaseException.__getattribute__")))(hno:findIn K (.ref C) "__getattr__"=some none)(hq:Q (some (.ref C)) ⟨h,g,d,t+1,os⟩):
  wpAny (model prog w) A (getAttr? (.ref x) "__class__") Q E ⟨h,g,d,t,os⟩:=by
 unfold getAttr? getAttrBy?
 repeat (any_goals (first|assumption|with_reducible apply b8f X I hmB hm ha hn htk hga hno|wp_step))
end
def b8h:List String:=["tuple","list","int","bool","str"]
def a1n(K:Frag)(C:Addr):Bool:=
 (mroIn K C (.type "BaseException")==some true)&&((mroIn K C (.type "object")==some true)&&((findIn K (.ref C) "__class__"==some (some (.builtin "object.__class__")))&&((specialIn K (.builtin "object.__class__") "__get__"==some (some (.builtin "getset_descriptor.__get__")))&&
 ((takesIn K (.builtin "object.__class__")==some true)&&((findIn K (.ref C) "__getattribute__"==some (some (.builtin "BaseException.__getattribute__")))&&((findIn K (.ref C) "__getattr__"==some none)&&((clsIn K C).isSome&&((kitOne K (.ref C) (.type "ValueError")==some true)&&b8h.all fun T=>kitOne K (.ref C) (.type T)==some false))))))))
theorem b8i{K:Frag}{e:Addr}(h:a1n K C=true):KitX K (.ref e) (.ref C) (a0D e C):=by
 unfold a1n at h;simp only[Qp,Ju]at h;obtain⟨h1,h2,h3,h4,h5,h6,h7,h8,_,_⟩:=h;obtain⟨cdD,hcD⟩:=Yg.mp h8;refine⟨fun _ _ _ p=>p.type,fun _ _ X _=>?_,fun h tp dd its n sl X htp=>?_,fun{prog w A E Q s} X I k=>?_⟩
 ·unfold clsIn at hcD
  split at hcD
  ·rename_i c' d' cd' sl' ho
   intro A' Q' E' s' k q;unfold isType loadHead;exact Qq (wpAny_loadPart (k _ _ (X _ _ ho)) (Qj q))
  ·cases hcD
 ·refine Bool.eq_false_iff.mpr fun q=>?_
  have e:C=tp:=Value.ref.inj (Ju.mp q)
  subst e;unfold clsIn at hcD;split at hcD
  ·rename_i c' d' cd' sl' ho
   have z:=(X _ _ ho).symm.trans htp
   cases z
  ·cases hcD
 ·obtain⟨hh,g,d,t,os⟩:=s
  exact b8g X I h1 h2 h3 h4 h5 h6 h7 k
theorem b8j{K:Frag}(h:a1n K C=true):b0H K (.ref C):=by
 unfold a1n at h;simp only[Qp]at h;obtain⟨_,_,_,_,_,_,_,_,_,h9⟩:=h;intro T hT;have:=Qw.mp h9 T hT
 simpa using this
theorem b8k{K:Frag}(h:a1n K C=true):kitOne K (.ref C) (.type "ValueError")=some true:=by
 unfold a1n at h;simp only[Qp]at h;obtain⟨_,_,_,_,_,_,_,_,h9,_⟩:=h
 simpa using h9
def a1J(K:Frag)(S:Str)(names:List Str):Bool:=names.all fun n=>a2D K n&&match nsIn K mainGlobals n with
 |some (some (.ref C))=>a1n K C&&((match nsIn K mainGlobals S with
   |some (some (.ref D))=>mroIn K C (.ref D)==some true&&(a2D K S&&a1n K D)
   |_=>false)&&names.all fun m=>match nsIn K mainGlobals m with
   |some (some (.ref D))=>kitOne K (.ref C) (.ref D)==some (n==m)
   |_=>false)
 |_=>false
structure ExcF(K:Frag)(S:Str)(names:List Str)(n:Str)(C:Addr):Prop where
 nm:nsIn K mainGlobals n=some (some (.ref C))
 one:a2D K n=true
 kit:a1n K C=true
 sub:∃D,nsIn K mainGlobals S=some (some (.ref D))/\mroIn K C (.ref D)=some true/\a2D K S=true/\a1n K D=true
 pair:∀m∈names,∃D,nsIn K mainGlobals m=some (some (.ref D))/\kitOne K (.ref C) (.ref D)=some (n==m)
theorem a3K{K:Frag}{S:Str}{names:List Str}(h:a1J K S names=true){n:Str}(hn:n∈names):∃C,ExcF K S names n C:=by
 have q:=Qw.mp h n hn
 simp only[Qp]at q;obtain⟨h1,h2⟩:=q;split at h2
 ·rename_i C hC
  simp only[Qp]at h2;obtain⟨h3,h4,h5⟩:=h2;split at h4
  ·rename_i D hD
   simp only[Qp,Ju]at h4;refine⟨C,hC,h1,h3,⟨D,hD,h4.1,h4.2.1,h4.2.2⟩,fun m hm=>?_⟩
   have:=Qw.mp h5 m hm;split at this
   ·rename_i D' hD'
    exact⟨D',hD',by simpa using this⟩
   ·cases this
  ·cases h4
 ·cases h2
def a0Q(names:List Str)(m:Str)(ma:Mo D):Mo D:=fun env=>(ma env).bind fun p=>match p.1 with
 |.obj (.exc n)=>if names.contains n then some (.bl (n==m),p.2)else none
 |_=>none
def b1v(names:List Str)(ma:Mo D):Mo D:=fun env=>(ma env).bind fun p=>match p.1 with
 |.obj (.exc n)=>if names.contains n then some (.bl true,p.2)else none
 |_=>none
section
variable{S m:Str}{names:List Str}
theorem a0R(hx:a1J X.K S names=true)(hm:m∈names)(ha:ED X B a ma)(hg:Gl X "isinstance")(hi:X.mg "isinstance"=none)(hgm:Gl X m)(hdm:(m==("__debug__":Str))=false:=by decide)
  (he:starEach [a,.Name m p2] X.env=[(false,eval a X.env),(false,eval (.Name m p2) X.env)]:=by rfl):ED X B (.Call (.Name "isinstance" p) [a,.Name m p2] [] pos) (a0Q names m ma):=by
 obtain⟨C0,F0⟩:=a3K hx hm;intro pins0 s0 σ0 H0 Q0 I0;have hT:PE X (.Name m p2) (tC (.ref C0)):=a9Y hgm (Tp I0.mod.kin I0.mod.glob F0.nm) rfl hdm;have hc:g2_ X (.builtin "isinstance") (fun xs H Q=>∃x G n,xs=[x,.ref C0]/\Le G H/\Rep X.K G x (.obj (.exc n))/\n∈names/\Q (.bl (n==m)) H):=by
  intro pins s σ H xs us Q I r h;obtain⟨x,G,n,rfl,l,rp,hn,q⟩:=h;obtain⟨u,w',rfl,r1,r2⟩:=a1U r;cases r2;simp only[Rep]at rp;obtain⟨e,C,HP,rfl,h2,h3,h4,h5⟩:=rp;cases r1;obtain⟨C',F⟩:=a3K hx hn;have:=F.nm;rw[h2]at this;cases this;obtain⟨D,hD,hk⟩:=F.pair m hm;have:=F0.nm;rw[hD]at this;cases this;exact Zv h4 I.kIn (I.hok e _ (l _ _ h3)).1 hk (fun z=>nomatch z) fun tk=>⟨.bl _,H,I.tok _,rfl,q⟩
 refine pe_imp (a3v (pos:=pos) (p:=p) hc hg hi (by decide+kernel) (a0e ha (a0e hT a1u) he) (he:=he)) ?_ pins0 s0 σ0 H0 Q0 I0
 rintro σ H Q ⟨G,env,d,env',rl,e,k⟩;obtain⟨⟨d1,env1⟩,e1,e2⟩:=q4_ e;dsimp only at e2;split at e2
 ·rename_i n
  split at e2
  ·rename_i hn
   cases e2;exact .bind rl e1 fun v G1 H1 ev r=>⟨v,G1,n,rfl,ev.rel.sub,r,by simpa using hn,k _ G1 H1 ev (by simp only[Rep])⟩
  ·cases e2
 ·cases e2
theorem b1w(hx:a1J X.K S names=true)(ha:ED X B a ma)(hg:Gl X "isinstance")(hi:X.mg "isinstance"=none)(hgm:Gl X "ValueError")(hmv:X.mg "ValueError"=none)
  (he:starEach [a,.Name "ValueError" p2] X.env=[(false,eval a X.env),(false,eval (.Name "ValueError" p2) X.env)]:=by rfl):ED X B (.Call (.Name "isinstance" p) [a,.Name "ValueError" p2] [] pos) (b1v names ma):=by
 have hT:PE X (.Name "ValueError" p2) (tC (.ty "ValueError")):=a4h hgm hmv PyProof.Rows.Boot.«ValueError» rfl
 have hc:g2_ X (.builtin "isinstance") (fun xs H Q=>∃x G n,xs=[x,.ty "ValueError"]/\Le G H/\Rep X.K G x (.obj (.exc n))/\n∈names/\Q (.bl true) H):=by
  intro pins s σ H xs us Q I r h;obtain⟨x,G,n,rfl,l,rp,hn,q⟩:=h;obtain⟨u,w',rfl,r1,r2⟩:=a1U r;cases r2;simp only[Rep]at rp;obtain⟨e,C,HP,rfl,h2,h3,h4,h5⟩:=rp;cases r1;obtain⟨C',F⟩:=a3K hx hn;have:=F.nm;rw[h2]at this;cases this;exact Zv h4 I.kIn (I.hok e _ (l _ _ h3)).1 (b8k F.kit) (fun z=>nomatch z) fun tk=>⟨.bl _,H,I.tok _,rfl,q⟩
 refine pe_imp (a3v (pos:=pos) (p:=p) hc hg hi (by decide+kernel) (a0e ha (a0e hT a1u) he) (he:=he)) ?_
 rintro σ H Q ⟨G,env,d,env',rl,e,k⟩;obtain⟨⟨d1,env1⟩,e1,e2⟩:=q4_ e;dsimp only at e2;split at e2
 ·rename_i n
  split at e2
  ·rename_i hn
   cases e2;exact .bind rl e1 fun v G1 H1 ev r=>⟨v,G1,n,rfl,ev.rel.sub,r,by simpa using hn,k _ G1 H1 ev (by simp only[Rep])⟩
  ·cases e2
 ·cases e2
def b1x:D->Bool
 |.non=>true
 |_=>false
def a7U:D->D->Option D
 |a,.non=>some (.bl (b1x a))
 |_,_=>none
theorem b8l{K:Frag}{x:V}{a:D}(r:Rep K G x a):decide (x=.non)=b1x a:=by
 cases a with
 |non=>simp only[Rep]at r;subst r;rfl
 |bl _=>simp only[Rep]at r;subst r;rfl
 |int _=>simp only[Rep]at r;subst r;rfl
 |str _=>simp only[Rep]at r;obtain⟨r,_⟩:=r;subst r;rfl
 |tup _=>simp only[Rep]at r;obtain⟨_,_,r,_⟩:=r;subst r;rfl
 |lst _=>simp only[Rep]at r;obtain⟨_,_,r,_⟩:=r;subst r;rfl
 |emp=>simp only[Rep]at r;obtain⟨_,_,r,_⟩:=r;subst r;rfl
 |dct _ _=>simp only[Rep]at r;obtain⟨_,_,r,_⟩:=r;subst r;rfl
 |dcx _ _=>simp only[Rep]at r;obtain⟨_,_,_,_,r,_⟩:=r;subst r;rfl
 |obj o=>
  simp only[Rep]at r;cases o with
  |exc n=>obtain⟨_,_,_,r,_⟩:=r;subst r;rfl
  |fn n=>obtain⟨_,r,_⟩:=r;subst r;rfl
  |dk n=>obtain⟨_,r,_⟩:=r;subst r;rfl
  |dt n=>obtain⟨_,_,r,_⟩:=r;subst r;rfl
theorem b8m:OpD X B (fun x y H Q=>y=.non/\Q (.bl (decide (x=.non))) H) a7U:=by
 intro G σ env H x y a b d Q rl ra rb e k;unfold a7U at e;split at e
 ·cases e
  simp only[Rep]at rb;subst rb;rw[b8l ra];exact⟨rfl,k _ G H (.refl rl) (by simp only[Rep])⟩
 ·cases e
end
end L2.Mir
namespace L2.Mir
open PySem PySem.Spec PyProof.Rows PySem.W
variable{A:Around}{B:OA}{C a:Addr}{E:OE}{G H H':Hp}{K:Frag}{M:Model}{N N' names ps:List Str}{P:Program}{X:Cx}{base:Heap}{body:Expr}{c cd:Value}{cl:List (Str×Addr)}{env env1:Env'}{fd:FuncData}{i k kc tk:Nat}{mg:OU}{n qual x:Str}{o:Option Str}{params:Arguments}{pins:OX}{pos:Pos}{s s₁:Shared}{scope:Scope}{ts:List Addr}{w:World}{σ σ1:St}
section
variable{σ':St}{e:Addr}{φ:Heap->Prop}
theorem b8n(I:Inv X pins σ H s)(hn:H e=none)(h0:X.s₀.heap.get? e=none)(hL:e≠X.env.locals)(hc:∀x c,X.env.cells.lookup x=some c->c≠e)(hp:∀p∈X.pn++pins,p.1≠e)
  (ph:φ s.heap)(po:∃o,s.heap.get? e=some o)(ps:∀h1 h2:Heap,φ h1->(∀o,h1.get? e=some o->h2.get? e=some o)->φ h2):Inv X pins σ (upd H e (.ext φ)) s:=by
 have ne:∀{b u},H b=some u->b≠e:=fun q z=>by rw[z,hn]at q;cases q
 refine⟨I.ok,I.os,I.bare,⟨I.base.keep,I.base.slot,fun b o q n hx=>?_,I.base.there,fun b xs q=>?_,fun b o u q=>?_,fun b ps q=>?_⟩,I.loc,I.cell,?_,fun x c q=>?_,fun p q=>?_,fun b u q=>?_,I.len⟩
 ·have hb:b≠e:=fun z=>by rw[z,h0]at q;cases q
  rw[v0_ hb];exact I.base.free b o q n hx
 ·have:=I.base.tups b xs q;rw[v0_ (ne this)];exact this
 ·have:=I.base.frzs b o u q;rw[v0_ (ne this)];exact this
 ·obtain⟨m,q'⟩:=I.base.tbls b ps q;exact⟨m,by rw[v0_ (ne q')];exact q'⟩
 ·rw[v0_ (Zh hL)];exact I.free
 ·rw[v0_ (hc x c q)];exact I.freeC x c q
 ·obtain⟨h1,h2,h3,h4,h5⟩:=I.pin p q
  exact⟨h1,by rw[v0_ (hp p q)];exact h2,h3,h4,h5⟩
 ·by_cases hb:b=e
  ·subst hb;rw[x0_]at q;cases q;exact⟨ph,po,ps⟩
  ·rw[v0_ hb]at q
   exact(I.hok b u q).stay (fun _ _ _ z=>z) (fun c z=>by rw[v0_ (ne z)];exact z) fun c xs z=>by rw[v0_ (ne z)];exact z
theorem b8o{h':Heap}{m':OU}(I:Inv X pins σ H s)(hn':h'.Ns X.env.locals m')(hs:Heap.SameBut X.env.locals s.heap h')(hl:σ'.length=σ.length)
  (hσ:∀(i:Nat) (x:Str) (v:V),X.N[i]? =some x->σ'[i]? =some (some v)->Vis X.env.scope x->∃u,v4_ v u/\a9U X.env h' m' x u):Inv X pins σ' H {s with heap:=h',toks:=tk}:=by
 have cne:=I.cne
 refine⟨I.ok,I.os,I.bare,⟨fun b o e n hb hx=>?_,fun b o e n hb hx=>?_,I.base.free,fun b o e hx=>?_,I.base.tups,I.base.frzs,I.base.tbls⟩,⟨_,hn',hσ⟩,fun y c e=>?_,I.free,I.freeC,fun p hp=>?_,fun b ob e=>?_,hl.trans I.len⟩
 ·exact(hs.2 b (Qi (Qr (Qg e) I.ok.above))).trans (I.base.keep b o e n hb hx)
 ·obtain⟨sl,e1⟩:=I.base.slot b o e n hb hx
  exact⟨sl,(hs.2 b (Qi (Qr (Qg e) I.ok.above))).trans e1⟩
 ·obtain⟨o',e1⟩:=I.base.there b o e hx
  exact⟨o',(hs.2 b (Qi (Qr (Qg e) I.ok.above))).trans e1⟩
 ·obtain⟨w',z⟩:=I.cell y c e
  exact⟨w',z.sameBut hs (cne y c e)⟩
 ·obtain⟨e,n,ne,nf,d⟩:=I.pin p hp
  exact⟨(hs.2 p.1 ne).trans e,n,ne,nf,d⟩
 ·refine(I.hok b ob e).stay (fun c w' hc q=>(hs.2 c ?_).trans q) (fun _ q=>q) fun _ _ q=>q
  rintro rfl
  rcases hc with rfl|hc
  ·rw[I.free]at e;cases e
  ·rw[I.free]at hc;cases hc
theorem b8p{Q:Unit->Shared->Prop}(I:Inv X pins σ H s)(hN:X.N.Nodup)(hi:X.N[i]? =some n)(hk:X.env.scope.names.lookup n=some .local)
  (h:∀s',Inv X pins (σ.set i none) H s'->Q () s'):wpAny M A (do bindName X.env n .none;unbindBehindTheSuite X.env n pos) Q E s:=by
 have hcls:(X.env.scope.kind==.class||(X.env.scope.kind==.module&&X.env.locals !=X.env.globals))=false:=by rw[I.ok.kind];rfl
 have hiσ:i<σ.length:=by rw[I.len];exact(Qy.mp hi).1
 refine Qq (wpAny_bindName (a2R (v:=.non) (u:=.none) I hN hi (.inl hk) rfl (fun s1 I1=>?_) (.inr hk)))
 unfold unbindBehindTheSuite;refine Xu ?_
 obtain⟨m,hn,hl⟩:=I1.loc;obtain⟨u,ru,lk⟩:=hl i n .non hi (Yz hiσ) (.inl hk);have hm:m n=some u:=by
  rcases lk with⟨_,z⟩|⟨z,_⟩
  ·exact z
  ·have:X.env.kindOf n=some .local:=hk
   rcases z with z|z<;>(rw[this]at z;cases z)
 refine wpAny_unbindName_local hk hn hm hcls fun h' u' hn' hs=>?_
 obtain⟨hh,g,d,t,o⟩:=s1;refine h _ (b8o (tk:=t) I1 hn' hs (by simp) fun j y v e1 e2 e3=>?_)
 by_cases hj:j=i
 ·subst hj;rw[Yz hiσ]at e2;cases e2
 ·rw[Ql (Zh hj)]at e2
  obtain⟨w,rw',q⟩:=hl j y v e1 (by rw[Ql (Zh hj)];exact e2) e3
  refine⟨w,rw',?_⟩
  rcases q with⟨k,e⟩|⟨k,c,e,z⟩
  ·refine .inl ⟨k,?_⟩
   have:y≠n:=fun e=>hj (a6O hN e1 (e ▸ hi))
   simp[this,e]
  ·exact .inr ⟨k,c,e,z.sameBut hs (I1.cne y c e)⟩
end
theorem Ev.setNone{G1:Hp}{H1:Hp}(ev:Ev K B G σ env H G1 σ1 env1 H1):Ev K B G σ env H G1 (σ1.set i none) (env1.set i .nil) H1:=by
 have e0:=ev.setNil (i:=i)
 have rl:=e0.rel
 have ne:∀(j:Nat) (w:W),(env1.set i .nil)[j]? =some w->w≠.nil->(σ1.set i none)[j]? =σ1[j]?:=fun j w q1 q2=>by
  rcases j0_ q1 with⟨_,z⟩|z
  ·exact absurd z q2
  ·exact Ql (Zh z.1)
 have nm:∀(w:W) (es:Mu),w.mut=some es->w≠.nil:=fun w es h z=>by rw[z]at h;cases h
 refine⟨⟨rl.sub,by rw[rl.len];simp,fun j d q=>?_,fun j w es q1 q2=>?_,fun j k w w' es fs b q1 q2 q3 q4 q5 q6=>?_,fun j w b q1 qo q2=>?_,rl.old,rl.tabs,rl.gnt⟩,e0.same,e0.keep,e0.live,e0.stay,fun b z=>?_,fun j w q qp=>?_,by rw[Za];exact e0.slen⟩
 ·rw[ne j _ q (by simp)];exact rl.dat j d q
 ·rw[ne j _ q1 (nm w es q2)];exact rl.own j w es q1 q2
 ·rw[ne j _ q1 (nm w es q2)]at q5;rw[ne k _ q3 (nm w' fs q4)]at q6;exact rl.inj j k w w' es fs b q1 q2 q3 q4 q5 q6
 ·rw[ne j _ q1 (by rintro rfl;cases qo)]at q2;exact rl.fresh j w b q1 qo q2
 ·obtain⟨j,w,es,q1,q2,q3⟩:=z
  rw[ne j _ q1 (nm w es q2)]at q3;exact e0.sub b ⟨j,w,es,q1,q2,q3⟩
 ·rw[ne j _ q (by rintro rfl;cases qp)];exact e0.par j w q qp
theorem b8q{l:List Env}{h h1 h2 Bh:Heap}(un:Un (frs l) [] H H' h h1)(kept:∀b o,h.get? b=some o->H b=none->b∉frs l->Bh.get? b=some o)(thr:∀b o,h.get? b=some o->b∉frs l->∃o',Bh.get? b=some o')
  (stay:Bh.StaysIn h2)(ups:h1.UpToSlots h2)(fr:∀b∈frs l,H b=none/\∃o,h.get? b=some o/\∀vs,o.data≠.fields vs):Un (frs l) [] H H' h h2:=by
 have sl:∀b o,h.get? b=some o->b∈frs l->∃sl,h2.get? b=some {o with slots:=sl}:=fun b o q hb=>by
  obtain⟨n,o1,g1,g2⟩:=fr b hb;rw[q]at g1;cases g1;obtain⟨s1,q1⟩:=un.slot b o q n hb (by simp)
  obtain⟨s2,q2⟩:=ups b _ q1 g2;exact⟨s2,q2⟩
 exact⟨fun b o q n hb _=>stay b o (kept b o q n hb),fun b o q n hb _=>sl b o q hb,un.free,fun b o q _=>by
  by_cases hb:b∈frs l
  ·obtain⟨s1,q1⟩:=sl b o q hb;exact⟨_,q1⟩
  ·obtain⟨o',q1⟩:=thr b o q hb;exact⟨o',stay b o' q1⟩,un.tups,un.frzs,un.tbls⟩
section
variable{e Dd:Addr}{h:Heap}{g:Array GenState}{d:Drawn}{t:Nat}{os:OsState}
theorem b8r{Q:Bool->Shared->Prop}{od:Option Addr}{cd:ClassData}{sl:Array (Option Value)}(X:K.In h)(I:a0D e C h)(hsub:mroIn K C (.ref Dd)=some true)(hD:mroIn K Dd (.type "BaseException")=some true)(hk:K.lookup Dd=some ⟨.type "type",od,.cls cd,sl⟩)
  (hq:Q true ⟨h,g,d,t,os⟩):wpAny M A (excMatches (.ref e) (.ref Dd)) Q E ⟨h,g,d,t,os⟩:=by
 have L0:=I.type (M:=M)
 have L1:=looks_mroIn (M:=M) X hsub
 have L2:=looks_mroIn (M:=M) X hD
 have f:=tc_notTuple
 have hC:=X _ _ hk
 unfold excMatches
 repeat (first|with_reducible refine L0.at ?_|with_reducible refine L1.at ?_|with_reducible refine L2.at ?_|with_reducible refine wpAny_loadPart_at hC ?_|wp_step)
 exact hq
end
theorem b8s{bm:List Value}{nid:String}(h:excIn K C bm nid=true):∃od cd sl,K.lookup C=some ⟨.type "type",od,.cls cd,sl⟩:=by
 unfold excIn at h;split at h
 ·rename_i dd cd sl ho;exact⟨dd,cd,sl,ho⟩
 ·cases h
theorem b8t(h:a1n K C=true):mroIn K C (.type "BaseException")=some true:=by
 unfold a1n at h;simp only[Qp,Ju]at h;exact h.1
def a3L(a:Addr)(h:Heap):Prop:=∃o fd,h.get? a=some o/\o.data=.func fd
theorem b8u(h:Heap)(p:a3L a h):∃k,(k=Keeper.frame∨k=Keeper.machine∨k=Keeper.boundFrame)/\Looks M h (keeperOf (.ref a)) k:=by
 obtain⟨o,fd,h1,h2⟩:=p;refine⟨.frame,.inl rfl,(Looks.ld (part:=none) h1).andThen ?_⟩;rw[h2];exact .now
def a7V(X:Cx)(B:OA)(fl:Addr)(o:Option Str)(G:Hp):Prop:=
 ∀(pins:OX) (s:Shared) (σ:St) (env:Env') (Q:VK) (E:XK),Inv X pins σ X.H₀ s->Rel X.K B G σ env X.H₀->
  (o=none->∀v G' H',Ev X.K B G σ env X.H₀ G' σ env H'->Q v H')->
  (∀n C,o=some n->nsIn X.K mainGlobals n=some (some (.ref C))->∀G' H',Ev X.K B G σ env X.H₀ G' σ env H'->E (.ref C) none H')->
  codeAny (model X.prog X.w) X.A (.call (.ref fl) ⟨[],[]⟩) (CR (CXE X.prog X.w) X.stack X.prog X.w X.H₀ s Q E) s
section
variable{S y:Str}{i0 j:Nat}{fl:Addr}{G₀:Hp}{cp cpos epos sp yp np apos hpos tpos:Pos}
abbrev exD(n:Str):D:=.obj (.exc n)
def b8v(X:Cx)(B:OA)(names:List Str)(fl:Addr)(i0 i j:Nat)(o:Option Str)(G:Hp):TS:=fun D σ H=>σ[i0]? =some (some (.ref fl))/\H=X.H₀/\∃env,Rel X.K B G σ env H/\
 (o=none->∀G' H',Ev X.K B G σ env H G' σ env H'->D.nx σ H')/\∀c,o=some c->c∈names/\∀σ' G' H',Ev X.K B G σ env H G' σ' (((env.set i (.dat (exD c))).set j (.dat (exD c))).set i .nil) H'->D.nx σ' H'
theorem caught{s':Shared}{D:Ends}{ev:Value}(hst:X.stack=X.env::X.outer)(hfr:X.env.frame=some X.env.locals)(hex:X.ex=[])(hx:a1J X.K S names=true)(hN:X.N.Nodup)
  (hi:X.N[i]? =some n)(hil:X.env.scope.names.lookup n=some .local)(hj:X.N[j]? =some y)(hjl:X.env.scope.names.lookup y=some .local)(hgS:Gl X S)
  (I:Inv X pins σ H s)(rl:Rel X.K B G σ env H)(hX:∀c,o=some c->c∈names/\∀σ' G' H',Ev X.K B G σ env H G' σ' (((env.set i (.dat (exD c))).set j (.dat (exD c))).set i .nil) H'->D.nx σ' H')
  (cx:CXE X.prog X.w X.stack H s (fun cls _ H'=>∃c C G',o=some c/\nsIn X.K mainGlobals c=some (some (.ref C))/\cls=.ref C/\Ev X.K B G σ env H G' σ env H') ev s')
  (hdS:(S==("__debug__":Str))=false)(hdn:(n==("__debug__":Str))=false)(hcdn:(n==("__classdict__":Str))=false)(hsw:swapsWith (.Name n np) (some (.Name y yp)) apos.line X.env=pure false):
  wpAny (model X.prog X.w) X.A (noteFrame ev X.env) (fun _ s₂=>wpAny (model X.prog X.w) X.A (setFlight ev none) (fun _ s₃=>
   wpAny (model X.prog X.w) X.A (handleBy ev X.env [.ExceptHandler (some (.Name S sp)) (some n) [.Assign [.Name y yp] (.Name n np) apos] hpos]) (SP X pins D) X.xe s₃) X.xe s₂) X.xe s':=by
 obtain⟨e,t,C,H',Bh,rfl,os,bare,fly,un,hok,kept,thr,c,C',G',ho,hC,hcc,evx⟩:=cx;cases hcc;obtain⟨hcn,hD⟩:=hX c ho;obtain⟨C2,F⟩:=a3K hx hcn;have:=F.nm;rw[hC]at this;cases this;obtain⟨Sd,hS,hsub,hoS,hkS⟩:=F.sub;have frF:∀b∈frs X.stack,H b=none/\∃o,s.heap.get? b=some o/\∀vs,o.data≠.fields vs:=fun b hb=>⟨I.stkFree b hb,(I.stack.mem hb).2⟩
 have eB:Bh.get? e=none:=fly.2.1
 obtain⟨oe0,vs0,he0,_,hd0,_⟩:=fly.first
 have eS:s.heap.get? e=none:=by
  cases q:s.heap.get? e with
  |none=>rfl
  |some o0=>
   by_cases hb:e∈frs X.stack
   ·obtain⟨_,o1,g1,g2⟩:=fly.2.2.1.mem hb
    rw[he0]at g1;cases g1;exact absurd hd0 (g2 vs0)
   ·obtain⟨o',q'⟩:=thr e o0 q hb
    rw[eB]at q';cases q'
 have e0:X.s₀.heap.get? e=none∨e∈X.ex:=by
  by_cases hx:e∈X.ex
  ·exact .inr hx
  ·refine .inl ?_
   cases q:X.s₀.heap.get? e with
   |none=>rfl
   |some o0=>obtain⟨o',q'⟩:=I.base.there e o0 q hx;rw[eS]at q';cases q'
 have eH:H' e=none:=by
  cases q:H' e with
  |none=>rfl
  |some u=>
   have ok:=hok e u q
   have:∃o,Bh.get? e=some o:=by
    cases u with
    |lst xs=>obtain⟨_,_,_,_,z⟩:=ok;exact⟨_,z⟩
    |tup xs=>obtain⟨_,_,_,ob,z,_⟩:=ok;exact⟨_,z⟩
    |dK kvs=>obtain⟨_,_,_,_,o,_,_,z,_⟩:=ok;exact⟨_,z⟩
    |dT C kvs=>obtain⟨_,_,_,_,o,_,_,z,_⟩:=ok;exact⟨_,z⟩
    |dX es ep=>obtain⟨_,_,o,z,_⟩:=ok;exact⟨_,z⟩
    |set S n=>obtain⟨o,_,_,_,z,_⟩:=ok;exact⟨_,z⟩
    |ins C dx fs=>obtain⟨_,_,_,z,_⟩:=ok;exact⟨_,z⟩
    |own y=>obtain⟨_,z⟩:=ok;exact⟨_,z⟩
    |xd fs=>obtain⟨_,⟨_,_,_,z,_⟩,_⟩:=ok;exact⟨_,z⟩
    |rng lo hi=>obtain⟨_,_,_,z⟩:=ok;exact⟨_,z⟩
    |frz ob u=>obtain⟨z,_⟩:=ok;exact⟨_,z⟩
    |tbl ps=>exact⟨_,(show Bh.get? e=some _ from ok)⟩
    |met f y=>exact⟨_,(show Bh.get? e=some _ from ok)⟩
    |ext φ=>obtain⟨_,z,_⟩:=ok;exact z
   rw[eB]at this;obtain⟨_,z⟩:=this;cases z
 have invAt:∀h2:Heap,Bh.StaysIn h2->s'.heap.UpToSlots h2->Inv X pins σ H' {s' with heap:=h2}:=fun h2 st ups=>
  I.call' (s':={s' with heap:=h2}) (ch:=[]) os (b8q un kept thr st ups frF) (hok.kept fun b u q=>st b u q) bare (fun b z=>absurd z (by simp))
 rw[hst]at fly;have frames:X.A.frames=some (X.env::X.outer):=by rw[I.ok.frames,hst]
 refine wpAny_looks_onW (L:=X.env.locals) frames hfr fly fun h4 held4 ups4=>?_
 refine wpAny_landsW held4 fun h5 fly5 ups5=>?_
 have I5:=invAt h5 fly5.1 (ups4.trans ups5)
 refine wpAny_handleBy_cons (codeAny_handlers_test ?_) (by intro q;cases q)
 have markI:∀{σ:St}{H:Hp}{s:Shared},Inv X pins σ H s->Inv ({X with A:=X.A.mark (some (.ref e)),calm:=false,xe:=fun _ _=>False}:Cx) pins σ H s:=fun J=>
  ⟨⟨J.ok.mod,J.ok.kind,J.ok.glob,J.ok.blt,J.ok.above,J.ok.inj,J.ok.has,J.ok.cab,(fun z=>nomatch z),J.ok.frames,J.ok.stk,J.ok.exf,J.ok.bs,J.ok.bsz,J.ok.noex,J.ok.exfs,J.ok.funs,J.ok.frf⟩,J.os,J.bare,J.base,J.loc,J.cell,J.free,J.freeC,J.pin,J.hok,J.len⟩
 have unmark:∀{σ:St}{H:Hp}{s:Shared},Inv ({X with A:=X.A.mark (some (.ref e)),calm:=false,xe:=fun _ _=>False}:Cx) pins σ H s->Inv X pins σ H s:=fun J=>⟨I.ok,J.os,J.bare,J.base,J.loc,J.cell,J.free,J.freeC,J.pin,J.hok,J.len⟩
 refine a4f (X:=({X with A:=X.A.mark (some (.ref e)),calm:=false,xe:=fun _ _=>False}:Cx)) (markI I5) hgS (mg_of I.mod.kin I.mod.glob hS) ?_ hdS
 obtain⟨od,cd,sl,hlk⟩:=b8s (let ⟨Z,z1,z2⟩:=b1u hoS;by rw[hS]at z1;cases z1;exact z2)
 obtain⟨oe5,vs5,he5,hc5,_,_⟩:=fly5.first
 refine b8r I5.kIn ⟨oe5,he5,hc5⟩ hsub (b8t hkS) hlk ?_
 dsimp only[if_true];refine codeAny_handlers_suite_as ?_
 refine lands_againW fly5 fun h6 fly6 ups6=>?_
 have I6:=invAt h6 fly6.1 ((ups4.trans ups5).trans ups6)
 obtain⟨oe6,vs6,he6,hc6,_,_⟩:=fly6.first
 have hexN:e∉X.ex:=fun z=>by rw[hex]at z;cases z
 have I7:Inv X pins σ (upd H' e (.ext (a0D e C))) {s' with heap:=h6}:=by
  refine b8n I6 eH (e0.elim id fun z=>absurd z hexN) (fun z=>?_) (fun x c q z=>?_) (fun p q z=>?_) ⟨oe6,he6,hc6⟩ ⟨_,he6⟩ fun h1 h2 p k=>?_
  ·obtain⟨m,⟨o1,_,_,g,_⟩,_⟩:=I.loc
   rw[←z,eS]at g;cases g
  ·obtain⟨v,o1,g,_⟩:=I.cell x c q
   rw[z,eS]at g;cases g
  ·obtain⟨g,_⟩:=I.pin p q
   rw[z,eS]at g;cases g
  ·obtain⟨o1,g1,g2⟩:=p
   exact⟨o1,k o1 g1,g2⟩
 refine a2R I7 hN hi (.inl hil) (show v4_ (.ref e) (.ref e)from rfl) (fun s8 I8=>?_) (.inr hil)
 have hiσ:i<σ.length:=by rw[I.len];exact(Qy.mp hi).1
 refine Zn (b0a (a3u (X:=({X with A:=X.A.mark (some (.ref e)),calm:=false,xe:=fun _ _=>False}:Cx)) (pos:=apos) (pos':=yp) hN hj (.inl hjl) (a6P (pos:=np) hi (.inl hil) hdn hcdn) hsw (.inr hjl)) pins s8 (σ.set i (some (.ref e))) (upd H' e (.ext (a0D e C)))
  {nx:=fun σ' H2=>σ'=(σ.set i (some (.ref e))).set j (some (.ref e))/\H2=upd H' e (.ext (a0D e C)),rt:=fun _ _=>False} (markI I8) ⟨_,Yz hiσ,rfl,rfl⟩) (fun f s9 q=>?_) fun _ _ z=>z.elim
 cases f with
 |ret u=>obtain⟨_,_,_,_,_,z⟩:=q;exact z.elim
 |brk=>obtain⟨_,_,_,z⟩:=q;exact z.elim
 |cont=>obtain⟨_,_,_,z⟩:=q;exact z.elim
 |next=>
  obtain⟨σ9,H9,I9,rfl,rfl⟩:=q;refine b8p (unmark I9) hN hi hil fun s10 I10=>?_
  refine⟨_,_,I10,?_⟩;have ev2:=evx.trans (evx.rel.alloc (o:=.ext (a0D e C)) eH);have rp:Rep X.K (upd G' e (.ext (a0D e C))) (.ref e) (exD c):=by
   simp only[Rep];exact⟨e,C,_,rfl,hC,x0_,b8i F.kit,b8j F.kit⟩
  exact hD _ _ _ (((ev2.setDat (i:=i) rp).setDat (i:=j) rp).setNone (i:=i))
theorem b8w(hst:X.stack=X.env::X.outer)(hfr:X.env.frame=some X.env.locals)(hex:X.ex=[])(hx:a1J X.K S names=true)(hN:X.N.Nodup)(h0:X.N[i0]? =some x)(hv:Vis X.env.scope x)
  (hi:X.N[i]? =some n)(hil:X.env.scope.names.lookup n=some .local)(hj:X.N[j]? =some y)(hjl:X.env.scope.names.lookup y=some .local)(hgS:Gl X S)
  (fn:∀pins σ H s,Inv X pins σ H s->a3L fl s.heap)(clo:a7V X B fl o G₀)
  (hdx:(x==("__debug__":Str))=false:=by decide)(hcdx:(x==("__classdict__":Str))=false:=by decide)(hdS:(S==("__debug__":Str))=false:=by decide)(hdn:(n==("__debug__":Str))=false:=by decide)(hcdn:(n==("__classdict__":Str))=false:=by decide)
  (hsw:swapsWith (.Name n np) (some (.Name y yp)) apos.line X.env=pure false:=by rfl)(hsw2:swapsWith (.Call (.Name x cp) [] [] cpos) none epos.line X.env=pure false:=by rfl):
  PS X (.Try [.Expr (.Call (.Name x cp) [] [] cpos) epos] [.ExceptHandler (some (.Name S sp)) (some n) [.Assign [.Name y yp] (.Name n np) apos] hpos] [] [] tpos) (b8v X B names fl i0 i j o G₀):=by
 intro pins s σ H D I ⟨hσ,hH,env,rl,hN0,hX0⟩;subst hH;refine wpAny_Try_except ?_
 refine wpAny_execs_cons (wpAny_Expr_any ?_ I.quiet hsw2);refine Ur ?_
 have name:=fun(W:OE)=>a6P (X:=X.wish W) (pos:=cp) h0 hv hdx hcdx pins s σ X.H₀ (fun v H'=>v=.ref fl/\H'=X.H₀) (I.wish W) ⟨_,hσ,rfl,rfl⟩
 refine Zn (name fun _ _=>False) (fun u s1 ⟨v,H1,I1,r1,q1,q2⟩=>?_) fun _ _ z=>False.elim z
 subst q1;subst q2;cases (show u=Value.ref fl from r1)
 have I1:=I1.unwish
 refine callWith_of (P:=a3L fl) rfl (fun h p=>b8u h p) (evalArgs_nil3 ⟨fn pins σ _ s1 I1,?_⟩)
 refine wpAny_call (Xl (clo pins s1 σ env (fun _ H'=>D.nx σ H') (fun cls _ H'=>∃c C G',o=some c/\nsIn X.K mainGlobals c=some (some (.ref C))/\cls=.ref C/\Ev X.K B G₀ σ env _ G' σ env H') I1 rl (fun z v G' H' ev=>hN0 z G' H' ev) (fun c C z hC G' H' ev=>⟨c,C,G',z,hC,rfl,ev⟩)) fun r s' hq=>?_)
 cases r with
 |error ev=>exact caught hst hfr hex hx hN hi hil hj hjl hgS I1 rl hX0 hq hdS hdn hcdn hsw
 |ok f=>
  cases f with
  |next=>exact False.elim hq
  |brk=>exact False.elim hq
  |cont=>exact False.elim hq
  |ret u=>
   obtain⟨v,H',I',_,q⟩:=I1.after hq;exact Vu (Vu ⟨σ,H',I',q⟩)
end
def a7W(names:List Str)(i j:Nat)(o:Option Str):Mo Fl:=fun env=>match o with
 |none=>some (.nx,env)
 |some c=>if names.contains c then some (.nx,((env.set i (.dat (exD c))).set j (.dat (exD c))).set i .nil)else none
section
variable{S y:Str}{i0 j:Nat}{fl:Addr}{G₀:Hp}{cp cpos epos sp yp np apos hpos tpos yp0 spos0 npos0:Pos}{rest:List Stmt}{m:Mo Fl}{kk:Nat}
theorem b8x(hst:X.stack=X.env::X.outer)(hfr:X.env.frame=some X.env.locals)(hex:X.ex=[])(hx:a1J X.K S names=true)(hN:X.N.Nodup)(h0:X.N[i0]? =some x)(hv:Vis X.env.scope x)
  (hi:X.N[i]? =some n)(hil:X.env.scope.names.lookup n=some .local)(hj:X.N[j]? =some y)(hjl:X.env.scope.names.lookup y=some .local)(hij:i0≠j)(hgS:Gl X S)
  (fn:∀pins σ H s,Inv X pins σ H s->a3L fl s.heap)(clo:a7V X B fl o G₀)(hr:ESs X B rest m)
  (hdx:(x==("__debug__":Str))=false:=by decide)(hcdx:(x==("__classdict__":Str))=false:=by decide)(hdS:(S==("__debug__":Str))=false:=by decide)(hdn:(n==("__debug__":Str))=false:=by decide)(hcdn:(n==("__classdict__":Str))=false:=by decide)
  (hsw:swapsWith (.Name n np) (some (.Name y yp)) apos.line X.env=pure false:=by rfl)(hsw2:swapsWith (.Call (.Name x cp) [] [] cpos) none epos.line X.env=pure false:=by rfl)
  (hsw3:swapsWith (.Constant .none kk npos0) (some (.Name y yp0)) spos0.line X.env=pure false:=by rfl):
  PSs X (.Assign [.Name y yp0] (.Constant .none kk npos0) spos0::.Try [.Expr (.Call (.Name x cp) [] [] cpos) epos] [.ExceptHandler (some (.Name S sp)) (some n) [.Assign [.Name y yp] (.Name n np) apos] hpos] [] [] tpos::rest)
   (fun D σ H=>σ[i0]? =some (some (.ref fl))/\H=X.H₀/\∃env f env',Rel X.K B G₀ σ env H/\(q1_ (v6_ j (mC .non)) (q1_ (a7W names i j o) m)) env=some (f,env')/\Post X.K B G₀ σ env H env' D f):=by
 refine pss_imp (a3t (a3u hN hj (.inl hjl) a9X hsw3 (.inr hjl)) (a3t (b8w hst hfr hex hx hN h0 hv hi hil hj hjl hgS fn clo hdx hcdx hdS hdn hcdn hsw hsw2) hr)) ?_
 rintro D σ H ⟨hσ,hH,env,f,env',rl,e,k⟩;obtain⟨⟨f1,env1⟩,e1,e2⟩:=q4_ e;cases e1;dsimp only at e2;obtain⟨⟨f2,env2⟩,e3,e4⟩:=q4_ e2;have ev1:Ev X.K B G₀ σ env H G₀ (σ.set j (some .non)) (env.set j (.dat .non)) H:=(Ev.refl rl).setDat (i:=j) (v:=.non) (d:=.non) (by simp only[Rep])
 refine⟨by rw[Ql (Zh hij)];exact hσ,hH,_,ev1.rel,fun z G' H' ev=>?_,fun c z=>?_⟩
 ·subst z
  cases e3;exact⟨G',_,f,env',ev.rel,e4,Post.after _ _ k (ev1.trans ev)⟩
 ·subst z
  unfold a7W at e3;dsimp only at e3;split at e3
  ·rename_i hc
   cases e3;exact⟨by simpa using hc,fun σ' G' H' ev=>⟨G',_,f,env',ev.rel,e4,Post.after _ _ k (ev1.trans ev)⟩⟩
  ·cases e3
end
theorem b8y{E:XK}(hst:X.stack=X.env::X.outer)(hfr:X.env.frame=some X.env.locals)(hex:X.ex=[])
  (hxe:∀e s',wpAny (model X.prog X.w) X.A (leaving X.env e) (fun _ s''=>CXE X.prog X.w X.outer X.H₀ X.s₀ E e s'') (fun e' s''=>CXE X.prog X.w X.outer X.H₀ X.s₀ E e' s'') s'->X.xe e s'):XOk X E:=by
 refine⟨fun pins σ H s ev s' I h=>hxe _ _ ?_,fun pins σ H s h' e C vs I hm hE=>hxe _ _ ?_⟩
 ·obtain⟨e,t,C,H',Bh,rfl,os,bare,fly,un,hok,kept,thr,hE⟩:=h
  rw[hst]at fly;refine wpAny_leaves_onW (L:=X.env.locals) (by rw[I.ok.frames,hst]) hfr fly fun h2 fly2 ups=>?_
  refine a5Y hst hfr hex I os bare fly2 kept thr (fun b o q n hb=>?_) (fun b o q n=>un.free b o q n (by simp)) un.tups un.frzs un.tbls hok hE
  obtain⟨sl,q1⟩:=un.any q n (by simp)
  obtain⟨_,o1,g1,g2⟩:=I.funs.mem hb;rw[q]at g1;cases g1;obtain⟨sl2,q2⟩:=ups b _ q1 g2;exact⟨sl2,q2⟩
 ·have hs:=I.stack
  rw[hst]at hs;refine wpAny_leaves_madeW (L:=X.env.locals) (base:=hideAll s.heap (frs X.stack)) (h:=s.heap) (by rw[I.ok.frames,hst]) hfr (fun b o q=>of_hideAll _ q)
   (funFrames_hide hs fun env he b hb=>by rw[hst];exact Xo.mpr ⟨env,he,hb⟩) hm fun h2 t fly _ hn ups=>?_
  refine a5Y (s:=s) (s':={s with heap:=h2}) hst hfr hex I rfl I.bare fly (fun b o q _ hb=>Ja _ q hb) (fun b o q hb=>⟨o,Ja _ q hb⟩) (fun b o q n hb=>?_) (fun b o q n=>n) (fun _ _ q=>q) (fun _ _ _ q=>q) (fun b ps q=>⟨#[],by rw[q];simp⟩) ?_ hE
  ·obtain⟨_,o1,g1,g2⟩:=I.funs.mem hb
   rw[q]at g1;cases g1;obtain⟨sl2,q2⟩:=ups b _ (hm.keeps b o q) g2;exact⟨sl2,q2⟩
  ·exact b1t (P:=X.prog) (w:=X.w) I.hok fun b u o q1 q2=>Ja _ q2 fun z=>by rw[I.stkFree b z]at q1;cases q1
theorem a4y{B1 B2:OA}{G':Hp}{σ1' σ2:St}{env1' env2:Env'}(ev:Ev K B1 G σ1 env1 H G' σ1' env1' H')(no:∀a,¬ Owned σ1 env1 a)(rl:Rel K B2 G σ2 env2 H):Ev K B2 G σ2 env2 H G' σ2 env2 H':=by
 refine⟨⟨ev.rel.sub,rl.len,fun i d e=>?_,fun i w ds e1 e2=>?_,rl.inj,rl.fresh,fun b h=>ev.live b (rl.old b h),ev.rel.tabs,ev.rel.gnt⟩,ev.same,fun b o _ t e=>ev.keep b o (no b) t e,ev.live,fun b e _ g=>ev.stay b e (no b) g,fun a z=>.inl z,fun i w e hp=>⟨rfl,w,e,hp⟩,rfl⟩
 ·obtain⟨v,q1,q2⟩:=rl.dat i d e
  exact⟨v,q1,Rep.mono ev.same d q2⟩
 ·obtain⟨a,xs,q1,q2,q3,q4⟩:=rl.own i w ds e1 e2
  exact⟨a,xs,q1,ev.keep a _ (no a) q3.nt q2,q3.mono ev.same,ev.stay a (by rw[q2];simp) (no a) q4⟩
theorem b1y(rl:Rel K B G σ env H):Rel K a0b G [] [] H:=
 ⟨rl.sub,rfl,fun i d e=>by simp at e,fun i w ds e=>by simp at e,fun i j w w' ds es a e=>by simp at e,fun i ds a e=>by simp at e,fun b h=>h.elim,rl.tabs,rl.gnt⟩
theorem a7X:¬ Owned [] [] a:=fun⟨i,w,ds,e,_⟩=>by simp at e
def a2H(P:Program)(w:World)(K:Frag)(mg:OU)(base:Heap)(N':List Str)(q:Str)(scope:Scope)(fl:Addr)(cd:Value)(cl:List (Str×Addr))(A:Around)(outer:List Env)(s:Shared)(H:Hp)(E:XK):Cx where
 prog:=P
 w:=w
 K:=K
 mg:=mg
 base:=base
 A:=A.deeper (envX q scope s.heap.objs.size fl cd cl)
 N:=N'
 s₀:=s
 H₀:=H
 env:=envX q scope s.heap.objs.size fl cd cl
 outer:=outer
 stack:=envX q scope s.heap.objs.size fl cd cl::outer
 ex:=[]
 fn:=fun _=>false
 calm:=true
 pn:=[]
 xe:=fun e s'=>wpAny (model P w) (A.deeper (envX q scope s.heap.objs.size fl cd cl)) (leaving (envX q scope s.heap.objs.size fl cd cl) e) (fun _ s''=>CXE P w outer H s E e s'') (fun e' s''=>CXE P w outer H s E e' s'') s'
section
variable{q:Str}{fl:Addr}{outer:List Env}{E:XK}
theorem b8z:XOk (a2H P w K mg base N' q scope fl cd cl A outer s H E) E:=b8y rfl rfl rfl fun _ _ h=>h
theorem b8A{h₁:Heap}{m:OU}(e0:Env0 P w K mg base A outer s H)(hd:A.handled=none)(hk:scope.kind=.function)(hnc:∀x,scope.names.lookup x≠some .cell)
  (inj:∀x y c,cl.lookup x=some c->cl.lookup y=some c->x=y)(has:∀x,scope.names.lookup x=some .free->∃c,cl.lookup x=some c)
  (cell:∀x c,cl.lookup x=some c->(∃v,s.heap.IsCell c v)/\H c=none)
  (val:∀(i:Nat) (x:Str) (v:V),N'[i]? =some x->σ[i]? =some (some v)->Vis scope x->scope.names.lookup x=some .free/\∃c u,cl.lookup x=some c/\v4_ v u/\s.heap.IsCell c (some u))
  (hl:σ.length=N'.length)(hns:h₁.Ns s.heap.objs.size m)(kp:∀b o,s.heap.get? b=some o->h₁.get? b=some o):
  Inv (a2H P w K mg base N' q scope fl cd cl A outer s H E) [] σ H {s with heap:=h₁,toks:=tk}:=by
 have noA:∀b:Addr,b∉(a2H P w K mg base N' q scope fl cd cl A outer s H E).ex:=fun b z=>absurd (show b∈([]:List Addr)from z) (by simp)
 refine⟨⟨e0.mod,hk,rfl,rfl,Qb _,inj,fun y hy=>?_,fun y c z=>absurd (show(false:Bool)=true from z) (by decide),fun _=>hd,Around.frames_deeper e0.frames,.inr ⟨rfl,rfl⟩,fun b z=>absurd z (noA b),e0.bs,e0.bsz,fun b _ _=>noA b,fun b z=>absurd z (noA b),e0.funs,e0.frf⟩,
  rfl,e0.bare,Un.kept kp,⟨_,hns,fun i x v h1 h2 h3=>?_⟩,fun x c e=>?_,e0.hok.fresh (Qb _),fun x c e=>(cell x c e).2,fun p hp=>absurd (show p∈([]:OX)from hp) (by simp),e0.hok.kept kp,hl⟩
 ·rcases hy with hy|hy
  ·exact absurd hy (hnc y)
  ·exact has y hy
 ·obtain⟨k,c,u,g1,g2,g3⟩:=val i x v h1 h2 h3
  exact⟨u,g2,.inr ⟨.inr k,c,g1,g3.keeps kp⟩⟩
 ·obtain⟨⟨v,z⟩,_⟩:=cell x c e
  exact⟨v,z.keeps kp⟩
end
structure LamAt(K:Frag)(params:Arguments)(body:Expr)(scope:Scope)(N':List Str)(lq:Str)(fl c':Addr)(cl:List (Str×Addr))(σ:St)(s₁:Shared)(H₁:Hp)(outer₁:List Env):Prop where
 obj:∃pm ctv,s₁.heap.get? fl=some (kla_obj "<lambda>" lq params body scope cl pm c' ctv)
 free:H₁ fl=none
 nfr:fl∉frs outer₁
 code:∃φ,H₁ c'=some (.ext φ)/\∀h:Heap,φ h->h.CodeRec (.ref c') lq
 inj:∀x y c,cl.lookup x=some c->cl.lookup y=some c->x=y
 has:∀x,scope.names.lookup x=some .free->∃c,cl.lookup x=some c
 cell:∀x c,cl.lookup x=some c->(∃v,s₁.heap.IsCell c v)/\H₁ c=none/\c∉frs outer₁
 val:∀(i:Nat) (x:Str) (v:V),N'[i]? =some x->σ[i]? =some (some v)->Vis scope x->scope.names.lookup x=some .free/\∃c u,cl.lookup x=some c/\v4_ v u/\s₁.heap.IsCell c (some u)
 len:σ.length=N'.length
def a7Y(P:Program)(w:World)(K:Frag)(mg:OU)(base:Heap)(kc:Nat)(fl:Addr)(s₁:Shared)(H₁:Hp)(outer₁:List Env)(o:Option Str)(G:Hp):Prop:=
 (∀(H':Hp) (s:Shared),Un (frs outer₁) [] H₁ H' s₁.heap s.heap->a3L fl s.heap)/\
 ∀(A:Around) (outer:List Env) (s:Shared) (Q:VK) (E:XK),Room kc A->Env0 P w K mg base A outer s H₁->Un (frs outer₁) [] H₁ H₁ s₁.heap s.heap->
  (o=none->∀v G' H',Ev K a0b G [] [] H₁ G' [] [] H'->Q v H')->
  (∀n C,o=some n->nsIn K mainGlobals n=some (some (.ref C))->∀G' H',Ev K a0b G [] [] H₁ G' [] [] H'->E (.ref C) none H')->
  codeAny (model P w) A (.call (.ref fl) ⟨[],[]⟩) (CR (CXE P w) outer P w H₁ s Q E) s
def outcome(names:List Str)(mb:Mo D)(xb:Mx)(env:Env'):Option (Option Str):=match xb env with
 |some n=>if names.contains n then some (some n)else none
 |none=>(mb env).map fun _=>none
theorem b8B{lq:Str}{fl c':Addr}{H₁:Hp}{outer₁:List Env}{lw:Env'}{mb:Mo D}{xb:Mx}
  (L:LamAt K params body scope N' lq fl c' cl σ s₁ H₁ outer₁)(hk:scope.kind=.function)(hco:scope.isCoroutine=false)(hgen:scope.isGenerator=false)(hnc:∀x∈scope.names,x.2≠.cell)
  (hbind:∀pm ctv,bindArgs (kla_fn "<lambda>" lq params body scope cl pm (.ref c') ctv) ⟨[],[]⟩=pure [])
  (rl:Rel K (fun b=>H₁ b≠none) G σ lw H₁)(no:∀a,¬ Owned σ lw a){S:Str}(hex:a1J K S names=true)(ho:outcome names mb xb lw=some o)
  (hb:∀(A:Around) (outer:List Env) (s:Shared) (E:XK),Room kc (A.deeper (envX lq scope s.heap.objs.size fl (.ref c') cl))->ED (a2H P w K mg base N' lq scope fl (.ref c') cl A outer s H₁ E) (fun b=>H₁ b≠none) body mb)
  (hx:∀(A:Around) (outer:List Env) (s:Shared) (E:XK),Room kc (A.deeper (envX lq scope s.heap.objs.size fl (.ref c') cl))->EDx (a2H P w K mg base N' lq scope fl (.ref c') cl A outer s H₁ E) (fun b=>H₁ b≠none) E body xb):
  a7Y P w K mg base (kc+1) fl s₁ H₁ outer₁ o G:=by
 obtain⟨pm,ctv,hobj⟩:=L.obj;have hnc':∀x,scope.names.lookup x≠some .cell:=fun x z=>hnc _ (Zj z) rfl
 refine⟨fun H' s un=>⟨_,_,un.keep fl _ hobj L.free L.nfr (by simp),rfl⟩,fun A outer s Q E hr e0 un hN hX=>?_⟩
 have cellK:∀x c v,cl.lookup x=some c->s₁.heap.IsCell c v->s.heap.IsCell c v:=fun x c v e ⟨oc,h1,h2⟩=>⟨oc,un.keep c oc h1 (L.cell x c e).2.1 (L.cell x c e).2.2 (by simp),h2⟩
 have hcd:s.heap.CodeRec (.ref c') lq:=by
  obtain⟨φ,h1,h2⟩:=L.code;exact h2 _ (e0.hok c' _ h1).1
 have lim:s.heap.NoLimit:=e0.mod.nolimit.keeps fun b o e=>(e0.bs b o e).1
 refine kla_callFunE hr.depth (un.keep fl _ hobj L.free L.nfr (by simp)) rfl hco hgen rfl hcd ?_
 rw[hbind];refine Qj (wpAny_newFunctionEnv hnc (fun x z=>by simp at z) (fun h₁ hns hsb=>⟨lim.fresh _ hsb,?_⟩) hk)
 show codeAny _ _ (.expr body (envX lq scope s.heap.objs.size fl (.ref c') cl)) _ _;have kp:∀b o,s.heap.get? b=some o->h₁.get? b=some o:=fun b o e=>hsb.extBut b o (Qi (Qg e)) (Qx _ e)
 have I:Inv (a2H P w K mg base N' lq scope fl (.ref c') cl A outer s H₁ E) [] σ H₁ {s with heap:=h₁,toks:=s.toks+([]:List (Str×Value)).length}:=by
  refine b8A e0 hr.hd hk hnc' L.inj L.has (fun x c e=>?_) (fun i x v h1 h2 h3=>?_) L.len hns kp
  ·obtain⟨⟨v,z⟩,z2,_⟩:=L.cell x c e
   exact⟨⟨v,cellK x c v e z⟩,z2⟩
  ·obtain⟨k,c,u,g1,g2,g3⟩:=L.val i x v h1 h2 h3
   exact⟨k,c,u,g1,g2,cellK x c _ g1 g3⟩
 have side:∀{G' H':Hp}{σ':St}{lw':Env'},Ev K (fun b=>H₁ b≠none) G σ lw H₁ G' σ' lw' H'->Ev K a0b G [] [] H₁ G' [] [] H':=fun ev=>a4y ev no (b1y rl)
 refine kla_codeExpr ?_
 unfold outcome at ho;cases hxb:xb lw with
 |some n=>
  rw[hxb]at ho;dsimp only at ho;split at ho
  ·rename_i hn
   cases ho;obtain⟨C,F⟩:=a3K hex (by simpa using hn)
   exact Zn (hx A outer s E (hr.deeper _) [] _ σ H₁ (fun _ _=>False) I ⟨G,lw,n,rl,hxb,C,F.nm,fun σ' G' env' H' ev=>hX n C rfl F.nm G' H' (side ev)⟩) (fun v s' ⟨_,_,_,_,z⟩=>z.elim) fun _ _ z=>z
  ·cases ho
 |none=>
  rw[hxb]at ho;obtain⟨⟨d,lw'⟩,e1,e2⟩:=x2_ ho;cases e2;refine Zn (hb A outer s E (hr.deeper _) [] _ σ H₁ Q I ⟨G,lw,d,lw',rl,e1,fun v G' H' ev rp=>hN rfl v G' H' (side ev)⟩) (fun v s' ⟨x,H',J,rv,z⟩=>?_) fun _ _ z=>z
  exact⟨x,H',J.os,J.bare,J.base,J.hok,rv,z⟩
theorem b8C{c P:Addr}{q:Str}(h1:codeHdIn K c P=true)(h2:codeIn K (.ref c) qual=true)(h3:tabQ K P q=true):q=qual:=by
 unfold codeHdIn at h1;unfold codeIn at h2;split at h1
 ·rename_i vs _ hk
  have m:=Qw.mp h3 _ (mem_of_lookupK hk)
  simp only[hk]at h2;simp only[Qp]at h1;obtain⟨⟨⟨⟨⟨e1,_⟩,_⟩,_⟩,_⟩,_⟩:=h1
  replace m:((match (vs[11]? :Option Value)with|some (.ref P')=>P' !=P|_=>true)||(match vs.toList with|_::.str n _::_=>n==q|_=>false))=true:=by
   split at m
   ·rename_i heq;cases heq;exact m
   ·rename_i hne;exact absurd rfl (hne _ _ _)
  split at e1
  ·rename_i P' h11
   have hP:P'=P:=Ju.mp e1
   subst hP;rw[h11]at m;simp only[bne_self_eq_false,Bool.false_or]at m;split at h2
   ·rename_i n t r hl
    simp only[hl]at m;rw[←Ju.mp m,←Ju.mp h2]
   ·cases h2
  ·cases e1
 ·cases h1
def a2h(mg:OU)(base:Heap):Prop:=∃bm o,mg "__builtins__"=some (.ref bm)/\bm≠builtinsNs/\bm≠mainGlobals/\base.get? bm=some o/\o.cls=.type "module"/\o.dict=some builtinsNs/\o.data=.plain
theorem b8D{l:List Value}(h:TriplesOk l):l=[]∨ ∃a t b u d rest,l=.int a t::.int b u::d::rest/\TriplesOk rest:=by
 cases l with
 |nil=>exact .inl rfl
 |cons x l=>
  cases x<;>first|exact False.elim h|skip
  cases l with
  |nil=>exact False.elim h
  |cons y l=>
   cases y<;>first|exact False.elim h|skip
   cases l with
   |nil=>exact False.elim h
   |cons d rest=>exact .inr ⟨_,_,_,_,_,_,rfl,h⟩
theorem b1z{M:List Value->Prop}(h0:M [])(h1:∀a t b u d rest,TriplesOk rest->M rest->M (.int a t::.int b u::d::rest))(l:List Value)(h:TriplesOk l):M l:=by
 have:∀(n:Nat) (l:List Value),l.length≤n->TriplesOk l->M l:=by
  intro n
  induction n with
  |zero=>
   intro l hl h;cases l with
   |nil=>exact h0
   |cons x l=>exact absurd hl (Nat.not_succ_le_zero _)
  |succ n ih=>
   intro l hl h
   rcases b8D h with rfl|⟨a,t,b,u,d,rest,rfl,hr⟩
   ·exact h0
   ·exact h1 _ _ _ _ _ _ hr (ih rest (by simp only[Jg]at hl;omega) hr)
 exact this l.length l (Qb _) h
theorem b8E(l:List Value){a b:Int}{t u:Tok}(h:TriplesOk l):TriplesOk (l++[.int a t,.int b u,c]):=
 b1z (M:=fun l=>TriplesOk (l++[.int a t,.int b u,c])) trivial (fun _ _ _ _ _ _ _ ih=>ih) l h
theorem b8F(l:List Value){pos':Pos}{v:Value}(hk:TriplesOk l):codeAmong pos' (l++[rawInt pos.line,rawInt pos.col,c])=some v->codeAmong pos' l=some v∨v=c:=by
 refine b1z (M:=fun l=>codeAmong pos' (l++[rawInt pos.line,rawInt pos.col,c])=some v->codeAmong pos' l=some v∨v=c) (fun h=>?_) (fun a t b u d rest _ ih h=>?_) l hk
 ·change (if(pos.line:Int)==pos'.line&&(pos.col:Int)==pos'.col then some c else none)=some v at h
  split at h
  ·cases h;exact .inr rfl
  ·cases h
 ·change (if a==pos'.line&&b==pos'.col then some d else codeAmong pos' (rest++[rawInt pos.line,rawInt pos.col,c]))=some v at h
  show(if a==pos'.line&&b==pos'.col then some d else codeAmong pos' rest)=some v∨v=c
  split at h
  ·rename_i z;rw[Qh z];exact .inl h
  ·rename_i z;rw[Qm z];exact ih h
section
variable{P c:Addr}{ps:Array Value}
structure Made(X:Cx)(pins:OX)(σ:St)(H:Hp)(s:Shared)(P:Addr)(qual:Str)(params:Arguments)(body:Expr)(scope:Scope)(cl:List (Str×Addr))(fl c':Addr)(H1:Hp)(s1:Shared):Prop where
 inv:Inv X pins σ H1 s1
 ev:∀(B:OA) (G:Hp) (env:Env'),Rel X.K B G σ env H->Ev X.K B G σ env H G σ env H1
 obj:∃pm ctv,s1.heap.get? fl=some (kla_obj "<lambda>" (lamQ qual) params body scope cl pm c' ctv)
 new:s.heap.objs.size≤fl
 free:H1 fl=none
 code:H1 c'=some (LamC X.K P c')
 keep:∀b o,H b=none->s.heap.get? b=some o->s1.heap.get? b=some o/\H1 b=none
theorem b8G{Q:OE}(I:Inv X pins σ H s)(hcode:X.env.code=.ref c)(hc:codeHdIn X.K c P=true)(hq:codeIn X.K (.ref c) qual=true)(htq:tabQ X.K P qual=true)(henv:X.env.qual=qual++".<locals>.")
  (bm:a2h X.mg X.base)(hP:H P=some (.tbl ps))(tabs:TabsOk X.K H)(hcl:closureFor scope X.env=pure cl)(hdef:defaultsOf params X.env=([],[]))
  (h:∀fl c' H1 s1,Made X pins σ H s P qual params body scope cl fl c' H1 s1->Q (.ref fl) s1):wpAny M A (eval (.Lambda params body scope pos) X.env) Q E s:=by
 obtain⟨ht,hent⟩:=tabs P ps hP;have hPo:s.heap.get? P=some (tabObj ps):=I.hok P _ hP;have C:=codeHd_of_K I.kIn hc;have nbase:∀{b o},X.base.get? b=some o->b≠P:=fun{b o} e z=>by rw[z]at e;have:=(I.bs P o e).2;rw[hP]at this;cases this
 have hgs:s.heap.Ns mainGlobals X.mg:=I.mod.glob.keeps I.bk
 have hgP:mainGlobals≠P:=by
  obtain⟨o,_,_,e,_⟩:=I.mod.glob;exact nbase e
 obtain⟨b,ob,b1,b2,b3,b4,b5,b6,b7⟩:=bm;have hB:s.heap.BuiltinsAt X.mg P:=⟨b,ob,b1,b2,b3,nbase b4,I.bk _ _ b4,b5,b6,b7⟩;have hlq:X.env.qual++"<lambda>"=lamQ qual:=by rw[henv];rfl
 refine kla_eval hdef ?_
 rw[hlq];cases hca:codeAmong pos ps.toList with
 |some cv=>
  obtain⟨c',rfl,hc'⟩:=hent pos cv hca;refine kla_makeFunctionHit hcl I.ok.glob hgs hcode C hPo ht hca hB fun ctv h' tk hk hsz=>?_
  have kp:∀b o,s.heap.get? b=some o->(h'.push ({cls:=.type "function",data:=.func (kla_fn "<lambda>" (lamQ qual) params body scope cl ((X.mg "__name__").getD .none) (.ref c') ctv)}:Obj)).get? b=some o:=fun b o e=>Qx _ (hk b o e)
  refine h h'.objs.size c' H _ ⟨?_,fun B G env rl=>.refl rl,⟨_,_,Qu _ rfl⟩,hsz,I.hok.fresh hsz,hc',fun b o n e=>⟨kp b o e,n⟩⟩
  exact I.kept kp
 |none=>
  refine kla_makeFunction hcl I.ok.glob hgs hcode C hPo ht hca hgP hB fun c' ctv h' tk hx hge hlt hrec htb=>?_
  have hfsz:s.heap.objs.size≤h'.objs.size:=Up (Tz hge hlt)
  have hPc:P≠c':=Qi (Qr (Qg hPo) hge)
  have hnc:H c'=none:=I.hok.fresh hge
  have hcf:c'≠h'.objs.size:=Qi hlt
  have hPf:P≠h'.objs.size:=Qi (Qr (Qg hPo) hfsz)
  have get1:∀{b},(upd (upd H P (.tbl (ps++ #[rawInt pos.line,rawInt pos.col,.ref c']))) c' (LamC X.K P c')) b=if b=c' then some (LamC X.K P c')else if b=P then some (.tbl (ps++ #[rawInt pos.line,rawInt pos.col,.ref c']))else H b:=fun{b}=>rfl
  have kp:∀b o,b≠P->s.heap.get? b=some o->(h'.push (kla_obj "<lambda>" (lamQ qual) params body scope cl ((X.mg "__name__").getD .none) c' ctv)).get? b=some o:=fun b o n e=>Qx _ (hx b o n e)
  have other:∀{b u},H b=some u->b≠P->(upd (upd H P (.tbl (ps++ #[rawInt pos.line,rawInt pos.col,.ref c']))) c' (LamC X.K P c')) b=some u:=fun{b u} e n=>by
   rw[v0_ (u5_ e hnc),v0_ n];exact e
  have free1:∀{b o},H b=none->s.heap.get? b=some o->(upd (upd H P (.tbl (ps++ #[rawInt pos.line,rawInt pos.col,.ref c']))) c' (LamC X.K P c')) b=none:=fun{b o} n e=>by
   rw[v0_ (Qi (Qr (Qg e) hge)),v0_ (fun z=>by rw[z,hP]at n;cases n)];exact n
  have tab1:TabsOk X.K (upd (upd H P (.tbl (ps++ #[rawInt pos.line,rawInt pos.col,.ref c']))) c' (LamC X.K P c')):=by
   intro P2 ps2 e2;rw[get1]at e2;split at e2
   ·cases e2
   ·split at e2
    ·rename_i z
     subst z;cases e2;refine⟨by rw[Array.toList_append];exact b8E _ ht,fun p v e=>?_⟩
     rw[Array.toList_append]at e
     rcases b8F _ ht e with q|q
     ·obtain⟨a,q1,q2⟩:=hent p v q
      exact⟨a,q1,other q2 (fun z=>by rw[z,hP]at q2;cases q2)⟩
     ·exact⟨c',q,x0_⟩
    ·obtain⟨q1,q2⟩:=tabs P2 ps2 e2
     refine⟨q1,fun p v e=>?_⟩
     obtain⟨a,q3,q4⟩:=q2 p v e;exact⟨a,q3,other q4 (fun z=>by rw[z,hP]at q4;cases q4)⟩
  have live1:∀b,H b≠none->(upd (upd H P (.tbl (ps++ #[rawInt pos.line,rawInt pos.col,.ref c']))) c' (LamC X.K P c')) b≠none:=fun b e=>by
   rw[get1];split
   ·simp
   ·split
    ·simp
    ·exact e
  refine h h'.objs.size c' _ _ ⟨?_,fun B G env rl=>?_,⟨_,_,Qu _ rfl⟩,hfsz,?_,x0_,fun b o n e=>⟨kp b o (fun z=>by rw[z,hP]at n;cases n) e,free1 n e⟩⟩
  ·refine I.un (h':=h'.push (kla_obj "<lambda>" (lamQ qual) params body scope cl ((X.mg "__name__").getD .none) c' ctv)) (t':=tk) ⟨fun b o e n _ _=>?_,fun b o e n _ _=>⟨o.slots,?_⟩,fun b o e n _=>free1 n e,fun b o e _=>?_,fun b xs e=>?_,fun b o u e=>?_,fun b ps2 e=>?_⟩ fun b u e=>?_
   ·exact kp b o (fun z=>by rw[z,hP]at n;cases n) e
   ·exact kp b o (fun z=>by rw[z,hP]at n;cases n) e
   ·by_cases z:b=P
    ·subst z;exact⟨_,Qx _ htb⟩
    ·exact⟨o,kp b o z e⟩
   ·exact other e (fun z=>by rw[z,hP]at e;cases e)
   ·exact other e (fun z=>by rw[z,hP]at e;cases e)
   ·by_cases z:b=P
    ·subst z
     rw[hP]at e;cases e;exact⟨#[rawInt pos.line,rawInt pos.col,.ref c'],by rw[v0_ hPc,x0_]⟩
    ·exact⟨#[],by rw[other e z];simp⟩
   ·rw[get1]at e
    split at e
    ·rename_i z
     subst z;cases e;have hrec2:=hrec.push (kla_obj "<lambda>" (lamQ qual) params body scope cl ((X.mg "__name__").getD .none) b ctv);obtain⟨c2,oc,vs,t,e2,hoc,hd,hv⟩:=id hrec2;cases e2;refine⟨fun q hq2=>?_,⟨oc,hoc⟩,fun h1 h2 p k q hq2=>?_⟩
     ·rw[b8C hc hq hq2];exact hrec2
     ·obtain⟨c3,oc3,vs3,t3,e3,g1,g2⟩:=p q hq2
      cases e3;exact⟨_,oc3,vs3,t3,rfl,k oc3 g1,g2⟩
    ·split at e
     ·rename_i z
      subst z;cases e;exact Qx _ htb
     ·rename_i z1 z2
      refine(I.hok b u e).stay (fun b2 o2 hb q=>kp b2 o2 (fun z=>?_) q) (fun b2 q=>other q (fun z=>by rw[z,hP]at q;cases q)) fun b2 xs q=>other q (fun z=>by rw[z,hP]at q;cases q)
      rcases hb with hb|hb
      ·exact z2 (hb.symm.trans z)
      ·rw[z,hP]at hb;cases hb
  ·refine⟨⟨fun b o e=>?_,rl.len,rl.dat,fun i wv ds e1 e2=>?_,rl.inj,rl.fresh,fun b hb=>live1 b (rl.old b hb),tab1,rl.gnt⟩,Le.refl,fun b o _ nt e=>?_,live1,fun b e _ g=>g,fun a z=>.inl z,fun i w e hp=>⟨rfl,w,e,hp⟩,rfl⟩
   ·exact other (rl.sub b o e) (fun z=>by have q:=rl.sub b o e;rw[z,hP]at q;cases q;exact rl.gnt b _ e _ rfl)
   ·obtain⟨a,xs,q1,q2,q3,q4⟩:=rl.own i wv ds e1 e2
    exact⟨a,xs,q1,other q2 (fun z=>by rw[z,hP]at q2;cases q2;exact q3.nt _ rfl),q3,q4⟩
   ·exact other e (fun z=>by rw[z,hP]at e;cases e;exact nt _ rfl)
  ·rw[v0_ (Zh hcf),v0_ (Zh hPf)];exact I.hok.fresh hfsz
end
theorem b8H{CX:CXT}{f:Addr}{name:Str}{body:List Stmt}{dV kV doc pm cdv ct oc:Value}{an od:Option Addr}
  {osl:Array (Option Value)}(lk:K.lookup f=some ⟨oc,od,.func (fnOf name qual params body scope dV kV doc pm an cdv ct),osl⟩)(hcd:codeIn K cdv qual=true)(S:FnScope N ps scope)
  {outer:List Env}{args:Args}{us:List Value}{vs:List V}{Q:VK}{E:XK}(hr:Room (k+1) A)(e0:Env0 P w K mg base A outer s H)(hb:BindsTo s (fnOf name qual params body scope dV kV doc pm an cdv ct) args (ps.zip us))(r:v2_ vs us)(hl:vs.length=ps.length)
  (hbody:Room k (A.deeper (envOfC qual scope s.heap.objs.size f cdv))->∃t,PSs (g7_ CX P w K mg base N qual scope f cdv A outer s H E) body t/\t {nx:=fun _ H'=>Q .non H',rt:=Q} (start N vs) H):
  codeAny (model P w) A (.call (.ref f) args) (CR CX outer P w H s Q E) s:=by
 have KX:K.In s.heap:=e0.mod.kin.keeps fun b o e=>(e0.bs b o e).1
 have lim:s.heap.NoLimit:=e0.mod.nolimit.keeps fun b o e=>(e0.bs b o e).1
 have hkind:∀y∈ps.zip us,scope.names.lookup y.1=some .local∨(scope.names.lookup y.1=some .cell/\((cellsFrom (s.heap.objs.size+1) scope.names []).lookup y.1).isSome=true):=fun⟨n,v⟩ hy=>by
  rcases S.par n (Vb hy).1 with q|q
  ·exact .inl q
  ·exact .inr ⟨q,cellsFrom_some _ _ _ (.inl q)⟩
 refine codeAny_call_function hr.depth (KX _ _ lk) rfl S.co S.gen rfl (codeRec_of KX hcd) (hb _ _ _ _ ?_);refine wpAny_newFunctionEnv_cells S.kind hkind fun env he s1 x=>?_
 subst he;refine⟨lim.keeps x.toInCall.keep,codeAny_func ?_⟩;obtain⟨t,ht,hq⟩:=hbody (hr.deeper _);have I:Inv (g7_ CX P w K mg base N qual scope f cdv A outer s H E) [] (start N vs) H s1:=b0u S hr.hd e0 hl r x;refine Zn (ht [] s1 (start N vs) H _ I hq) (fun fl s' hs=>?_) fun e s' hs=>hs
 have fin:∀{σ':St}{H':Hp}{v:V}{u:Value},Inv (g7_ CX P w K mg base N qual scope f cdv A outer s H E) [] σ' H' s'->v4_ v u->Q v H'->CE outer P w H s Q u s':=
  fun{σ' H' v u} J rv q=>⟨v,H',J.os,J.bare,J.base,J.hok,rv,q⟩
 cases fl with
 |ret u=>
  obtain⟨v,σ',H',J,rv,q⟩:=hs;exact fin J rv q
 |next=>
  obtain⟨σ',H',J,q⟩:=hs;exact fin (v:=V.non) (u:=Value.none) J rfl q
 |brk=>
  obtain⟨_,_,_,q⟩:=hs;exact False.elim q
 |cont=>
  obtain⟨_,_,_,q⟩:=hs;exact False.elim q
structure RefDef(P:Program)(w:World)(K:Frag)(mg:OU)(base:Heap)(x:Str)(k kc:Nat)(fr:Option Str->Option D):Prop where
 ex:∃f:Addr,mg x=some (.ref f)/\keepIn K (.ref f)=true/\∀(A:Around) (outer:List Env) (s:Shared) (H:Hp) (fl:Addr) (o:Option Str) (G:Hp) (Q:VK),Room k A->Env0 P w K mg base A outer s H->a7Y P w K mg base kc fl s H outer o G->Rel K a0b G [] [] H->
  (∃d,fr o=some d/\∀v G' H',Ev K a0b G [] [] H G' [] [] H'->Rep K G' v d->Q v H')->codeAny (model P w) A (.call (.ref f) ⟨[.ref fl],[]⟩) (CR CX0 outer P w H s Q E0) s
def a7Z(N:Nat)(mb:Option Str->Mo Fl)(o:Option Str):Option D:=match mb o (List.replicate N .nil)with
 |some (.ret d,_)=>some d
 |some (.nx,_)=>some .non
 |_=>none
theorem b8I{B':OA}{σ':St}(rl:Rel K B G σ env H)(old:∀b,B' b->H b≠none):Rel K B' G σ' (List.replicate σ'.length .nil) H:=by
 have nn:∀{i:Nat}{w:W},(List.replicate σ'.length W.nil)[i]? =some w->w=.nil:=fun{i w} e=>by
  rw[Jr]at e;split at e
  ·cases e;rfl
  ·cases e
 exact⟨rl.sub,by simp,(fun i d e=>by cases nn e),(fun i w ds e1 e2=>by rw[nn e1]at e2;cases e2),(fun i j w w' ds es a e1 e2=>by rw[nn e1]at e2;cases e2),(fun i w a e eo=>by rw[nn e]at eo;cases eo),old,rl.tabs,rl.gnt⟩
theorem b8J{n:Nat}:¬ Owned σ (List.replicate n .nil) a:=fun⟨i,w,ds,e1,e2,_⟩=>by
 rw[Jr]at e1;split at e1
 ·cases e1;cases e2
 ·cases e1
theorem b8K{v:V}(h:1≤N.length):(start N [v]).length=N.length:=by
 unfold start;simp only[Qt,Qv,Yk,Jg,List.length_nil]
 omega
theorem b8L{p1:Str}{st:Stmt}{f:Addr}{mb:Option Str->Mo Fl}(F:Fun K x qual st f fd)(S:FnScope N [p1] (y0_ st))(hm:mg x=some (.ref f))(hbi:a0x K fd [p1] [])(hkc:kc≤k)
  (hb:∀(cdv:Value) (A:Around) (outer:List Env) (s:Shared) (H:Hp) (E:XK) (fl:Addr) (o:Option Str) (G:Hp),Room k (A.deeper (envOfC qual (y0_ st) s.heap.objs.size f cdv))->
   (∀pins σ H' s',Inv (g7_ CX0 P w K mg base N qual (y0_ st) f cdv A outer s H E).nox pins σ H' s'->a3L fl s'.heap)->a7V (g7_ CX0 P w K mg base N qual (y0_ st) f cdv A outer s H E).nox (fun b=>H b≠none) fl o G->
   PSs (g7_ CX0 P w K mg base N qual (y0_ st) f cdv A outer s H E).nox (a1f st) (fun D σ H'=>σ[0]? =some (some (.ref fl))/\H'=H/\∃env fw env',Rel K (fun b=>H b≠none) G σ env H'/\mb o env=some (fw,env')/\Post K (fun b=>H b≠none) G σ env H' env' D fw)):
  RefDef P w K mg base x (k+1) kc (a7Z N.length mb):=by
 have hN:1≤N.length:=by have:=Ys List.length S.pre;rw[Jp]at this;simp only[Jg,List.length_nil]at this;omega
 refine⟨f,hm,F.kp,fun A outer s H fl o G Q hr e0 clo rl hfr=>?_⟩
 obtain⟨oc,od,kV,doc,pm,an,cdv,ct,osl,rfl,lk,hcd⟩:=F.ex;obtain⟨d,hd,hQ⟩:=hfr;have KX:K.In s.heap:=e0.mod.kin.keeps fun b o e=>(e0.bs b o e).1
 refine b8H (us:=[.ref fl]) (vs:=[.ref fl]) lk hcd S hr e0 ?_ (.cons rfl .nil) rfl fun hr'=>?_
 ·have:=hbi s [.ref fl] KX rfl
  simpa using this
 ·have un0:∀{pins:OX}{σ:St}{H':Hp}{s':Shared},Inv (g7_ CX0 P w K mg base N qual (y0_ st) f cdv A outer s H E0).nox pins σ H' s'->Un (frs outer) [] H H' s.heap s'.heap:=fun I=>I.base
  have q:=hb cdv A outer s H E0 fl o G hr' (fun pins σ H' s' I=>clo.1 H' s' (un0 I)) (fun pins s' σ env Q' E' I rl' hN' hX'=>?_)
  ·refine⟨_,q.nox,?_⟩
   have rl0:Rel K (fun b=>H b≠none) G (start N [.ref fl]) (List.replicate N.length .nil) H:=by
    have:=b8I (B':=fun b=>H b≠none) (σ':=start N [.ref fl]) rl (fun b h=>h)
    rwa [b8K hN]at this
   have side:∀{G' H':Hp}{σ':St}{env':Env'},Ev K (fun b=>H b≠none) G (start N [.ref fl]) (List.replicate N.length .nil) H G' σ' env' H'->Ev K a0b G [] [] H G' [] [] H':=fun ev=>a4y ev (fun a=>b8J) rl
   unfold a7Z at hd;split at hd
   ·rename_i d' env' em
    cases hd;exact⟨by rw[a1j (by simp)];rfl,rfl,_,_,env',rl0,em,fun v σ' G' H' ev rp=>hQ v G' H' (side ev) rp⟩
   ·rename_i env' em
    cases hd;exact⟨by rw[a1j (by simp)];rfl,rfl,_,_,env',rl0,em,fun σ' G' H' ev=>hQ .non G' H' (side ev) (by simp only[Rep])⟩
   ·cases hd
  ·exact clo.2 _ _ s' Q' E' (hr'.mono hkc) I.env0 (un0 I) (fun z v G' H' ev=>hN' z v G' H' (a4y ev (fun a=>a7X) rl')) fun n C z hC G' H' ev=>hX' n C z hC G' H' (a4y ev (fun a=>a7X) rl')
def b8M(k:Bool)(w:W):W:=if k then(match w with|.dat d=>.dat d|_=>.nil)else .nil
def a2I(keep:List Bool)(env:Env'):Env':=List.zipWith b8M keep env
theorem a8a{keep:List Bool}{w:W}(h:(a2I keep env)[i]? =some w)(hw:w≠.nil):∃d,w=.dat d/\keep[i]? =some true/\env[i]? =some (.dat d):=by
 unfold a2I at h;rw[Jh]at h;cases e1:keep[i]? with
 |none=>rw[e1]at h;cases h
 |some k=>
  cases e2:env[i]? with
  |none=>rw[e1,e2]at h;cases h
  |some w0=>
   rw[e1,e2]at h;cases k with
   |false=>cases h;exact absurd rfl hw
   |true=>
    cases w0 with
    |dat d=>cases h;exact⟨d,rfl,rfl,rfl⟩
    |nil=>cases h;exact absurd rfl hw
    |own _=>cases h;exact absurd rfl hw
    |par _=>cases h;exact absurd rfl hw
    |ownD _ _=>cases h;exact absurd rfl hw
    |parD _ _=>cases h;exact absurd rfl hw
    |ownX _ _=>cases h;exact absurd rfl hw
    |parX _ _=>cases h;exact absurd rfl hw
theorem b8N{keep:List Bool}(rl:Rel K B G σ env H)(hk:keep.length=σ.length):Rel K (fun b=>H b≠none) G (u1_ keep 0 σ) (a2I keep env) H:=by
 have nm:∀(w:W) (es:Mu),w.mut=some es->w≠.nil:=fun w es h z=>by rw[z]at h;cases h
 have no:∀(i:Nat) (w:W) (ds:Mu),(a2I keep env)[i]? =some w->w.mut=some ds->False:=fun i w ds e1 e2=>by
  obtain⟨d,z,_⟩:=a8a e1 (nm w ds e2);rw[z]at e2;cases e2
 refine⟨rl.sub,?_,fun i d e=>?_,fun i w ds e1 e2=>(no i w ds e1 e2).elim,fun i j w w' ds es a e1 e2=>(no i w ds e1 e2).elim,fun i w a e eo=>(let ⟨m,q⟩:=own_mut eo;no i _ m e q).elim,fun b h=>h,rl.tabs,rl.gnt⟩
 ·unfold a2I u1_
  rw[Qt,Yi,Yi,Yk,rl.len];rfl
 ·obtain⟨d',z,k1,k2⟩:=a8a e (by simp)
  cases z;obtain⟨v,e1,e2⟩:=rl.dat i d k2;exact⟨v,a4t k1 e1,e2⟩
theorem b8O{keep:List Bool}:¬ Owned σ (a2I keep env) a:=fun⟨i,w,ds,e1,e2,_⟩=>by
 have:w≠.nil:=fun z=>by rw[z]at e2;cases e2
 obtain⟨d,z,_⟩:=a8a e1 this;rw[z]at e2;cases e2
def a0E(names:List Str)(keep:List Bool)(mb:Mo D)(xb:Mx)(fr:Option Str->Option D):Mo D:=fun env=>(outcome names mb xb (a2I keep env)).bind fun o=>(fr o).map fun d=>(d,env)
structure TabF(K:Frag)(mg:OU)(base:Heap)(cd:Value)(qual:Str)(P:Addr):Prop where
 ex:∃c,cd=.ref c/\codeHdIn K c P=true/\codeIn K (.ref c) qual=true
 tq:tabQ K P qual=true
 bm:a2h mg base
section
variable{S:Str}{fr:Option Str->Option D}{P:Addr}{keep:List Bool}{mb:Mo D}{xb:Mx}{p lpos:Pos}{ps0:Array Value}
theorem a6f(Rd:RefDef X.prog X.w X.K X.mg X.base x k (kc+1) fr)(hr:Room k X.A)(hg:Gl X x)(T:TabF X.K X.mg X.base X.env.code qual P)(hq:X.env.qual=qual++".<locals>.")(hP:X.H₀ P=some (.tbl ps0))(hfn:∀y,X.fn y=true)(hx:a1J X.K S names=true)
  (ok:CompOk X N' scope keep 0)(hco:scope.isCoroutine=false)(hgen:scope.isGenerator=false)(hnc:∀x∈scope.names,x.2≠.cell)(hdef:defaultsOf params X.env=([],[]))
  (hbind:∀cl pm c' ctv,bindArgs (kla_fn "<lambda>" (lamQ qual) params body scope cl pm (.ref c') ctv) ⟨[],[]⟩=pure [])
  (hb:∀(fl c':Addr) (cl:List (Str×Addr)) (H₁:Hp) (A:Around) (outer:List Env) (s:Shared) (E:XK),Room kc (A.deeper (envX (lamQ qual) scope s.heap.objs.size fl (.ref c') cl))->ED (a2H X.prog X.w X.K X.mg X.base N' (lamQ qual) scope fl (.ref c') cl A outer s H₁ E).nox (fun b=>H₁ b≠none) body mb)
  (hxb:∀(fl c':Addr) (cl:List (Str×Addr)) (H₁:Hp) (A:Around) (outer:List Env) (s:Shared) (E:XK),Room kc (A.deeper (envX (lamQ qual) scope s.heap.objs.size fl (.ref c') cl))->EDx (a2H X.prog X.w X.K X.mg X.base N' (lamQ qual) scope fl (.ref c') cl A outer s H₁ E) (fun b=>H₁ b≠none) E body xb)
  (hdb:(x==("__debug__":Str))=false:=by decide)(he:starEach [.Lambda params body scope lpos] X.env=(false,eval (.Lambda params body scope lpos) X.env)::starEach [] X.env:=by rfl)(hpl:(backTo pos (starEach [] X.env)).any (·.1)=false:=by rfl):
  ED X B (.Call (.Name x p) [.Lambda params body scope lpos] [] pos) (a0E names keep mb xb fr):=by
 intro pins s σ H Q I ⟨G,env,d,env',rl,em,k⟩;obtain⟨o,eo,e2⟩:=q4_ em;obtain⟨d',ed,e3⟩:=x2_ e2;cases e3;obtain⟨f,hm,hkp,hrun⟩:=Rd.ex;obtain⟨more,hPs⟩:=I.base.tbls P ps0 hP;obtain⟨c,hcd,hc1,hc2⟩:=T.ex;refine Ur (a4f I hg hm ?_ hdb);refine callWith_K (h₀:=X.base) I.ok.mod.kin hkp ?_ he hpl;rw[he];show wpAny _ _ (spliced ((false,eval (.Lambda params body scope lpos) X.env)::backTo pos (starEach [] X.env))) _ _ s;refine Calls.spliced_cons (b8G I hcd hc1 hc2 T.tq hq T.bm hPs rl.tabs ok.clos hdef fun fl c' H1 s1 Md=>?_)
 refine Calls.spliced_nil ⟨Md.inv.kIn,?_⟩;have ev1:=Md.ev B G env rl;have kl:keep.length=σ.length:=by rw[ok.klen,I.len]
 have stk:∀{b},b∈frs X.stack->b<s.heap.objs.size:=fun{b} hb=>by obtain⟨_,o,g,_⟩:=I.stack.mem hb;exact Qg g
 have L:LamAt X.K params body scope N' (lamQ qual) fl c' (u0_ X.env.cells scope.names []) (u1_ keep 0 σ) s1 H1 X.stack:=by
  have sub:∀{y c},(u0_ X.env.cells scope.names []).lookup y=some c->X.env.cells.lookup y=some c:=fun{y c} z=>(a2y z).elim (fun q=>by cases q) id
  refine⟨Md.obj,Md.free,fun z=>absurd (stk z) (Nat.not_lt.mpr Md.new),⟨_,Md.code,fun h p=>p qual T.tq⟩,fun y z c q1 q2=>I.ok.inj y z c (sub q1) (sub q2),fun y z=>Yg.mp (a2Z (Zj z) (ok.free _ (Zj z) rfl)),fun y c q=>?_,fun i y v q1 q2 q3=>?_,?_⟩
  ·obtain⟨v,oc,g1,g2⟩:=I.cell y c (sub q)
   have g:=Md.keep c oc (I.freeC y c (sub q)) g1
   refine⟨⟨v,oc,g.1,g2⟩,g.2,fun z=>?_⟩
   rcases Qc.mp (I.stkSub c z)with z|z
   ·exact I.cne y c (sub q) z
   ·obtain⟨_,o2,g3,_⟩:=I.ok.funs.mem z
    exact absurd (Qg g3) (Nat.not_lt.mpr (I.ok.cab y c (hfn y) (sub q)))
  ·obtain⟨k1,k2⟩:=a3a q2
   obtain⟨h1,h2,h3⟩:=ok.kept i y k1 q1;have hfree:scope.names.lookup y=some .free:=by
    rcases q3 with z|z|z
    ·exact absurd z h2
    ·exact absurd z h3
    ·exact z
   obtain⟨m,hn,hl⟩:=I.loc;have ov:=ok.outVis i y k1 h1 hfree;obtain⟨u,r,l⟩:=hl i y v h1 k2 (.inr ov);obtain⟨c0,hc0⟩:=Yg.mp (a2Z (acc:=[]) (Zj hfree) (ok.free _ (Zj hfree) rfl));refine⟨hfree,c0,u,hc0,r,?_⟩
   rcases l with⟨kl,_⟩|⟨_,c1,hc1,oc,g1,g2⟩
   ·have kl':X.env.scope.names.lookup y=some .local:=kl
    rcases ov with z|z<;>(rw[z]at kl';cases kl')
   ·have hc0':=sub hc0
    rw[hc1]at hc0';cases hc0';exact⟨oc,(Md.keep c0 oc (I.freeC y c0 (sub hc0)) g1).1,g2⟩
  ·unfold u1_
   rw[Qt,Yi,Yk,ok.len,ok.klen,I.len];omega
 have clo:a7Y X.prog X.w X.K X.mg X.base (kc+1) fl s1 H1 X.stack o G:=
  b8B L ok.kind hco hgen hnc (fun pm ctv=>hbind _ pm c' ctv) (b8N ev1.rel kl) (fun a=>b8O) hx eo (fun A outer s E hr=>(hb fl c' _ H1 A outer s E hr).nox) (fun A outer s E hr=>hxb fl c' _ H1 A outer s E hr)
 refine wpAny_call (Xl (hrun X.A X.stack s1 H1 fl o G Q hr Md.inv.env0 clo (b1y ev1.rel) ⟨_,ed,fun v G' H' ev rp=>k v G' H' (ev1.trans (a4y ev (fun a=>a7X) ev1.rel)) rp⟩) fun r s' hq=>?_)
 cases r with
 |error e=>exact False.elim hq
 |ok fw=>
  cases fw with
  |ret u=>exact Md.inv.after hq
  |next=>exact False.elim hq
  |brk=>exact False.elim hq
  |cont=>exact False.elim hq
end
def b1A(ts:List Addr)(H:Hp):Prop:=∀P∈ts,∃ps,H P=some (.tbl ps)
def SpT(K:Frag)(ts:List Addr)(n:Nat)(f:Fn):Sp:=fun vs H Q E=>b1A ts H/\SpF K n f vs H Q E
theorem b8P{st:Stmt}{f:Addr}{mb:Mo Fl}{cdv0:Value}(F:Fun K x qual st f fd)(hcd0:fd.code=cdv0)(S:FnScope N ps (y0_ st))
  (hb:∀(A:Around) (outer:List Env) (s:Shared) (H:Hp) (E:XK),b1A ts H->Room k (A.deeper (envOfC qual (y0_ st) s.heap.objs.size f cdv0))->
   ESs (g7_ CX0 P w K mg base N qual (y0_ st) f cdv0 A outer s H E).nox (fun b=>H b≠none) (a1f st) mb):FnOk P w K mg base CX0 (k+1) f fd ps (SpT K ts ps.length (fnM N.length mb)):=by
 have hpl:ps.length≤N.length:=by have:=Ys List.length S.pre;rw[Jp]at this;omega
 obtain⟨oc,od,kV,doc,pm,an,cdv,ct,osl,rfl,lk,hcd⟩:=F.ex;obtain rfl:cdv=cdv0:=hcd0;refine a7c lk hcd S (fun vs H Q E h=>?_) (fun A outer s H vs Q E hr h=>?_)
 ·obtain⟨_,G,ws,r,ws',hl,ok,rl,_⟩:=h
  have:=rl.len;rw[Qv]at this;omega
 ·obtain⟨tb,G,ws,r,ws',hl,ok,rl,e,k⟩:=h
  have hv:ws.length=vs.length:=by have:=rl.len;rwa [Qv]at this
  refine⟨_,(hb A outer s H E tb hr).nox,?_⟩;have rl':=a7y (N:=N) rl ok (by omega)
  unfold fnM at e;split at e
  ·rename_i d env em
   cases e;refine⟨G,_,_,env,rl',em,?_⟩;exact fun v σ' G' H' ev rp=>k v G' H' (a2a rl ok (by omega) ev) rp
  ·rename_i ds env em
   cases e;refine⟨G,_,_,env,rl',em,?_⟩;intro a xs σ' G' H' ev nb no h' g' rp;refine k a xs G' H' (a2a rl ok (by omega) ev) (Ye nb) ?_ h' g' rp
   rintro⟨i,w',es,e1,e2,e3⟩;obtain⟨w1,w2,q1,q2,q3⟩:=a3C e1;subst q3;obtain⟨q4,q5,q6,q7⟩:=a4s (ok _ (Yc q1)) e2;have hi:i<vs.length:=by have:=(Qy.mp q1).1;omega
   exact no ⟨i,_,es,q2,q4,by rw[(ev.par i w2 q2 q5).1,a1j hi];exact e3⟩
  ·rename_i ks us env em
   cases e;refine⟨G,_,_,env,rl',em,?_⟩;intro a o σ' G' H' ev nb no h' g' rp;refine k a o G' H' (a2a rl ok (by omega) ev) (Ye nb) ?_ h' g' rp
   rintro⟨i,w',es,e1,e2,e3⟩;obtain⟨w1,w2,q1,q2,q3⟩:=a3C e1;subst q3;obtain⟨q4,q5,q6,q7⟩:=a4s (ok _ (Yc q1)) e2;have hi:i<vs.length:=by have:=(Qy.mp q1).1;omega
   exact no ⟨i,_,es,q2,q4,by rw[(ev.par i w2 q2 q5).1,a1j hi];exact e3⟩
  ·rename_i env em
   cases e;refine⟨G,_,_,env,rl',em,?_⟩;exact fun σ' G' H' ev=>k .non G' H' (a2a rl ok (by omega) ev) (by simp only[Rep])
  ·cases e
theorem b8Q{mb:OU}{fa:Addr}{fn:Fn}{vs:List Value}{ns:List Int}
  (KX:K.In s₁.heap)(hnt:noTabs K=true)(hts:∀p∈ts,s₁.heap.get? p=some (tabObj #[]))(hcs:∀p∈ts,∃c,codeHdIn K c p=true)(hns:s₁.heap.Ns mainGlobals mg)(hb:s₁.heap.Ns builtinsNs mb)(hbb:∀x:Str,x≠"__name__"->mb x=bootBuiltins x)(hlim:s₁.heap.NoLimit)(hbm:a2h mg s₁.heap)(hg:s₁.gens= #[])
  (ha:s₁.heap.get? a=some {cls:=.type "list",data:=.seq vs.toArray})(hi:IntsAre vs ns)(hl:ns.length≤sizeLine)(hr:Room k callerA)
  (F:∀base:Heap,K.In base->base.Ns mainGlobals mg->a2h mg base->FnOk P w K mg base CX0 k fa fd [x] (SpT K ts 1 fn))(hbind:∀(s:Shared) (u:Value),BindsTo s fd ⟨[u],[]⟩ [(x,u)])
  (ht:∃ws',fn [.dat (.lst (ns.map D.int))]=some (.d (.bl true),ws')):
  codeAny (model P w) callerA (.call (.ref fa) ⟨[.ref a],[]⟩) (fun r s'=>r=.ok (.ret (.bool true))/\OldK s₁.heap s'.heap/\s'.os=s₁.os/\AllBare s'.gens) s₁:=by
 have rv:=b0G hi
 have lenV:=hi.length
 have nat:a∉ts:=fun z=>by have:=hts a z;rw[ha]at this;cases this
 have kno:∀{b:Addr}{o:Obj},K.lookup b=some o->b∉ts:=fun{b o} e z=>by
  have h2:=Qw.mp hnt (b,o) (mem_of_lookupK e)
  have h3:=KX b o e
  rw[hts b z]at h3;cases h3;cases h2
 have core:∀(H:Hp),(∀b,H b=none∨(b=a/\∃o xs,H b=some (.frz o (.lst xs)))∨(b∈ts/\H b=some (.tbl #[])))->(∀b∈ts,H b=some (.tbl #[]))->SqL K H a (ns.map V.int)->HOk P w H s₁.heap->(H a≠none->K.lookup a=none)->
   codeAny (model P w) callerA (.call (.ref fa) ⟨[.ref a],[]⟩) (fun r s'=>r=.ok (.ret (.bool true))/\OldK s₁.heap s'.heap/\s'.os=s₁.os/\AllBare s'.gens) s₁:=by
  intro H hO hT hS hok hK;have base_of:∀{b:Addr}{o:Obj},s₁.heap.get? b=some o->H b=none->(a1H s₁.heap H).get? b=some o:=fun e n=>b4v e n
  have noA:∀{b:Addr}{o:Obj},s₁.heap.get? b=some o->o.cls≠.type "list"->o.cls≠.none->H b=none:=fun{b o} e d1 d2=>by
   rcases hO b with q|⟨q,_⟩|⟨q,_⟩
   ·exact q
   ·subst q;rw[ha]at e;cases e;exact absurd rfl d1
   ·rw[hts b q]at e;cases e;exact absurd rfl d2
  have noD:∀{b:Addr}{o:Obj}{es:Array DictEntry}{ep:Nat},s₁.heap.get? b=some o->o.data=.dict es ep->H b=none:=fun{b o es ep} e d=>by
   rcases hO b with q|⟨q,_⟩|⟨q,_⟩
   ·exact q
   ·subst q;rw[ha]at e;cases e;cases d
   ·rw[hts b q]at e;cases e;cases d
  have nsK:∀{b:Addr}{m:OU},s₁.heap.Ns b m->(a1H s₁.heap H).Ns b m:=fun{b m} ⟨o,es,ep,e,d,r⟩=>⟨o,es,ep,base_of e (noD e d),d,r⟩
  have hKb:K.In (a1H s₁.heap H):=fun b o e=>base_of (KX b o e) (by
   rcases hO b with q|⟨q,o',xs,z⟩|⟨q,_⟩
   ·exact q
   ·subst q;rw[hK (by rw[z];simp)]at e;cases e
   ·exact absurd q (kno e))
  have hM:Mod K mg (a1H s₁.heap H):=⟨hKb,nsK hns,⟨mb,nsK hb,hbb⟩,let ⟨mc,h1,h2⟩:=hlim;⟨mc,nsK h1,h2⟩⟩
  have hBm:a2h mg (a1H s₁.heap H):=by
   obtain⟨bm,o,b1,b2,b3,b4,b5,b6,b7⟩:=hbm;exact⟨bm,o,b1,b2,b3,base_of b4 (noA b4 (by rw[b5];simp) (by rw[b5];simp)),b5,b6,b7⟩
  have e0:Env0 P w K mg (a1H s₁.heap H) callerA [] s₁ H:=⟨rfl,hM,fun b o e=>b4w e,Nat.le_of_eq (b4u _ _),trivial,fun b hb=>absurd (show b∈([]:List Addr)from hb) (by simp),hok,.of_eq hg⟩
  have sp:SpT K ts 1 fn [.ref a] H (fun v _=>v=.bl true) (fun _ _ _=>False):=by
   obtain⟨ws',e⟩:=ht;refine⟨fun p hp=>⟨#[],hT p hp⟩,fun b=>if b∈ts then none else H b,[.dat (.lst (ns.map D.int))],.d (.bl true),ws',rfl,fun v hv=>.inl ?_,⟨fun b o z=>?_,rfl,fun i d z=>?_,fun i v ds e1 e2=>?_,fun i j v v' ds es a e1 e2=>?_,fun i w a e1 e2=>?_,fun b h=>h.elim,fun p ps z=>?_,fun b o z ps y=>?_⟩,e,?_⟩
   ·simp at hv;exact⟨_,hv⟩
   ·split at z
    ·cases z
    ·exact z
   ·cases i with
    |zero=>
     simp at z
     subst z;refine⟨.ref a,rfl,?_⟩;simp only[Rep];refine⟨a,_,rfl,?_,a5Q ns⟩
     rcases hS with(q|⟨o,q⟩)|q
     ·exact .inl (.inl ((Qm nat).trans q))
     ·exact .inl (.inr ⟨o,(Qm nat).trans q⟩)
     ·exact .inr q
    |succ i=>simp at z
   ·cases i with
    |zero=>simp at e1;subst e1;cases e2
    |succ i=>simp at e1
   ·cases i with
    |zero=>simp at e1;subst e1;cases e2
    |succ i=>simp at e1
   ·cases i with
    |zero=>simp at e1;subst e1;cases e2
    |succ i=>simp at e1
   ·rcases hO p with q|⟨_,o,xs,q⟩|⟨_,q⟩
    ·rw[q]at z;cases z
    ·rw[q]at z;cases z
    ·rw[q]at z;cases z
     exact⟨trivial,fun pos v y=>by cases y⟩
   ·split at z
    ·cases z
    ·rename_i hb
     rcases hO b with q|⟨_,o',xs,q⟩|⟨q,_⟩
     ·rw[q]at z;cases z
     ·rw[q]at z;cases z;cases y
     ·exact hb q
   ·intro v G' H' _ rp
    simpa only[Rep]using rp
  refine Xl ((F _ hKb (nsK hns) hBm).run callerA [] s₁ H ⟨[.ref a],[]⟩ [.ref a] [.ref a] _ _ hr e0 (hbind s₁ (.ref a)) (.cons rfl .nil) sp) fun r s' h=>?_
  cases r with
  |error e=>exact False.elim h
  |ok fl=>
   cases fl with
   |next=>exact False.elim h
   |brk=>exact False.elim h
   |cont=>exact False.elim h
   |ret u=>
    obtain⟨v,H',os,bare,un,hok',r',q⟩:=h;have q':v=.bl true:=q;subst q';obtain rfl:u=Value.bool true:=r';refine⟨rfl,⟨fun b o e=>?_,fun b o e=>un.there b o e (by simp)⟩,os,bare⟩
    rcases hO b with q|⟨_,ob,xs,z⟩|⟨hb,z⟩
    ·exact .inl (un.keep b o e q (by intro z;exact absurd (show b∈([]:List Addr)from z) (by simp)) (by simp))
    ·have z2:=un.frzs b ob _ z
     obtain⟨e1,_⟩:=hok b _ z;obtain⟨e2,_⟩:=hok' b _ z2;rw[e]at e1;cases e1;exact .inl e2
    ·obtain⟨more,z2⟩:=un.tbls b #[] z
     have e2:s'.heap.get? b=some {cls:=.none,data:=.fields (#[]++more)}:=hok' b _ z2
     have e3:=hts b hb
     rw[e]at e3;cases e3;obtain⟨c,hc⟩:=hcs b hb;exact .inr (.inl ⟨((codeHd_of_K KX hc).tab (hts b hb)).isCodeTable,rfl,#[],more,rfl,e2⟩)
 cases hk:K.lookup a with
 |some o=>
  have e:=KX a o hk
  rw[ha]at e;cases e;refine core (fun b=>if b∈ts then some (.tbl #[])else none) (fun b=>?_) (fun b hb=>Qh hb) (.inr ⟨_,vs.toArray,_,hk,rfl,rfl,rfl,by rw[Qn,lenV];exact hl,by simpa using rv⟩) (fun b u z=>?_) fun z=>absurd (Qm nat) z
  ·by_cases hb:b∈ts
   ·exact .inr (.inr ⟨hb,Qh hb⟩)
   ·exact .inl (Qm hb)
  ·dsimp only at z
   split at z
   ·rename_i hb;cases z;exact hts b hb
   ·cases z
 |none=>
  refine core (fun b=>if b=a then some (.frz {cls:=.type "list",data:=.seq vs.toArray} (.lst (ns.map V.int)))else if b∈ts then some (.tbl #[])else none) (fun b=>?_) (fun b hb=>by
   have hne:b≠a:=fun z=>nat (by rw[←z];exact hb)
   show(if b=a then _ else if b∈ts then _ else _)=_
   rw[Qm hne,Qh hb]) (.inl (.inr ⟨{cls:=.type "list",data:=.seq vs.toArray},Qh rfl⟩)) (fun b u z=>?_) fun _=>hk
  ·by_cases hb:b=a
   ·exact .inr (.inl ⟨hb,_,_,Qh hb⟩)
   ·by_cases hb2:b∈ts
    ·exact .inr (.inr ⟨hb2,by rw[Qm hb,Qh hb2]⟩)
    ·exact .inl (by rw[Qm hb,Qm hb2])
  ·dsimp only at z
   split at z
   ·rename_i hb
    cases z;subst hb;exact⟨ha,by rw[Qv];exact hl,vs,_,rv,ha⟩
   ·split at z
    ·rename_i hb;cases z;exact hts b hb
    ·cases z
theorem b8R{l:OpenLaw}{q:Program}{loose:List Str}{XP:(OU)->Heap->Prop}{YP:World->Heap->Prop}{d:DefRec}{K:Params->Frag}{fn:Fn}
  (hn:l.most=some 63)(hdf:d.params.defaults=[])(hr:Room k callerA)(hY:∀(w:World) (h:Heap),YP w h->(K w.params).In h/\∀p∈ts,h.get? p=some (tabObj #[]))
  (F:∀(w:World) (mg:OU) (fa:Addr) (h:Heap),(K w.params).In h->h.Ns mainGlobals mg->mg d.name=some (.ref fa)->
   ∃fd:FuncData,(∀(s:Shared) (u:Value),BindsTo s fd ⟨[u],[]⟩ [(x,u)])/\noTabs (K w.params)=true/\(∀p∈ts,∃c,codeHdIn (K w.params) c p=true)/\∀base:Heap,(K w.params).In base->base.Ns mainGlobals mg->a2h mg base->FnOk l.prog w (K w.params) mg base CX0 k fa fd [x] (SpT (K w.params) ts 1 fn))
  (ht:∀ns:List Int,ns.length≤63->∃ws',fn [.dat (.lst (ns.map D.int))]=some (.d (.bl true),ws')):
  WalkO q loose XP YP l.row.toRowW d [] (fun f vs=>PySem.call f vs):=by
 refine Att.attach_call hn hdf fun w s₀ s₁ mg mb fa o pm cd doc a vs ns G Y ho hd hcd hmg hobj hints hlen hg=>?_
 obtain⟨KX,hT⟩:=hY w _ Y;obtain⟨fd,hb,hnt,hcs,hF⟩:=F w mg fa _ KX G.T.g hmg;have hbm:a2h mg s₁.heap:=by
  obtain⟨bm,ob,b1,b2,b3,b4,b5,b6⟩:=G.T.bmain;refine⟨bm,ob,b1,b2,fun z=>?_,b3,b4,b5,b6⟩
  obtain⟨o,es,ep,e,hd,_⟩:=G.T.g;rw[z,e]at b3;cases b3;rw[hd]at b6;cases b6
 exact b8Q KX hnt hT hcs G.T.g G.T.b G.T.builtins G.T.nolimit hbm hg hobj hints (Zt hlen (by decide)) hr hF hb (ht ns hlen)
theorem b8S{S:Str}(h:a1J K S names=true)(hn:n∈names):a2D K n=true:=let ⟨_,F⟩:=a3K h hn;F.one
def a6g(K:Frag)(cd:Value)(P:Addr):Bool:=match cd with
 |.ref c=>codeHdIn K c P
 |_=>false
theorem b1B{P:Addr}(h:a6g K cd P=true):∃c,cd=.ref c/\codeHdIn K c P=true:=by
 unfold a6g at h;split at h
 ·exact⟨_,rfl,h⟩
 ·cases h
theorem b8T{P:Addr}(h1:a6g K cd P=true)(h2:codeIn K cd qual=true)(h3:tabQ K P qual=true)(hb:a2h mg base):TabF K mg base cd qual P:=by
 obtain⟨c,rfl,hc⟩:=b1B h1;exact⟨⟨c,rfl,hc,h2⟩,h3,hb⟩
end L2.Mir
namespace L2.Mir
open PySem PySem.Spec PyProof.Rows PySem.W
def bools?:List D->Option (List Bool)
 |[]=>some []
 |.bl i::r=>(bools? r).map fun l=>i::l
 |_::_=>none
theorem b1C{K:Qz}{G:Hp}:∀{ds:List D}{xs:List V}{ns:List Bool},z9_ K G xs ds->bools? ds=some ns->xs=ns.map V.bl
 |[],_,ns,r,e=>by simp only[z9_]at r;subst r;cases e;rfl
 |d::ds,_,ns,r,e=>by
  simp only[z9_]at r;obtain⟨x,t,rfl,q,r⟩:=r;cases d<;>first|(exact absurd (show(none:Option (List Bool))=some ns from e) (by simp))|skip
  obtain⟨l,e1,e2⟩:=x2_ (show(bools? ds).map _=some ns from e)
  subst e2;simp only[Rep]at q;subst q;rw[b1C r e1];rfl
def a8b:D->D->Option D
 |.lst ds,.bl b=>(bools? ds).bind fun bs=>(bs.findIdx? fun y=>y==b).map fun(j:Nat)=>D.int (j:Int)
 |_,_=>none
section
variable{X:Cx}{B:OA}{pos:Pos}{o e:Expr}{ma mb:Mo D}
theorem b8U(ns:List Bool):(ns.map V.bl).all a1e=true:=by
 induction ns with
 |nil=>rfl
 |cons n ns ih=>simp[a1e,ih]
def b8V(K:Frag):V->List V->Hp->VK->Prop:=fun x vs H Q=>∃(p:Addr) (bs:List Bool) (b:Bool) (j:Nat),x=.ref p/\vs=[.bl b]/\SqL K H p (bs.map V.bl)/\(bs.findIdx? fun y=>y==b)=some j/\Q (.int j) H
theorem b8W:MtM X "list.index" (b8V X.K):=by
 intro pins s σ H x vs v us Q I rx rv h;obtain⟨p,bs,b,j,rfl,rfl,hq,hj,q⟩:=h;cases rx;obtain⟨u,rfl,ru⟩:=rv.one;have ru':=ru;cases ru;obtain⟨its,r,pl,hz⟩:=I.list hq;obtain⟨⟨oc,od,odt,osl⟩,n,e,hc,hd,hdt⟩:=pl;dsimp only at hc hd hdt;subst hc hd hdt;obtain⟨hjl,hj1,hj2⟩:=List.findIdx?_eq_some_iff_getElem.mp hj;have hlen:its.length=bs.length:=by have:=r.length;simpa using this.symm
 have item:∀(m:Nat) (hm:m<its.length),its[m]=.bool (bs[m]'(by omega)):=fun m hm=>by
  obtain⟨u,h1,h2⟩:=r.get (i:=m) (x:=.bl (bs[m]'(by omega))) (by simp[show m<bs.length by omega])
  rw[Zz hm]at h1;cases h1;exact h2
 refine Va PySem.F.slot_list_index ⟨_,e,rfl⟩ PySem.F.entry_list_index (PySem.F.args_list_index_2 _ _)
  (SeqAt.list_indexAt p its.toArray n none osl (.bool b) (eqU (.bl b)) j (by simpa using (by omega:j<its.length)) ?_ ?_ ?_) ⟨?_,fun w hw=>a5p (x:=.bl b) ru' rfl r (b8U bs) w (by simpa using hw),⟨.int j,H,I.tok _,⟨_,rfl⟩,q⟩⟩
 ·have:its.length≤sizeLine:=by rw[hlen];simpa using hz
  rw[sizeLine_eq]at this
  omega
 ·rw[List.getElem_toArray,item j (by omega)]
  show(bs[j]==b)=true;exact hj1
 ·intro m hm hlt
  rw[List.getElem_toArray,item m (by simpa using hm)]
  show(bs[m]==b)=false;exact Bool.eq_false_iff.mpr (hj2 m hlt)
 ·exact e
theorem b1D{apos cpos:Pos}(ho:ED X B o ma)(he:ED X B e mb)
  (hbase:attributeBase o "index" X.env (eval o X.env)=eval o X.env:=by rfl)
  (hfew:((backTo cpos (starEach [e] X.env)).all (fun x=>!x.1)&&(backToKw cpos (keywordEach [] X.env)).all (fun x=>x.1.isSome)
   &&decide ([e].length+([]:List Keyword).length+(if([]:List Keyword).isEmpty then 0 else 1)<30))=true:=by rfl)
  (hline:(apos.endLine==cpos.line)=true:=by rfl)(hs:starEach [e] X.env=(false,eval e X.env)::starEach [] X.env:=by rfl)(hplain:(backTo cpos (starEach [] X.env)).any (·.1)=false:=by rfl):
  ED X B (.Call (.Attribute o "index" apos) [e] [] cpos) (z5_ a8b ma mb):=by
 refine pe_imp (a5r Vo PySem.F.slot_list_index PySem.F.type_list_index b8W ho (a0e he a1u hs) hbase hfew hline hs hplain) ?_
 rintro σ H Q ⟨G,env,d,env',rl,e,k⟩;obtain⟨⟨d1,env1⟩,e1,e2⟩:=q4_ e;obtain⟨⟨d2,env2⟩,e3,e4⟩:=q4_ e2;obtain⟨d3,e5,e6⟩:=x2_ e4;cases e6;dsimp only at e3 e5;unfold a8b at e5;split at e5
 ·rename_i ds b
  obtain⟨bs,e7,e8⟩:=q4_ e5;obtain⟨j,e9,e10⟩:=x2_ e8;cases e10;refine .bind rl e1 fun v G1 H1 ev1 r1=>?_
  simp only[Rep]at r1;obtain⟨a,xs,rfl,hq,rp⟩:=r1;refine⟨.inl ⟨rfl,xs,ev1.rel.sub.sqL hq⟩,.bind ev1.rel e3 fun v2 G2 H2 ev2 r2=>?_⟩
  simp only[Rep]at r2;subst r2;have hb:=b1C rp e7;subst hb;exact⟨a,bs,b,j,rfl,rfl,(ev2.same.trans ev2.rel.sub).sqL hq,e9,k _ G2 H2 (ev1.trans ev2) (by simp only[Rep])⟩
 ·cases e5
end
open AutoSeq1 (wpAny_loadPart')
section
variable{prog:Program}{w:World}{A:Around}{E:OE}{s:Shared}
end
section
variable{X:Cx}{B:OA}{pos:Pos}{a b c e:Expr}{ms:Mo (List D)}
end
section
variable{X:Cx}{B:OA}{pos:Pos}
end
end L2.Mir
namespace L2.Mir
open PySem PySem.W
variable{A:Around}{B:OA}{E:OE}{H:Hp}{J:It}{K:Qz}{X:Cx}{a:Mo (List D)}{acc it pm:Value}{cd p:Addr}{d more n x1 x2:Nat}{e elt iter target:Expr}{env:Env}{gens:List Comprehension}{h:Heap}{i j:Int}{ifs:List Expr}{mg:OU}{p1 p2 pos:Pos}{pins:OX}{s:Shared}{scope:Scope}{w:World}{x:Str}{σ:St}
structure DfAt(K:Frag)(x:Str)(st:Stmt)(f:Addr)(pm:Value)(cd:Addr):Prop where
 a:nsIn K mainGlobals x=some (some (.ref f))
 l:K.lookup f=some ⟨.type "function",none,.func (fnOf x x (a2U st) (a1f st) (y0_ st) .none .none .none pm none (.ref cd) .none),⟨[]⟩⟩
 c:codeIn K (.ref cd) x=true
 k:keepIn K (.ref f)=true
theorem DfAt.f{K:Frag}{st:Stmt}{f:Addr}(A:DfAt K x st f pm cd):Fun K x x st f (fnOf x x (a2U st) (a1f st) (y0_ st) .none .none .none pm none (.ref cd) .none):=b6c A.l A.c A.k
theorem DfAt.g{K:Frag}{st:Stmt}{f:Addr}(A:DfAt K x st f pm cd)(X:K.In h)(G:h.Ns mainGlobals mg):mg x=some (.ref f):=mg_of X G A.a
theorem dM(P:Program)(w:World)(base:Heap){K:Frag}{st:Stmt}{f:Addr}{k:Nat}{fn:Fn}{fd:FuncData}{ps:List Str}(o:FnOk P w K mg base CX0 k f fd ps (SpF K n fn))(A:DfAt K x st f pm cd)(X:K.In h)(G:h.Ns mainGlobals mg)(b:a0x K fd ps [])(e:ps.length=n:=by rfl):Def P w K mg base x k n fn:=⟨_,_,_,o,e,A.g X G,A.k,b⟩
theorem dX(P:Program)(w:World)(base:Heap){K:Frag}{x:Str}{st:Stmt}{f cd:Addr}{pm:Value}{k n:Nat}{g:List W->Option Str}{fd:FuncData}{ps:List Str}{h:Heap}{mg:OU}(o:FnOk P w K mg base (CXE P w) k f fd ps (SpX K n g))(A:DfAt K x st f pm cd)(X:K.In h)(G:h.Ns mainGlobals mg)(b:a0x K fd ps [])(e:ps.length=n:=by rfl):DefX P w K mg base x k n g:=⟨_,_,_,o,e,A.g X G,A.k,b⟩
def a2i(elt:Expr)(gens:List Comprehension)(scope:Scope)(pos:Pos)(d:Nat)(acc:Value)(env:Env):Sem Unit:=match gens[d+1]? with
 |some g'=>do
  let x←eval g'.iter env
  standAt g'.iter.pos
  let x←if g'.is_async !=0 then foldedIterable g'.iter x else foldedSetIterable g'.iter env x
  let _←runOwn (.compStart (.ListComp elt gens scope pos) (d+1) (←holding [x] (if g'.is_async !=0 then asyncIter x else pyIter x)) acc env) env
 |none=>do let _←call (.builtin "list.append") [acc,←eval elt env]
theorem b8X(hd:gens[d]? =some ⟨target,iter,ifs,0⟩):
  compTurn (.ListComp elt gens scope pos) d it acc env=(do
   standAt iter.pos
   match←pyNext it with
   |none=>pure (.done .next)
   |some v=>
    letOwnedTupleGo target it v
    assign target env v
    let mut ok:=true
    for c in ifs do
     if ok then ok←isTrue c env (eval c env)
    if ok then
     a2i elt gens scope pos d acc env
    again (.compLoop (.ListComp elt gens scope pos) d it acc env)):=by
 unfold compTurn a2i;dsimp only;rw[hd];cases gens[d+1]? with
 |none=>rfl
 |some g'=>
  show(standAt iter.pos>>=fun _=>pyNext it>>=fun r=>_)=_
  refine Ys (standAt iter.pos>>= ·) (funext fun _=>Ys (pyNext it>>= ·) (funext fun r=>?_))
  cases r with
  |none=>rfl
  |some v=>
   refine Ys (letOwnedTupleGo target it v>>= ·) (funext fun _=>Ys (assign target env v>>= ·) (funext fun _=>Ys (_>>= ·) (funext fun ok=>?_)))
   cases ok with
   |false=>rfl
   |true=>
    by_cases ha:(g'.is_async !=0)=true
    ·simp only[ha,Yw,bind_assoc,pure_bind]
    ·simp only[ha,Yw,Zc,bind_assoc,pure_bind,Qs]
section
variable{prog:Program}{R:Result->Shared->Prop}
theorem b8Y(hd:gens[d]? =some ⟨target,iter,ifs,0⟩)(I:Nat->Shared->Prop)
  (turn:∀n s,I n s->wpAny (model prog w) A (pyNext it) (fun r s₁=>match r with
   |none=>R (.ok .next) s₁
   |some v=>wpAny (model prog w) A (letOwnedTupleGo target it v) (fun _ s₁'=>wpAny (model prog w) A (assign target env v) (fun _ s₂=>
     wpAny (model prog w) A (forIn ifs true fun c r=>if r=true then do let ok←isTrue c env (eval c env);pure (ForInStep.yield ok)else pure (ForInStep.yield r)) (fun ok s₃=>
      if ok=true then wpAny (model prog w) A (a2i elt gens scope pos d acc env) (fun _ s₅=>∃m,m<n/\I m s₅) (fun _ _=>False) s₃
      else∃m,m<n/\I m s₃) (fun _ _=>False) s₂) (fun _ _=>False) s₁') (fun _ _=>False) s₁) (fun _ _=>False) s)
  (n:Nat)(h:I n s):
  codeAny (model prog w) A (.compLoop (.ListComp elt gens scope pos) d it acc env) R s:=by
 refine codeAny_loop rfl I (fun n s hI=>?_) n h
 show wpAny _ A ((compTurn (.ListComp elt gens scope pos) d it acc env).onRaise (fun x=>do noteFrame x env;theTreesLotGoes x)) _ _ s
 refine wpAny_noted ?_
 rw[b8X hd];refine Qq (Tu (Qq (Zn (turn n s hI) (fun r s₁ h₁=>?_) fun _ _ h'=>h'.elim)))
 cases r with
 |none=>exact Qj h₁
 |some v=>
  refine Qq (Zn h₁ (fun _ s₁' h₁'=>?_) fun _ _ h'=>h'.elim)
  refine Qq (Zn h₁' (fun _ s₂ h₂=>Qq (Zn h₂ (fun ok s₃ h₃=>?_) fun _ _ h'=>h'.elim)) fun _ _ h'=>h'.elim)
  cases ok with
  |false=>exact Qj ⟨rfl,h₃⟩
  |true=>exact Qq (Zn h₃ (fun _ s₅ h₅=>Qj ⟨rfl,h₅⟩) fun _ _ h'=>h'.elim)
end
abbrev a2j:=St->Hp->(St->Hp->Prop)->Prop
def a8c(J:It)(g:TG)(tt:TT)(act:a2j)(σ₀:St)(H₀:Hp)(Q:St->Hp->Prop):Prop:=
 ∃W:Nat->Nat->St->Hp->Prop,(∃m,W 0 m σ₀ H₀)/\∀i m σ H,W i m σ H->
  (J.stop i H/\Q σ H)∨(J.go i H/\∀x H',J.yld i H x H'->g x σ H' fun σ2 H2=>tt σ2 H2 fun b H3=>
   if b=true then act σ2 H3 fun σ4 H4=>∃m',m'<m/\W (i+1) m' σ4 H4 else∃m',m'<m/\W (i+1) m' σ2 H3)
def a3h(X:Cx)(sem:Sem Unit)(act:a2j):Prop:=∀(pins:OX) (s:Shared) (σ:St) (H:Hp) (Q:St->Hp->Prop),Inv X pins σ H s->act σ H Q->
 wpAny (model X.prog X.w) X.A sem (fun _ s'=>∃σ' H',Inv X pins σ' H' s'/\Q σ' H') (fun _ _=>False) s
def b1E(te:TE)(p:Addr):a2j:=fun σ H Q=>te σ H fun y H4=>∃ys,H4 p=some (.lst ys)/\ys.length<sizeLine/\Q σ (upd H4 p (.lst (ys++[y])))
theorem b8Z{te:TE}(hx:∀e s,¬ X.xe e s)(hn:gens[d+1]? =none)(he:PE X elt te):a3h X (a2i elt gens scope pos d (.ref p) X.env) (b1E te p):=by
 intro pins s σ H Q I h;unfold a2i;rw[hn];refine Qq (Zn (he pins s σ H _ I h) (fun v s1 ⟨y,H1,I1,r1,ys,hys,hl,q⟩=>?_) fun e s' z=>(hx e s' z).elim)
 refine Qq (Zn (b0E (X:=X) _ s1 σ H1 (.ref p) [y] (.ref p) [v] (fun _ H2=>Q σ H2) I1 rfl (.cons r1 .nil) ⟨p,ys,y,rfl,rfl,hys,hl,q⟩) (fun _ s2 ⟨_,H2,I2,_,w2⟩=>Qj ⟨σ,H2,I2,w2⟩) fun e s' z=>(hx e s' z).elim)
section
variable{N':List Str}{keep:List Bool}{tg:Expr}{gs:List Comprehension}{g:TG}{tt:TT}{act:Addr->a2j}
theorem b1F{it:Addr}{fp:List Addr}{tn:Nat->Heap->Prop}{Qf:Addr->Hp->Prop}{RR:Value->Addr->Result->Shared->Prop}
  (ok:CompOk X N' scope keep more)(hc:X.calm=true)(hg:∀s H fp,PG (k1_ X N' scope s H fp) tg g)(ht:∀s H fp,a1k (k1_ X N' scope s H fp) ifs tt)(he:∀s H fp p,a3h (k1_ X N' scope s H fp) (a2i elt (⟨tg,iter,ifs,0⟩::gs) scope pos 0 (.ref p) (k1_ X N' scope s H fp).env) (act p))
  (I:Inv X pins σ H s)(T:Turn X.prog X.w X.K tg J fp it tn)(st:tn 0 s.heap)(hf:∀b∈fp,a0q X pins H b)
  (run:∀p,H p=none->a8c J g tt (act p) (u1_ keep more σ) (upd H p (.lst [])) (fun _ H'=>Qf p H'))
  (hRR:∀p C s' H' m,Inv X pins σ H' s'->Qf p H'->s'.heap.Ns C m->C≠X.env.locals->(∀x c,X.env.cells.lookup x=some c->c≠C)->H' C=none->(∀σ'' H'' s'' h',Inv X pins σ'' H'' s''->H'' C=none->Heap.SameBut C s''.heap h'->Inv X pins σ'' H'' {s'' with heap:=h'})->RR (.ref p) C (.ok .next) s'):
  wpAny (model X.prog X.w) X.A (newList []) (fun acc s₃=>wpAny (model X.prog X.w) X.A (newFunctionEnv scope X.env.globals (u0_ X.env.cells scope.names []) [] X.env.qual none .none (some X.env)) (fun cenv s₄=>
   codeAny (model X.prog X.w) X.A (.compStart (.ListComp elt (⟨tg,iter,ifs,0⟩::gs) scope pos) 0 (.ref it) acc {cenv with scope:=relabel scope X.env}) (RR acc cenv.locals) s₄) E s₃) E s:=by
 have hp0:H s.heap.objs.size=none:=I.hok.fresh (Qb _)
 refine Zq ?_
 have I3:Inv X pins σ (upd H s.heap.objs.size (.lst [])) {s with heap:=s.heap.push {cls:=.type "list",dict:=none,data:=.seq ([]:List Value).toArray}}:=
  I.laid (t':=s.toks) (fun b u e=>Qx _ e) (Qb _) ⟨Xx _,[],0,.nil,Qu _ rfl⟩
 have fpOld:∀b∈fp,b<s.heap.objs.size:=fun b hb=>by
  obtain⟨o,e,_⟩:=T.obj 0 _ st b hb;exact Qg e
 have hf3:∀b∈fp,a0q X pins (upd H s.heap.objs.size (.lst [])) b/\b<(s.heap.push {cls:=.type "list",dict:=none,data:=.seq ([]:List Value).toArray}).objs.size:=fun b hb=>by
  refine⟨⟨by rw[v0_ (Qi (fpOld b hb))];exact(hf b hb).1,(hf b hb).2⟩,?_⟩
  rw[Yh];exact Tn (fpOld b hb)
 have st3:tn 0 (s.heap.push {cls:=.type "list",dict:=none,data:=.seq ([]:List Value).toArray}):=T.keep 0 _ _ st fun b hb o e=>Qx _ e
 generalize hs3:({s with heap:=s.heap.push {cls:=.type "list",dict:=none,data:=.seq ([]:List Value).toArray}}:Shared)=s3 at I3 ⊢
 have hs3h:s3.heap=s.heap.push {cls:=.type "list",dict:=none,data:=.seq ([]:List Value).toArray}:=by rw[←hs3]
 rw[←hs3h]at hf3 st3;generalize hp:s.heap.objs.size=p at hp0 I3 hf3 ⊢;generalize hH3:upd H p (.lst [])=H3 at I3 hf3;refine b6I _ ?_
 have I4:=b6H ok I3 hf3
 generalize hs4:({s3 with heap:=pushCells (s3.heap.push {cls:=.type "dict",data:=.dict #[]}) scope.names}:Shared)=s4 at I4 ⊢
 have st4:tn 0 s4.heap:=T.keep 0 _ _ st3 fun b hb o e=>by rw[←hs4];exact Xr _ _ _ _ (Qx _ e)
 obtain⟨W,⟨m0,w0⟩,turn⟩:=run p hp0;have stat:∀{H':Hp},(∀b∈fp,H' b=none)->∀b∈fp,a0q (k1_ X N' scope s3 H3 fp) [] H' b:=fun hn b hb=>by
  have z:=I4.ok.exf b hb
  exact⟨hn b hb,z.1,I4.ok.exfs b hb,.inl hb,z.2,fun p hp=>absurd (show p∈([]:OX)from hp) (by simp)⟩
 have loop:codeAny (model X.prog X.w) X.A (.compLoop (.ListComp elt (⟨tg,iter,ifs,0⟩::gs) scope pos) 0 (.ref it) (.ref p) (a3F scope X.env s3.heap.objs.size)) (RR (.ref p) s3.heap.objs.size) s4:=by
  refine b8Y (d:=0) rfl (fun n s'=>∃i σ' H',Inv (k1_ X N' scope s3 H3 fp) [] σ' H' s'/\tn i s'.heap/\(∀b∈fp,H' b=none)/\W i n σ' H') ?_ m0 ⟨0,_,H3,I4,st4,fun b hb=>(hf3 b hb).1.1,by rw[←hH3];exact w0⟩
  rintro n s5 ⟨i,σ5,H5,I5,st5,fr5,w5⟩
  rcases turn i n σ5 H5 w5 with⟨stop,qf⟩|⟨go,step⟩
  ·refine thn (T.done (k1_ X N' scope s3 H3 fp) rfl rfl rfl hc i [] s5 σ5 H5 (fun _ _=>False) I5 (stat fr5) st5 stop) fun r s6 ⟨hr,I6⟩=>?_
   subst hr;obtain⟨m6,hn6,_⟩:=I6.loc;have hch:∀b∈fp,(b∈X.ex∨X.s₀.heap.objs.size≤b)/\b≠X.env.locals/\(∀x c,X.env.cells.lookup x=some c->c≠b)/\∀p∈X.pn++pins,p.1≠b:=fun b hb=>by
    obtain⟨_,f1,_,f3,f4,f5⟩:=hf b hb;exact⟨f3,f1,f4,f5⟩
   have IX:Inv X pins σ H5 s6:=I3.call' (s':=s6) (I6.os) (I6.base) I6.hok I6.bare hch
   have szC:X.s₀.heap.objs.size≤s3.heap.objs.size:=I3.sz
   have hCL:s3.heap.objs.size≠X.env.locals:=Xc I3.lt
   have hCc:∀x c,X.env.cells.lookup x=some c->c≠s3.heap.objs.size:=fun x c e=>by
    obtain⟨v,q⟩:=I3.cell x c e;exact Qi q.lt
   have hCp:∀q∈X.pn++pins,q.1≠s3.heap.objs.size:=fun q hq=>Qi (Qg (I3.pin q hq).1)
   refine hRR p s3.heap.objs.size s6 H5 m6 IX qf hn6 hCL hCc I6.free fun σ'' H'' s'' h' I'' hn hs=>?_
   exact I''.turned (t':=s''.toks) (it:=s3.heap.objs.size) (fun b o hb e=>(hs.2 b hb).trans e) hn hCL (.inr szC) hCc hCp
  ·refine thn (T.item (k1_ X N' scope s3 H3 fp) rfl rfl rfl hc i [] s5 σ5 H5 (fun _ _=>False) I5 (stat fr5) st5 go) fun r s6 ⟨u,hr,h6⟩=>?_
   subst hr;refine thn h6 fun _ s7 ⟨x,H7,I7,r7,y7,st7,fr7⟩=>?_
   have I7':=I7.pinned (stat fr7) (T.obj _ _ st7)
   have back:∀{σ8:St}{H8:Hp}{s8:Shared}{m':Nat},Inv (k1_ X N' scope s3 H3 fp) ([]++a4j fp s7.heap) σ8 H8 s8->m'<n->W (i+1) m' σ8 H8->∃m,m<n/\∃i σ' H',Inv (k1_ X N' scope s3 H3 fp) [] σ' H' s8/\tn i s8.heap/\(∀b∈fp,H' b=none)/\W i m σ' H':=fun{σ8 H8 s8 m'} I8 hm w8=>by
    refine⟨m',hm,i+1,σ8,H8,I8.unpinned,T.keep _ _ _ st7 fun b hb o e=>(I8.pin (b,o) (Zr _ (Zr _ (a5j hb e)))).1,fun b hb=>?_,w8⟩
    obtain⟨o,e,d⟩:=T.obj _ _ st7 b hb;exact(I8.pin (b,o) (Zr _ (Zr _ (a5j hb e)))).2.1
   refine thn (hg s3 H3 fp _ s7 σ5 H7 x u _ I7' r7 (step x H7 y7)) fun _ s8 ⟨σ8,H8,I8,q8⟩=>?_
   refine thn (ht s3 H3 fp _ s8 σ8 H8 _ I8 q8) fun b s9 ⟨H9,I9,q9⟩=>?_
   cases b with
   |false=>
    simp only[Qs,Zc]at q9 ⊢;obtain⟨m',hm,w9⟩:=q9;exact back I9 hm w9
   |true=>
    simp only[Yw]at q9 ⊢;exact thn (he s3 H3 fp p _ s9 σ8 H9 _ I9 q9) fun _ s10 ⟨σ10,H10,I10,m',hm,w10⟩=>back I10 hm w10
 refine codeAny_compStart_list loop ?_
 exact Zn (T.self X.A 0 s4 _ (fun _ _=>False) st4 loop) (fun _ _ q=>q) fun _ _ q=>q.elim
def a8d(wi:TI)(keep:List Bool)(more:Nat)(g:TG)(tt:TT)(act:Addr->a2j):TE:=fun σ H Q=>wi σ H fun J H1=>∀p,H1 p=none->a8c J g tt (act p) (u1_ keep more σ) (upd H1 p (.lst [])) (fun _ H'=>Q (.ref p) H')
theorem b9a{wi:TI}(ok:CompOk X N' scope keep more)(hc:X.calm=true)(hi:PI X tg iter wi)(hg:∀s H fp,PG (k1_ X N' scope s H fp) tg g)(ht:∀s H fp,a1k (k1_ X N' scope s H fp) ifs tt)
  (he:∀s H fp p,a3h (k1_ X N' scope s H fp) (a2i elt (⟨tg,iter,ifs,0⟩::gs) scope pos 0 (.ref p) (k1_ X N' scope s H fp).env) (act p))
  (hs:∀x,foldedSetIterable iter X.env x=pure x:=by intro _;rfl):PE X (.ListComp elt (⟨tg,iter,ifs,0⟩::gs) scope pos) (a8d wi keep more g tt act):=by
 intro pins s σ H Q I h;rw[eval_ListComp];refine wpAny_comprehension_free (use:=none) rfl hs ok.clos ok.kind (fun x hx hl=>by have:=ok.uniq x hx;rwa [hl]at this) (thn (hi pins s σ H _ I h) fun v s1 h1=>thn h1 fun itv s2 h2=>?_)
 obtain⟨it,fp,tn,J,H2,e,I2,T,st2,f2,run⟩:=h2;subst e;refine b1F (Qf:=fun p H'=>Q (.ref p) H') (RR:=fun acc C=>compPost (model X.prog X.w) X.A X.xe none (EP X pins σ Q) acc C) ok hc hg ht he I2 T st2 f2 run ?_
 intro p C s' H' m IX qf hn hCL hCc hCn turn;exact⟨m,hn,fun h' hs'=>⟨.ref p,H',turn σ H' s' h' IX hCn hs',rfl,qf⟩⟩
end
def a1o(m:Mo D):Mo (List D):=fun env=>(m env).map fun q=>([q.1],q.2)
def a1K(g:OZ)(t:Mo Bool)(a:Mo (List D)):List D->Mo (List D)
 |[],env=>some ([],env)
 |d::ds,env=>(g d env).bind fun e1=>(t e1).bind fun p=>if p.1 then(a p.2).bind fun q=>(a1K g t a ds q.2).map fun r=>(q.1++r.1,r.2)else a1K g t a ds p.2
def a3M(mi:Mo (List D))(keep:List Bool)(more:Nat)(g:OZ)(t:Mo Bool)(a:Mo (List D)):Mo (List D):=fun env=>(mi env).bind fun p=>
 (a1K g t a p.1 (u2_ keep more p.2)).bind fun q=>if q.1.length≤100000 then(g3_ keep p.2 q.2).map fun e=>(q.1,e)else none
theorem b9b{o:HO}(h:H p=some o):upd H p o=H:=by
 funext b
 by_cases hb:b=p
 ·subst hb;rw[x0_,h]
 ·rw[v0_ hb]
def TAc(K:Qz)(B:OA)(n:Nat)(a:Mo (List D))(p:Addr):a2j:=fun σ H Q=>∃G env zs env' ys,Rel K B G σ env H/\ ¬ Owned σ env p/\G p=none/\H p=some (.lst ys)/\a env=some (zs,env')/\ys.length+zs.length≤100000/\
 ∀σ' G' H' vs,Ev K B G σ env (upd H p (.lst (ys++vs))) G' σ' env' H'->(∀j,j<n->σ'[j]? =σ[j]?)->H' p=some (.lst (ys++vs))->z9_ K G' vs zs->Q σ' H'
theorem b9c{m:Mo D}:∀σ H Q,TAc K B n (a1o m) p σ H Q->b1E (TD K B m) p σ H Q:=by
 rintro σ H Q ⟨G,env,zs,env',ys,rl,no,gp,hp,e,hl,k⟩;obtain⟨⟨d,env1⟩,e1,e2⟩:=x2_ e;cases e2;refine⟨G,env,d,env1,rl,e1,fun v G' H' ev r=>?_⟩
 have hp':H' p=some (.lst ys):=ev.keep p _ no nt_lst hp
 refine⟨ys,hp',Qr (by simp at hl;omega) (show 100000≤sizeLine by decide),?_⟩
 exact k σ G' _ [v] (ev.swapAt no (by rw[hp];simp) gp nt_lst (fun φ z=>by rw[hp']at z;cases z)) (fun _ _=>rfl) x0_ (repL_cons r repL_nil)
theorem b9d{g:OZ}{t:Mo Bool}{G1:Hp}{env1 envF:Env'}{H1:Hp}{items zs:List D}{ys:List V}{Q:St->Hp->Prop}(rl:Rel K B G1 σ env1 H1)(itd:ItD K J G1 items)(no:¬ Owned σ env1 p)(gp:G1 p=none)
  (hp:H1 p=some (.lst ys))(e3:a1K g t a items env1=some (zs,envF))(hl:ys.length+zs.length≤100000)
  (k:∀σ' G' H' vs,Ev K B G1 σ env1 (upd H1 p (.lst (ys++vs))) G' σ' envF H'->(∀j,j<n->σ'[j]? =σ[j]?)->H' p=some (.lst (ys++vs))->z9_ K G' vs zs->Q σ' H'):
  a8c J (TGm K B n g) (TTm K B t) (TAc K B n a p) σ H1 Q:=by
 have hpS:∀us,(upd H1 p (.lst us)) p=some (.lst us):=fun us=>x0_
 refine⟨fun i m' σ2 H2=>m'=items.length-i/\i≤items.length/\∃G2 env2 vs acc rest,Ev K B G1 σ env1 (upd H1 p (.lst (ys++vs))) G2 σ2 env2 H2/\(∀j,j<n->σ2[j]? =σ[j]?)/\
   z9_ K G2 vs acc/\a1K g t a (items.drop i) env2=some (rest,envF)/\acc++rest=zs,⟨_,rfl,Xx _,G1,env1,[],[],zs,?_,fun _ _=>rfl,repL_nil,by simpa using e3,by simp⟩,?_⟩
 ·rw[Yt,b9b hp];exact .refl rl
 rintro i m' σ2 H2 ⟨rfl,hi,G2,env2,vs,acc,rest,ev2,y2,r2,c2,t2⟩;have hp2:H2 p=some (.lst (ys++vs)):=ev2.keep p _ no nt_lst (hpS _);have lH:Le G1 H2:=ev2.same.trans ev2.rel.sub
 by_cases hlt:i<items.length
 ·refine .inr ⟨itd.go i H2 lH hlt,fun x H3 y=>?_⟩
  have ed:items.drop i=items[i]::items.drop (i+1):=Vf hlt
  rw[ed]at c2;obtain⟨env4,e7,e8⟩:=q4_ c2;obtain⟨⟨b,env5⟩,e9,e10⟩:=q4_ e8;have hget:items[i]? =some items[i]:=by simp[hlt]
  have st:∃G3,Ev K B G1 σ env1 (upd H1 p (.lst (ys++vs))) G3 σ2 env2 H3/\Le G2 G3/\Rep K G3 x items[i]:=by
   rcases itd.yld i H2 x H3 items[i] lH y hget with⟨rfl,r⟩|⟨q,o,hno,hq,rfl,r⟩
   ·exact⟨G2,ev2,Le.refl,Rep.mono ev2.same _ r⟩
   ·have gq:=ev2.rel.gnone hq
    refine⟨upd G2 q o,ev2.trans (ev2.rel.alloc hq hno),Le.upd gq,Rep.mono (fun b u z=>?_) _ r⟩
    by_cases hb2:b=q
    ·subst hb2;rw[x0_]at z ⊢;exact z
    ·rw[v0_ hb2]at z ⊢;exact ev2.same b u z
  obtain⟨G3,ev3,l3,r3⟩:=st;refine⟨G3,env2,items[i],env4,ev3.rel,r3,e7,fun σ4 G4 H4 ev4 y4=>?_⟩
  refine⟨G4,env4,b,env5,ev4.rel,e9,fun G5 H5 ev5=>?_⟩
  have ev6:=(ev3.trans ev4).trans ev5
  have r5:z9_ K G5 vs acc:=z9_.mono ((l3.trans ev4.same).trans ev5.same) acc r2
  have y5:∀j,j<n->σ4[j]? =σ[j]?:=fun j hj=>(y4 j hj).trans (y2 j hj)
  have hp5:H5 p=some (.lst (ys++vs)):=ev6.keep p _ no nt_lst (hpS _)
  cases b with
  |true=>
   simp only[Yw]at e10 ⊢;obtain⟨⟨z7,env7⟩,e11,e12⟩:=q4_ e10;obtain⟨⟨rest8,env8⟩,e13,e14⟩:=x2_ e12;cases e14;have lz:zs.length=acc.length+(z7.length+rest8.length):=by rw[←t2];simp
   have no5:¬ Owned σ4 env5 p:=fun z=>(ev6.sub p z).elim no fun q=>by rw[hpS]at q;cases q
   refine⟨G5,env5,z7,env7,ys++vs,ev5.rel,no5,ev6.stay p (by rw[hpS];simp) no gp,hp5,e11,by rw[Qt,r2.length];omega,fun σ6 G6 H6 us ev7 y7 h7 r7=>?_⟩
   have nx:∀φ,H5 p≠some (.ext φ):=fun φ z=>by rw[hp5]at z;cases z
   have sw:=ev6.swapAt (o:=.lst (ys++vs++us)) no (by rw[hpS];simp) gp nt_lst nx
   rw[a6N]at sw;refine⟨items.length-(i+1),by omega,rfl,hlt,G6,env7,vs++us,acc++z7,rest8,?_,fun j hj=>(y7 j hj).trans (y5 j hj),(z9_.mono ev7.same acc r5).append r7,e13,by rw[Uv];exact t2⟩
   rw[←Uv];exact sw.trans ev7
  |false=>
   simp only[Qs,Zc]at e10 ⊢;exact⟨items.length-(i+1),by omega,rfl,hlt,G5,env5,vs,acc,rest,ev6,y5,r5,e10,t2⟩
 ·have ei:i=items.length:=by omega
  subst ei;rw[Tr]at c2;cases c2;rw[Yt]at t2;subst t2;exact .inl ⟨itd.stop _ H2 lH (Qb _),k σ2 G2 H2 vs ev2 y2 hp2 r2⟩
theorem b1G{mi:Mo (List D)}{keep:List Bool}{g:OZ}{t:Mo Bool}(hkl:keep.length=n):
  ∀(σ:St) H Q,σ.length=n->TL K B (a3M mi keep more g t a) σ H Q->a8d (TIm K B mi) keep more (TGm K B n g) (TTm K B t) (TAc K B n a) σ H Q:=by
 rintro σ H Q hσn ⟨G,env,total,env',rl,e,k⟩;obtain⟨⟨items,env1⟩,e1,e2⟩:=q4_ e;obtain⟨⟨total',envF⟩,e3,e4⟩:=q4_ e2;dsimp only at e4;split at e4
 ·rename_i hlen
  obtain⟨env'',e5,e6⟩:=x2_ e4;cases e6;refine⟨G,env,items,env1,rl,e1,fun J G1 H1 ev1 itd p hp=>?_⟩
  have hk:keep.length=σ.length:=by rw[hkl,hσn]
  have gp:G1 p=none:=ev1.rel.gnone hp
  have no1:¬ Owned σ env1 p:=ev1.rel.unowned hp
  have no:¬ Owned (u1_ keep more σ) (u2_ keep more env1) p:=fun z=>no1 (a7I z)
  have relS:∀ys,Rel K B G1 σ env1 (upd H1 p (.lst ys)):=fun ys=>(ev1.rel.allocM hp).rel
  refine b9d (ys:=[]) ((relS []).ext hk) itd no gp x0_ e3 (by simpa using hlen) fun σ2 G2 H2 ys ev2 y2 hp2 r2=>?_
  rw[Ta,a6N]at ev2;rw[Ta]at hp2;have evO:=Ev.out (relS ys) hk ev2 (fun j hj=>y2 j (by omega)) e5
  have evA:=ev1.trans ((ev1.rel.allocM (o:=.lst ys) hp).trans evO)
  have hpn:H p=none:=by
   cases q:H p with
   |none=>rfl
   |some o=>exact absurd hp (ev1.live p (by rw[q];simp))
  have hpS:(upd H1 p (.lst ys)) p=some (.lst ys):=x0_
  refine k p ys G2 H2 evA hpn (fun z=>?_) hp2 (ev2.stay p (by rw[hpS];simp) no gp) r2
  rcases evO.sub p z with q|q
  ·exact no1 q
  ·rw[hpS]at q;cases q
 ·cases e4
def EAc(X:Cx)(B:OA)(n:Nat)(elt:Expr)(gens:List Comprehension)(scope:Scope)(pos:Pos)(d:Nat)(p:Addr)(a:Mo (List D)):Prop:=a3h X (a2i elt gens scope pos d (.ref p) X.env) (TAc X.K B n a p)
theorem b9e{sem:Sem Unit}{t t':a2j}(h:a3h X sem t)(i:∀σ H Q,t' σ H Q->t σ H Q):a3h X sem t':=fun pins s σ H Q I q=>h pins s σ H Q I (i σ H Q q)
section
variable{N':List Str}{scope0:Scope}{keep:List Bool}{tg:Expr}{gs:List Comprehension}{g:OZ}{t:Mo Bool}{m:Mo D}{mi:Mo (List D)}{fp:List Addr}
theorem b1H(hn:gens[d+1]? =none)(he:ED (k1_ X N' scope0 s H fp) B elt m):EAc (k1_ X N' scope0 s H fp) B n elt gens scope pos d p (a1o m):=b9e (b8Z (fun _ _ z=>z) hn he) b9c
theorem b9f(ok:CompOk X N' scope keep more)(hc:X.calm=true)(hi:EI X B tg iter mi)(hg:∀s H fp,EG (k1_ X N' scope s H fp) B X.N.length tg g)(ht:∀s H fp,a1k (k1_ X N' scope s H fp) ifs (TTm X.K B t))
  (he:∀s H fp p,EAc (k1_ X N' scope s H fp) B X.N.length elt (⟨tg,iter,ifs,0⟩::gs) scope pos 0 p a)
  (hs:∀x,foldedSetIterable iter X.env x=pure x:=by intro _;rfl):EL X B (.ListComp elt (⟨tg,iter,ifs,0⟩::gs) scope pos) (a3M mi keep more g t a):=by
 intro pins s σ H Q I h;exact b9a (act:=TAc X.K B X.N.length a) ok hc hi hg ht (fun s H fp p=>he s H fp p) hs pins s σ H Q I (b1G ok.klen σ H Q I.len h)
end
section
variable{o:Expr}{ma mb:Mo D}
end
theorem b9g:PE X (.Dict [some (.Constant (.int i) x1 p1)] [.Constant (.int j) x2 p2] pos) (fun _ H Q=>∀p,H p=none->Q (.ref p) (upd H p (.dK [(.inl i,.int j)]))):=fun pins s σ H Q I h=>by
 refine wpAny_Dict_walk (knd:=k3_ X.prog X.w) rfl rfl (by simp) (show 1≤15 by decide) (pairTrees_cons_walk (Xe (Xe (pairTrees_nil_walk ?_))))
 refine⟨[(.inl i,.int j (s.toks+1))],⟨by simp[k3_,a2Q,Value.isInt],rfl,trivial⟩,Heap.DictOf.new s.heap,fun h' d sb=>?_⟩
 have hne:∀b u,s.heap.get? b=some u->b≠s.heap.objs.size:=fun b u e=>Qi (Qg e)
 refine⟨.ref s.heap.objs.size,_,I.laid (a:=s.heap.objs.size) (o:=.dK [(.inl i,.int j)]) (fun b u e=>(sb.2 b (hne b u e)).trans (Qx _ e)) (Qb _)
  ⟨show 1≤sizeLine by decide,Yr.mpr (Zh (Qi (b7G I))),_,.cons ⟨rfl,⟨_,rfl⟩⟩ .nil,d⟩,rfl,h _ (I.hok.fresh (Qb _))⟩
theorem b1I:ED X B (.Dict [some (.Constant (.int i) x1 p1)] [.Constant (.int j) x2 p2] pos) (mC .emp):=by
 refine pe_imp b9g ?_
 rintro σ H Q ⟨G,env,d,env',rl,e,k⟩;cases e;exact fun p hp=>k _ _ _ (rl.alloc hp) (by simp only[Rep];exact⟨p,_,rfl,x0_⟩)
section
variable{prog:Program}{c1 c2:Bool}
end
section
variable{R:Result->Shared->Prop}{c1 c2:Bool}{n l1 l2 S:Addr}{xs ys:List V}
end
section
variable{a b:Expr}{ms:Mo (List D)}
end
section
variable{prog:Program}
end
section
variable{es:List Expr}{gs:List D->Env'->Option Env'}
end
section
variable{G:Hp}
theorem a8e:∀ns:List Int,(k4_ ns).map kV=ns.map V.int
 |[]=>rfl
 |n::ns=>by show V.int n::(k4_ ns).map kV=_;rw[a8e ns];rfl
theorem a4z:∀{a b:List Int},k4_ a=k4_ b->a=b
 |[],[],_=>rfl
 |[],_::_,e=>by simp[k4_]at e
 |_::_,[],e=>by simp[k4_]at e
 |x::a,y::b,e=>by
  simp only[k4_,Qd,Vh,Sum.inl.injEq]at e;rw[e.1,a4z e.2]
def b9h(K:Qz)(H:Hp)(b:Addr)(k:List Int):Prop:=H b=some (.tup ((k4_ k).map kV))∨a5w K b (k4_ k)
theorem b9i{P:Program}{b:Addr}{k:List Key}(ok:HOk P w H h)(kin:K.In h)(e:H b=some (.tup (k.map kV))∨a5w K b k):(tupleKind (k3_ P w)).is h k b:=by
 rcases e with e|e
 ·exact b6e ok e
 ·rcases e with e|⟨o,its,n,h1,h2,_,h3,_,h4⟩
  ·cases e
  ·exact⟨o,its,n,kin b o h1,h2,h3,a7i h4⟩
end
section
variable{a b:Addr}{kvs:List (List Key×V)}
end
section
variable{G:Hp}
end
section
variable{a b:Expr}{ma mb:Mo D}
end
section
variable{p:Pos}{es:List Expr}{ma:Mo D}{ms:Mo (List D)}
end
section
variable{G G1 G2:Hp}{env env1:Env'}{H1 H2:Hp}{vs:List V}{ds:List D}{a:Addr}
end
section
variable{p:Pos}{es:List Expr}{ms:Mo (List D)}{fn:Fn}{k:Nat}
end
end L2.Mir
namespace L2.Mir
open PySem PySem.Spec PyProof.Rows
variable{B:OA}{X:Cx}{i:Nat}{pos py spos:Pos}{y:Str}
def b9j:D->Option Str
 |.str x=>if x.length≤1000 then some x else none
 |.int i=>if-1000000000000000000<i/\i<1000000000000000000 then some (Str.ofString (toString i))else none
 |_=>none
def b1J:List D->Option Str
 |[]=>some Str.empty
 |d::ds=>(b9j d).bind fun x=>(b1J ds).map fun y=>x++y
section
variable{p:Pos}{e:Expr}{vs:List Expr}{ma:Mo D}{ms:Mo (List D)}
def PJ(X:Cx)(B:OA)(vs:List Expr)(ms:Mo (List D)):Prop:=∀(pins:OX) (s:Shared) (σ:St) (H:Hp) (acc:Str) (Q:Str->Hp->Prop),Inv X pins σ H s->
 (∃G env ds env' y,Rel X.K B G σ env H/\ms env=some (ds,env')/\b1J ds=some y/\acc.length+1000 * ds.length≤sizeLine/\∀G' H',Ev X.K B G σ env H G' σ env' H'->Q (acc++y) H')->
 Joins (model X.prog X.w) X.A X.xe (evalEach vs X.env) acc (fun out s1=>∃H',Inv X pins σ H' s1/\Q out H') s
end
section
variable{N':List Str}{scope:Scope}{keep:List Bool}{more:Nat}{tg iter elt:Expr}{ifs:List Expr}{gs:List Comprehension}{g:TG}{tt:TT}{act:Addr->a2j}
theorem b9k{wi:TI}(ok:CompOk X N' scope keep more)(hc:X.calm=true)(hN:X.N.Nodup)(hy:X.N[i]? =some y)(hyl:X.env.scope.names.lookup y=some .local)
  (hsw:swapsWith (.ListComp elt (⟨tg,iter,ifs,0⟩::gs) scope pos) (some (.Name y py)) spos.line X.env=pure true)
  (hi:PI X tg iter wi)(hg:∀s H fp,PG (k1_ X N' scope s H fp) tg g)(ht:∀s H fp,a1k (k1_ X N' scope s H fp) ifs tt)(he:∀s H fp p,a3h (k1_ X N' scope s H fp) (a2i elt (⟨tg,iter,ifs,0⟩::gs) scope pos 0 (.ref p) (k1_ X N' scope s H fp).env) (act p))
  (hs:∀x,foldedSetIterable iter X.env x=pure x:=by intro _;rfl):PS X (.Assign [.Name y py] (.ListComp elt (⟨tg,iter,ifs,0⟩::gs) scope pos) spos) (a6T (a8d wi keep more g tt act) (a6S i)):=by
 intro pins s σ H D I h;rw[exec_Assign_Name_used _ _ _ _ hsw];refine Qq (Tu (Qq ?_));show wpAny _ X.A (do let _←comprehension (.ListComp elt (⟨tg,iter,ifs,0⟩::gs) scope pos) scope X.env _ (newList []) false (eval iter X.env) (some (assign (.Name y py) X.env))) _ _ s
 refine Qq (Zn (wpAny_comprehension_free (use:=some (assign (.Name y py) X.env)) (Q:=fun _ s'=>SP X pins D .next s') rfl hs ok.clos ok.kind (fun x hx hl=>by have:=ok.uniq x hx;rwa [hl]at this) (thn (hi pins s σ H _ I h) fun v s1 h1=>thn h1 fun itv s2 h2=>?_)) (fun _ s' hq=>Qj (Qj hq)) fun _ _ e=>e)
 obtain⟨it,fp,tn,J,H2,e,I2,T,st2,f2,run⟩:=h2;subst e;refine b1F (Qf:=fun p H'=>D.nx (σ.set i (some (.ref p))) H') (RR:=fun acc C=>compPost (model X.prog X.w) X.A X.xe (some (assign (.Name y py) X.env)) (fun _ s'=>SP X pins D .next s') acc C) ok hc hg ht he I2 T st2 f2 run ?_
 intro p C s' H' m IX qf hn hCL hCc hCn turn;refine wpAny_assign_Name (a9V (v:=.ref p) (u:=.ref p) IX hN hy (.inl hyl) rfl (fun s'' I'' hs''=>?_) (.inr hyl))
 obtain⟨a,hsb,ha⟩:=hs'';have hCa:C≠a:=by
  rcases ha with z|z
  ·rw[z];exact hCL
  ·exact fun q=>hCc y a z q.symm
 exact⟨m,hn.sameBut hsb hCa,fun h' hs'=>⟨_,H',turn _ H' s'' h' I'' hCn hs',qf⟩⟩
end
section
variable{N':List Str}{scope scope0:Scope}{keep:List Bool}{more n d:Nat}{tg iter elt:Expr}{ifs:List Expr}{gens gs:List Comprehension}{g:OZ}{t:Mo Bool}{m:Mo D}{mi:Mo (List D)}{a:Mo (List D)}{s:Shared}{H:Hp}{fp:List Addr}{p:Addr}
theorem b9l(ok:CompOk X N' scope keep more)(hc:X.calm=true)(hN:X.N.Nodup)(hy:X.N[i]? =some y)(hyl:X.env.scope.names.lookup y=some .local)
  (hsw:swapsWith (.ListComp elt (⟨tg,iter,ifs,0⟩::gs) scope pos) (some (.Name y py)) spos.line X.env=pure true)
  (hi:EI X B tg iter mi)(hg:∀s H fp,EG (k1_ X N' scope s H fp) B X.N.length tg g)(ht:∀s H fp,a1k (k1_ X N' scope s H fp) ifs (TTm X.K B t))
  (he:∀s H fp p,EAc (k1_ X N' scope s H fp) B X.N.length elt (⟨tg,iter,ifs,0⟩::gs) scope pos 0 p a)
  (hs:∀x,foldedSetIterable iter X.env x=pure x:=by intro _;rfl):ES X B (.Assign [.Name y py] (.ListComp elt (⟨tg,iter,ifs,0⟩::gs) scope pos) spos) (u8_ i (a3M mi keep more g t a)):=by
 intro pins s σ H D I h;obtain⟨G,env,fl,env',rl,e,k⟩:=h;obtain⟨⟨d,env1⟩,e1,e2⟩:=x2_ e;cases e2;exact b9k (act:=TAc X.K B X.N.length a) ok hc hN hy hyl hsw hi hg ht (fun s H fp p=>he s H fp p) hs pins s σ H D I (b1G ok.klen σ H _ I.len ⟨G,env,d,_,rl,e1,fun a xs G' H' ev ha no h' g' r=>k _ G' H' (ev.setOwn (fun z=>rl.old a z ha) ha no h' g' r)⟩)
end
inductive NamesAt (X:Cx):List Expr->List Nat->Prop
 |nil:NamesAt X [] []
 |cons {x:Str}{p:Pos}{i:Nat}{es:List Expr}{is:List Nat}:PE X (.Name x p) (a0Z i)->NamesAt X es is->NamesAt X (.Name x p::es) (i::is)
section
variable{K:Qz}{G:Hp}{σ:St}{env:Env'}{H:Hp}
open Classical in
end
section
variable{p:Pos}{e:Expr}{es:List Expr}{is:List Nat}{fn:Fn}{k n:Nat}{x:Str}
end
end L2.Mir
namespace L2.Mir
open PySem PyProof PyProof.Rows L2
variable{A:Around}{B:OA}{E:OE}{G H:Hp}{K:Qz}{X:Cx}{e:Expr}{pos:Pos}{prog:Program}{r:Nat}{s:Shared}{w:World}{σ:St}
variable{X:Cx}{B:OA}
inductive RowsAre (h:Heap):List Value->OI->Prop
 |nil:RowsAre h [] []
 |cons {a:Addr}{its:Array Value}{k:List Int}{vs:List Value}{ks:OI}(t:IsTup h a its) (i:IntsAre its.toList k) (r:RowsAre h vs ks):RowsAre h (.ref a::vs) (k::ks)
section
open PySem.SeqAt
open PySem.AutoSeq1 (wpAny_loadPart')
open PySem.MeetsSeq PySem.MeetsSeq2 PySem.MeetsSeq3
end
section
variable{pins:OX}
end
section
variable{st:Expr}{ma:Mo D}{p2:Pos}
end
section
variable{h₀:Heap}{L kS D:Addr}{m:OU}{news0:OX}{e1:Nat}{Fin:List Value->Nat->Shared->Prop}
end
section
variable{pins:OX}
end
section
variable{ma:Mo D}{p p1 kp1 kp2:Pos}{j:Nat}{p2:Pos}
end
section
open PySem.SeqAt
open PySem.AutoSeq1 (wpAny_loadPart')
open PySem.MeetsSeq PySem.MeetsSeq2 PySem.MeetsSeq3
end
section
variable{o:Expr}{ma mb:Mo D}
end
section
variable{H0 G':Hp}{σ':St}{env env':Env'}{H':Hp}
end
section
variable(K:Qz)(B:OA)(r:Nat)
end
section
variable{a b:Expr}{st:Stmt}{rest:List Stmt}
end
section
variable{a b tg:Expr}{st:Stmt}{rest:List Stmt}
end
mutual
def D.lf:D->Bool
 |.non=>true
 |.bl _=>true
 |.int _=>true
 |.str _=>true
 |.tup ds=>lfL ds
 |_=>false
def lfL:List D->Bool
 |[]=>true
 |d::ds=>d.lf&&lfL ds
end
section
variable{G':Hp}
mutual
theorem rep_lf(h:∀b xs,G b=some (.tup xs)->G' b=some (.tup xs)):∀(d:D) {v:V},d.lf=true->Rep K G v d->Rep K G' v d
 |.non,v,_,r=>by simpa only[Rep]using r
 |.bl b,v,_,r=>by simpa only[Rep]using r
 |.int i,v,_,r=>by simpa only[Rep]using r
 |.str x,v,_,r=>by simpa only[Rep]using r
 |.tup ds,v,l,r=>by
  simp only[Rep]at r ⊢;obtain⟨a,xs,e,q,t⟩:=r;exact⟨a,xs,e,q.imp (fun e=>h _ _ e) id,repL_lf h ds (by simpa only[D.lf]using l) t⟩
 |.lst ds,v,l,r=>by simp[D.lf]at l
 |.emp,v,l,r=>by simp[D.lf]at l
 |.obj o,v,l,r=>by simp[D.lf]at l
 |.dct _ _,v,l,r=>by simp[D.lf]at l
 |.dcx _ _,v,l,r=>by simp[D.lf]at l
theorem repL_lf(h:∀b xs,G b=some (.tup xs)->G' b=some (.tup xs)):∀(ds:List D) {xs:List V},lfL ds=true->z9_ K G xs ds->z9_ K G' xs ds
 |[],_,_,r=>by simpa only[z9_]using r
 |d::ds,_,l,r=>by
  simp only[z9_]at r ⊢;obtain⟨x,t,e,q,u⟩:=r;have l':d.lf=true/\lfL ds=true:=by simpa only[lfL,Qp]using l
  exact⟨x,t,e,rep_lf h d l'.1 q,repL_lf h ds l'.2 u⟩
end
end
section
variable{H0:Hp}{env:Env'}
end
section
variable{p px:Pos}{fn:Fn}{k n:Nat}{x y:Str}
end
section
variable{G1:Hp}{σ1:St}{env env1:Env'}{H1:Hp}
end
section
variable{N':List Str}{scope:Scope}{keep:List Bool}{more:Nat}{tg iter elt:Expr}{g:OZ}{ml mi:Mo (List D)}
end
section
variable{ma:Mo D}{p2:Pos}
end
open PySem.W Builtin Builtin.ObjectAttr Builtin.Getset_descriptor PySem.Calls
theorem fl1:typeLookup (.type "function") "__getattribute__"=pure (some (.builtin "object.__getattribute__")):=by rfl
theorem fl5:getOf (some (.builtin "object.__class__"))=pure (some (.builtin "getset_descriptor.__get__")):=by rfl
section
variable{x:Addr}{h:Heap}{g:Array GenState}{d:Drawn}{t:Nat}{os:OsState}
end
def Nsd(K:Qz)(mg:OU)(x:Str):Prop:=∃f,PySem.W.nsIn K mainGlobals x=some (some (.ref f))/\mg x=some (.ref f)/\PySem.W.KitX K (.ref f) (.type "function") (fun _=>True)
section
variable{es:List Expr}{p:Pos}{y:Str}{i k n:Nat}{as:Mo (List Ar)}
def b9m(X:Cx)(n:Nat)(l:List (Str×Fn)):Prop:=∀nm fn,l.lookup nm=some fn->∃k,Room k X.A/\Def X.prog X.w X.K X.mg X.base nm k n fn/\Nsd X.K X.mg nm
def b9n(X:Cx)(n:Nat)(l:List (Str×(List W->Option Str))):Prop:=∀nm g,l.lookup nm=some g->∃k,Room k X.A/\DefX X.prog X.w X.K X.mg X.base nm k n g/\Nsd X.K X.mg nm
end
theorem b9o:typeLookup (.type "list") (Str.ofString "keys")=pure none:=by rw[typeLookup_type,builtinLookup_eq_fast];kernel_rfl
theorem b9p{a:Addr}{items:Array Value}{Q:Option Value->Shared->Prop}(hh:A.handled=none)(hl:PlainL s.heap a items)
  (hQ:∀h' tk,(∀b o,s.heap.get? b=some o->h'.get? b=some o)->Q none {s with heap:=h',toks:=tk}):wpAny (model prog w) A (getAttr? (.ref a) (Str.ofString "keys")) Q E s:=by
 obtain⟨o,k,hk,h1,h2,h3⟩:=hl;obtain⟨c,di,da,sl⟩:=o;simp only at h1 h2 h3;subst h1 h2 h3;have T:s.TypeIs (.ref a) "list":=⟨_,hk,rfl⟩;unfold getAttr?;refine Qq (wpAny_mkText ?_);have T1:Shared.TypeIs {s with toks:=s.toks+1} (.ref a) "list":=T
 unfold getAttrBy?;refine Qq (Ux ?_);unfold getAttrBy;refine Yj ?_
 refine Qq (Uo T1 ?_);rw[PySem.F.slot_list_getattribute.lookup,pure_bind];dsimp only;rw[Qm (by decide)]
 unfold getAttrByItsOwn;refine Qq ?_
 unfold hookBefore;rw[Qm (by decide)]
 refine Qj ?_
 refine Qq (Ux ?_);refine Yj ?_
 unfold callGetattribute;rw[Qm (by decide)]
 unfold boundAndCalled;rw[PySem.F.slot_list_getattribute.bind,pure_bind];refine Va PySem.F.slot_list_getattribute T1 am_entry_list_getattribute (PySem.F.args_list_getattribute_2 _ _) (meets_getattribute_miss_list a items k sl _ _ b9o (by decide)) ⟨hk,hh,fun h' tk e ne=>?_⟩
 obtain⟨t,u,ht⟩:=ne.there;have Te:Shared.TypeIs {s with heap:=h',toks:=tk} (.ref e) "AttributeError":=⟨_,ht,rfl⟩
 show wpAny _ _ (getattributeRaised _ _ _ _ _ _ _) _ _ _;unfold getattributeRaised;refine Qq (Yo Te sub_AttributeError ?_);rw[Qh rfl];unfold hookBehind;rw[Qm (by decide),am_list_getattr_none,pure_bind]
 unfold hookOrError;dsimp only;unfold attributeErrorLeaves;dsimp only;rw[Qh (show(!false)=true from rfl)]
 refine Qq (wpAny_throw ?_);show wpAny _ _ _ _ _ _;refine Qq (Yo Te sub_AttributeError ?_);rw[Qh rfl];exact Qj (hQ h' tk ne.keeps)
theorem b1K:entryFor table "dict.update.loop"=some PySem.Builtin.«dict.update.loop»:=by kernel_rfl
theorem a6h:plainId "dict.update.loop"=true:=by decide+kernel
inductive PairsAt (K:Qz) (G:Hp):List V->List (List Int×V)->Prop
 |nil:PairsAt K G [] []
 |cons {q b:Addr}{k:List Int}{v:V}{xs:List V}{ps:List (List Int×V)}:SqU K G q [.ref b,v]->b9h K G b k->PairsAt K G xs ps->PairsAt K G (.ref q::xs) ((k,v)::ps)
section
variable{pins:OX}{R:Result->Shared->Prop}{l it d:Addr}{xs:List V}
end
end L2.Mir
namespace L2.Mir
open PySem PySem.Spec PyProof.Rows PySem.W
variable{B:OA}{X:Cx}{e:Expr}{k:Nat}{m ma mb:Mo D}{pos:Pos}{α:Type}
structure DefT(P:Program)(w:World)(K:Frag)(mg:OU)(base:Heap)(x:Str)(k n:Nat)(fn:Fn)(ts:List Addr):Prop where
 ex:∃(f:Addr) (fd:FuncData) (ps:List Str),FnOk P w K mg base CX0 k f fd ps (SpT K ts n fn)/\ps.length=n/\mg x=some (.ref f)/\keepIn K (.ref f)=true/\a0x K fd ps []
section
variable{p:Pos}{es:List Expr}{as:Mo (List Ar)}{fn:Fn}{n:Nat}{x:Str}{ts:List Addr}{f:Addr}{fd:FuncData}{ps:List Str}{t:TA}{E:XK}
end
theorem k0_{N P:List Str}{sc:Scope}(a:sc.kind=.function:=by rfl)(b:sc.isCoroutine=false:=by rfl)(c:sc.isGenerator=false:=by rfl)(d:N.Nodup:=by decide+kernel)(e:N.take P.length=P:=by rfl)(f:∀x∈P,sc.names.lookup x=some .local∨sc.names.lookup x=some .cell:=by decide+kernel)(g:∀y∈sc.names,y.2≠.free:=by decide+kernel):FnScope N P sc:=⟨a,b,c,d,e,f,g⟩
theorem us1{M:List α->Prop}(h:∀a,M [a]):∀us:List α,us.length=1->M us
 |[a],_=>h a
theorem us2{M:List α->Prop}(h:∀a b,M [a,b]):∀us:List α,us.length=2->M us
 |[a,b],_=>h a b
theorem us3{M:List α->Prop}(h:∀a b c,M [a,b,c]):∀us:List α,us.length=3->M us
 |[a,b,c],_=>h a b c
section
variable{o:Expr}
end
section
variable{o:Expr}
end
section
variable{tg:Expr}
end
section
variable{e2:Expr}
end
def lkK:List (Key×Key)->Key->Option Key
 |[],_=>none
 |p::l,k=>if p.1=k then some p.2 else lkK l k
structure DkG(P:Program)(w:World)(K:Qz)(mg:OU)(x:Str)(kvs:List (Key×Key)):Prop where
 ex:∃a,mg x=some (.ref a)/\(a==sysModules)=false/\∀h:Heap,K.In h->(∃o,h.get? a=some o/\o.cls=.type "dict")/\∃g:Key->Option Value,h.MapOf (k3_ P w) a g/\∀k,a5g ((lkK kvs k).map kV) (g k)
section
variable{a b:Expr}{kvs:List (Key×Key)}
end
section
variable{k1 k2 k3 v1 v2 v3:Expr}{a1 a2 a3 b1 b2 b3:Key}
end
inductive Ents (P:Program) (w:World):List DictEntry->List (Key×Key)->Prop
 |nil:Ents P w [] []
 |cons {e:DictEntry}{p:Key×Key}{es:List DictEntry}{kvs:List (Key×Key)}:v4_ (kV p.1) e.key->e.hash=(k3_ P w).hash p.1->v4_ (kV p.2) e.val->Ents P w es kvs->Ents P w (e::es) (p::kvs)
section
variable{a b st:Expr}{p2:Pos}
end
def lkF:List (Str×Str)->Key->Option Str
 |[],_=>none
 |p::l,k=>if(.inr p.1:Key)=k then some p.2 else lkF l k
def b9q(mg:OU):Option Str->Option Value->Prop
 |none,o=>o=none
 |some n,o=>∃f,mg n=some (.ref f)/\o=some (.ref f)
structure DfG(P:Program)(w:World)(K:Qz)(mg:OU)(x:Str)(kvs:List (Str×Str)):Prop where
 ex:∃a,mg x=some (.ref a)/\(a==sysModules)=false/\∀h:Heap,K.In h->(∃o,h.get? a=some o/\o.cls=.type "dict")/\∃g:Key->Option Value,h.MapOf (k3_ P w) a g/\∀k,b9q mg (lkF kvs k) (g k)
 wk:(kvs.map fun p=>(.inr p.1:Key)).Nodup->∃a vs ep,mg x=some (.ref a)/\(a==sysModules)=false/\vs.map (·.1)=kvs.map (fun p=>(.inr p.1:Key))/\∀h:Heap,K.In h->h.DictAt (k3_ P w) a vs ep
section
variable{a b:Expr}{kvs:List (Str×Str)}
end
inductive EntF (P:Program) (w:World) (mg:OU):List DictEntry->List (Str×Str)->Prop
 |nil:EntF P w mg [] []
 |cons {e:DictEntry}{p:Str×Str}{f:Addr}{es:List DictEntry}{kvs:List (Str×Str)}:v4_ (.str p.1) e.key->e.hash=(k3_ P w).hash (.inr p.1)->e.val=.ref f->mg p.2=some (.ref f)->EntF P w mg es kvs->EntF P w mg (e::es) (p::kvs)
section
variable{K:Qz}{G G':Hp}{σ σ':St}{env env':Env'}{H H':Hp}
end
section
variable{k1 k2 k3 k4 v1 v2 v3 v4:Expr}{a1 a2 a3 a4:Str}{m1 m2 m3 m4:Mo D}
end
section
variable{p:Pos}{fn:Fn}{x:Str}
end
section
variable{tg:Expr}{kvs:List (Str×Str)}
end
section
variable{prog:Program}{w:World}{A:Around}{R:Result->Shared->Prop}{I S:Addr}{fp wr:List Addr}{n:Nat}{P:Nat->Value->Prop}{St:Nat->Heap->Prop}{bt:Nat->Nat->Bool}{Z:Heap->Prop}
end
section
variable{p p1:Pos}{e2:Expr}{fn:Fn}{i:Nat}{x y:Str}
end
section
variable{prog:Program}{w:World}{A:Around}{s:Shared}{fin:Bool}{Q:Bool->Shared->Prop}
end
section
variable{pins:OX}{σ:St}{G H:Hp}{s:Shared}
end
theorem a8f{g:OZ}{t:Mo Bool}{m:Mo D}:∀{ds:List D}{env e:Env'}{r:List D},j7_ g t m ds env=some (r,e)->a1K g t (a1o m) ds env=some (r,e)/\r.length≤ds.length
 |[],env,e,r,h=>by cases h;exact⟨rfl,Qb _⟩
 |d::ds,env,e,r,h=>by
  obtain⟨e1,h1,h⟩:=q4_ h;obtain⟨⟨b,e2⟩,h2,h⟩:=q4_ h;have goal:∀z,((g d env).bind fun e1=>(t e1).bind fun p=>if p.1 then(a1o m p.2).bind fun q'=>(a1K g t (a1o m) ds q'.2).map fun r=>(q'.1++r.1,r.2)else a1K g t (a1o m) ds p.2)=z->a1K g t (a1o m) (d::ds) env=z:=fun z h=>h
  cases b with
  |false=>
   obtain⟨a1,a2⟩:=a8f (show j7_ g t m ds e2=some (r,e)from h)
   exact⟨goal _ (by rw[h1,Qk,h2];exact a1),Nat.le_succ_of_le a2⟩
  |true=>
   obtain⟨⟨x,e3⟩,h3,h⟩:=q4_ (show(m e2).bind (fun q=>(j7_ g t m ds q.2).map fun r=>(q.1::r.1,r.2))=some (r,e)from h)
   obtain⟨⟨r',e4⟩,h4,h5⟩:=x2_ h;cases h5;obtain⟨a1,a2⟩:=a8f h4;refine⟨goal _ ?_,Nat.succ_le_succ a2⟩;have he:a1o m e2=some ([x],e3):=by
    show(m e2).map _=_;rw[h3]
    rfl
   rw[h1,Qk,h2];show(a1o m e2).bind _=_;rw[he];show(a1K g t (a1o m) ds e3).map _=_;rw[a1]
   rfl
theorem b1L{mi:Mo (List D)}{keep:List Bool}{more:Nat}{g:OZ}{t:Mo Bool}{env:Env'}{x:List D×Env'}(h:y1_ mi keep more g t m env=some x):a3M mi keep more g t (a1o m) env=some x:=by
 obtain⟨p,h1,h⟩:=q4_ h;split at h
 case isFalse=>cases h
 rename_i hl;obtain⟨⟨r,e⟩,h2,h3⟩:=q4_ h;obtain⟨a1,a2⟩:=a8f h2;unfold a3M;rw[h1,Qk,a1,Qk,Qh (Zt a2 hl)];exact h3
section
variable{N':List Str}{scope:Scope}{keep:List Bool}{more:Nat}{tg iter elt:Expr}{ifs:List Expr}{g:OZ}{t:Mo Bool}{mi:Mo (List D)}
theorem g0_(ok:CompOk X N' scope keep more)(hc:X.calm=true)(hi:EI X B tg iter mi)(hg:∀s H fp,EG (k1_ X N' scope s H fp) B X.N.length tg g)(ht:∀s H fp,a1k (k1_ X N' scope s H fp) ifs (TTm X.K B t))(he:∀s H fp,ED (k1_ X N' scope s H fp) B elt m)
  (hs:∀x,foldedSetIterable iter X.env x=pure x:=by intro _;rfl):EL X B (.ListComp elt [⟨tg,iter,ifs,0⟩] scope pos) (y1_ mi keep more g t m):=
 pe_imp (b9f ok hc hi hg ht (fun s H fp p=>b1H rfl (he s H fp)) hs) (by rintro σ H Q ⟨G,env,d,env',rl,e,k⟩;exact⟨G,env,d,env',rl,b1L e,k⟩)
theorem a8g{i:Nat}{y:Str}{py spos:Pos}(ok:CompOk X N' scope keep more)(hc:X.calm=true)(hN:X.N.Nodup)(hy:X.N[i]? =some y)(hyl:X.env.scope.names.lookup y=some .local)
  (hsw:swapsWith (.ListComp elt [⟨tg,iter,ifs,0⟩] scope pos) (some (.Name y py)) spos.line X.env=pure true)
  (hi:EI X B tg iter mi)(hg:∀s H fp,EG (k1_ X N' scope s H fp) B X.N.length tg g)(ht:∀s H fp,a1k (k1_ X N' scope s H fp) ifs (TTm X.K B t))(he:∀s H fp,ED (k1_ X N' scope s H fp) B elt m)
  (hs:∀x,foldedSetIterable iter X.env x=pure x:=by intro _;rfl):ES X B (.Assign [.Name y py] (.ListComp elt [⟨tg,iter,ifs,0⟩] scope pos) spos) (u8_ i (y1_ mi keep more g t m)):=by
 refine ps_imp (b9l (i:=i) ok hc hN hy hyl hsw hi hg ht (fun s H fp p=>b1H rfl (he s H fp)) hs) ?_
 rintro D σ H ⟨G,env,fl,env',rl,e,k⟩;obtain⟨⟨d,env1⟩,e1,e2⟩:=x2_ e;cases e2;refine⟨G,env,.nx,env1.set i (.own d),rl,?_,k⟩;show(a3M mi keep more g t (a1o m) env).map _=_;rw[b1L e1]
 rfl
end
section
variable{n:Nat}
end
def b1M(t:SetTable):Nat->SetTable.Probe->SetTable.Probe
 |0,p=>p
 |n+1,p=>b1M t n (t.advance p)
def road(t:SetTable)(h:Int)(n:Nat):Nat:=(b1M t n (t.probeStart h)).j
structure Tb(t:SetTable)(es:Array (Int×Value))(L:List (Nat×Int×Value)):Prop where
 pl:t.place.toList=L.map (·.1)
 en:es.toList=L.map (·.2)
 ri:(L.map (·.1)).Pairwise (· < ·)
 le:∀x∈L,x.1≤t.mask
 du:t.dummies= #[]
 rd:∀x∈L,∃n,road t x.2.1 n=x.1/\∀n',n'<n->road t x.2.1 n'∈L.map (·.1)
variable{t:SetTable}{es:Array (Int×Value)}{L:List (Nat×Int×Value)}
end L2.Mir
namespace L2.Mir
open PySem PySem.Spec PyProof.Rows
variable{A:Around}{B:OA}{E:OE}{G H:Hp}{K:Qz}{P prog:Program}{Q:Option Value->Shared->Prop}{X:Cx}{a b:Addr}{d:D}{ds:List D}{e:DictEntry}{ep i n:Nat}{es:Array DictEntry}{h h':Heap}{k:KX}{ks:List KX}{p:Pos}{s:Shared}{v:Value}{w:World}{x:Str}{xs:List V}{ys:List (KX×Addr×Value)}
abbrev fr(ow:Array (Option Nat))(j:Nat):Bool:=(ow.getD j (some 0)).isNone
structure Lay(t:SetTable)(hs:List Int)(k:Nat)(ow:Array (Option Nat)):Prop where
 sz:ow.size=t.mask+1
 rd:∀j q,ow.getD j none=some q->q<k/\∃n,road t (hs.getD q 0) n=j/\∀n',n'<n->(ow.getD (road t (hs.getD q 0) n') none).isSome=true
 al:∀q,q<k->∃j,ow.getD j none=some q
 inj:∀j j' q,ow.getD j none=some q->ow.getD j' none=some q->j=j'
section
variable{K:Type}[DecidableEq K](knd:KeyKind prog w K)
def a2J(h:Heap):K ⊕ List K->Value->Prop
 |.inl k,v=>knd.is k v=true
 |.inr ks,v=>∃a,v=.ref a/\IsTupleKey knd h ks a
inductive ItsAre (h:Heap):List (K ⊕ List K)->List Value->Prop
 |nil:ItsAre h [] []
 |cons {k:K ⊕ List K}{v:Value}{ks:List (K ⊕ List K)}{vs:List Value}:a2J knd h k v->ItsAre h ks vs->ItsAre h (k::ks) (v::vs)
def g6_(h:Heap)(ks:List (K ⊕ List K))(a:Addr):Prop:=∃o items n,h.get? a=some o/\o.cls=.type "tuple"/\o.data=.seq items n/\ItsAre knd h ks items.toList
def a3i:K ⊕ List K->Int
 |.inl k=>knd.hash k
 |.inr ks=>tupleKeyHash knd ks
def a8h:K ⊕ List K->Nat
 |.inl _=>1
 |.inr ks=>ks.length+1
def a8i(ks:List (K ⊕ List K)):Int:=reduceHash (Builtin.Tuple.tupleHashOf (ks.map (a3i knd)))
def a8j(ks:List (K ⊕ List K)):Nat:=(ks.map (a8h (K:=K))).sum+1
variable{knd}
theorem a2J.inj{x y:K ⊕ List K}(hx:a2J knd h x v)(hy:a2J knd h y v):x=y:=by
 cases x with
 |inl k=>
  cases y with
  |inl k'=>rw[knd.inj _ _ _ hx hy]
  |inr ks=>
   obtain⟨a,rfl,_⟩:=hy;have:=knd.byValue _ _ hx
   simp[carriedByValue]at this
 |inr ks=>
  obtain⟨a,rfl,ha⟩:=hx;cases y with
  |inl k'=>
   have:=knd.byValue _ _ hy
   simp[carriedByValue]at this
  |inr ks'=>
   obtain⟨b,e,hb⟩:=hy;cases e;rw[ha.inj hb]
theorem ItsAre.inj{x y:List (K ⊕ List K)}{vs:List Value}(hx:ItsAre knd h x vs)(hy:ItsAre knd h y vs):x=y:=by
 induction hx generalizing y with
 |nil=>cases hy;rfl
 |cons h1 _ ih=>
  cases hy with
  |cons h2 t2=>rw[h1.inj h2,ih t2]
theorem g6_.inj{x y:List (K ⊕ List K)}(hx:g6_ knd h x a)(hy:g6_ knd h y a):x=y:=by
 obtain⟨o,items,n,ho,_,hd,hi⟩:=hx;obtain⟨o',items',n',ho',_,hd',hi'⟩:=hy;rw[ho]at ho';cases ho';rw[hd]at hd';cases hd';exact hi.inj hi'
theorem g6_.typeIs{ks:List (K ⊕ List K)}(x:g6_ knd s.heap ks a):s.TypeIs (.ref a) "tuple":=let ⟨o,_,_,ho,hc,_⟩:=x;⟨o,ho,hc⟩
theorem g6_.mono(f:∀a o its n,h.get? a=some o->o.data=.seq its n->h'.get? a=some o){ks:List (K ⊕ List K)}(x:g6_ knd h ks a):g6_ knd h' ks a:=by
 obtain⟨o,items,n,ho,hc,hd,hi⟩:=x;refine⟨o,items,n,f _ _ _ _ ho hd,hc,hd,?_⟩;generalize items.toList=l at hi
 induction hi with
 |nil=>exact .nil
 |@cons k v ks vs h1 _ ih=>
  refine .cons ?_ ih;cases k with
  |inl k=>exact h1
  |inr ks=>
   obtain⟨b,e,o2,i2,n2,q1,q2,q3,q4⟩:=h1;exact⟨b,e,o2,i2,n2,f _ _ _ _ q1 q3,q2,q3,q4⟩
theorem b9r{k:K ⊕ List K}{Q:Int->Shared->Prop}(hu:A.units<cLine)(hk:a2J knd s.heap k v)(h:Q (a3i knd k) {s with toks:=s.toks+a8h k}):wpAny (model prog w) A (pyHash v) Q E s:=by
 cases k with
 |inl k=>exact knd.pyHash hk h
 |inr ks=>
  obtain⟨a,rfl,ha⟩:=hk;exact wpAny_pyHash_tuple hu ha h
theorem b9s{x y:K ⊕ List K}{u:Value}{Q:Bool->Shared->Prop}(hu:A.units<cLine)(hx:a2J knd s.heap x u)(hy:a2J knd s.heap y v)(hs:x.isLeft=y.isLeft)(h:Q (decide (x=y)) s):wpAny (model prog w) A (eqBool u v) Q E s:=by
 cases x with
 |inl k=>
  cases y with
  |inl k'=>
   refine knd.eqBool hx hy ?_
   have:decide (k=k')=decide ((Sum.inl k:K ⊕ List K)=Sum.inl k'):=by simp
   rw[this];exact h
  |inr _=>cases hs
 |inr ks=>
  cases y with
  |inl _=>cases hs
  |inr ks'=>
   obtain⟨a,rfl,ha⟩:=hx;obtain⟨b,rfl,hb⟩:=hy;refine wpAny_eqBool_tuple hu ha hb ?_
   have:decide (ks=ks')=decide ((Sum.inr ks:K ⊕ List K)=Sum.inr ks'):=by simp
   rw[this];exact h
theorem b9t{ks:List (K ⊕ List K)}{Q:Int->Shared->Prop}(hu:A.units+1<cLine)(hk:g6_ knd s.heap ks a)(h:Q (a8i knd ks) {s with toks:=s.toks+a8j ks}):wpAny (model prog w) A (pyHash (.ref a)) Q E s:=by
 have hT:=hk.typeIs
 obtain⟨o,items,n,ho,_,hd,hi⟩:=hk;unfold pyHash
 first|unfold pyHashByItsType|skip
 first|refine Qq (wpAny_cRoomFor_or (.inr (by omega)) ?_)|skip
 refine Qq (Vg hT Uh.lookup ?_);rw[Qm (by rw[beq_builtin_none];exact Qo)]
 refine Qq (Vg hT Uh.lookup ?_);refine Qq (wpAny_callSpecialIfBoundUnlessNone?_slot hT Uh (Zb Uh hT PySem.F.entry_tuple_hash ?_ (PySem.F.args_tuple_hash_1 _)));show wpAny _ _ (Builtin.Tuple.tupleItemsOf (.ref a)>>=_) _ _ s;refine Qq (Tx ho hd ?_);refine Qq ?_
 rw[←Tv];refine Vv _
  (fun rest (b:Array Int) s'=>∃dn lf,ks=dn++lf/\ItsAre knd s.heap lf rest/\b.toList=dn.map (a3i knd)/\s'={s with toks:=s.toks+(dn.map (a8h (K:=K))).sum})
  _ ?_ ?_ _ _ ⟨[],ks,rfl,hi,rfl,rfl⟩
 ·rintro x rest b s' ⟨dn,lf,rfl,hl,hb,rfl⟩
  cases hl with
  |@cons k _ ks' _ h1 hl'=>
   refine Qq (b9r (knd:=knd) (k:=k) (by show A.in1.units<cLine;exact hu) h1 ?_)
   first
    |exact Qj ⟨dn++[k],ks',by simp,hl',by simp[hb],by simp[Tg]⟩
    |exact Qq (Qj (Qj ⟨dn++[k],ks',by simp,hl',by simp[hb],by simp[Tg]⟩))
 ·rintro b s' ⟨dn,lf,rfl,hl,hb,rfl⟩
  cases hl;rw[Yt]at h;show wpAny _ _ (retInt (Builtin.Tuple.tupleHashOf b.toList)) _ _ _;rw[hb];refine wpAny_ret_mkInt ?_
  show wpAny _ _ (if(decide (-(2:Int)^63≤Builtin.Tuple.tupleHashOf (dn.map (a3i knd)))&&decide (Builtin.Tuple.tupleHashOf (dn.map (a3i knd))<2^63))=true then _ else _) Q E _
  unfold a8i a8j reduceHash at h
  by_cases hr:(decide (-(2:Int)^63≤Builtin.Tuple.tupleHashOf (dn.map (a3i knd)))&&decide (Builtin.Tuple.tupleHashOf (dn.map (a3i knd))<2^63))=true
  ·rw[Qh hr]
   rw[Qh hr]at h;exact Qj (by simpa [Tg]using h)
  ·rw[Qm hr]
   rw[Qm hr]at h;exact Qq (Ud (Qj (by simpa [Tg]using h)))
def a6i(x y:List (K ⊕ List K)):Prop:=x.map Sum.isLeft=y.map Sum.isLeft
theorem b9u{x y:List (K ⊕ List K)}{P:Fin->Shared->Prop}(hu:A.units<cLine)(al:a6i x y)(hx:g6_ knd s.heap x a)(hy:g6_ knd s.heap y b)(h:P (.done (.ret (.bool (decide (x=y))))) s):
  wpAny (model prog w) A (Builtin.«tuple.__eq__» ⟨[.ref a,.ref b],[]⟩) P E s:=by
 have hTb:=hy.typeIs
 obtain⟨oa,xs,na,hoa,_,hda,hia⟩:=hx;obtain⟨ob,ys,nb,hob,_,hdb,hib⟩:=hy;show wpAny _ _ (isInstance (.ref b) (.type "tuple")>>=_) _ _ s;refine Qq (Yo hTb Xh ?_);simp only[Uk,Qs,Zc];refine Qq (Tx hoa hda ?_);refine Qq (Tx hob hdb ?_);refine Qq ?_
 refine Vv _
  (fun rest r s'=>r.1=none/\s'=s/\∃x' y' xs' ys',rest=List.zip xs' ys'/\a6i x' y'/\ItsAre knd s.heap x' xs'/\ItsAre knd s.heap y' ys'/\decide (x'=y')=decide (x=y)/\(xs'.length==ys'.length)=(xs.size==ys.size))
  _ ?_ ?_ _ _ ⟨rfl,rfl,x,y,xs.toList,ys.toList,rfl,al,hia,hib,rfl,by simp⟩
 ·rintro⟨u,v⟩ rest r s' ⟨hr,rfl,x',y',xs',ys',hz,al',hx',hy',hdec,hlen⟩
  cases hx' with
  |nil=>simp at hz
  |@cons k1 u' x'' xs'' h1 hx''=>
   cases hy' with
   |nil=>simp at hz
   |@cons k2 v' y'' ys'' h2 hy''=>
    simp only[Tw,Vh,Prod.mk.injEq]at hz;obtain⟨⟨rfl,rfl⟩,rfl⟩:=hz;unfold a6i at al';rw[Qd,Qd]at al';injection al' with al1 al2
    refine Qq (b9s (x:=k1) (y:=k2) hu h1 h2 al1 ?_)
    by_cases hk:k1=k2
    ·subst hk
     rw[Ji rfl];simp only[Uk,Qs,Zc];refine Qj ⟨rfl,rfl,x'',y'',xs'',ys'',rfl,al2,hx'',hy'',?_,by simpa using hlen⟩
     rw[←hdec]
     by_cases hxy:x''=y''
     ·simp[hxy]
     ·simp[hxy]
    ·rw[Qe hk]
     simp only[Bool.not_false,Yw];have hf:decide (x=y)=false:=by rw[←hdec];simp[hk]
     rw[hf]at h;exact Qq (Qj (Qj (Qj h)))
 ·rintro⟨r1,r2⟩ s' ⟨hr,rfl,x',y',xs',ys',hz,al',hx',hy',hdec,hlen⟩
  simp only at hr;subst hr;refine Qj ?_
  have hfin:(xs.size==ys.size)=decide (x=y):=by
   rw[←hdec,←hlen];cases hx' with
   |nil=>
    cases hy' with
    |nil=>simp
    |cons _ _=>simp
   |cons _ _=>
    cases hy' with
    |nil=>simp
    |cons _ _=>simp at hz
  show P (.done (.ret (.bool (xs.size==ys.size)))) s';rw[hfin];exact h
theorem b9v{x y:List (K ⊕ List K)}{Q:Bool->Shared->Prop}(hu:A.units+1<cLine)(al:a6i x y)(hx:g6_ knd s.heap x a)(hy:g6_ knd s.heap y b)(h:Q (decide (x=y)) s):
  wpAny (model prog w) A (eqBool (.ref a) (.ref b)) Q E s:=by
 unfold eqBool
 try with_reducible refine Yj ?_
 by_cases hab:(Value.ref a==Value.ref b)=true
 ·rw[Qh hab]
  have e:a=b:=by have:=eq_of_beq hab;injection this
  subst e;obtain rfl:=hx.inj hy;exact Qq (Ud (Qj (by simpa using h)))
 ·rw[Qm hab]
  exact Qq (wpAny_richCompare_same_room (op:=.Eq) hx.typeIs hy.typeIs Vx
   (Zb Vx hx.typeIs PySem.F.entry_tuple_eq (b9u (by show A.in1.units<cLine;exact hu) al hx hy ⟨_,rfl,(fun e=>nomatch e),Yp h⟩) (PySem.F.args_tuple_eq_2 _ _)) (by omega))
end
section
variable{K:Type}[DecidableEq K]{knd:KeyKind prog w K}
theorem b9w{ks:List K}{Q:Bool->Shared->Prop}(hk:IsTupleKey knd s.heap ks a)(h:Q true s):wpAny (model prog w) A (eqIsQuiet (n+1) (.ref a)) Q E s:=by
 have hT:=hk.typeIs
 obtain⟨o,items,n,ho,_,hd,hi⟩:=hk;unfold eqIsQuiet;refine Qq (Vg hT Vx.lookup ?_);show wpAny _ _ (isInstance (.ref a) (.type "tuple")>>=_) _ _ s;refine Qq (Yo hT Xh ?_);simp only[Uk,Qs,Zc];refine Qq (Yd ho hd ?_);refine Qq ?_
 show wpAny _ _ (forIn items _ _) _ _ s;rw[←Tv];refine Vv _ (fun rest r s'=>r.1=none/\s'=s/\∀v∈rest,carriedByValue v=true) _ ?_ ?_ _ _ ⟨rfl,rfl,hi.byValue⟩
 ·rintro v rest r s' ⟨hr,rfl,hall⟩
  rw[eqIsQuiet_byValue _ (hall v Zf)];refine Qq (Qj ?_);simp only[Uk,Qs,Zc];exact Qj ⟨rfl,rfl,fun u hu'=>hall u (Zp _ hu')⟩
 ·rintro⟨r1,r2⟩ s' ⟨hr,rfl,_⟩
  simp only at hr;subst hr;exact Qj h
theorem b9x{k:K ⊕ List K}{Q:Bool->Shared->Prop}(hk:a2J knd s.heap k v)(h:Q true s):wpAny (model prog w) A (eqIsQuiet (n+1) v) Q E s:=by
 cases k with
 |inl k=>rw[eqIsQuiet_byValue _ (knd.byValue _ _ hk)];exact Qj h
 |inr ks=>
  obtain⟨a,rfl,ha⟩:=hk;exact b9w ha h
theorem b9y{ks:List (K ⊕ List K)}{Q:Bool->Shared->Prop}(hk:g6_ knd s.heap ks a)(h:Q true s):wpAny (model prog w) A (eqIsQuiet (n+2) (.ref a)) Q E s:=by
 have hT:=hk.typeIs
 obtain⟨o,items,n,ho,_,hd,hi⟩:=hk;unfold eqIsQuiet;refine Qq (Vg hT Vx.lookup ?_);show wpAny _ _ (isInstance (.ref a) (.type "tuple")>>=_) _ _ s;refine Qq (Yo hT Xh ?_);simp only[Uk,Qs,Zc];refine Qq (Yd ho hd ?_);refine Qq ?_
 show wpAny _ _ (forIn items _ _) _ _ s;rw[←Tv];refine Vv _ (fun rest r s'=>r.1=none/\s'=s/\∃ks',ItsAre knd s.heap ks' rest) _ ?_ ?_ _ _ ⟨rfl,rfl,ks,hi⟩
 ·rintro v rest r s' ⟨hr,rfl,ks',hall⟩
  cases hall with
  |cons h1 h2=>
   refine Qq (b9x h1 ?_);simp only[Uk,Qs,Zc];exact Qj ⟨rfl,rfl,_,h2⟩
 ·rintro⟨r1,r2⟩ s' ⟨hr,rfl,_⟩
  simp only at hr;subst hr;exact Qj h
end
section
variable{K:Type}[DecidableEq K]{knd:KeyKind prog w K}
variable{S:Addr}{o:Obj}{es:Array (Int×Value)}{t:SetTable}{L:List (Nat×Int×Value)}{kx:List (K ⊕ List K)}{ax:Addr}
end
section
variable{K:Type}[DecidableEq K]{knd:KeyKind prog w K}
end
section
variable{K:Type}[DecidableEq K]{knd:KeyKind prog w K}
end
def a1p(h:Heap)(d:Addr)(es:Array DictEntry)(ep:Nat):Prop:=∃o,h.get? d=some o/\o.data=.dict es ep
section
variable{it d:Addr}
theorem b1N{v:Addr}{Q:OE}(hv:s.heap.IsValuesView v d)(hm:a1p s.heap d es ep)
  (q:Q (.ref s.heap.objs.size) {s with heap:=s.heap.push {cls:=.type "dict_valueiterator",data:=.fields #[.ref d,.int 0 0,.int es.size 0,.int ep 0]}}):wpAny (model prog w) A (pyIter (.ref v)) Q E s:=by
 obtain⟨ov,v1,v2,v3⟩:=id hv;obtain⟨o,d1,d2⟩:=hm;refine wpAny_pyIter_slot hv.typeIs Xi (Zb Xi hv.typeIs PySem.F.entry_dict_values_iter ?_ (PySem.F.args_dict_values_iter_1 _));refine Qq (Qj (Qq ?_));unfold Builtin.Dict_items.dictOf;refine Qq (Ze v1 v3 (x:=.ref d) rfl (Qj (Qq ?_)));unfold Builtin.Dict_items.newIterator;refine Qq (Yv d1 d2 (Qq (Jc d1 d2 ?_)));have ow:Builtin.Dict_items.ownsTuple "dict_valueiterator"=false:=by decide
 simp only[ow,Qs,Zc];refine Zq (Qj ⟨_,rfl,"dict_valueiterator",_,⟨_,Qu _ rfl,rfl⟩,PySem.F.slot_dict_valueiterator_next.lookup,?_⟩)
 simpa [rawInt]using q
theorem b1O(hit:s.heap.IsValIter it d i es.size ep)(hm:a1p s.heap d es ep)(hx:es[i]? =some e)
  (q:∀h',h'.IsValIter it d (i+1) es.size ep->Heap.SameBut it s.heap h'->Q (some e.val) {s with heap:=h'}):wpAny (model prog w) A (pyNext (.ref it)) Q E s:=by
 obtain⟨o,i1,i2,i3⟩:=id hit;obtain⟨od,d1,d2⟩:=hm;have hlt:i<es.size:=by
  rcases Nat.lt_or_ge i es.size with h|h
  ·exact h
  ·rw[Xw h]at hx;cases hx
 have he:es[i]=e:=by rw[Zx hlt]at hx;exact Zs hx
 have ow:Builtin.Dict_items.ownsTuple "dict_valueiterator"=false:=by decide
 unfold pyNext;refine Qq (Ux (Zg (name:=Str.ofString "__next__") hit.typeIs Jq (Zb Jq hit.typeIs Vn ?_ (Vw _))));refine Qq (Qj (Qq (Qq ?_)))
 first|refine Qq (Jl hit.typeIs (Qj ?_))|refine Qq (Ub hit.typeIs (Qj ?_))
 refine Qq (Xa i1 i3 ?_);simp only[ow,Qs,Zc];show wpAny _ _ (if(Value.ref d==Value.none)=true then _ else _) _ _ s
 rw[Qm (show ¬ ((Value.ref d==Value.none)=true)from Qo)]
 refine Qq (Qj (Qq (Yv d1 d2 ?_)));rw[Qm (by simp)]
 refine Qq (Qj (Qq (Jc d1 d2 ?_)));rw[Qm (by simp)]
 refine Qj ?_
 simp only[show ¬ ((i:Int)<0)from by omega,Zc,Zo,Zx hlt]
 refine Qq ?_
 first|refine Qq (Jl hit.typeIs (Qj ?_))|refine Qq (Ub hit.typeIs (Qj ?_))
 refine Qq (Xm hit.typeIs ?_);show wpAny _ _ (setField (.ref it) 1 (rawInt ((i:Int)+1))>>=_) _ _ s;refine Qq (Vz i1 i3 (by simp) ?_)
 have hit':(s.heap.update it (Obj.mapFields (·.setIfInBounds 1 (rawInt ((i:Int)+1))))).IsValIter it d (i+1) es.size ep:=
  ⟨_,Uq _ i1 (Xf (Je i3 _)),(Obj.cls_mapFields ..).trans i2,by rw[Je i3];simp[rawInt]⟩
 refine Qq (Yj (Qq (Xm (s:={s with heap:=s.heap.update it (Obj.mapFields (·.setIfInBounds 1 (rawInt ((i:Int)+1))))}) hit'.typeIs ?_)))
 refine Qq (Xm (s:={s with heap:=s.heap.update it (Obj.mapFields (·.setIfInBounds 1 (rawInt ((i:Int)+1))))}) hit'.typeIs ?_)
 show wpAny _ _ (pure es[i].val) _ _ _;exact Qj (Qj ⟨_,rfl,Qj (he ▸ q _ hit' (Jv ..))⟩)
theorem b1P(hh:A.handled=none)(hit:s.heap.IsValIter it d i es.size ep)(hm:a1p s.heap d es ep)(hge:es.size≤i)
  (q:∀h',Heap.ExtBut it s.heap h'->Q none {s with heap:=h'}):wpAny (model prog w) A (pyNext (.ref it)) Q E s:=by
 obtain⟨o,i1,i2,i3⟩:=id hit;obtain⟨od,d1,d2⟩:=hm;have ow:Builtin.Dict_items.ownsTuple "dict_valueiterator"=false:=by decide
 unfold pyNext;refine Qq (Ux (Zg (name:=Str.ofString "__next__") hit.typeIs Jq (Zb Jq hit.typeIs Vn ?_ (Vw _))));refine Qq (Qj (Qq (Qq ?_)))
 first|refine Qq (Jl hit.typeIs (Qj ?_))|refine Qq (Ub hit.typeIs (Qj ?_))
 refine Qq (Xa i1 i3 ?_);simp only[ow,Qs,Zc];show wpAny _ _ (if(Value.ref d==Value.none)=true then _ else _) _ _ s
 rw[Qm (show ¬ ((Value.ref d==Value.none)=true)from Qo)]
 refine Qq (Qj (Qq (Yv d1 d2 ?_)));rw[Qm (by simp)]
 refine Qq (Qj (Qq (Jc d1 d2 ?_)));rw[Qm (by simp)]
 refine Qj ?_
 simp only[show ¬ ((i:Int)<0)from by omega,Zc,Zo,Xw hge]
 refine Qq ?_
 first|refine Qq (Jl hit.typeIs (Qj ?_))|refine Qq (Ub hit.typeIs (Qj ?_))
 show wpAny _ _ (setField (.ref it) 0 .none>>=_) _ _ s;refine Qq (Vz i1 i3 (by simp) ?_)
 show wpAny _ _ (newExc (.type "StopIteration") []>>=_) _ _ _;refine Qq ?_
 simp only[newExc,newTuple];refine Qq (Zq ?_ (by size_fits))
 refine Qq (m:=firstArgMember _ _) (wpAny_of_eq (a:=Value.none) (by first|rfl|(simp only[firstArgMember];rfl)) ?_)
 refine Zq ?_ (by size_fits)
 simp only[raiseNew];refine Qq (wpAny_handled ?_);rw[show A.in1.handled=none from hh]
 refine Qq (Qj (wpAny_throw ?_));refine Qq (Yo (T:="StopIteration") (b:=true) ⟨_,Qu _ rfl,rfl⟩ isSubtype_stop ?_);exact Qj (q _ (((Jv ..).extBut.push _).push _))
theorem a1p.keep(x:a1p h d es ep)(k:∀o,h.get? d=some o->h'.get? d=some o):a1p h' d es ep:=by
 obtain⟨o,a,b⟩:=x;exact⟨o,k o a,b⟩
theorem b9z(hh:A.handled=none)(I:Addr)(hne:d≠I):Walks prog w A I [I,d] [I] es.size (fun i v=>∃e,es[i]? =some e/\v=e.val) (fun i h=>h.IsValIter I d i es.size ep/\a1p h d es ep)where
 sub:=fun b hb=>by simp at hb;simp[hb]
 frame:=fun _ _ _ st hk=>⟨st.1.at fun o e=>hk I (by simp) o e,st.2.keep fun o e=>hk d (by simp) o e⟩
 item:=fun i s Q E hi st hQ=>b1O st.1 st.2 (Zx hi) fun h' hit' hs'=>hQ _ h' s.toks ⟨_,Zx hi,rfl⟩ ⟨hit',st.2.keep fun o e=>hs'.extBut d o hne e⟩ fun b o hb e=>hs'.extBut b o (fun h=>hb (by simp[h])) e
 done:=fun s Q E st hQ=>b1P hh st.1 st.2 (Qb _) fun h' he'=>hQ h' s.toks fun b o hb e=>he' b o (fun h=>hb (by simp[h])) e
 self:=fun _ _ _ _ st hQ=>wpAny_pyIter_valiter st.1 hQ
theorem b9A(d:Addr)(hd:(d==sysModules)=false):MeetsIn prog w (Builtin.«dict.values» ⟨[.ref d],[]⟩) (fun _ R s=>s.TypeIs (.ref d) "dict"/\R (.ok (.ret (.ref s.heap.objs.size))) {s with heap:=s.heap.push {cls:=.type "dict_values",data:=.fields #[.ref d]}}):=
 .of_wp fun A R s ⟨hT,h⟩=>by
  refine Qq ?_
  unfold Builtin.Dict.noArgs;refine Qq (Uz hT (Qj ?_));show wpAny _ _ (Builtin.Dict.showsAll d>>=_) _ _ s;unfold Builtin.Dict.showsAll;rw[Qm (by rw[hd];exact Qo)]
  exact Qq (Qj (Qq (Zq (Qj ⟨_,rfl,h⟩))))
end
section
variable{pos:Pos}
end
section
variable{pos:Pos}{e e2:Expr}{ma mb:Mo D}
end
section
variable{it d:Addr}
theorem b9B{Q:OE}(hT:s.TypeIs (.ref d) "dict")(hd:(d==sysModules)=false)(hm:a1p s.heap d es ep)
  (q:Q (.ref s.heap.objs.size) {s with heap:=s.heap.push {cls:=.type "dict_keyiterator",data:=.fields #[.ref d,.int 0 0,.int es.size 0,.int ep 0]}}):wpAny (model prog w) A (pyIter (.ref d)) Q E s:=by
 obtain⟨o,d1,d2⟩:=hm;refine wpAny_pyIter_slot hT PySem.F.slot_dict_iter (Zb PySem.F.slot_dict_iter hT PySem.F.entry_dict_iter (Qq ?_) (PySem.F.args_dict_iter_1 _));unfold Builtin.Dict.dictSlotNone;refine Qq (Uz hT (Qj ?_));show wpAny _ _ (Builtin.Dict.showsAll d>>=_) _ _ s;unfold Builtin.Dict.showsAll;rw[Qm (by rw[hd];exact Qo)]
 refine Qq (Qj (Qq (Yv d1 d2 (Qq (Jc d1 d2 ?_)))));refine Qq (Zq (Qj ⟨_,rfl,"dict_keyiterator",_,⟨_,Qu _ rfl,rfl⟩,PySem.F.slot_dict_keyiterator_next.lookup,?_⟩))
 simpa [rawInt]using q
theorem b9C(hit:s.heap.IsKeyIter it d i es.size ep)(hm:a1p s.heap d es ep)(hx:es[i]? =some e)
  (q:∀h',h'.IsKeyIter it d (i+1) es.size ep->Heap.SameBut it s.heap h'->Q (some e.key) {s with heap:=h'}):wpAny (model prog w) A (pyNext (.ref it)) Q E s:=by
 obtain⟨o,i1,i2,i3⟩:=id hit;obtain⟨od,d1,d2⟩:=hm;obtain⟨hlt,he⟩:=Array.getElem?_eq_some_iff.mp hx;have ow:Builtin.Dict_items.ownsTuple "dict_keyiterator"=false:=by decide
 unfold pyNext;refine Qq (Ux (Zg (name:=Str.ofString "__next__") hit.typeIs Jx (Zb Jx hit.typeIs Ve ?_ (Vr _))));refine Qq (Qj (Qq (Qq ?_)))
 first|refine Qq (Jd hit.typeIs (Qj ?_))|refine Qq (Ug hit.typeIs (Qj ?_))
 refine Qq (Xa i1 i3 ?_);simp only[ow,Qs,Zc];show wpAny _ _ (if(Value.ref d==Value.none)=true then _ else _) _ _ s
 rw[Qm (show ¬ ((Value.ref d==Value.none)=true)from Qo)]
 refine Qq (Qj (Qq (Yv d1 d2 ?_)));rw[Qm (by simp)]
 refine Qq (Qj (Qq (Jc d1 d2 ?_)));rw[Qm (by simp)]
 refine Qj ?_
 simp only[show ¬ ((i:Int)<0)from by omega,Zc,Zo,Zx hlt]
 refine Qq ?_
 first|refine Qq (Jd hit.typeIs (Qj ?_))|refine Qq (Ug hit.typeIs (Qj ?_))
 refine Qq (wpAny_isOneOf_keyiter hit.typeIs ?_);show wpAny _ _ (setField (.ref it) 1 (rawInt ((i:Int)+1))>>=_) _ _ s;refine Qq (Vz i1 i3 (by simp) ?_)
 have hit':(s.heap.update it (Obj.mapFields (·.setIfInBounds 1 (rawInt ((i:Int)+1))))).IsKeyIter it d (i+1) es.size ep:=
  ⟨_,Uq _ i1 (Xf (Je i3 _)),(Obj.cls_mapFields ..).trans i2,by rw[Je i3];simp[rawInt]⟩
 refine Qq (Yj (Qq (wpAny_isOneOf_keyiter (s:={s with heap:=s.heap.update it (Obj.mapFields (·.setIfInBounds 1 (rawInt ((i:Int)+1))))}) hit'.typeIs ?_)))
 show wpAny _ _ (pure es[i].key) _ _ _;exact Qj (Qj ⟨_,rfl,Qj (he ▸ q _ hit' (Jv ..))⟩)
theorem b9D(hh:A.handled=none)(hit:s.heap.IsKeyIter it d i es.size ep)(hm:a1p s.heap d es ep)(hge:es.size≤i)
  (q:∀h',Heap.ExtBut it s.heap h'->Q none {s with heap:=h'}):wpAny (model prog w) A (pyNext (.ref it)) Q E s:=by
 obtain⟨o,i1,i2,i3⟩:=id hit;obtain⟨od,d1,d2⟩:=hm;have ow:Builtin.Dict_items.ownsTuple "dict_keyiterator"=false:=by decide
 unfold pyNext;refine Qq (Ux (Zg (name:=Str.ofString "__next__") hit.typeIs Jx (Zb Jx hit.typeIs Ve ?_ (Vr _))));refine Qq (Qj (Qq (Qq ?_)))
 first|refine Qq (Jd hit.typeIs (Qj ?_))|refine Qq (Ug hit.typeIs (Qj ?_))
 refine Qq (Xa i1 i3 ?_);simp only[ow,Qs,Zc];show wpAny _ _ (if(Value.ref d==Value.none)=true then _ else _) _ _ s
 rw[Qm (show ¬ ((Value.ref d==Value.none)=true)from Qo)]
 refine Qq (Qj (Qq (Yv d1 d2 ?_)));rw[Qm (by simp)]
 refine Qq (Qj (Qq (Jc d1 d2 ?_)));rw[Qm (by simp)]
 refine Qj ?_
 simp only[show ¬ ((i:Int)<0)from by omega,Zc,Zo,Xw hge]
 refine Qq ?_
 first|refine Qq (Jd hit.typeIs (Qj ?_))|refine Qq (Ug hit.typeIs (Qj ?_))
 show wpAny _ _ (setField (.ref it) 0 .none>>=_) _ _ s;refine Qq (Vz i1 i3 (by simp) ?_)
 show wpAny _ _ (newExc (.type "StopIteration") []>>=_) _ _ _;refine Qq ?_
 simp only[newExc,newTuple];refine Qq (Zq ?_ (by size_fits))
 refine Qq (m:=firstArgMember _ _) (wpAny_of_eq (a:=Value.none) (by first|rfl|(simp only[firstArgMember];rfl)) ?_)
 refine Zq ?_ (by size_fits)
 simp only[raiseNew];refine Qq (wpAny_handled ?_);rw[show A.in1.handled=none from hh]
 refine Qq (Qj (wpAny_throw ?_));refine Qq (Yo (T:="StopIteration") (b:=true) ⟨_,Qu _ rfl,rfl⟩ isSubtype_stop ?_);exact Qj (q _ (((Jv ..).extBut.push _).push _))
end
def KX.toD:KX->D
 |.t ns=>.tup (ns.map D.int)
 |.p ns m=>.tup [.tup (ns.map D.int),.int m]
def vOf:Value->V
 |.ref a=>.ref a
 |_=>.non
theorem u6_.rel(h:u6_ K G v k):v4_ (vOf v) v/\Rep K G (vOf v) k.toD:=by
 cases k with
 |t ns=>
  obtain⟨b,rfl,q⟩:=h;exact⟨rfl,by simp only[KX.toD,Rep];exact⟨b,_,rfl,q,a5Q ns⟩⟩
 |p ns m=>
  obtain⟨b,c,rfl,q,q2⟩:=h;refine⟨rfl,?_⟩;simp only[KX.toD,Rep];refine⟨b,_,rfl,q,repL_cons ?_ (repL_cons (by simp only[Rep]) repL_nil)⟩
  simp only[Rep];exact⟨c,_,rfl,q2,a5Q ns⟩
theorem EsK.len{es:List DictEntry}(h:EsK K G es ks xs):es.length=ks.length/\xs.length=ks.length:=by
 induction h with
 |nil=>exact⟨rfl,rfl⟩
 |cons _ _ _ _ ih=>exact⟨by simp[ih.1],by simp[ih.2]⟩
theorem EsK.get{es:List DictEntry}(h:EsK K G es ks xs):∀{i:Nat}{e:DictEntry},es[i]? =some e->∃k x,ks[i]? =some k/\xs[i]? =some x/\u6_ K G e.key k/\v4_ x e.val:=by
 induction h with
 |nil=>intro i e z;simp at z
 |cons h1 h2 h3 _ ih=>
  intro i e z;cases i with
  |zero=>cases z;exact⟨_,_,rfl,rfl,h2,h3⟩
  |succ i=>exact ih (by simpa using z)
structure EsT(es:Array DictEntry)(xs:List V):Prop where
 key:∀(i:Nat) (e:DictEntry),es[i]? =some e->v4_ (vOf e.key) e.key
 val:∀(i:Nat) (e:DictEntry),es[i]? =some e->∃x,xs[i]? =some x/\v4_ x e.val
theorem EsK.tE(h:EsK K G es.toList ks xs):EsT es xs where
 key:=fun i e z=>let ⟨_,_,_,_,h3,_⟩:=h.get (i:=i) (e:=e) (by simpa using z);h3.rel.1
 val:=fun i e z=>let ⟨_,x,_,h2,_,h4⟩:=h.get (i:=i) (e:=e) (by simpa using z);⟨x,h2,h4⟩
theorem a0F{pins:OX}{σ:St}(I:Inv X pins σ H s)(e:H a=some (.dX es ep)):es.size≤sizeLine/\(a==sysModules)=false/\s.TypeIs (.ref a) "dict"/\a1p s.heap a es ep:=by
 obtain⟨z,y,o,h1,h2,h3⟩:=(show x5_ X.prog X.w H s.heap a (.dX es ep)from I.hok a _ e)
 exact⟨z,y,⟨o,h1,h2.1⟩,o,h1,h3⟩
def ItK(d:Addr)(es:Array DictEntry)(ep:Nat):It:=⟨fun i H=>i<es.size/\H d=some (.dX es ep),fun i H x H'=>H'=H/\∃e,es[i]? =some e/\x=vOf e.key,fun i H=>es.size≤i/\H d=some (.dX es ep)⟩
theorem b9E{tg:Expr}(it d:Addr)(es:Array DictEntry)(ep:Nat)(xs:List V)(ht:EsT es xs):Turn P w K tg (ItK d es ep) [it] it (fun i h=>h.IsKeyIter it d i es.size ep)where
 mem:=by simp
 obj:=fun i h st b hb=>by
  have e:b=it:=by simpa using hb
  subst e;obtain⟨o,e,c,d⟩:=st;exact⟨o,e,fun v z=>by rw[d]at z;cases z⟩
 keep:=fun i h h' st k=>by
  obtain⟨o,e,c,d⟩:=st;exact⟨o,k it (by simp) _ e,c,d⟩
 item:=by
  intro X hP hw hK hc i pins s σ H E I hf st hg;subst hP hw hK;obtain⟨f0,f1,f2,f3,f4,f5⟩:=hf it (by simp)
  obtain⟨hi,hd⟩:=hg;obtain⟨_,_,_,ea⟩:=a0F I hd;have hx:es[i]? =some es[i]:=Zx hi;refine b9C st ea hx fun h' st' hs'=>?_
  have I1:Inv X pins σ H {s with heap:=h',toks:=s.toks}:=I.turned (fun b o hb e=>hs'.extBut b o hb e) f0 f1 f3 f4 f5
  obtain⟨o,e,oc,od⟩:=id st';exact⟨_,rfl,a4i (s:={s with heap:=h'}) (n:="dict_keyiterator") e oc od (by decide) ⟨vOf es[i].key,H,I1,ht.key i _ hx,⟨rfl,_,hx,rfl⟩,st',fun b hb=>(hf b hb).1⟩⟩
 done:=by
  intro X hP hw hK hc i pins s σ H E I hf st hg;subst hP hw hK;obtain⟨f0,f1,f2,f3,f4,f5⟩:=hf it (by simp)
  obtain⟨hi,hd⟩:=hg;obtain⟨_,_,_,ea⟩:=a0F I hd;exact b9D (I.ok.hd hc) st ea hi fun h' hs'=>⟨rfl,I.turned (t':=s.toks) (fun b o hb e=>hs' b o hb e) f0 f1 f3 f4 f5⟩
 self:=fun A i s Q E st h=>wpAny_pyIter_keyiter st h
section
variable{d:Addr}{vs:List D}
theorem b9F(hd:G d=some (.dX es ep))(h:EsK K G es.toList ks xs):ItD K (ItK d es ep) G (ks.map KX.toD)where
 go:=fun i H l hi=>⟨by have:=h.len.1;simp at this hi;omega,l _ _ hd⟩
 stop:=fun i H l hi=>⟨by have:=h.len.1;simp at this hi;omega,l _ _ hd⟩
 yld:=fun i H x H' d l y e=>by
  obtain⟨rfl,en,h1,rfl⟩:=y;obtain⟨k,x,h2,h3,h4,h5⟩:=h.get (i:=i) (e:=en) (by simpa using h1)
  rw[Zd,h2]at e;cases e;exact .inl ⟨rfl,h4.rel.2⟩
end
def b1Q(m:Mo D):Mo (List D):=fun env=>(m env).bind fun p=>match p.1 with
 |.dcx ks _=>some (ks.map KX.toD,p.2)
 |_=>none
section
variable{tg e:Expr}{ma:Mo D}
theorem b1R(h:ED X B e ma):EI X B tg e (b1Q ma):=by
 intro pins s σ H R I q;obtain⟨G,env,ds,env',rl,em,k⟩:=q;obtain⟨⟨d,env1⟩,e1,e2⟩:=q4_ em;dsimp only at e2;split at e2
 case h_2=>cases e2
 rename_i ks vs;cases e2;refine thn (h pins s σ H (fun v H1=>∃G1,Ev X.K B G σ env H G1 σ env' H1/\Rep X.K G1 v (.dcx ks vs)) I ⟨G,env,_,env',rl,e1,fun v G1 H1 ev r=>⟨G1,ev,r⟩⟩) fun u s1 ⟨y,H1,I1,ry,G1,ev,r⟩=>?_
 simp only[Rep]at r;obtain⟨a,es,ep,xs,rfl,g,ek,ok,rv⟩:=r;cases ry;obtain⟨z1,z2,z3,z4⟩:=a0F I1 (ev.rel.sub _ _ g);refine b9B z3 z2 z4 ?_
 refine⟨s1.heap.objs.size,[s1.heap.objs.size],_,_,H1,rfl,I1.kept (t':=s1.toks) fun b o e=>Qx _ e,b9E _ a es ep xs ek.tE,⟨_,Qu _ rfl,rfl,rfl⟩,fun b hb=>?_,k _ G1 H1 ev (b9F g ek)⟩
 have e:b=s1.heap.objs.size:=by simpa using hb
 subst e;exact I1.fpOk (Qb _) (I1.hok.fresh (Qb _))
end
def isX(P:Program)(w:World)(h:Heap)(a:Addr):KX->Prop
 |.t ns=>IsTupleKey (k3_ P w) h (k4_ ns) a
 |.p ns m=>g6_ (k3_ P w) h [.inr (k4_ ns),.inl (.inl m)] a
def b1S:KX->Nat
 |.t ns=>ns.length+1
 |.p ns m=>a8j (K:=Key) [.inr (k4_ ns),.inl (.inl m)]
theorem b1T{P:Program}{w:World}:∀ns:List Int,(k4_ ns).map (k3_ P w).hash=ns.map hashInt
 |[]=>rfl
 |n::ns=>by
  show hashInt n::(k4_ ns).map (k3_ P w).hash=_;rw[b1T ns];rfl
theorem b1U(ns:List Int):tupleKeyHash (k3_ P w) (k4_ ns)=a5t ns:=by
 unfold tupleKeyHash a5t;rw[b1T]
theorem b9G(ns:List Int)(m:Int):a8i (k3_ P w) [.inr (k4_ ns),.inl (.inl m)]=a5u (.p ns m):=by
 show reduceHash (Builtin.Tuple.tupleHashOf [tupleKeyHash (k3_ P w) (k4_ ns),hashInt m])=_;rw[b1U];rfl
def a4A(P:Program)(w:World)(b:Bool):HeapKind P w KX where
 is:=fun h k a=>k.kind=b/\isX P w h a k
 hash:=a5u
 draws:=b1S
 room:=fun A=>A.units+1<cLine
 inj:=fun{h a x y} hx hy=>by
  obtain⟨h1,h2⟩:=hx;obtain⟨h3,h4⟩:=hy;cases x with
  |t ns=>
   cases y with
   |t ms=>rw[a4z (IsTupleKey.inj (show IsTupleKey (k3_ P w) h (k4_ ns) a from h2) h4)]
   |p ms m=>rw[←h1]at h3;cases h3
  |p ns n=>
   cases y with
   |t ms=>rw[←h1]at h3;cases h3
   |p ms m=>
    have:=g6_.inj (show g6_ (k3_ P w) h _ a from h2) h4
    simp only[Vh,Sum.inr.injEq,Sum.inl.injEq,and_true]at this;rw[a4z this.1,this.2]
 keeps:=fun{h h' k a d o es ep} x ho hd hs=>by
  obtain⟨h1,h2⟩:=x;refine⟨h1,?_⟩;cases k with
  |t ns=>exact IsTupleKey.keeps (show IsTupleKey (k3_ P w) h (k4_ ns) a from h2) ho hd hs
  |p ns m=>
   refine g6_.mono (fun a' o' its n e1 e2=>?_) (show g6_ (k3_ P w) h _ a from h2)
   exact hs.extBut a' o' (fun z=>by rw[z,ho]at e1;cases e1;rw[hd]at e2;cases e2) e1
 pyHash:=fun{A E s k a Q} hu hk h=>by
  obtain⟨h1,h2⟩:=hk;cases k with
  |t ns=>exact wpAny_pyHash_tuple (by omega) (show IsTupleKey (k3_ P w) s.heap (k4_ ns) a from h2) (by rw[b1U];rw[show(k4_ ns).length=ns.length from Qv ..];exact h)
  |p ns m=>exact b9t hu (show g6_ (k3_ P w) s.heap _ a from h2) (by rw[b9G];exact h)
 eqBool:=fun{A E s x y a b' Q} hu hx hy h=>by
  obtain⟨h1,h2⟩:=hx;obtain⟨h3,h4⟩:=hy;cases x with
  |t ns=>
   cases y with
   |t ms=>
    refine wpAny_eqBool_tuple (by omega) (show IsTupleKey (k3_ P w) s.heap (k4_ ns) a from h2) h4 ?_
    have e:decide (k4_ ns=k4_ ms)=decide (KX.t ns=KX.t ms):=by
     by_cases z:ns=ms
     ·subst z;simp
     ·rw[Qe (fun q=>z (a4z q)),Qe (fun q=>z (by injection q))]
    rw[e];exact h
   |p ms m=>rw[←h1]at h3;cases h3
  |p ns n=>
   cases y with
   |t ms=>rw[←h1]at h3;cases h3
   |p ms m=>
    refine b9v (x:=[.inr (k4_ ns),.inl (.inl n)]) (y:=[.inr (k4_ ms),.inl (.inl m)]) hu rfl (show g6_ (k3_ P w) s.heap _ a from h2) h4 ?_
    have e:decide ([(Sum.inr (k4_ ns):Key ⊕ List Key),.inl (.inl n)]=[.inr (k4_ ms),.inl (.inl m)])=decide (KX.p ns n=KX.p ms m):=by
     by_cases z:ns=ms/\n=m
     ·obtain⟨rfl,rfl⟩:=z;simp
     ·rw[Qe,Qe]
      ·intro q;injection q with q1 q2;exact z ⟨q1,q2⟩
      ·intro q
       simp only[Vh,Sum.inr.injEq,Sum.inl.injEq,and_true]at q;exact z ⟨a4z q.1,q.2⟩
    rw[e];exact h
 quiet:=fun{A E s k a Q} hk h=>by
  obtain⟨h1,h2⟩:=hk;cases k with
  |t ns=>exact wpAny_eqIsQuiet_tuple (show IsTupleKey (k3_ P w) s.heap (k4_ ns) a from h2) h
  |p ns m=>exact b9y (n:=6) (show g6_ (k3_ P w) s.heap _ a from h2) h
def a0G:D->Option KX
 |.tup [.tup es,.int m]=>(ints? es).map fun ns=>.p ns m
 |.tup ds=>(ints? ds).map .t
 |_=>none
def lkX:List KX->List D->KX->Option D
 |k'::ks,v::vs,k=>if k'=k then some v else lkX ks vs k
 |_,_,_=>none
def reX:List KX->List D->KX->D->List D
 |k'::ks,v::vs,k,d=>if k'=k then d::reX ks vs k d else v::reX ks vs k d
 |_,vs,_,_=>vs
def a1d:List KX->KX->Bool
 |k'::ks,k=>if k'=k then true else a1d ks k
 |[],_=>false
def w5_(ks:List KX)(k:KX):List KX:=if a1d ks k then ks else ks++[k]
def a0S(ks:List KX)(vs:List D)(k:KX)(d:D):List D:=if a1d ks k then reX ks vs k d else vs++[d]
def okK:List KX->KX->Bool
 |k'::_,k=>k'.kind==k.kind
 |[],_=>true
theorem a6j{v:V}(r:Rep K G v d)(h:a0G d=some k):∃b,v=.ref b/\u6_ K G (.ref b) k:=by
 unfold a0G at h;split at h
 ·rename_i es m
  obtain⟨ns,e1,e2⟩:=x2_ h;subst e2;simp only[Rep]at r;obtain⟨a,xs,rfl,q,t⟩:=r;obtain⟨x,y,rfl,t1,t2⟩:=a3x t;simp only[Rep]at t1 t2;obtain⟨c,zs,rfl,q2,t3⟩:=t1;subst t2;have hx:=a2A t3 e1;subst hx;exact⟨a,rfl,a,c,rfl,q,q2⟩
 ·rename_i ds _
  obtain⟨ns,e1,e2⟩:=x2_ h;subst e2;simp only[Rep]at r;obtain⟨a,xs,rfl,q,t⟩:=r;have hx:=a2A t e1;subst hx;exact⟨a,rfl,a,rfl,q⟩
 ·cases h
inductive AL (K:Qz) (G:Hp):List (KX×Addr×Value)->List KX->List V->List D->Prop
 |nil:AL K G [] [] [] []
 |cons {y:KX×Addr×Value}{ys:List (KX×Addr×Value)}{ks:List KX}{x:V}{xs:List V}{d:D}{ds:List D}(h1:u6_ K G (.ref y.2.1) y.1) (h2:v4_ x y.2.2) (h3:Rep K G x d) (t:AL K G ys ks xs ds):AL K G (y::ys) (y.1::ks) (x::xs) (d::ds)
def a6k(y:KX×Addr×Value):DictEntry:=⟨a5u y.1,.ref y.2.1,y.2.2⟩
theorem b9H(h:u6_ K G v k):∃b,v=.ref b:=by
 cases k with
 |t ns=>obtain⟨b,e,_⟩:=h;exact⟨b,e⟩
 |p ns m=>obtain⟨b,c,e,_⟩:=h;exact⟨b,e⟩
theorem EsK.al{es:List DictEntry}(h:EsK K G es ks xs):∀{ds:List D},z9_ K G xs ds->∃ys,es=ys.map a6k/\AL K G ys ks xs ds:=by
 induction h with
 |nil=>intro ds r;have:=r.length;cases ds with
  |nil=>exact⟨[],rfl,.nil⟩
  |cons _ _=>simp at this
 |@cons e es k ks x xs h1 h2 h3 t ih=>
  intro ds r;cases ds with
  |nil=>simp only[z9_]at r;cases r
  |cons d ds=>
   simp only[z9_]at r;obtain⟨x',r',e',q,u⟩:=r;cases e';obtain⟨ys,e1,e2⟩:=ih u;obtain⟨b,hb⟩:=b9H h2;refine⟨(k,b,e.val)::ys,?_,.cons (y:=(k,b,e.val)) (hb ▸ h2) h3 q e2⟩;rw[Qd,e1];obtain⟨eh,ek,ev⟩:=e;dsimp only at h1 hb;rw[h1,hb];rfl
theorem AL.aE(h:AL K G ys ks xs ds):EsK K G (ys.map a6k) ks xs/\z9_ K G xs ds/\ys.map (·.1)=ks:=by
 induction h with
 |nil=>exact⟨.nil,repL_nil,rfl⟩
 |cons h1 h2 h3 _ ih=>exact⟨.cons rfl h1 h2 ih.1,repL_cons h3 ih.2.1,by rw[Qd,ih.2.2]⟩
theorem AL.keys(h:AL K G ys ks xs ds):∀y∈ys,u6_ K G (.ref y.2.1) y.1/\y.1∈ks:=by
 induction h with
 |nil=>intro y hy;cases hy
 |cons h1 _ _ _ ih=>
  intro y hy
  rcases Qc.mp hy with rfl|hy
  ·exact⟨h1,Zf ..⟩
  ·exact⟨(ih y hy).1,Zp _ (ih y hy).2⟩
theorem AL.len(h:AL K G ys ks xs ds):ys.length=ks.length:=by
 rw[←h.aE.2.2,Qv]
theorem AL.look(h:AL K G ys ks xs ds)(k:KX):(∀d,lkX ks ds k=some d->∃p x,atKey ys k=some p/\v4_ x p.2/\Rep K G x d)/\(lkX ks ds k=none->atKey ys k=none)/\(atKey ys k).isSome=a1d ks k:=by
 induction h with
 |nil=>exact⟨fun d e=>(by cases e),⟨fun _=>rfl,rfl⟩⟩
 |@cons y ys ks x xs d ds h1 h2 h3 t ih=>
  by_cases hk:y.1=k
  ·have e:atKey (y::ys) k=some y.2:=by
    unfold atKey;rw[List.find?_cons_of_pos (by simpa using hk)];rfl
   simp only[lkX,a1d,Qh hk,e];exact⟨fun d' e'=>(by cases e';exact⟨_,x,rfl,h2,h3⟩),⟨fun z=>(by cases z),rfl⟩⟩
  ·have e:atKey (y::ys) k=atKey ys k:=by
    unfold atKey;rw[List.find?_cons_of_neg (by simpa using hk)]
   simp only[lkX,a1d,Qm hk,e];exact ih
theorem AL.re(h:AL K G ys ks xs ds){x:V}(rv:v4_ x v)(rd:Rep K G x d):∃xs',AL K G (ys.map (putAt k v)) ks xs' (reX ks ds k d):=by
 induction h with
 |nil=>exact⟨[],.nil⟩
 |@cons y ys ks x0 xs d0 ds h1 h2 h3 t ih=>
  obtain⟨xs',q⟩:=ih
  by_cases hk:y.1=k
  ·refine⟨x::xs',?_⟩
   simp only[Qd,putAt,Qh hk,reX];exact .cons (y:=(y.1,y.2.1,v)) h1 rv rd q
  ·refine⟨x0::xs',?_⟩
   simp only[Qd,putAt,Qm hk,reX];exact .cons h1 h2 h3 q
theorem AL.app(h:AL K G ys ks xs ds){x:V}(kb:u6_ K G (.ref b) k)(rv:v4_ x v)(rd:Rep K G x d):AL K G (ys++[(k,b,v)]) (ks++[k]) (xs++[x]) (ds++[d]):=by
 induction h with
 |nil=>exact .cons (y:=(k,b,v)) kb rv rd .nil
 |cons h1 h2 h3 _ ih=>exact .cons h1 h2 h3 ih
theorem AL.put(h:AL K G ys ks xs ds){x:V}(kb:u6_ K G (.ref b) k)(rv:v4_ x v)(rd:Rep K G x d):∃xs',AL K G (storedH ys k b v) (w5_ ks k) xs' (a0S ks ds k d):=by
 have hs:=(h.look k).2.2
 unfold storedH w5_ a0S;rw[hs];cases a1d ks k with
 |true=>exact h.re rv rd
 |false=>exact⟨_,h.app kb rv rd⟩
theorem a4B:∀{ks:List KX}{k:KX},a1d ks k=true↔k∈ks
 |[],k=>by simp[a1d]
 |k'::ks,k=>by
  by_cases e:k'=k
  ·subst e;simp[a1d]
  ·simp only[a1d,Qm e,Qc,a4B (ks:=ks)]
   exact⟨.inr,fun z=>z.elim (fun q=>absurd q.symm e) id⟩
theorem u7_.kind(h:u7_ ks)(ok:okK ks k=true):∀k'∈ks,k'.kind=k.kind:=by
 obtain⟨⟨n,h1⟩,_⟩:=h;cases ks with
 |nil=>intro k' hk;cases hk
 |cons k0 ks=>
  have e:k0.kind=k.kind:=by simpa [okK]using ok
  intro k' hk;rw[h1 k' hk,←e,h1 k0 (Zf ..)]
theorem u7_.put(h:u7_ ks)(ok:okK ks k=true):u7_ (w5_ ks k):=by
 unfold w5_;split
 ·exact h
 ·rename_i hn
  refine⟨⟨k.kind,fun k' hk=>?_⟩,?_⟩
  ·rcases Ym.mp hk with q|q
   ·exact h.kind ok k' q
   ·rw[Vs.mp q]
  ·rw[List.nodup_append]
   refine⟨h.2,by simp,fun a ha b hb=>?_⟩
   rw[Vs.mp hb];intro z;exact hn (a4B.mpr (z ▸ ha))
section
variable{pins:OX}{σ:St}{vs:List D}
theorem a4C(I:Inv X pins σ H s)(l:Le G H)(h:u6_ X.K G (.ref b) k):isX X.prog X.w s.heap b k:=by
 have one:∀{c:Addr}{ns:List Int},SqU X.K G c (ns.map V.int)->IsTupleKey (k3_ X.prog X.w) s.heap (k4_ ns) c:=fun{c ns} q=>by
  refine b9i (K:=X.K) (k:=k4_ ns) I.hok I.kIn ?_
  rw[a8e]
  rcases l.sqU q with z|z
  ·exact .inl z
  ·exact .inr (.inr (by rw[a8e];exact z))
 cases k with
 |t ns=>
  obtain⟨c,e,q⟩:=h;cases e;exact one q
 |p ns m=>
  obtain⟨c,d,e,q,q2⟩:=h;cases e;obtain⟨its,r,⟨o,h1,h2,n,h3⟩,_⟩:=I.tuple (l.sqT q);obtain⟨u,v,e,r1,r2⟩:=r.two;subst e;cases r1;obtain⟨t,rfl⟩:=r2;exact⟨o,_,n,h1,h2,h3,.cons ⟨d,rfl,one q2⟩ (.cons (a9T m t) .nil)⟩
theorem a3N(I:Inv X pins σ H s)(l:Le G H)(e:H a=some (.dX es ep))(ek:EsK X.K G es.toList ks xs)(o:u7_ ks)(rv:z9_ X.K G xs vs){b:Bool}(hb:∀k∈ks,k.kind=b):∃ys,s.heap.DictOfH (a4A X.prog X.w b) a ys/\AL X.K G ys ks xs vs:=by
 obtain⟨z,y,ob,h1,h2,h3⟩:=(show x5_ X.prog X.w H s.heap a (.dX es ep)from I.hok a _ e)
 obtain⟨ys,e1,al⟩:=ek.al rv;exact⟨ys,⟨ob,es,ep,h1,h2,h3,e1,fun y hy=>⟨hb _ (al.keys y hy).2,a4C I l (al.keys y hy).1⟩,by rw[al.aE.2.2];exact o.2⟩,al⟩
theorem b9I{Q:OE}(hu:A.units+2<cLine)(I:Inv X pins σ H s)(l:Le G H)(e:H a=some (.dX es ep))(ek:EsK X.K G es.toList ks xs)(o:u7_ ks)(rv:z9_ X.K G xs vs)(kb:u6_ X.K G (.ref b) k)(ok:okK ks k=true)(hl:lkX ks vs k=some d)
  (h:∀v w' s',Inv X pins σ H s'->v4_ v w'->Rep X.K G v d->Q w' s'):wpAny (model X.prog X.w) A (getItem (.ref a) (.ref b)) Q E s:=by
 obtain⟨ys,dd,al⟩:=a3N I l e ek o rv (o.kind ok);obtain⟨p,x,h1,h2,h3⟩:=(al.look k).1 d hl;exact wpAny_getItem_heap (knd:=a4A X.prog X.w k.kind) (show A.in1.units+1<cLine from hu) ⟨rfl,a4C I l kb⟩ dd h1 (h x _ _ (I.tok _) h2 h3)
theorem b9J{v:V}{r:Value}{Q:Unit->Shared->Prop}(hu:A.units+2<cLine)(I:Inv X pins σ H s)(l:Le G H)(e:H a=some (.dX es ep))(ek:EsK X.K G es.toList ks xs)(o:u7_ ks)(rv:z9_ X.K G xs vs)(kb:u6_ X.K G (.ref b) k)(ok:okK ks k=true)(hz:ks.length<sizeLine)(rr:v4_ v r)(rd:Rep X.K G v d)
  (h:∀s' es' ep' xs',Inv X pins σ (upd H a (.dX es' ep')) s'->EsK X.K G es'.toList (w5_ ks k) xs'->z9_ X.K G xs' (a0S ks vs k d)->Q () s'):wpAny (model X.prog X.w) A (setItem (.ref a) (.ref b) r) Q E s:=by
 obtain⟨_,hd,_,_⟩:=a0F I e;obtain⟨ys,dd,al⟩:=a3N I l e ek o rv (o.kind ok);have hy:=al.len;refine wpAny_setItem_heap (knd:=a4A X.prog X.w k.kind) (hsz:=by omega) (show A.in1.units+1<cLine from hu) ⟨rfl,a4C I l kb⟩ dd fun h' dd' hs=>?_
 obtain⟨q,es',ep',hq,h2,h3,h4,_,h5⟩:=dd';obtain⟨xs',al'⟩:=al.put (k:=k) kb rr rd;have h4':es'.toList=(storedH ys k b r).map a6k:=h4;have hsz:es'.size≤sizeLine:=by
  rw[←Jk,h4',Qv,al'.len];unfold w5_;split
  ·omega
  ·rw[Qt];simp;omega
 refine h _ es' ep' xs' (a7j I (by rw[e];exact True.intro) hs ⟨q,hq⟩ ⟨hsz,hd,q,hq,h2,h3⟩) ?_ al'.aE.2.1
 rw[h4'];exact al'.aE.1
end
section
variable{pos:Pos}{a b e e2:Expr}{ma mb:Mo D}
theorem b1V(h:Heap)(hb:sysModules<h.objs.size):x5_ P w H (h.push {cls:=.type "dict",data:=.dict #[]}) h.objs.size (.dX #[] 0):=
 ⟨Xx _,Yr.mpr (Zh (Qi hb)),_,Qu _ rfl,⟨rfl,rfl,rfl⟩,rfl⟩
theorem b9K:PE X (.Dict [] [] pos) (fun _ H Q=>∀p,H p=none->Q (.ref p) (upd H p (.dX #[] 0))):=fun pins s σ H Q I h=>
 wpAny_Dict_empty ⟨.ref s.heap.objs.size,_,I.laid (a:=s.heap.objs.size) (o:=.dX #[] 0) (t':=s.toks) (fun _ _ q=>Qx _ q) (Qb _) (b1V s.heap I.big),rfl,h _ (I.hok.fresh (Qb _))⟩
def a6l(i:Nat):Mo Fl:=fun env=>some (.nx,env.set i (.ownX [] []))
theorem a8k:u7_ []:=⟨⟨false,fun k hk=>nomatch hk⟩,List.nodup_nil⟩
theorem a6m{pos' dpos:Pos}(hN:X.N.Nodup)(hi:X.N[i]? =some x)(hx:Loc X.env.scope x)(hs:swapsWith (.Dict [] [] dpos) (some (.Name x pos')) pos.line X.env=pure false:=by rfl)(hf:X.fn x=true∨X.env.scope.names.lookup x=some .local:=by first|exact .inl rfl|exact .inr rfl|assumption):
  ES X B (.Assign [.Name x pos'] (.Dict [] [] dpos) pos) (a6l i):=by
 refine ps_imp (a3u hN hi hx b9K hs hf) ?_
 rintro D σ H ⟨G,env,fl,env',rl,e,k⟩;cases e;intro p hp;have ev:=rl.allocM (o:=.dX #[] 0) hp;exact k _ _ _ (ev.setOwnM (m:=.x [] []) (fun z=>rl.old p z hp) hp (rl.unowned hp) x0_ (rl.gnone hp) ⟨#[],0,[],rfl,.nil,a8k,repL_nil⟩ rfl rfl)
def a3O:D->D->Option D:=fun a b=>match a with
 |.dcx ks vs=>(a0G b).bind fun k=>if okK ks k then lkX ks vs k else none
 |_=>none
theorem b1W(hu:X.A.units+64<cLine)(ha:ED X B a ma)(hb:ED X B b mb)(hs:a5o b):ED X B (.Subscript a b pos) (z5_ a3O ma mb):=by
 intro pins s σ H Q I h;obtain⟨G,env,d,env',rl,e,k⟩:=h;obtain⟨⟨d0,env0⟩,e0,e⟩:=q4_ e;obtain⟨⟨d1,env1⟩,e1,e2⟩:=q4_ e;obtain⟨d2,e3,e4⟩:=x2_ e2;cases e4;unfold a3O at e3;dsimp only at e3;split at e3
 case h_2=>cases e3
 rename_i ks vs;obtain⟨key,e7,e8⟩:=q4_ e3;split at e8
 case isFalse=>cases e8
 rename_i hk;refine b6g PySem.F.slot_dict_getitem.lookup hs (thn (ha pins s σ H (fun v H1=>∃G1,Ev X.K B G σ env H G1 σ env0 H1/\Rep X.K G1 v (.dcx ks vs)) I ⟨G,env,_,env0,rl,e0,fun v G1 H1 ev r=>⟨G1,ev,r⟩⟩) fun u s1 ⟨x,H1,I1,rx,G1,ev1,r1⟩=>?_)
 simp only[Rep]at r1;obtain⟨q,es,ep,xs,rfl,g,ek,ok,rv⟩:=r1;cases rx;refine thn (hb pins s1 σ H1 (fun v H2=>∃G2,Ev X.K B G1 σ env0 H1 G2 σ env1 H2/\Rep X.K G2 v d1) I1 ⟨G1,env0,d1,env1,ev1.rel,e1,fun v G2 H2 ev r=>⟨G2,ev,r⟩⟩) fun iv s2 ⟨y,H2,I2,ry,G2,ev2,r⟩=>?_
 obtain⟨b',rfl,kb⟩:=a6j r e7;cases ry;have hq:H2 q=some (.dX es ep):=ev2.rel.sub _ _ (ev2.same _ _ g);obtain⟨_,_,hT,_⟩:=a0F I2 hq;exact⟨hT,b9I (by omega) I2 ev2.rel.sub hq (ek.mono ev2.same) ok (z9_.mono ev2.same _ rv) kb hk e8 fun v w' s3 I3 rw' rd=>⟨v,H2,I3,rw',k v G2 H2 (ev1.trans ev2) rd⟩⟩
def b9L(K:Qz):V->List V->Hp->VK->Prop:=fun x as H Q=>∃(a b:Addr) (es:Array DictEntry) (ep:Nat) (G:Hp) (ks:List KX) (xs:List V) (vs:List D) (k:KX) (df:V),x=.ref a/\as=[.ref b,df]/\H a=some (.dX es ep)/\Le G H/\EsK K G es.toList ks xs/\u7_ ks/\z9_ K G xs vs/\u6_ K G (.ref b) k/\okK ks k=true/\
 (∀d,lkX ks vs k=some d->∀v,Rep K G v d->Q v H)/\(lkX ks vs k=none->Q df H)
theorem b9M(hu:X.A.units+64<cLine):MtM X "dict.get" (b9L X.K):=by
 intro pins s σ H x as v us Q I rx rv h;obtain⟨a,b,es,ep,G,ks,xs,vs,k,df,rfl,rfl,ea,l,ek,o,rp,kb,ok,q1,q2⟩:=h;cases rx;obtain⟨u,u2,rfl,ru,ru2⟩:=rv.two;cases ru;obtain⟨_,hd,hT,_⟩:=a0F I ea;obtain⟨ys,dd,al⟩:=a3N I l ea ek o rp (o.kind ok);refine call_meetsIn PySem.F.slot_dict_get hT PySem.F.entry_dict_get (PySem.F.args_dict_get_3 _ _ _) (meetsH_dict_get_default (a4A X.prog X.w k.kind) a b hd u2) ⟨(show X.A.in1.units+1<cLine by show X.A.units+1+1<cLine;omega),k,ys,⟨rfl,a4C I l kb⟩,dd,?_⟩
 obtain⟨l1,l2,l3⟩:=al.look k;cases hv:lkX ks vs k with
 |none=>
  rw[l2 hv];exact⟨df,H,I.tok _,ru2,q2 hv⟩
 |some d=>
  obtain⟨p,y,h1,h2,h3⟩:=l1 d hv;rw[h1];exact⟨y,H,I.tok _,h2,q1 d hv y h3⟩
def a4D(i:Nat)(ma mb:Mo D):Mo D:=fun env=>((env[i]?).bind W.mutX).bind fun _=>(ma env).bind fun p=>(mb p.2).bind fun r=>((r.2[i]?).bind W.mutX).bind fun q=>(a0G p.1).bind fun k=>if okK q.1 k then some ((lkX q.1 q.2 k).getD r.1,r.2)else none
theorem a8l{apos cpos:Pos}(hu:X.A.units+64<cLine)(ho:PE X (.Name x p) (a0Z i))(ha:EDs X B [e,e2] (z1_ ma (z1_ mb z3_)))
  (hbase:attributeBase (.Name x p) "get" X.env (eval (.Name x p) X.env)=eval (.Name x p) X.env:=by rfl)
  (hfew:((backTo cpos (starEach [e,e2] X.env)).all (fun x=>!x.1)&&(backToKw cpos (keywordEach [] X.env)).all (fun x=>x.1.isSome)
   &&decide ([e,e2].length+([]:List Keyword).length+(if([]:List Keyword).isEmpty then 0 else 1)<30))=true:=by rfl)
  (hline:(apos.endLine==cpos.line)=true:=by rfl)(hs:starEach [e,e2] X.env=(false,eval e X.env)::starEach [e2] X.env:=by rfl)(hplain:(backTo cpos (starEach [e2] X.env)).any (·.1)=false:=by rfl):
  ED X B (.Call (.Attribute (.Name x p) "get" apos) [e,e2] [] cpos) (a4D i ma mb):=by
 refine pe_imp (a5r Um PySem.F.slot_dict_get PySem.F.type_dict_get (b9M hu) ho ha hbase hfew hline hs hplain) ?_
 rintro σ H Q ⟨G,env,d,env',rl,e,k⟩;obtain⟨⟨ks0,vs0⟩,e0,e⟩:=q4_ e;obtain⟨w0,e00,em0⟩:=q4_ e0;obtain⟨⟨d1,env1⟩,e1,e2⟩:=q4_ e;obtain⟨⟨d2,env2⟩,e3,e4⟩:=q4_ e2;obtain⟨⟨ks,vs⟩,e5,e6⟩:=q4_ e4;obtain⟨w,e7,e8⟩:=q4_ e5;obtain⟨key,e9,e10⟩:=q4_ e6;dsimp only at e10 e7;split at e10
 case isFalse=>cases e10
 rename_i hk;cases e10;obtain⟨q,es0,ep0,xs0,h1,h2,_⟩:=rl.ownX i w0 ks0 vs0 e00 em0;refine⟨_,h1,.inr (.inr (.inr (.inr ⟨rfl,_,_,h2⟩))),G,env,[d1,d2],env',rl,?_,fun us G1 H1 ev r1=>?_⟩
 ·show(ma env).bind _=_
  rw[e1,Qk];show((z1_ mb z3_) env1).map _=_;show((mb env1).bind _).map _=_;rw[e3]
  rfl
 ·simp only[z9_]at r1
  obtain⟨y1,t1,rfl,s1,y2,t2,rfl,s2,rfl⟩:=r1;obtain⟨b,rfl,kb⟩:=a6j s1 e9;obtain⟨q',es,ep,xs,g1,g2,g3,g4,g5,g6⟩:=ev.rel.ownX i w ks vs e7 e8;rw[h1]at g1;cases g1;refine⟨q,b,es,ep,G1,ks,xs,vs,key,y2,rfl,rfl,g2,ev.rel.sub,g3,g4,g5,kb,hk,fun d hd v rd=>?_,fun hn=>?_⟩
  ·exact k _ G1 H1 ev (by rw[hd];exact rd)
  ·exact k _ G1 H1 ev (by rw[hn];exact s2)
def b9N(K:Qz):a5i:=fun o i v H Q=>∃(a b:Addr) (es:Array DictEntry) (ep:Nat) (G:Hp) (ks:List KX) (xs:List V) (vs:List D) (k:KX) (d:D),o=.ref a/\i=.ref b/\H a=some (.dX es ep)/\Le G H/\EsK K G es.toList ks xs/\u7_ ks/\z9_ K G xs vs/\u6_ K G (.ref b) k/\okK ks k=true/\ks.length<sizeLine/\Rep K G v d/\
 ∀es' ep' xs',EsK K G es'.toList (w5_ ks k) xs'->z9_ K G xs' (a0S ks vs k d)->Q (upd H a (.dX es' ep'))
theorem b9O(hu:X.A.units+64<cLine):a6R X (b9N X.K):=by
 intro pins s σ H o i v ov iv u Q I ro ri rv h;obtain⟨a,b,es,ep,G,ks,xs,vs,k,d,rfl,rfl,ea,l,ek,oo,rp,kb,ok,hz,rd,q⟩:=h;cases ro;cases ri;exact b9J (by omega) I l ea ek oo rp kb ok hz rv rd fun s' es' ep' xs' I' h1 h2=>⟨_,I',q es' ep' xs' h1 h2⟩
def gSX(s:Nat)(mi:Mo D):OZ:=fun d env=>((env[s]?).bind W.mutX).bind fun _=>(mi env).bind fun p=>(p.2[s]?).bind fun w=>w.mutX.bind fun q=>(a0G p.1).bind fun k=>
 if okK q.1 k&&decide (q.1.length<100000)then some (p.2.set s (w.putM (.x (w5_ q.1 k) (a0S q.1 q.2 k d))))else none
theorem a6n{s:Nat}(hu:X.A.units+64<cLine)(ho:PE X (.Name x p) (a0Z s))(hi:ED X B b mb)
  (ha:∀v,assign (.Subscript (.Name x p) b pos) X.env v=(do
   let ov←holding [v] (eval (.Name x p) X.env)
   let iv←holding [v,ov] (eval b X.env)
   standAt pos
   holding [v,ov,iv] (setItem ov iv v)
   release [v,ov,iv] []):=by intro _;rfl):EG X B n (.Subscript (.Name x p) b pos) (gSX s mb):=by
 refine a5G (b0e ho hi (b9O hu) ha) ?_
 rintro v σ H Q ⟨G,env,d,env',rl,r,e,k⟩;obtain⟨⟨ks0,vs0⟩,e0,e⟩:=q4_ e;obtain⟨w0,e00,em0⟩:=q4_ e0;obtain⟨⟨d1,env1⟩,e1,e2⟩:=q4_ e;obtain⟨w,e3,e4⟩:=q4_ e2;obtain⟨⟨ks,vs⟩,e5,e6⟩:=q4_ e4;obtain⟨key,e7,e8⟩:=q4_ e6;dsimp only at e8 e3;split at e8
 case isFalse=>cases e8
 rename_i hl;cases e8;simp only[Qp,Zi]at hl;obtain⟨q,es0,ep0,xs0,h1,_⟩:=rl.ownX s w0 ks0 vs0 e00 em0;refine⟨_,h1,.bind rl e1 fun iv G1 H1 ev r1=>?_⟩
 obtain⟨q',es,ep,xs,g1,g2,g3,g4,g5,g6⟩:=ev.rel.ownX s w ks vs e3 e5;rw[h1]at g1;cases g1;obtain⟨b',rfl,kb⟩:=a6j r1 e7;exact⟨q,b',es,ep,G1,ks,xs,vs,key,d,rfl,rfl,g2,ev.rel.sub,g3,g4,g5,kb,hl.1,Vq hl.2 (by decide),Rep.mono ev.same _ r,fun es' ep' xs' z1 z2=>k _ G1 _ (ev.writeM e3 (W.mutX_of e5) h1 ⟨_,_,_,rfl,z1,g4.put hl.1,z2⟩) fun _ _=>rfl⟩
end
end L2.Mir
namespace L2
open PySem PySem.Spec PyProof.Rows
section
variable{κ:Type}[DecidableEq κ]
end
end L2
namespace L2.Mir
open PySem PySem.Spec PyProof.Rows
section
variable{X:Cx}{B:OA}{pos p:Pos}{a tg:Expr}{ms:Mo (List D)}
end
inductive PairsI (K:Qz) (G:Hp):List V->List (Key×Key)->Prop
 |nil:PairsI K G [] []
 |cons {q:Addr}{k v:Key}{xs:List V}{ps:List (Key×Key)}:SqU K G q [kV k,kV v]->PairsI K G xs ps->PairsI K G (.ref q::xs) ((k,v)::ps)
section
variable{X:Cx}{pins:OX}{σ:St}{A:Around}{R:Result->Shared->Prop}{l it d:Addr}{xs:List V}{G:Hp}
end
section
variable{X:Cx}{B:OA}
end
section
variable{prog:Program}{w:World}{A:Around}{R:Result->Shared->Prop}{s:Shared}
end
section
variable{X:Cx}{N':List Str}{scope:Scope}{keep:List Bool}{more:Nat}{tg iter kx vx:Expr}{ifs:List Expr}{g:TG}{tt:TT}{act:Addr->a2j}{pos:Pos}
end
section
variable{K:Qz}{B:OA}{n:Nat}
end
section
variable{X:Cx}{B:OA}{N':List Str}{scope:Scope}{keep:List Bool}{more:Nat}{tg iter kx vx:Expr}{ifs:List Expr}{g:OZ}{t:Mo Bool}{mk mv:Mo D}{mi:Mo (List D)}{pos:Pos}
end
theorem b1X:bootBuiltins "dict"=some (.type "dict"):=by decide+kernel
section
variable{X:Cx}{B:OA}{pos:Pos}{e:Expr}{ma:Mo D}
def b9P:V->List V->Hp->VK->Prop:=fun x vs H Q=>∃(a:Addr) (es:Array DictEntry) (ep:Nat),x=.ref a/\vs=[]/\H a=some (.dX es ep)/\∀l,H l=none->l≠a->Q (.ref l) (upd H l (.ext fun h=>h.IsValuesView l a))
theorem b1Y:MtM X "dict.values" b9P:=by
 intro pins s σ H x vs v us Q I rx rv h;obtain⟨a,es,ep,rfl,rfl,ea,q⟩:=h;cases rx;cases rv;obtain⟨z1,hd,hT,z4⟩:=a0F I ea;refine call_meetsIn Vi hT PySem.F.entry_dict_values (PySem.F.args_dict_values_1 _) (b9A a hd) ⟨hT,?_⟩;have hf:H s.heap.objs.size=none:=I.hok.fresh (Qb _);have ne:s.heap.objs.size≠a:=fun z=>by rw[z,ea]at hf;cases hf
 refine⟨.ref s.heap.objs.size,_,I.laid (a:=s.heap.objs.size) (o:=.ext fun h=>h.IsValuesView s.heap.objs.size a) (t':=s.toks) (fun _ _ q=>Qx _ q) (Qb _) ⟨⟨_,Qu _ rfl,rfl,rfl⟩,⟨_,Qu _ rfl⟩,fun h1 h2 ⟨o,e,r⟩ k=>⟨o,k o e,r⟩⟩,rfl,q _ hf ne⟩
end
section
variable{X:Cx}{B:OA}{pos:Pos}{o e:Expr}{ma mb:Mo D}
end
section
variable{P:Program}{w:World}
end
section
variable{X:Cx}{B:OA}{pins:OX}{σ:St}{G H:Hp}{s:Shared}
end
section
variable{prog:Program}{w:World}{A:Around}{E:OE}{s:Shared}
end
section
variable{prog:Program}{w:World}{A:Around}{R:Result->Shared->Prop}{I:Addr}{fp wr:List Addr}{G:Array GenState->Array GenState->Prop}{n:Nat}{P:Nat->Value->Prop}{St:Nat->Shared->Prop}
end
section
variable{prog:Program}{w:World}{A:Around}{E:OE}{s:Shared}
end
namespace FS
end FS
section
variable{prog:Program}{w:World}{A:Around}{E:OE}{s:Shared}{it S:Addr}{es:Array (Int×Value)}{i ep:Nat}{t:SetTable}{L:List (Nat×Int×Value)}
end
section
variable{prog:Program}{w:World}{A:Around}{E:OE}{s:Shared}{it S:Addr}{es:Array (Int×Value)}{i ep:Nat}{t:SetTable}{L:List (Nat×Int×Value)}
end
namespace FS
end FS
section
variable{prog:Program}{w:World}{A:Around}{E:OE}{s:Shared}{it S:Addr}{es:Array (Int×Value)}{i ep:Nat}{t:SetTable}{L:List (Nat×Int×Value)}
end
section
variable{X:Cx}{B:OA}
end
end L2.Mir
namespace L2.Mir
open PySem PySem.Spec PyProof.Rows PySem.W
variable{A:Around}{B:OA}{G:Hp}{K:Qz}{X:Cx}{a b d:Addr}{apos cpos p pos:Pos}{e tg:Expr}{ep i:Nat}{es:Array DictEntry}{ks:List KX}{ma:Mo D}{prog:Program}{w:World}{x:Str}
structure PS where
 a:Array Nat
 pd:Array (Nat×Nat×Nat)
 mg:Nat
structure Lt where
 N:Nat
 lt:Nat->Nat->Bool
structure Sx where
 prog:Program
 w:World
 A:Around
 E:OE
 s:Shared
 κ:SortKind
 it:Nat->Keyed
 L:Lt
 ok:∀i j (C:Bool->Shared->Prop),i<L.N->j<L.N->C (L.lt i j) s->wpAny (model prog w) A (keyLt' κ (it i).1 (it j).1) C (fun _ _=>False) s
variable{Y:Sx}{α β γ δ:Type}
def ltS(Y:Lt)(i j:Nat)(S:PS):Option (Bool×PS):=if i<Y.N/\j<Y.N then some (Y.lt i j,S)else none
def a8m(g:β->PS->Option (ForInStep β×PS)):Nat->β->PS->Option (β×PS)
 |0,b,S=>some (b,S)
 |n+1,b,S=>(g b S).bind fun p=>match p.1 with
  |.done b'=>some (b',p.2)
  |.yield b'=>a8m g n b' p.2
variable{Y:Sx}{α β γ δ:Type}
def bS(Y:Lt)(left:Bool)(key:Nat)(arr:Array Nat)(base i:Nat)(S:PS):Option (Bool×PS):=(arr[base+i]?.map fun x=>(x,S)).bind fun p=>if left=true then ltS Y p.1 key p.2 else(ltS Y key p.1 p.2).bind fun q=>some (!q.1,q.2)
def g3S(bey:Nat->PS->Option (Bool×PS))(n lo hi:Nat)(S:PS):Option (Nat×PS):=
 (a8m (fun(b:Nat×Nat) S=>if b.1 ≥ b.2 then some (.done b,S)else(bey (b.1+(b.2-b.1)/2) S).bind fun p=>if p.1=true then some (.yield (b.1+(b.2-b.1)/2+1,b.2),p.2)else some (.yield (b.1,b.1+(b.2-b.1)/2),p.2)) (n-0) (lo,hi) S).bind fun p=>some (p.1.2,p.2)
abbrev e2(b:Nat×Nat):Option (Option Nat)×Nat×Nat:=(none,b.1,b.2)
def g2S(bey:Nat->PS->Option (Bool×PS))(at_:Nat->Nat)(stp:Bool->Bool)(n most:Nat)(k:Nat->Nat->PS->Option (Nat×PS))(S:PS):Option (Nat×PS):=
 (a8m (fun(b:Nat×Nat) S=>if b.2 ≥ most then some (.done b,S)else(bey (at_ b.2) S).bind fun p=>if stp p.1=true then some (.done b,p.2)else some (.yield (b.2,2 * b.2+1),p.2)) (n-0) (0,1) S).bind fun p=>k p.1.1 p.1.2 p.2
def b1Z(Y:Lt)(left:Bool)(key:Nat)(arr:Array Nat)(base n hint:Nat)(S:PS):Option (Nat×PS):=
 (bS Y left key arr base hint S).bind fun p=>if p.1=true then g2S (bS Y left key arr base) (fun o=>hint+o) (fun b=>!b) n (n-hint) (fun l o=>g3S (bS Y left key arr base) n (hint+l+1) (hint+min o (n-hint))) p.2
  else g2S (bS Y left key arr base) (fun o=>hint-o) (fun b=>b) n (hint+1) (fun l o=>g3S (bS Y left key arr base) n (hint+1-min o (hint+1)) (hint-l)) p.2
abbrev e1(b:Nat):Option (Option Nat)×Nat:=(none,b)
variable{Y:Sx}{α β γ δ:Type}
abbrev e3(b:Nat×Nat):Option Bool×Nat×Nat:=(none,b.1,b.2)
abbrev e0{α:Type}(_:Unit):Option α×Unit:=(none,())
variable{Y:Sx}{α β γ δ:Type}
abbrev An:=Array Nat
def elS(a:An)(i:Nat)(S:PS):Option (Nat×PS):=a[i]?.map fun x=>(x,S)
def dnH(a b out:An)(na nb:Nat):An:=a.extract 0 na++b.extract 0 nb++out.reverse
def fbH(a b out:An)(na nb:Nat):An:=b.extract 0 nb++a.extract 0 na++out.reverse
abbrev U7:=Option An×Nat×Nat×An×Nat×Nat×Nat
def hi4(a b:An)(mg k k2 na:Nat)(out:An)(nb:Nat)(S:PS):Option (ForInStep U7×PS):=(elS a (na-1) S).bind fun z=>
 if(na-1==0)=true then some (.done (some (dnH a b (out.push z.1) (na-1) nb),na-1,nb,out.push z.1,mg,k,k2),z.2)
 else if(decide (k<7)&&decide (k2<7))=true then some (.done (none,na-1,nb,out.push z.1,mg,k,k2),z.2)else some (.yield (none,na-1,nb,out.push z.1,mg,k,k2),z.2)
def hi3(Y:Lt)(a b:An)(mg k bc nb:Nat)(out:An)(na:Nat)(S:PS):Option (ForInStep U7×PS):=(elS b (nb-1) S).bind fun x=>
 if(nb-1==1)=true then some (.done (some (fbH a b (out.push x.1) na (nb-1)),na,nb-1,out.push x.1,mg,k,bc),x.2)
 else(elS a (na-1) x.2).bind fun y=>(b1Z Y true y.1 b 0 (nb-1) (nb-1-1) y.2).bind fun q=>if nb-1-q.1>0 then
   (if(q.1==1)=true then some (.done (some (fbH a b (out.push x.1++(b.extract q.1 (nb-1)).reverse) na q.1),na,q.1,out.push x.1++(b.extract q.1 (nb-1)).reverse,mg,k,nb-1-q.1),q.2)
    else if(q.1==0)=true then some (.done (some (dnH a b (out.push x.1++(b.extract q.1 (nb-1)).reverse) na q.1),na,q.1,out.push x.1++(b.extract q.1 (nb-1)).reverse,mg,k,nb-1-q.1),q.2)
    else hi4 a b mg k (nb-1-q.1) na (out.push x.1++(b.extract q.1 (nb-1)).reverse) q.1 q.2)
  else hi4 a b mg k (nb-1-q.1) na (out.push x.1) (nb-1) q.2
def b2a(Y:Lt)(a b:An)(t:U7)(mg:Nat)(S:PS):Option (ForInStep U7×PS):=(some ((),{S with mg:=mg})).bind fun u=>(elS b (t.2.2.1-1) u.2).bind fun x=>(b1Z Y false x.1 a 0 t.2.1 (t.2.1-1) x.2).bind fun q=>if t.2.1-q.1>0 then
   (if(q.1==0)=true then some (.done (some (dnH a b (t.2.2.2.1++(a.extract q.1 t.2.1).reverse) q.1 t.2.2.1),q.1,t.2.2.1,t.2.2.2.1++(a.extract q.1 t.2.1).reverse,mg,t.2.1-q.1,t.2.2.2.2.2.2),q.2)
    else hi3 Y a b mg (t.2.1-q.1) t.2.2.2.2.2.2 t.2.2.1 (t.2.2.2.1++(a.extract q.1 t.2.1).reverse) q.1 q.2)
  else hi3 Y a b mg (t.2.1-q.1) t.2.2.2.2.2.2 t.2.2.1 t.2.2.2.1 t.2.1 q.2
def hi2(Y:Lt)(a b:An)(t:U7)(S:PS):Option (ForInStep U7×PS):=if t.2.2.2.2.1>1 then b2a Y a b t (t.2.2.2.2.1-1) S else b2a Y a b t t.2.2.2.2.1 S
variable{Y:Sx}{α β γ δ:Type}
section
variable{E:OE}
end
section
variable{p1 kp1 kp2:Pos}{j:Nat}{p2:Pos}
end
section
variable{E:XK}{g:OZ}
end
section
variable{es:List Expr}{y:Str}{n:Nat}{as:Mo (List Ar)}
end
section
variable{E:OE}
end
section
variable{pins:OX}{σ:St}{H:Hp}{s:Shared}
end
variable{β:Type}
def GA(N:Nat)(a:An):Prop:=∀x∈a,x<N
variable{Y:Lt}
section
variable{a b:An}{S:PS}(ha:GA Y.N a)(hb:GA Y.N b)
include ha hb
end
variable{Y:Lt}
section
variable{a b:An}{S:PS}(ha:GA Y.N a)(hb:GA Y.N b)
include ha hb
end
def Chn:List (Nat×Nat×Nat)->Nat->Nat->Prop
 |[],s,e=>s=e
 |p::r,s,e=>p.1=s/\0<p.2.1/\Chn r (s+p.2.1) e
structure Rdy(N n:Nat)(S:PS)(e:Nat):Prop where
 sz:S.a.size=n
 ga:GA N S.a
 ch:Chn S.pd.toList 0 e
 le:e≤n
structure Kpt(N:Nat)(S S':PS):Prop where
 sz:S'.a.size=S.a.size
 ga:GA N S'.a
 pd:S'.pd=S.pd
section
variable{κ:Type}[DecidableEq κ]{knd:HeapKind prog w κ}{E:OE}{s:Shared}
def a8n(A:Around)(s:Shared)(ys:List (κ×Addr×Value))(x:κ×Addr×Value)(b:Bool):Prop:=
 (b=false/\∀(j:Nat) (p:Addr×Value),ys[j]? ≠some (x.1,p))∨ ∃(j:Nat) (p:Addr×Value),ys[j]? =some (x.1,p)/\SeqAt.EqAt A s x.2.2 p.2 b
theorem b9Q{nm:String}{xs ys:List (κ×Addr×Value)}{hit:κ×Addr×Value->Bool}{Q:Bool->Shared->Prop}(ha:(a==sysModules)=false)(hb:(b==sysModules)=false)(hu:knd.room A)(da:s.heap.DictOfH knd a xs)(db:s.heap.DictOfH knd b ys)
  (hh:∀x∈xs,a8n A s ys x (hit x))(q:Q (xs.length==ys.length&&xs.all hit) s):wpAny (model prog w) A (Builtin.Dict.samePairs nm a b) Q E s:=by
 obtain⟨oa,es,ep,a1,_,a2,a3,a4,a5⟩:=da;obtain⟨ob,fs,ep',b1,_,b2,b3,b4,b5⟩:=db;have la:es.size=xs.length:=by rw[←Jk,a3,Qv]
 have lb:fs.size=ys.length:=by rw[←Jk,b3,Qv]
 unfold Builtin.Dict.samePairs Builtin.Dict.showsAll;rw[Qm (show ¬ (a==sysModules)=true by rw[ha];exact Qo),Qm (show ¬ (b==sysModules)=true by rw[hb];exact Qo)]
 refine Qq (Qj (Qq (Qj (Qq (Yv a1 a2 ?_)))));dsimp only;refine Qq (Yv b1 b2 ?_)
 by_cases hsz:es.size=fs.size
 case neg=>
  rw[Qh (by simpa using hsz)]
  have e0:(xs.length==ys.length)=false:=by rw[←la,←lb];simpa using hsz
  rw[e0,Jf]at q;exact Qq (Ud (Qj q))
 case pos=>
  have e0:(xs.length==ys.length)=true:=by rw[←la,←lb];simpa using hsz
  rw[e0,Yy]at q;rw[Qm (by rw[hsz];simp)]
  refine Qq (Jc a1 a2 (Qq ?_));rw[Std.Legacy.Range.forIn_eq_forIn_range'];simp only[Std.Legacy.Range.size,Nat.sub_zero,Nat.add_sub_cancel,Nat.div_one];refine Vv _ (fun rest r s'=>s'=s/\r=(none,())/\∃i,rest=List.range' i (es.size-i)/\i≤es.size/\(xs.drop i).all hit=xs.all hit) _ ?_ ?_ _ _ ⟨rfl,rfl,0,by simp,Xx _,rfl⟩
  ·rintro i' rest r s' ⟨rfl,rfl,i,hr,hi,hd⟩
   have hlt:i<es.size:=by
    rcases Nat.lt_or_ge i es.size with h|h
    ·exact h
    ·rw[Nat.sub_eq_zero_of_le h]at hr;simp at hr
   obtain⟨rfl,hrest⟩:i'=i/\rest=List.range' (i+1) (es.size-(i+1)):=by
    rw[show es.size-i=(es.size-(i+1))+1 by omega,Ts]at hr
    injection hr with h1 h2
    exact⟨h1,h2⟩
   have hx:i'<xs.length:=by rw[←la];exact hlt
   have hes:es[i']=entryOfKey knd xs[i']:=by
    have h1:es.toList[i']? =some es[i']:=by rw[Array.getElem?_toList];exact Zx hlt
    rw[a3,Zd,Zz hx]at h1;exact(Zs h1).symm
   rw[Vf hx,Jy]at hd;have hm:=hh _ (Yl hx);refine Qq (Yv a1 a2 ?_);rw[Zx hlt,hes];generalize hq:xs[i']=x at *;have hk:knd.is s'.heap x.1 x.2.1:=a4 x (hq ▸ Yl hx);show wpAny _ _ (holding [Value.ref x.2.1,x.2.2] _>>=_) _ _ _;refine Qq (Yj (Qq (wpAny_dictFind_heap hu hk b1 b2 b3 b4 b5 ?_ ?_)))
   ·intro hno
    have hf:hit x=false:=by
     rcases hm with⟨h,_⟩|⟨j,p,h,_⟩
     ·exact h
     ·exact absurd h (hno j p)
    rw[hf,Jf]at hd;refine Qj ?_
    show wpAny _ _ (if(!false)=true then _ else _) _ _ _
    rw[Qh (by decide)]
    exact Qj (Qj (by rw[hd];exact q))
   ·intro j p hj
    rcases hm with⟨_,h⟩|⟨j',p',h1,h2⟩
    ·exact absurd hj (h j p)
    ·have hjj:j=j':=idxH_unique b5 hj h1
     subst hjj;rw[hj]at h1;have hp:p=p':=by
      have:=Zs h1;injection this
     subst hp;have hjl:j<fs.size:=by rw[lb];exact(Qy.mp hj).1
     have hfe:fs[j].val=p.2:=by
      have h3:fs.toList[j]? =some fs[j]:=by rw[Array.getElem?_toList];exact Zx hjl
      rw[b3,Zd,hj]at h3;have h4:=Zs h3;rw[←h4]
      rfl
     refine Qq (Yv b1 b2 ?_);rw[Zx hjl];dsimp only;rw[hfe];refine Yj (h2 prog w _ _ ?_);cases hb':hit x with
     |false=>
      rw[hb',Jf]at hd;show wpAny _ _ (if(!false)=true then _ else _) _ _ _
      rw[Qh (by decide)]
      exact Qj (Qj (by rw[hd];exact q))
     |true=>
      rw[hb',Yy]at hd;show wpAny _ _ (if(!true)=true then _ else _) _ _ _
      rw[Qm (by decide)]
      refine Qq (Jc a1 a2 ?_);rw[Qm (by simp)]
      exact Qj ⟨rfl,rfl,i'+1,hrest,hlt,hd⟩
  ·rintro r s' ⟨rfl,rfl,i,hr,hi,hd⟩
   have hin:i=es.size:=by
    rcases Nat.lt_or_ge i es.size with h|h
    ·rw[show es.size-i=(es.size-(i+1))+1 by omega,Ts]at hr;exact nomatch hr
    ·exact Nat.le_antisymm hi h
   refine Qj ?_
   rw[hin,la,Tr]at hd;rw[←hd]at q;exact q
theorem b9R{xs ys:List (κ×Addr×Value)}{hit:κ×Addr×Value->Bool}{Q:OE}(ha:(a==sysModules)=false)(hb:(b==sysModules)=false)(hu:knd.room A.in1)(hu2:A.units<cLine)(da:s.heap.DictOfH knd a xs)(db:s.heap.DictOfH knd b ys)
  (hh:∀x∈xs,a8n A.in1 s ys x (hit x))(q:Q (.bool (!(xs.length==ys.length&&xs.all hit))) s):wpAny (model prog w) A (compareOp .NotEq (.ref a) (.ref b)) Q E s:=by
 refine wpAny_richCompare_same_room (op:=.NotEq) da.typeIs db.typeIs PySem.F.slot_dict_ne (Zb PySem.F.slot_dict_ne da.typeIs PySem.F.entry_dict_ne ?_ (PySem.F.args_dict_ne_2 _ _)) hu2;show wpAny _ _ (Builtin.Dict.dictSlotArgs "__ne__" ⟨[.ref a,.ref b],[]⟩>>=_) _ _ s;refine Qq ?_
 unfold Builtin.Dict.dictSlotArgs;refine Qq (Uz da.typeIs (Qj ?_));refine Qq (Yo (T:="dict") db.typeIs PySem.F.sub_dict_dict ?_);simp only[Uk,Qs,Zc];refine Qq (Qj (Qq (Qj (Qq (b9Q ha hb hu da db hh ?_)))));refine Qj ⟨_,rfl,?_,?_⟩
 ·exact fun x=>nomatch x
 ·simpa using q
end
def ItV(d:Addr)(es:Array DictEntry)(ep:Nat)(xs:List V):It:=⟨fun i H=>i<es.size/\H d=some (.dX es ep),fun i H x H'=>H'=H/\xs[i]? =some x,fun i H=>es.size≤i/\H d=some (.dX es ep)⟩
theorem b9S{P:Program}(it d:Addr)(es:Array DictEntry)(ep:Nat)(xs:List V)(ht:EsT es xs):Turn P w K tg (ItV d es ep xs) [it] it (fun i h=>h.IsValIter it d i es.size ep)where
 mem:=by simp
 obj:=fun i h st b hb=>by
  have e:b=it:=by simpa using hb
  subst e;obtain⟨o,e,c,d⟩:=st;exact⟨o,e,fun v z=>by rw[d]at z;cases z⟩
 keep:=fun i h h' st k=>by
  obtain⟨o,e,c,d⟩:=st;exact⟨o,k it (by simp) _ e,c,d⟩
 item:=by
  intro X hP hw hK hc i pins s σ H E I hf st hg;subst hP hw hK;obtain⟨f0,f1,f2,f3,f4,f5⟩:=hf it (by simp)
  obtain⟨hi,hd⟩:=hg;obtain⟨_,_,_,ea⟩:=a0F I hd;have hx:es[i]? =some es[i]:=Zx hi;obtain⟨y,hy,ry⟩:=ht.val i _ hx;refine b1O st ea hx fun h' st' hs'=>?_
  have I1:Inv X pins σ H {s with heap:=h',toks:=s.toks}:=I.turned (fun b o hb e=>hs'.extBut b o hb e) f0 f1 f3 f4 f5
  obtain⟨o,e,oc,od⟩:=id st';exact⟨_,rfl,a4i (s:={s with heap:=h'}) (n:="dict_valueiterator") e oc od (by decide) ⟨y,H,I1,ry,⟨rfl,hy⟩,st',fun b hb=>(hf b hb).1⟩⟩
 done:=by
  intro X hP hw hK hc i pins s σ H E I hf st hg;subst hP hw hK;obtain⟨f0,f1,f2,f3,f4,f5⟩:=hf it (by simp)
  obtain⟨hi,hd⟩:=hg;obtain⟨_,_,_,ea⟩:=a0F I hd;exact b1P (I.ok.hd hc) st ea hi fun h' hs'=>⟨rfl,I.turned (t':=s.toks) (fun b o hb e=>hs' b o hb e) f0 f1 f3 f4 f5⟩
 self:=fun A i s Q E st h=>wpAny_pyIter_valiter st h
theorem b9T{xs:List V}{vs:List D}(hd:G d=some (.dX es ep))(h:EsK K G es.toList ks xs)(hv:z9_ K G xs vs):ItD K (ItV d es ep xs) G vs where
 go:=fun i H l hi=>⟨by have:=h.len;have:=hv.length;simp at *;omega,l _ _ hd⟩
 stop:=fun i H l hi=>⟨by have:=h.len;have:=hv.length;simp at *;omega,l _ _ hd⟩
 yld:=fun i H x H' dd l y e=>by
  obtain⟨rfl,hz⟩:=y;obtain⟨dv,q1,q2⟩:=hv.get' hz;rw[q1]at e;cases e;exact .inl ⟨rfl,q2⟩
theorem b2b{α β:Type}{F:α->β->Prop}:∀{l₁:List α}{l₂:List β},l₁.length=l₂.length->(∀(i:Nat) (x:α) (y:β),l₁[i]? =some x->l₂[i]? =some y->F x y)->Paired F l₁ l₂
 |[],[],_,_=>.nil
 |a::l₁,b::l₂,h,k=>.cons (k 0 a b rfl rfl) (b2b (by simpa using h) fun i x y e1 e2=>k (i+1) x y (by simpa using e1) (by simpa using e2))
 |[],b::l₂,h,_=>by simp at h
 |a::l₁,[],h,_=>by simp at h
def a3P(m:Mo D):Mo (List D):=fun env=>(m env).bind fun p=>match p.1 with
 |.dcx _ vs=>some (vs,p.2)
 |_=>none
theorem b2c(h:ED X B e ma)
  (hbase:attributeBase e "values" X.env (eval e X.env)=eval e X.env:=by rfl)(hline:(apos.endLine==cpos.line)=true:=by rfl):EI X B tg (.Call (.Attribute e "values" apos) [] [] cpos) (a3P ma):=by
 have hv:=a7g (X:=X) (apos:=apos) (cpos:=cpos) Um Vi PySem.F.type_dict_values b1Y h hbase hline
 intro pins s σ H R I q;obtain⟨G,env,ds,env',rl,em,k⟩:=q;obtain⟨⟨d,env1⟩,e1,e2⟩:=q4_ em;dsimp only at e2;split at e2
 case h_2=>cases e2
 rename_i ks vs;cases e2;refine thn (hv pins s σ H (fun v H1=>∃G1 l a es ep xs,v=.ref l/\H1 l=some (.ext fun h=>h.IsValuesView l a)/\Ev X.K B G σ env H G1 σ env' H1/\G1 a=some (.dX es ep)/\EsK X.K G1 es.toList ks xs/\z9_ X.K G1 xs ds) I ⟨G,env,_,env',rl,e1,fun v G1 H1 ev r=>?_⟩) fun u s1 ⟨y,H1,I1,ry,G1,l,a,es,ep,xs,hy,hl,ev,g,ek,rv⟩=>?_
 ·simp only[Rep]at r
  obtain⟨a,es,ep,xs,rfl,g,ek,ok,rv⟩:=r;have ha:=ev.rel.sub _ _ g;exact⟨.inr (.inr (.inr (.inr ⟨rfl,_,_,ha⟩))),a,es,ep,rfl,rfl,ha,fun l hl ne=>⟨G1,l,a,es,ep,xs,rfl,x0_,ev.trans (ev.rel.allocM hl),g,ek,rv⟩⟩
 ·subst hy
  cases ry;have ha:=ev.rel.sub _ _ g;obtain⟨z1,z2,z3,z4⟩:=a0F I1 ha;have hview:s1.heap.IsValuesView l a:=(show x5_ X.prog X.w H1 s1.heap l (.ext _)from I1.hok l _ hl).1
  refine b1N hview z4 ?_
  refine⟨s1.heap.objs.size,[s1.heap.objs.size],_,_,H1,rfl,I1.kept (t':=s1.toks) fun b o e=>Qx _ e,b9S _ a es ep xs ek.tE,⟨_,Qu _ rfl,rfl,rfl⟩,fun b hb=>?_,k _ G1 H1 ev (b9T g ek rv)⟩
  have e:b=s1.heap.objs.size:=by simpa using hb
  subst e;exact I1.fpOk (Qb _) (I1.hok.fresh (Qb _))
theorem b9U{v:Addr}:PySem.W.KdlSrc prog w "dict_values" v d es.size (fun i x=>∃e,es[i]? =some e/\x=e.val) (fun h=>h.IsValuesView v d/\a1p h d es ep)where
 type:=fun _ h=>h.1.typeIs
 there:=fun _ ⟨⟨o,a,_⟩,⟨o',b,_⟩⟩=>⟨Qg a,Qg b⟩
 keep:=fun _ _ ⟨⟨o,a,r⟩,m⟩ hk=>⟨⟨o,hk v (.inl rfl) o a,r⟩,m.keep fun o e=>hk d (.inr rfl) o e⟩
 notList:=by decide
 notTuple:=by decide
 hint:=fun _ _ _ _ h hq=>PySem.W.kdl_hint_values h.1.typeIs hq
 iter:=fun _ s hh h=>⟨{cls:=.type "dict_valueiterator",data:=.fields #[.ref d,.int 0 0,.int es.size 0,.int ep 0]},_,(fun _ _ hq=>b1N h.1 h.2 hq),b9z hh _ (by obtain⟨_,⟨o,a,_⟩⟩:=h;exact Qi (Qg a)),⟨⟨_,Qu _ rfl,rfl,rfl⟩,h.2.keep fun o e=>Qx _ e⟩⟩
def b9V:List V->Hp->VK->Prop:=fun xs H Q=>∃(v a:Addr) (es:Array DictEntry) (ep:Nat) (ys:List V),xs=[.ref v]/\H v=some (.ext fun h=>h.IsValuesView v a)/\H a=some (.dX es ep)/\EsT es ys/\ys.length=es.size/\∀l,H l=none->Q (.ref l) (upd H l (.lst ys))
theorem b9W(hc:X.calm=true):g2_ X (.type "list") b9V:=by
 intro pins s σ H xs us Q I r h;obtain⟨v,a,es,ep,ys,rfl,hv,ha,ht,hsz,q⟩:=h;obtain⟨u,rfl,rx⟩:=a1T r;cases rx;have hview:s.heap.IsValuesView v a:=(show x5_ X.prog X.w H s.heap v (.ext _)from I.hok v _ hv).1
 obtain⟨z,hd,hT,hes⟩:=a0F I ha;refine PySem.W.kdl_call b9U (I.ok.hd hc) ⟨hview,hes⟩ z fun h' tk acc c hk hl ⟨hn,hi⟩=>?_
 have hf:H s.heap.objs.size=none:=I.hok.fresh (Qb _)
 have rv:v2_ ys acc.toList:=by
  refine b2b (by simp;omega) fun i x y e1 e2=>?_
  have hlt:i<acc.size:=by have:=(Qy.mp e2).1;simpa using this
  obtain⟨e,he,hx⟩:=hi i acc[i] (Zx hlt);obtain⟨y',q1,q2⟩:=ht.val i e he;rw[e1]at q1;cases q1;have:acc.toList[i]? =some acc[i]:=by simp[hlt]
  rw[this]at e2;cases e2;rw[hx];exact q2
 refine⟨.ref s.heap.objs.size,_,I.laid (a:=s.heap.objs.size) (o:=.lst ys) (h':=h') (t':=tk) hk (Qb _) ⟨by omega,acc.toList,c,rv,by simpa using hl⟩,rfl,q _ hf⟩
theorem b2d{p1:Pos}(hc:X.calm=true)(h:ED X B e ma)(hg:Gl X "list")(hm:X.mg "list"=none)
  (hbase:attributeBase e "values" X.env (eval e X.env)=eval e X.env:=by rfl)(hline:(apos.endLine==cpos.line)=true:=by rfl)
  (he:starEach [.Call (.Attribute e "values" apos) [] [] cpos] X.env=[(false,eval (.Call (.Attribute e "values" apos) [] [] cpos) X.env)]:=by rfl):
  EL X B (.Call (.Name "list" p1) [.Call (.Attribute e "values" apos) [] [] cpos] [] pos) (a3P ma):=by
 have hv:=a7g (X:=X) (apos:=apos) (cpos:=cpos) Um Vi PySem.F.type_dict_values b1Y h hbase hline
 refine pe_imp (a7d (b9W hc) hg hm b1i (a0e hv a1u he)) ?_
 rintro σ H Q ⟨G,env,d,env',rl,e,k⟩;obtain⟨⟨d0,env1⟩,e1,e2⟩:=q4_ e;dsimp only at e2;split at e2
 case h_2=>cases e2
 rename_i ks vs;cases e2;refine⟨G,env,_,_,rl,e1,fun v G1 H1 ev r=>?_⟩
 simp only[Rep]at r;obtain⟨a,es,ep,xs,rfl,g,ek,ok,rv⟩:=r;have ha:=ev.rel.sub _ _ g;refine⟨.inr (.inr (.inr (.inr ⟨rfl,_,_,ha⟩))),a,es,ep,rfl,rfl,ha,fun l hl ne=>?_⟩
 refine⟨l,a,es,ep,xs,rfl,x0_,by rw[v0_ (Zh ne)];exact ha,ek.tE,?_,fun p hp=>?_⟩
 ·have h1:=ek.len
  simp at h1
  omega
 ·exact a5D (ev.trans (ev.rel.allocM hl)) hp rv k
def shq(d:D):Bool:=shp d&&decide ((toP d).depth≤60)
theorem a8o{d:D}(h:shq d=true):(toP d).canLay0=true/\(toP d).depth≤60:=by
 unfold shq at h;rw[Qp,Zi]at h;exact⟨Jt h.1,h.2⟩
def a4E(ks:List KX)(vs:List D)(ks':List KX)(vs':List D):Bool:=(List.zip ks vs).all fun p=>match lkX ks' vs' p.1 with
 |some d=>PyData.eqv (toP p.2) (toP d)
 |none=>false
def a3j(ks:List KX):Bool:=match ks with
 |[]=>true
 |k::r=>r.all fun k'=>k'.kind==k.kind
theorem b2e(h:a3j ks=true):∃b,∀k∈ks,k.kind=b:=by
 cases ks with
 |nil=>exact⟨false,fun k hk=>nomatch hk⟩
 |cons k r=>
  refine⟨k.kind,fun k' hk=>?_⟩
  rcases Qc.mp hk with rfl|hk
  ·rfl
  ·simpa using (Qw.mp h) k' hk
def b2f(K:Qz):R2:=fun x y H Q=>∃G a es ep ks xs vs a' es' ep' ks' xs' vs',x=.ref a/\y=.ref a'/\Le G H/\H a=some (.dX es ep)/\EsK K G es.toList ks xs/\u7_ ks/\z9_ K G xs vs/\H a'=some (.dX es' ep')/\EsK K G es'.toList ks' xs'/\u7_ ks'/\z9_ K G xs' vs'/\
 vs.all shq=true/\vs'.all shq=true/\a3j (ks++ks')=true/\Q (.bl (!(ks.length==ks'.length&&a4E ks vs ks' vs'))) H
theorem b2g{κ:Type}[DecidableEq κ]:∀{ys:List (κ×Addr×Value)}{k:κ}{p:Addr×Value},atKey ys k=some p->∃j:Nat,ys[j]? =some (k,p)
 |[],k,p,e=>by cases e
 |y::ys,k,p,e=>by
  unfold atKey at e
  by_cases h:y.1=k
  ·rw[List.find?_cons_of_pos (by simpa using h)]at e
   cases e;exact⟨0,by subst h;rfl⟩
  ·rw[List.find?_cons_of_neg (by simpa using h)]at e
   obtain⟨j,q⟩:=b2g (ys:=ys) (k:=k) (p:=p) e;exact⟨j+1,by simpa using q⟩
theorem b9X{κ:Type}[DecidableEq κ]{ys:List (κ×Addr×Value)}{k:κ}(e:atKey ys k=none)(j:Nat)(p:Addr×Value):ys[j]? ≠some (k,p):=fun z=>by
 unfold atKey at e;rw[Option.map_eq_none_iff,List.find?_eq_none]at e;exact e _ (Yc z) (by simp)
noncomputable def a6o (h:Heap) (ks':List KX) (vs':List D) (y:KX×Addr×Value):Bool:=match lkX ks' vs' y.1 with
 |some d=>PyData.eqv (SeqAt.readOf h y.2.2) (toP d)
 |none=>false
theorem b2h:∀{ks:List KX}{vs:List D}{k:KX}{d:D},lkX ks vs k=some d->d∈vs
 |[],_,_,_,e=>by cases e
 |_::_,[],_,_,e=>by cases e
 |k'::ks,v::vs,k,d,e=>by
  unfold lkX at e;split at e
  ·cases e;exact Zf ..
  ·exact Zp _ (b2h e)
theorem b2i(hu:X.A.units+64<cLine):OpR X (compareOp .NotEq) (b2f X.K):=by
 intro pins s σ H x y v u Q I rx ry h;obtain⟨G,a,es,ep,ks,xs,vs,a',es',ep',ks',xs',vs',rfl,rfl,l,ea,ek,ok,rv,ea',ek',ok',rv',sh,sh',kk,q⟩:=h;cases rx;cases ry;obtain⟨b,hb⟩:=b2e kk;obtain⟨_,hd,_,_⟩:=a0F I ea;obtain⟨_,hd',_,_⟩:=a0F I ea';obtain⟨ys,dd,al⟩:=a3N I l ea ek ok rv (b:=b) fun k hk=>hb k (Xn _ hk)
 obtain⟨ys',dd',al'⟩:=a3N I l ea' ek' ok' rv' (b:=b) fun k hk=>hb k (Zr _ hk)
 have one:∀{ys:List (KX×Addr×Value)}{ks:List KX}{xs:List V}{vs:List D},AL X.K G ys ks xs vs->vs.all shq=true->(∀y∈ys,a8n X.A.in1 s ys' y (a6o s.heap ks' vs' y))/\ys.all (a6o s.heap ks' vs')=a4E ks vs ks' vs':=by
  intro ys ks xs vs al
  induction al with
  |nil=>exact fun _=>⟨fun y hy=>(by cases hy),rfl⟩
  |@cons y ys ks x xs d ds h1 h2 h3 t ih=>
   intro sh;rw[Jy,Qp]at sh;obtain⟨i1,i2⟩:=ih sh.2;obtain⟨cl,cd⟩:=a8o sh.1;obtain⟨as,rd⟩:=reads_of I l d x y.2.2 cl h2 h3;have ro:=SeqAt.readOf_eq cl rd;obtain⟨l1,l2,_⟩:=al'.look y.1;refine⟨fun z hz=>?_,?_⟩
   ·rcases Qc.mp hz with rfl|hz
    ·unfold a6o
     cases hl:lkX ks' vs' z.1 with
     |none=>exact .inl ⟨rfl,b9X (l2 hl)⟩
     |some d'=>
      obtain⟨p,x',e1,e2,e3⟩:=l1 d' hl;obtain⟨j,e4⟩:=b2g e1;obtain⟨cl',_⟩:=a8o ((Qw.mp sh') d' (b2h hl));obtain⟨bs,rd'⟩:=reads_of I l d' x' p.2 cl' e2 e3;refine .inr ⟨j,p,e4,?_⟩;dsimp only;rw[ro];exact SeqAt.eqAt_reads _ _ _ s _ _ as bs rd rd' cl cl' (show X.A.units+1+min (toP d).depth (toP d').depth<cLine by have:=Nat.min_le_left (toP d).depth (toP d').depth;omega)
    ·exact i1 z hz
   ·rw[Jy,i2]
    show _=(List.zip (y.1::ks) (d::ds)).all _;rw[Tw,Jy]
    congr 1
    unfold a6o;dsimp only;rw[ro]
 obtain⟨o1,o2⟩:=one al sh;refine b9R hd hd' (show X.A.units+1+1<cLine by omega) (by omega) dd dd' o1 ⟨.bl _,H,I,rfl,?_⟩
 rw[o2,al.len,al'.len];exact q
def a3Q:D->D->Option D
 |.dcx ks vs,.dcx ks' vs'=>if vs.all shq&&(vs'.all shq&&a3j (ks++ks'))then some (.bl (!(ks.length==ks'.length&&a4E ks vs ks' vs')))else none
 |_,_=>none
theorem b9Y:OpD X B (b2f X.K) a3Q:=by
 intro G σ env H x y a b d Q rl ra rb e k;unfold a3Q at e;split at e
 case h_2=>cases e
 rename_i ks vs ks' vs';split at e
 case isFalse=>cases e
 rename_i h;cases e;simp only[Qp]at h;simp only[Rep]at ra rb;obtain⟨p,es,ep,xs,rfl,g,ek,ok,rv⟩:=ra;obtain⟨p',es',ep',xs',rfl,g',ek',ok',rv'⟩:=rb;exact⟨G,p,es,ep,ks,xs,vs,p',es',ep',ks',xs',vs',rfl,rfl,rl.sub,rl.sub _ _ g,ek,ok,rv,rl.sub _ _ g',ek',ok',rv',h.1,h.2.1,h.2.2,k _ G H (.refl rl) (by simp only[Rep])⟩
def a3R:D->D->Option D
 |.lst ds,a=>if shq a&&PyData.canLayAll0 (k8_ ds)then some (.int (((k8_ ds).countP fun y=>PyData.eqv y (toP a):Nat):Int))else none
 |_,_=>none
def b9Z(K:Qz):V->List V->Hp->VK->Prop:=fun x vs H Q=>∃(G:Hp) (p:Addr) (xs:List V) (ds:List D) (y:V) (a:D),x=.ref p/\vs=[y]/\Le G H/\SqL K H p xs/\z9_ K G xs ds/\Rep K G y a/\shq a=true/\PyData.canLayAll0 (k8_ ds)=true/\Q (.int ((k8_ ds).countP fun y=>PyData.eqv y (toP a):Nat)) H
theorem c0a(hu:X.A.units+64<cLine):MtM X "list.count" (b9Z X.K):=by
 intro pins s σ H x vs v us Q I rx rv h;obtain⟨G,p,xs,ds,y,a,rfl,rfl,l,hq,rp,ra,ha,hd,q⟩:=h;cases rx;obtain⟨u,rfl,ru⟩:=rv.one;obtain⟨its,r,pl,hz⟩:=I.list hq;obtain⟨hl,hdp⟩:=a8o ha;obtain⟨as,h1⟩:=reads_of I l a y u hl ru ra;obtain⟨bs,h2⟩:=readsAll_of I l ds xs its hd r rp;obtain⟨⟨oc,od,odt,osl⟩,n,e,hc,hd',hdt⟩:=pl;dsimp only at hc hd' hdt;subst hc hd' hdt;refine Va PySem.F.slot_list_count ⟨_,e,rfl⟩ PySem.F.entry_list_count (PySem.F.args_list_count_2 _ _) (SeqAt.list_countAt p its.toArray n none osl u (fun z=>PyData.eqv (SeqAt.readOf s.heap z) (toP a)))
  ⟨e,fun z hz=>?_,⟨.int ((k8_ ds).countP fun y=>PyData.eqv y (toP a):Nat),H,I.tok _,⟨s.toks,?_⟩,q⟩⟩
 ·obtain⟨dz,cs,r1,r2,r3⟩:=SeqAt.readsAll_mem (k8_ ds) its bs hd h2 z (by simpa using hz)
  rw[SeqAt.readOf_eq r2 r1];refine SeqAt.eqAt_reads _ _ _ s _ _ cs as r1 h1 r2 hl ?_
  have:=Nat.min_le_right dz.depth (toP a).depth;show X.A.units+1+min dz.depth (toP a).depth<cLine
  omega
 ·rw[show its.toArray.toList=its from rfl,←SeqAt.readsAll_map (k8_ ds) its bs hd h2,Pq];rfl
theorem b2j{o:Expr}{mb:Mo D}(hu:X.A.units+64<cLine)(ho:ED X B o ma)(he:ED X B e mb)
  (hbase:attributeBase o "count" X.env (eval o X.env)=eval o X.env:=by rfl)
  (hfew:((backTo cpos (starEach [e] X.env)).all (fun x=>!x.1)&&(backToKw cpos (keywordEach [] X.env)).all (fun x=>x.1.isSome)
   &&decide ([e].length+([]:List Keyword).length+(if([]:List Keyword).isEmpty then 0 else 1)<30))=true:=by rfl)
  (hline:(apos.endLine==cpos.line)=true:=by rfl)(hs:starEach [e] X.env=(false,eval e X.env)::starEach [] X.env:=by rfl)(hplain:(backTo cpos (starEach [] X.env)).any (·.1)=false:=by rfl):
  ED X B (.Call (.Attribute o "count" apos) [e] [] cpos) (z5_ a3R ma mb):=by
 refine pe_imp (a5r Vo PySem.F.slot_list_count PySem.F.type_list_count (c0a hu) ho (a0e he a1u hs) hbase hfew hline hs hplain) ?_
 rintro σ H Q ⟨G,env,d,env',rl,em,k⟩;obtain⟨⟨d1,env1⟩,e1,e2⟩:=q4_ em;obtain⟨⟨d2,env2⟩,e3,e4⟩:=q4_ e2;obtain⟨d3,e5,e6⟩:=x2_ e4;cases e6;dsimp only at e3 e5;unfold a3R at e5;split at e5
 case h_2=>cases e5
 rename_i ds;split at e5
 case isFalse=>cases e5
 rename_i hh;cases e5;rw[Qp]at hh;refine⟨G,env,_,env1,rl,e1,fun v G1 H1 ev1 r1=>?_⟩
 simp only[Rep]at r1;obtain⟨a,xs,rfl,hq,rp⟩:=r1;refine⟨.inl ⟨rfl,_,ev1.rel.sub.sqL hq⟩,G1,env1,_,env2,ev1.rel,e3,fun v2 G2 H2 ev2 r2=>?_⟩
 exact⟨G2,a,xs,_,v2,_,rfl,rfl,ev2.rel.sub,(ev2.same.trans ev2.rel.sub).sqL hq,z9_.mono ev2.same _ rp,r2,hh.1,hh.2,k _ G2 H2 (ev1.trans ev2) (by simp only[Rep])⟩
inductive PairsX (K:Qz) (G:Hp):List V->List (KX×D)->Prop
 |nil:PairsX K G [] []
 |cons {q b:Addr}{k:KX}{v:V}{d:D}{xs:List V}{ps:List (KX×D)}:SqU K G q [.ref b,v]->u6_ K G (.ref b) k->Rep K G v d->PairsX K G xs ps->PairsX K G (.ref q::xs) ((k,d)::ps)
def a0T:List KX->List D->List (KX×D)->List KX×List D
 |ks,vs,[]=>(ks,vs)
 |ks,vs,p::ps=>a0T (w5_ ks p.1) (a0S ks vs p.1 p.2) ps
theorem a8p(ks:List KX)(k:KX):(w5_ ks k).length≤ks.length+1:=by unfold w5_;split<;>simp
section
variable{pins:OX}{σ:St}{R:Result->Shared->Prop}{l it:Addr}{xs:List V}{H:Hp}{kd:Bool}
theorem c0b(hh:A.handled=none)(hu:A.units+2<cLine)(res:Value)(hd:H d=none)(lg:Le G H)(hn:it≠d)(hl:SqL X.K G l xs):
  ∀(ys:List V) (ps:List (KX×D)) (i:Nat) (z:Int) (s:Shared) (es:Array DictEntry) (ep:Nat) (ks:List KX) (us:List V) (vs:List D),xs.drop i=ys->PairsX X.K G ys ps->(∀p∈ps,p.1.kind=kd)->(∀k∈ks,k.kind=kd)->Inv X pins σ (upd H d (.dX es ep)) s->a0q X pins (upd H d (.dX es ep)) it->s.heap.IsListIter it l i->ks.length≤i->
   EsK X.K G es.toList ks us->u7_ ks->z9_ X.K G us vs->
   (∀s' es' ep' us',Inv X pins σ (upd H d (.dX es' ep')) s'->EsK X.K G es'.toList (a0T ks vs ps).1 us'->u7_ (a0T ks vs ps).1->z9_ X.K G us' (a0T ks vs ps).2->R (.ok (.ret res)) s')->
   codeAny (model X.prog X.w) A (.builtin "dict.update.loop" ⟨[.ref d,.ref it,rawInt z,res],[]⟩) R s:=by
 have lu:∀o,Le G (upd H d o):=fun o b u e=>by rw[v0_ (u5_ (lg _ _ e) hd)];exact lg _ _ e
 intro ys
 induction ys with
 |nil=>
  intro ps i z s es ep ks us vs hdr pa pk kk I hf st hk ek ok rv hR;cases pa;obtain⟨its,rv2,pl,hz⟩:=I.list ((lu _).sqL hl);refine codeAny_builtin b1K ?_
  rw[Around.under_plainId a6h _];show wpAny _ A.in1 (pyNext (.ref it)>>=_) _ _ s;have hlen:=rv2.length;have hi:xs.length≤i:=by have:=Ys List.length hdr;simp at this;omega
  refine Qq (wpAny_pyNext_list_end (show A.in1.handled=none from hh) st pl.isList (by simp;omega) fun h' eb=>?_)
  refine Qj ?_
  exact hR _ _ _ _ (I.turned (t':=s.toks) (fun b o hb e=>eb b o hb e) hf.1 hf.2.1 hf.2.2.2.1 hf.2.2.2.2.1 hf.2.2.2.2.2) ek ok rv
 |cons y ys ih=>
  intro ps i z s es ep ks us vs hdr pa pk kk I hf st hk ek ok rv hR;cases pa;rename_i q b k v dv ps hq hb hv pa;obtain⟨its,rvl,pl,hz⟩:=I.list ((lu _).sqL hl);have hx:xs[i]? =some (.ref q):=by have:=Ys (·[0]?) hdr;simpa using this
  obtain⟨u,hu',ru⟩:=rvl.get hx;cases ru;refine codeAny_builtin b1K ?_
  rw[Around.under_plainId a6h _];show wpAny _ A.in1 (pyNext (.ref it)>>=_) _ _ s;refine Qq (wpAny_pyNext_list_item st pl.isList (x:=.ref q) (by simpa using hu') fun h' st' sb=>?_)
  have I1:Inv X pins σ (upd H d (.dX es ep)) {s with heap:=h'}:=I.turned (t':=s.toks) (fun b o hb e=>(sb.2 b hb).trans e) hf.1 hf.2.1 hf.2.2.2.1 hf.2.2.2.2.1 hf.2.2.2.2.2
  obtain⟨its2,rv2,p2,_⟩:=I1.tuple ((lu _).sqT hq);obtain⟨u1,r,rfl,r1,r2⟩:=rv2.two;cases r1;obtain⟨o2,h1,h2,n2,h4⟩:=p2;dsimp only;refine Qq (Yj ?_);refine Qq (wpAny_tryCatch ?_);unfold PySem.Builtin.Dict.pairItems;refine Qq (Uo (T:="tuple") ⟨_,h1,h2⟩ ?_);rw[Qh (by decide)]
  refine Qq (Yd h1 h4 (Qj ?_));show wpAny _ A.in1 (holding [.ref b,r] (dictSet d (.ref b) r)) _ _ _;refine Yj ?_
  have hlen:i<xs.length:=by
   have:=Ys List.length hdr;simp only[Xp,Jg]at this
   omega
  have hzl:xs.length≤sizeLine:=hz
  obtain⟨_,hsm,_,_⟩:=a0F I1 x0_;have kk':k.kind=kd:=pk _ (Zf ..);obtain⟨ys',dd,al⟩:=a3N I1 (lu _) x0_ ek ok rv kk;have hy:=al.len;refine wpAny_dictSet_heap (knd:=a4A X.prog X.w kd) (hsz:=by omega) (show A.units+1+1<cLine by omega) ⟨kk',a4C I1 (lu _) hb⟩ dd fun h2 dd' hs=>?_
  obtain⟨qo,es',ep',hqo,q2,q3,q4,_,q5⟩:=dd';obtain⟨us',al'⟩:=al.put (k:=k) hb r2 hv;have q4':es'.toList=(storedH ys' k b r).map a6k:=q4;have hsz:es'.size≤sizeLine:=by
   rw[←Jk,q4',Qv,al'.len];have:=a8p ks k
   omega
  have okk:okK ks k=true:=by
   cases ks with
   |nil=>rfl
   |cons k0 r0=>show(k0.kind==k.kind)=true;rw[kk k0 (Zf ..),kk'];simp
  have I2:=a7j (t':=s.toks+b1S k) (ob:=.dX es' ep') I1 (by rw[x0_];exact True.intro) hs ⟨qo,hqo⟩ ⟨hsz,hsm,qo,hqo,q2,q3⟩
  rw[a6N]at I2;refine Qj ⟨plainId_quiet a6h _,ih ps (i+1) (z+1) _ es' ep' (w5_ ks k) us' (a0S ks vs k dv) ?_ pa (fun p hp=>pk p (Zp _ hp)) ?_ I2 ⟨by rw[v0_ hn];have:=hf.1;rw[v0_ hn]at this;exact this,hf.2⟩ (It1.at' (k:=false) (show It1 false h' it l (i+1)from st') fun o e=>(hs.2 it hn).trans e) ?_ (by rw[q4'];exact al'.aE.1) (ok.put okk) al'.aE.2.1 hR⟩
  ·have:=Ys List.tail hdr
   simpa using this
  ·intro k1 h1
   unfold w5_ at h1;split at h1
   ·exact kk k1 h1
   ·rcases Ym.mp h1 with z|z
    ·exact kk k1 z
    ·rw[Vs.mp z];exact kk'
  ·have:=a8p ks k
   omega
end
def b2k(K:Qz):List V->Hp->VK->Prop:=fun xs H Q=>∃G l ys ps kd,xs=[.ref l]/\Le G H/\SqL K G l ys/\PairsX K G ys ps/\(∀p∈ps,p.1.kind=kd)/\∀p es ep us,H p=none->EsK K G es.toList (a0T [] [] ps).1 us->u7_ (a0T [] [] ps).1->z9_ K G us (a0T [] [] ps).2->Q (.ref p) (upd H p (.dX es ep))
theorem b2l(hc:X.calm=true)(hu:X.A.units+64<cLine):g2_ X (.type "dict") (b2k X.K):=by
 intro pins s σ H xs us Q I rv h;obtain⟨G,l,ys,ps,kd,rfl,lg,hl,pa,pk,k⟩:=h;cases rv with
 |cons r1 rv=>
 cases rv;cases r1;have hh:X.A.handled=none:=I.ok.hd hc;refine callType_codes (Q₁:=fun obj s₁=>obj=.ref s.heap.objs.size/\s₁={s with heap:=s.heap.push {cls:=.type "dict",data:=.dict #[]}}) PySem.F.kt_called_dict (PySem.F.kt_typeCall_dict_1 _) PySem.F.entry_dict_init (kt_code_dict_new _ ⟨rfl,rfl⟩) fun obj s₁ h₁=>?_
 obtain⟨rfl,rfl⟩:=h₁;have hn:H s.heap.objs.size=none:=I.hok.fresh (Qb _);have lu:∀o,Le G (upd H s.heap.objs.size o):=fun o b u e=>by rw[v0_ (u5_ (lg _ _ e) hn)];exact lg _ _ e
 have I1:Inv X pins σ (upd H s.heap.objs.size (.dX #[] 0)) {s with heap:=s.heap.push {cls:=.type "dict",data:=.dict #[]}}:=I.laid (a:=s.heap.objs.size) (o:=.dX #[] 0) (t':=s.toks) (fun _ _ q=>Qx _ q) (Qb _) (b1V s.heap I.big)
 have Td:Shared.TypeIs {s with heap:=s.heap.push {cls:=.type "dict",data:=.dict #[]}} (.ref s.heap.objs.size) "dict":=⟨_,Qu _ rfl,rfl⟩
 refine⟨Td,PySem.F.args_dict_init_2 _ _,?_⟩;show wpAny _ X.A.in1.in1 (PySem.Builtin.Dict.selfAndRest "__init__" _>>=_) _ _ _;refine Qq ?_
 unfold PySem.Builtin.Dict.selfAndRest;refine Qq (Uz Td ?_);refine Qq (Qj (Qj ?_));show wpAny _ X.A.in1.in1 (PySem.Builtin.Dict.updateFrom _ _ _ _ _) _ _ _;unfold PySem.Builtin.Dict.updateFrom;obtain⟨its,rv,pl,hz⟩:=I1.list ((lu _).sqL hl);refine Qq (Uo (T:="list") ?_ ?_)
 ·obtain⟨o,n,h1,h2,h3⟩:=pl
  exact⟨o,h1,h2⟩
 dsimp only;rw[Qh (by decide)]
 refine Qq (b9p (show X.A.in1.in1.handled=none from hh) pl fun h2 tk kp=>?_)
 rw[Qh (show(none:Option Value).isNone=true from rfl)]
 refine Qq (Ud ?_);have I2:Inv X pins σ (upd H s.heap.objs.size (.dX #[] 0)) {s with heap:=h2,toks:=tk}:=I1.kept kp
 obtain⟨its2,rv2,pl2,hz2⟩:=I2.list ((lu _).sqL hl);refine Qq (Uw pl2.isList ?_);have I3:Inv X pins σ (upd H s.heap.objs.size (.dX #[] 0)) {s with heap:=h2.push {cls:=.type "list_iterator",data:=.fields #[.ref l,.int 0 0]},toks:=tk}:=I2.kept (t':=tk) fun _ _ q=>Qx _ q
 have hne:h2.objs.size≠s.heap.objs.size:=by
  have h1:(s.heap.push {cls:=.type "dict",data:=.dict #[]}).get? s.heap.objs.size=some _:=Qu _ rfl
  exact Xc (Qg (kp _ _ h1))
 have f:a0q X pins (upd H s.heap.objs.size (.dX #[] 0)) h2.objs.size:=I2.fpOk (Qb _) (I2.hok.fresh (Qb _))
 have st:Heap.IsListIter (h2.push {cls:=.type "list_iterator",data:=.fields #[.ref l,.int 0 0]}) h2.objs.size l 0:=⟨_,Qu _ rfl,rfl,rfl⟩
 refine Qj ⟨plainId_quiet a6h _,c0b (A:=X.A.in1) (kd:=kd) (show X.A.in1.handled=none from hh) (by have:X.A.in1.units=X.A.units+1:=rfl;omega) .none hn lg hne hl ys ps 0 0 _ #[] 0 [] [] [] rfl pa pk (fun k hk=>nomatch hk) I3 f st (Qb _) .nil a8k repL_nil fun s' es' ep' us' I' e1 e2 e3=>?_⟩
 exact⟨rfl,.ref s.heap.objs.size,_,I',rfl,k _ _ _ _ hn e1 e2 e3⟩
def a2K:List D->Option (List (KX×D))
 |[]=>some []
 |.tup [kd,vd]::r=>(a0G kd).bind fun k=>(a2K r).map fun ps=>(k,vd)::ps
 |_=>none
def a3S:List D->Option D
 |[.lst ds]=>(a2K ds).bind fun ps=>if a3j (ps.map (·.1))then some (.dcx (a0T [] [] ps).1 (a0T [] [] ps).2)else none
 |_=>none
theorem c0c:∀{ds:List D}{xs:List V}{ps:List (KX×D)},z9_ K G xs ds->a2K ds=some ps->PairsX K G xs ps:=by
 intro ds
 induction ds with
 |nil=>
  intro xs ps r e;simp only[z9_]at r;cases e;subst r;exact .nil
 |cons d ds ih=>
  intro xs ps r e;simp only[z9_]at r;obtain⟨x,t,rfl,r1,r2⟩:=r;unfold a2K at e;split at e
  ·rename_i z;cases z
  ·rename_i kd vd r' z
   cases z;obtain⟨k,e1,e2⟩:=q4_ e;obtain⟨ps',e3,e4⟩:=x2_ e2;cases e4;simp only[Rep]at r1;obtain⟨a,ys,rfl,q1,q2⟩:=r1;obtain⟨y1,y2,rfl,s1,s2⟩:=a3x q2;obtain⟨b,rfl,kb⟩:=a6j s1 e1;exact .cons q1 kb s2 (ih r2 e3)
  ·cases e
theorem c0d:a1h X B (b2k X.K) a3S:=by
 intro G σ env H xs ds c Q rl r e k;unfold a3S at e;split at e
 ·rename_i ds'
  obtain⟨x,rfl,q⟩:=a0L r;obtain⟨ps,e1,e2⟩:=q4_ e;split at e2
  case isFalse=>cases e2
  rename_i hk;cases e2;simp only[Rep]at q;obtain⟨a,ys,rfl,h1,h2⟩:=q;obtain⟨b,hb⟩:=b2e hk;refine⟨G,a,ys,ps,b,rfl,rl.sub,h1,c0c h2 e1,fun p hp=>hb _ (List.mem_map_of_mem hp),fun p es ep us hp q1 q2 q3=>k _ _ _ (rl.alloc hp (fun _ z=>by cases z)) ?_⟩
  simp only[Rep];exact⟨p,es,ep,us,rfl,x0_,q1.mono (Le.upd (rl.gnone hp)),q2,z9_.mono (Le.upd (rl.gnone hp)) _ q3⟩
 ·cases e
def a8q(i:Nat):Mo Fl:=fun env=>match env[i]? with
 |some (.ownX ks vs)=>some (.retX ks vs,env.set i .nil)
 |_=>none
theorem b2m(h:PE X (.Name x p) (a0Z i)):ES X B (.Return (some (.Name x p)) pos) (a8q i):=by
 refine ps_imp (a6Q h) ?_
 rintro D σ H ⟨G,env,fl,env',rl,e,k⟩;unfold a8q at e;split at e
 case h_2=>cases e
 rename_i ks vs e1;cases e;obtain⟨a,o,h1,h2,h3,h4⟩:=rl.own i _ (.x ks vs) e1 rfl;refine⟨_,h1,k a o σ G H (Ev.refl rl).setNil (rl.fresh i _ a e1 rfl h1) ?_ h2 h4 h3⟩;rintro⟨j,w,es,q1,q2,q3⟩
 rcases j0_ q1 with⟨z1,z2⟩|⟨z1,z2⟩
 ·rw[z2]at q2;cases q2
 ·exact z1 (rl.inj j i w _ es (.x ks vs) a z2 q2 e1 rfl q3 h1)
def c0e(i:Nat):Rr×Env'->Option (Fl×Env')
 |(.x ks vs,e)=>some (.nx,e.set i (.ownX ks vs))
 |_=>none
def a4F(i n:Nat)(f:Fn)(as:Mo (List Ar)):Mo Fl:=fun env=>(a1y n f as env).bind (c0e i)
theorem b2n{k n:Nat}{y:Str}{pos':Pos}{es:List Expr}{as:Mo (List Ar)}{fn:Fn}(D:Def X.prog X.w X.K X.mg X.base y k n fn)(hr:Room k X.A)(hg:Gl X y)(hN:X.N.Nodup)(hi:X.N[i]? =some x)(hx:Loc X.env.scope x)(ha:EAr X B (e::es) as)(hdb:(y==("__debug__":Str))=false:=by decide)
  (he:starEach (e::es) X.env=(false,eval e X.env)::starEach es X.env:=by rfl)(hpl:(backTo cpos (starEach es X.env)).any (·.1)=false:=by rfl)
  (hs:swapsWith (.Call (.Name y p) (e::es) [] cpos) (some (.Name x pos')) pos.line X.env=pure false:=by rfl)(hf:X.fn x=true∨X.env.scope.names.lookup x=some .local:=by first|exact .inl rfl|exact .inr rfl|assumption):
  ES X B (.Assign [.Name x pos'] (.Call (.Name y p) (e::es) [] cpos) pos) (a4F i n fn as):=by
 obtain⟨f,fd,ps,F,rfl,hm,hk,hb⟩:=D.ex;refine ps_imp (a3u hN hi hx (a5l F hr hg hm hk hb .nil a7h ha hdb he hpl) hs hf) ?_
 rintro D σ H ⟨G,env,fl,env',rl,e,k⟩;obtain⟨⟨r,env1⟩,e1,e2⟩:=q4_ e;cases r with
 |d d'=>cases e2
 |l ds=>cases e2
 |x ks us=>
  cases e2;exact a7D rl e1 fun a o G' H' ev ha no h' g' rm=>k _ G' H' (ev.setOwnM (m:=.x ks us) (fun z=>rl.old a z ha) ha no h' g' rm rfl rfl)
theorem c0f(d:Addr):MeetsIn prog w (Builtin.«dict.clear» ⟨[.ref d],[]⟩) (fun _ R s=>s.TypeIs (.ref d) "dict"/\ ∃o es ep,s.heap.get? d=some o/\o.ExactDict/\o.data=.dict es ep/\es.size≤sizeLine/\∀h',(∃o',h'.get? d=some o'/\o'.ExactDict/\o'.data=.dict #[] (ep+1))->Heap.SameBut d s.heap h'->R (.ok (.ret .none)) {s with heap:=h'}):=
 .of_wp fun A R s ⟨hT,o,es,ep,ho,hc,hd,hz,h⟩=>by
  refine Qq ?_
  unfold Builtin.Dict.noArgs;refine Qq (Uz hT (Qj ?_));refine Qq (Yv ho hd (Qq ?_));unfold bearsInstanceDictMark;refine Qq (wpAny_load ho (Qj ?_));have fin:=h (s.heap.update d (Obj.mapDictKeys fun _=>#[])) ⟨_,Uq (Obj.mapDictKeys fun _=>#[]) ho (Obj.isFreed_of_dict (Obj.data_mapDictKeys hd fun _=>#[])),hc.mapDictKeys _,Obj.data_mapDictKeys hd fun _=>#[]⟩ (Jv ..)
  refine Qq (wpAny_updateDictKeys ho hd ?_ hz (by simp))
  split
  ·exact Qq (wpAny_letGo (Qj ⟨_,rfl,fin⟩))
  ·exact Qj ⟨_,rfl,fin⟩
def c0g:V->List V->Hp->VK->Prop:=fun x vs H Q=>∃(a:Addr) (es:Array DictEntry) (ep:Nat),x=.ref a/\vs=[]/\H a=some (.dX es ep)/\Q .non (upd H a (.dX #[] (ep+1)))
theorem c0h:MtM X "dict.clear" c0g:=by
 intro pins s σ H x vs v us Q I rx rv h;obtain⟨a,es,ep,rfl,rfl,ea,q⟩:=h;cases rx;cases rv;obtain⟨z,hd,hT,_⟩:=a0F I ea;obtain⟨z,y,o,h1,h2,h3⟩:=(show x5_ X.prog X.w H s.heap a (.dX es ep)from I.hok a _ ea)
 refine call_meetsIn PySem.F.slot_dict_clear hT PySem.F.entry_dict_clear (PySem.F.args_dict_clear_1 _) (c0f a) ⟨hT,o,es,ep,h1,h2,h3,z,fun h' ⟨o',q1,q2,q3⟩ hs=>?_⟩
 exact⟨.non,_,a7j (t':=s.toks) (ob:=.dX #[] (ep+1)) I (by rw[ea];exact True.intro) hs ⟨o',q1⟩ ⟨Xx _,hd,o',q1,q2,q3⟩,rfl,q⟩
def a6p(i:Nat):Mo Fl:=fun env=>match env[i]? with
 |some (.ownX _ _)=>some (.nx,env.set i (.ownX [] []))
 |_=>none
theorem b2o(ho:PE X (.Name x p) (a0Z i))
  (hbase:attributeBase (.Name x p) "clear" X.env (eval (.Name x p) X.env)=eval (.Name x p) X.env:=by rfl)(hline:(apos.endLine==cpos.line)=true:=by rfl)
  (hs:swapsWith (.Call (.Attribute (.Name x p) "clear" apos) [] [] cpos) none pos.line X.env=pure false:=by rfl):ES X B (.Expr (.Call (.Attribute (.Name x p) "clear" apos) [] [] cpos) pos) (a6p i):=by
 refine ps_imp (a5h (a7g (apos:=apos) (cpos:=cpos) Um PySem.F.slot_dict_clear PySem.F.type_dict_clear c0h ho hbase hline) hs) ?_
 rintro D σ H ⟨G,env,fl,env',rl,e,k⟩;unfold a6p at e;split at e
 case h_2=>cases e
 rename_i ks vs e1;cases e;obtain⟨a,es,ep,xs,h1,h2,h3,h4,h5,h6⟩:=rl.ownX i _ ks vs e1 rfl;refine⟨_,h1,.inr (.inr (.inr (.inr ⟨rfl,_,_,h2⟩))),a,es,ep,rfl,rfl,h2,k σ G _ ?_⟩;exact(Ev.refl rl).writeM (m:=.x ks vs) (m':=.x [] []) e1 rfl h1 ⟨#[],ep+1,[],rfl,.nil,a8k,repL_nil⟩
def a4G(i:Nat)(env:Env'):Bool:=(List.range env.length).all fun j=>j==i||match env[j]? with
 |some w=>w.mut.isNone
 |none=>true
theorem a8r{j:Nat}{env:Env'}{w:W}{m:Mu}(h:a4G i env=true)(e1:env[j]? =some w)(e2:w.mut=some m):j=i:=by
 have hj:j<env.length:=(Qy.mp e1).1
 have:=(Qw.mp h) j (Zl.mpr hj);rw[e1]at this;simp only[e2,Option.isNone_some,Bool.or_false,Ju]at this;exact this
def a2L(i:Nat)(m:Mo Bool):Mo Bool:=fun env=>match env[i]? with
 |some (.ownX ks vs)=>if a4G i env then(m (env.set i (.dat (.dcx ks vs)))).map fun p=>(p.1,env)else none
 |_=>none
theorem a8s{c:Expr}{m:Mo Bool}(h:ET X B c m):ET X B c (a2L i m):=by
 refine pt_imp h ?_
 rintro σ H Q ⟨G,env,b,env',rl,e,k⟩;unfold a2L at e;split at e
 case h_2=>cases e
 rename_i ks vs e1;split at e
 case isFalse=>cases e
 rename_i hc2;obtain⟨⟨b',env1⟩,e2,e3⟩:=x2_ e;cases e3;obtain⟨a,o,h1,h2,h3,h4⟩:=rl.own i _ (.x ks vs) e1 rfl;obtain⟨a',o',g1,g2,g3⟩:=rl.frzSlotM (d:=.dcx ks vs) e1 rfl fun G1 a o hg ⟨es,ep,xs,z,q1,q2,q3⟩=>by
  subst z;simp only[Rep];exact⟨a,es,ep,xs,rfl,hg,q1,q2,q3⟩
 rw[h1]at g1;cases g1;have g4:H a=some o':=g3.rel.sub _ _ x0_;rw[h2]at g4;cases g4;refine⟨upd G a o,_,_,_,g3.rel,e2,fun G' H' ev=>k (fun b=>if b=a then none else G' b) H' ?_⟩
 have hi:i<env.length:=(Qy.mp e1).1
 have ow:Owned σ env a:=⟨i,_,.x ks vs,e1,rfl,h1⟩
 have ha:G' a=some o:=ev.same _ _ x0_
 have lG:Le G (fun b=>if b=a then none else G' b):=fun b u q=>by
  have ne:b≠a:=fun z=>by rw[z,h4]at q;cases q
  show(if b=a then none else G' b)=some u
  rw[Qm ne];exact ev.same _ _ (by rw[v0_ ne];exact q)
 have lG':∀b u,(if b=a then none else G' b)=some u->G' b=some u:=fun b u q=>by
  split at q
  ·cases q
  ·exact q
 have own':∀b,Owned σ (env.set i (.dat (.dcx ks vs))) b->Owned σ env b:=fun b ⟨j,w,m,q1,q2,q3⟩=>by
  rcases j0_ q1 with⟨z1,z2⟩|⟨z1,z2⟩
  ·rw[z2]at q2;cases q2
  ·exact⟨j,w,m,z2,q2,q3⟩
 refine⟨⟨fun b u q=>ev.rel.sub _ _ (lG' b u q),rl.len,fun j d q=>?_,fun j w m q1 q2=>?_,fun j j' w w' m m' c q1 q2 q3 q4 q5 q6=>(a8r hc2 q1 q2).trans (a8r hc2 q3 q4).symm,rl.fresh,ev.rel.old,ev.rel.tabs,fun b u q=>ev.rel.gnt b u (lG' b u q)⟩,lG,fun b u n t q=>ev.keep b u (fun z=>n (own' b z)) t q,ev.live,fun b q n g=>?_,fun b z=>.inl z,fun j w q qp=>⟨rfl,w,q,qp⟩,rfl⟩
 ·obtain⟨v,q1,q2⟩:=rl.dat j d q
  exact⟨v,q1,Rep.mono lG d q2⟩
 ·have:=a8r hc2 q1 q2
  subst this;rw[e1]at q1;cases q1;cases q2;exact⟨a,o,h1,ev.rel.sub _ _ ha,h3.mono lG,by show(if a=a then none else G' a)=none;rw[Qh rfl]⟩
 ·have ne:b≠a:=fun z=>n (z ▸ ow)
  show(if b=a then none else G' b)=none
  rw[Qm ne];exact ev.stay b q (fun z=>n (own' b z)) (by rw[v0_ ne];exact g)
def a8t(m:Mo D):Mo D:=fun env=>(m env).bind fun p=>match p.1 with
 |.dcx _ _=>some (.bl true,p.2)
 |_=>none
theorem b2p{a:Expr}{p2:Pos}(ha:ED X B a ma)(hg:Gl X "isinstance")(hm:X.mg "isinstance"=none)(hgT:Gl X "dict")(hmT:X.mg "dict"=none)
  (he:starEach [a,.Name "dict" p2] X.env=[(false,eval a X.env),(false,eval (.Name "dict" p2) X.env)]:=by rfl):ED X B (.Call (.Name "isinstance" p) [a,.Name "dict" p2] [] pos) (a8t ma):=by
 have hT:PE X (.Name "dict" p2) (tC (.ty "dict")):=a4h hgT hmT b1X rfl (by decide) (by decide)
 have hc:g2_ X (.builtin "isinstance") (fun xs H Q=>∃a es ep,xs=[.ref a,.ty "dict"]/\H a=some (.dX es ep)/\Q (.bl true) H):=by
  intro pins s σ H xs us Q I r h;obtain⟨a,es,ep,rfl,l,q⟩:=h;obtain⟨u,w',rfl,r1,r2⟩:=a1U r;cases r2;exact a2p I r1 (.dX l) (b:=true) rfl fun tk=>⟨.bl true,H,I.tok _,rfl,q⟩
 have h1:starEach [Expr.Name "dict" p2] X.env=[(false,eval (.Name "dict" p2) X.env)]:=rfl
 refine pe_imp (a3v (pos:=pos) (p:=p) hc hg hm (by decide+kernel) (a0e ha (a0e hT a1u) he) (he:=he)) ?_
 rintro σ H Q ⟨G,env,d,env',rl,e,k⟩;obtain⟨⟨d1,env1⟩,e1,e2⟩:=q4_ e;dsimp only at e2;split at e2
 case h_2=>cases e2
 rename_i ks vs;cases e2;refine .bind rl e1 fun v G1 H1 ev r=>?_
 simp only[Rep]at r;obtain⟨a,es,ep,xs,rfl,g,_⟩:=r;exact⟨a,es,ep,rfl,ev.rel.sub _ _ g,k _ G1 H1 ev (by simp only[Rep])⟩
end L2.Mir
namespace K21
open PySem L2 L2.Mir
variable{R:OI}{a b i j:Int}{d:D}{fd:FuncData}{n:Nat}{α:Type}
def top(i:Nat):Stmt:=PySem.Challenge.pw_turnsigns_k21_nets_and_kinds_of_squares.main.body.getD i (.Pass ⟨0,0,0,0⟩)
abbrev a8u:Stmt:=top 16
abbrev a8v:Stmt:=top 17
abbrev a8w:Stmt:=top 18
abbrev a8x:Stmt:=top 19
abbrev a8y:Stmt:=top 20
abbrev a8z:Stmt:=top 21
abbrev a8A:Stmt:=top 22
abbrev a8B:Stmt:=top 23
abbrev a8C:Stmt:=top 24
abbrev a8D:Stmt:=top 27
abbrev a8E:Stmt:=top 28
abbrev a6q:Stmt:=top 29
abbrev a8F:Stmt:=top 31
abbrev a6r:Stmt:=top 32
abbrev a8G:Stmt:=top 33
abbrev a8H:Stmt:=top 34
abbrev a6s:Stmt:=top 35
abbrev a6t:Stmt:=top 36
abbrev a8I:Stmt:=top 38
abbrev a8J:Stmt:=top 39
abbrev a8K:Stmt:=top 40
abbrev a8L:Stmt:=top 41
abbrev a8M:Stmt:=top 42
abbrev a8N:Stmt:=top 43
abbrev a8O:Stmt:=top 44
abbrev a8P:Stmt:=top 45
abbrev a8Q:Stmt:=top 46
abbrev a8R:Stmt:=top 47
abbrev a8S:Stmt:=top 48
abbrev a8T:Stmt:=top 49
abbrev a8U:Stmt:=top 50
abbrev a8V:Stmt:=top 51
abbrev a8W:Stmt:=top 52
abbrev a8X:Stmt:=top 53
abbrev a3T:Stmt:=top 54
abbrev xN:List Str:=["NoTable","NoHeights","NoNet","NoPlace","NoTriangle","NoRow","NoNumber","NoTurn","NotAlike","NoStep","NoRows","TooMany","BadNote"]
structure Txt(K:Qz)(mg:OU):Prop where
 ex:a1J K "SignError" xN=true
 g_isinstance:mg "isinstance"=none
 g_int:mg "int"=none
 g_bool:mg "bool"=none
 g_all:mg "all"=none
 g_tuple:mg "tuple"=none
 g_len:mg "len"=none
 g_range:mg "range"=none
 g_zip:mg "zip"=none
 g_min:mg "min"=none
 g_list:mg "list"=none
 g_sum:mg "sum"=none
 g_ValueError:mg "ValueError"=none
 g_dict:mg "dict"=none
 g_max:mg "max"=none
 c_GREATEST_SIDE:∃t,mg "GREATEST_SIDE"=some (.int 6 t)
section
variable{P:Program}{w:World}{K:Qz}{mg:OU}{base:Heap}
set_option hygiene false
local macro_rules
 | `(tactic| k_units)=>`(tactic| first | fail_if_success (show (_:Prop)) | ((with_reducible show PE _ _ (a0Z _));exact pv _) | ((with_reducible show PE _ _ (tC _));exact b0Z) | with_reducible (first | show PE _ _ _ | show PA _ _ _ | show PS _ _ _ | show PSs _ _ _ | show PT _ _ _ | show PG _ _ _ | show PI _ _ _ _ | show a1k _ _ _ | show PW _ _ _ | show PO _ _ _ | show PGs _ _ _ | show g2_ _ _ _ | show OpR _ _ _ | show EAc _ _ _ _ _ _ _ _ _ _ | show PJ _ _ _ _ | show b9m _ _ _ | show b9n _ _ _ | show EDx _ _ _ _ _ | show ETx _ _ _ _ _ | show EAx _ _ _ _ _ | show ESx _ _ _ _ _ | show a2E _ _ _ _ _ | assumption | exact PassesOwn.never | exact PySem.boot_len | exact b7M | exact b7K | exact b1X | exact b7J | exact b1i | exact b7N | exact b7O | exact b7V | exact b7L | exact a7a | exact x7_ | exact a5q | exact a1v | exact b6S | exact b7Y | exact c0d | exact b6V | exact b6u | exact b6T | exact b6U | exact b7U | exact b6v | exact b6w | exact hr.units | exact b6R | exact b6Q | exact b6P | exact b6O | exact a7S | exact b7j | exact b0J | exact b6k | exact opd_eq | exact b6p | exact b6Y | exact b8m | exact b6o | exact b6n | exact b6l | exact b7l | exact b9Y | exact b6m | exact b6i | exact b0Z | exact b7Z | exact b8z) | exact a5R rfl | exact b1j rfl | assumption | exact se1 rfl | exact se2 rfl rfl | exact Or.inl rfl | exact Or.inr rfl | exact hr.mono (by decide) | exact hr.mono (Nat.le_refl _) | rfl | exact (a2z rfl) | exact (b2l rfl hr.units) | exact (b0j rfl) | exact (a5X rfl) | exact (b0k rfl) | exact (a5W rfl) | exact (b7H rfl rfl) | exact (b8S (by assumption) (by decide+kernel)) | exact (b7I a7S) | exact (nomark _) | exact Room.units (by assumption) | exact a7S | exact Room.mono (by assumption) (by decide) | exact Room.mono (by assumption) (by omega) | exact fun _ _=>rfl | exact fun _=>rfl | exact fun _ _ _ _=>rfl | (intro _;rfl) | decide | with_unfolding_all rfl | decide+kernel)
local macro_rules
 | `(tactic| k_types)=>`(tactic| ((with_reducible show OpR _ _ _);first | exact (op_eqD hr.units) | exact (op_eqD (Room.units (by assumption))) | exact (op_neD hr.units) | exact (op_neD (Room.units (by assumption))) | exact (b2i hr.units) | exact (b2i (Room.units (by assumption))) | exact b5w | exact b7i | exact b5t | exact b5A | exact b5B | exact b5z | exact b5y | exact b5u | exact b7k | exact b5Z | exact b5v | exact b5r))
local macro_rules
 | `(tactic| exists $t)=>`(tactic| (((intros;refine' $t) <;> try k_units) <;> try k_types))
local macro_rules
 | `(tactic| injections $xs*)=>do
  let mut r ← `(tactic| skip)
  for x in xs do
   let n:=x.raw.getId
   let t:Lean.TSyntax `term:=⟨x.raw⟩
   let h ← `(?_)
   let hs:Array (Lean.TSyntax `term):=Array.replicate (if [`a7a,`x7_,`a5q,`a1v,`v1_,`k5_,`b1I,`q0_,`a1V,`z7_,`a1Y,`g4_,`a0k,`a3A,`x8_,`a5Z,`a3g].contains n then 0 else if [`PA.nox,`PS.nox,`PT.nox,`z2_,`a1W,`a7p,`y6_,`a2q,`j3_,`y2_,`b1R,`j9_,`a5M,`w9_,`a0l,`q8_,`y3_,`a5E,`b2m,`a2F,`j6_,`a1a,`a8s,`a7n,`a1w].contains n then 1 else if [`a2r,`a7O,`a2d,`q6_,`a3e,`a6b,`j4_,`a7o,`a1x].contains n then 2 else if [`q2_,`a0r,`b1h,`k6_,`a0m,`z4_,`a7w,`a0i,`b2c,`x9_,`a2g,`a6a].contains n then 3 else if [`v9_,`b1W,`a1X,`a1Z,`a6n,`a0j,`b2o].contains n then 4 else if [`a2W,`y7_,`a7Q,`a2u,`a6m,`j5_].contains n then 5 else if [`b2p,`a0a,`x4_,`a2s].contains n then 6 else if [`v7_,`b1D,`b1w,`a7R,`g0_,`b2d,`b0M].contains n then 7 else if [`a7q,`b2j,`a8l,`a0R,`a2G,`a3B,`a6d,`a7r].contains n then 8 else if [`x1_,`a1i,`a0t,`a7u,`b0O].contains n then 10 else if [`a8g].contains n then 11 else if [`b2n].contains n then 12 else if [`b1p].contains n then 16 else 19) h
   r ← if hs.isEmpty then `(tactic| ($r:tactic;(intros;exact $t))) else `(tactic| ($r:tactic;((intros;refine' $t $hs*) <;> try k_units) <;> try k_types))
  return r
set_option hygiene true
theorem c0i:FnScope ["thing"] ["thing"] (y0_ a8u):=k0_
def c0j:Mo Fl:=(q9_ (a0h (mIs "int" (z0_ 0)) (a5C (mIs "bool" (z0_ 0)))))
def a1L:Fn:=fnM 1 c0j
theorem c0k{f:Addr}(F:Fun K "is_whole" "is_whole" a8u f fd)(T:Txt K mg):FnOk P w K mg base CX0 1 f fd ["thing"] (SpF K 1 a1L):=
 k7_ F c0i fun cdv A outer s H E hr=>(by cases T;injections q8_ y3_ a2r a0t z2_ a2q a7p a0t z2_)
theorem c0l:FnScope ["thing","least","greatest"] ["thing","least","greatest"] (y0_ a8v):=k0_
def a4H:Mo Fl:=(q9_ (a0h (mCD 1 a1L (z6_ (z0_ 0) z8_)) (a0K dLe dLe (z0_ 1) (z0_ 0) (z0_ 2))))
def a3k:Fn:=fnM 3 a4H
theorem c0m{f:Addr}(F:Fun K "is_within" "is_within" a8v f fd)(T:Txt K mg)(d_is_whole:Def P w K mg base "is_whole" 1 1 a1L):FnOk P w K mg base CX0 2 f fd ["thing","least","greatest"] (SpF K 3 a3k):=
 k7_ F c0l fun cdv A outer s H E hr=>(by cases T;injections q8_ y3_ a2r v7_ q2_ z2_ v1_ a2q a7q z2_ z2_ z2_)
theorem c0n:FnScope ["thing","width"] ["thing","width"] (y0_ a8w):=k0_
theorem nd1:(["-0","-1","number"]:List Str).Nodup:=by decide+kernel
def a8Y:Mo Fl:=(q1_ (v8_ (w6_ (y5_ (mT (mIs "tuple" (z0_ 0)))) (mT (z5_ (dEq true) (mCB v3_ (z1_ (z0_ 0) z3_)) (z0_ 1)))) (q9_ (mC (.bl false))) mNx) (q9_ (mCB a0B (z1_ (mF (y1_ (y4_ (z0_ 0)) [false,false] 1 (gN 2) y8_ (mCD 1 a1L (z6_ (z0_ 2) z8_)))) z3_))))
def a2k:Fn:=fnM 2 a8Y
theorem c0o{f:Addr}(F:Fun K "is_row" "is_row" a8w f fd)(T:Txt K mg)(d_is_whole:Def P w K mg base "is_whole" 1 1 a1L):FnOk P w K mg base CX0 2 f fd ["thing","width"] (SpF K 2 a2k):=
 k7_ F c0n fun cdv A outer s H E hr=>(by have n0:=nd1;cases T;injections q6_ x9_ a1a a1x j6_ j4_ a0t z2_ a1w j5_ x1_ x7_ z4_ z2_ z7_ z2_ q8_ y3_ k5_ x8_ q8_ y3_ x1_;exists (a2z rfl);injections z4_ y6_;exists (g0_ (N':=["-0","-1","number"]) (keep:=[false,false]) (more:=1) ?_ ?_ ?_ ?_ ?_ ?_ ?_);injections j9_ z2_ y7_ g4_ v7_ q2_ z2_ v1_ z7_)
theorem c0p:FnScope ["thing","many","width"] ["thing","many","width"] (y0_ a8x):=k0_
theorem nd2:(["-0","-1","width","row"]:List Str).Nodup:=by decide+kernel
def a4I:Mo Fl:=(q1_ (v8_ (w6_ (y5_ (mT (mIs "tuple" (z0_ 0)))) (mT (z5_ (dEq true) (mCB v3_ (z1_ (z0_ 0) z3_)) (z0_ 1)))) (q9_ (mC (.bl false))) mNx) (q9_ (mCB a0B (z1_ (mF (y1_ (y4_ (z0_ 0)) [false,false,true] 1 (gN 3) y8_ (mCD 2 a2k (z6_ (z0_ 3) (z6_ (z0_ 2) z8_))))) z3_))))
def a4J:Fn:=fnM 3 a4I
theorem c0q{f:Addr}(F:Fun K "is_grid" "is_grid" a8x f fd)(T:Txt K mg)(d_is_row:Def P w K mg base "is_row" 2 2 a2k):FnOk P w K mg base CX0 3 f fd ["thing","many","width"] (SpF K 3 a4J):=
 k7_ F c0p fun cdv A outer s H E hr=>(by have n0:=nd2;cases T;injections q6_ x9_ a1a a1x j6_ j4_ a0t z2_ a1w j5_ x1_ x7_ z4_ z2_ z7_ z2_ q8_ y3_ k5_ x8_ q8_ y3_ x1_;exists (a2z rfl);injections z4_ y6_;exists (g0_ (N':=["-0","-1","width","row"]) (keep:=[false,false,true]) (more:=1) ?_ ?_ ?_ ?_ ?_ ?_ ?_);injections j9_ z2_ y7_ g4_ v7_ q2_ z2_ q2_ z2_ v1_ z7_)
theorem c0r:FnScope ["thing","least","greatest"] ["thing","least","greatest"] (y0_ a8y):=k0_
def a4K:Mo Fl:=(q1_ (v8_ (w6_ (y5_ (mT (mIs "tuple" (z0_ 0)))) (y5_ (mT (a0K dLe dLe (z0_ 1) (mCB v3_ (z1_ (z0_ 0) z3_)) (z0_ 2))))) (q9_ (mC (.bl false))) mNx) (q9_ (mCD 3 a4J (z6_ (z0_ 0) (z6_ (mCB v3_ (z1_ (z0_ 0) z3_)) (z6_ (mCB v3_ (z1_ (z0_ 0) z3_)) z8_))))))
def a3U:Fn:=fnM 3 a4K
theorem c0s{f:Addr}(F:Fun K "is_square" "is_square" a8y f fd)(T:Txt K mg)(d_is_grid:Def P w K mg base "is_grid" 3 3 a4J):FnOk P w K mg base CX0 4 f fd ["thing","least","greatest"] (SpF K 3 a3U):=
 k7_ F c0r fun cdv A outer s H E hr=>(by cases T;injections q6_ x9_ a1a a1x j6_ j4_ a0t z2_ a1w j6_ a7r z2_ x1_ x7_ z4_ z2_ z7_ z2_ q8_ y3_ k5_ x8_ q8_ y3_ v7_ q2_ z2_ q2_ x1_ x7_ z4_ z2_ z7_ q2_ x1_ x7_ z4_ z2_ z7_ v1_)
theorem c0t:FnScope ["grid"] ["grid"] (y0_ a8z):=k0_
theorem nd3:(["grid","at"]:List Str).Nodup:=by decide+kernel
theorem nd4:(["-0","at","row"]:List Str).Nodup:=by decide+kernel
def a8Z:Mo Fl:=(q9_ (mCB a0s (z1_ (mF (y1_ (w3_ (z1_ (mCB v3_ (z1_ (z5_ dIx (z0_ 0) (mC (.int 0))) z3_)) z3_)) [true] 1 (gN 1) y8_ (mCB a0s (z1_ (mF (y1_ (y4_ (z0_ 0)) [false,true] 1 (gN 2) y8_ (z5_ dIx (z0_ 2) (z0_ 1)))) z3_)))) z3_)))
def a1q:Fn:=fnM 1 a8Z
theorem c0u{f:Addr}(F:Fun K "flipped" "flipped" a8z f fd)(T:Txt K mg):FnOk P w K mg base CX0 1 f fd ["grid"] (SpF K 1 a1q):=
 k7_ F c0t fun cdv A outer s H E hr=>(by have n0:=nd3;have n1:=nd4;cases T;injections q8_ y3_ a1i a1v z4_ y6_;exists (g0_ (N':=["grid","at"]) (keep:=[true]) (more:=1) ?_ ?_ ?_ ?_ ?_ ?_ ?_);injections a0j z4_ x1_ x7_ z4_ k6_ z2_ q0_ z7_ z7_ y7_ g4_ a1i a1v z4_ y6_;exists (g0_ (N':=["-0","at","row"]) (keep:=[false,true]) (more:=1) ?_ ?_ ?_ ?_ ?_ ?_ ?_);injections j9_ z2_ y7_ g4_ k6_ z2_ z2_ z7_ z7_)
theorem b2q:FnScope ["row","sums","number"] ["row"] (y0_ a8A):=k0_
def a9a:Mo Fl:=(q1_ (u8_ 1 (x3_ (z1_ (mC (.int 0)) z3_))) (q1_ (w7_ (y4_ (z0_ 0)) (gN 2) (a2t 1 (z5_ v5_ (g9_ 1 (j8_ (mC (.int 1)))) (z0_ 2)))) (q9_ (mCB a0s (z1_ (z0_ 1) z3_)))))
def a4L:Fn:=fnM 3 a9a
theorem c0v{f:Addr}(F:Fun K "running_sums" "running_sums" a8A f fd)(T:Txt K mg):FnOk P w K mg base CX0 1 f fd ["row"] (SpF K 1 a4L):=
 k7_ F b2q fun cdv A outer s H E hr=>(by have n0:=b2q.nd;cases T;injections q6_ a2s w9_ z4_ q0_ z7_ q6_ a0a j9_ z2_ y7_ q8_ a3B z4_ v9_ a1X a1W q0_ z2_ z7_ q8_ y3_ a1i a1v z4_ z2_ z7_)
theorem c0w:FnScope ["grid"] ["grid"] (y0_ a8B):=k0_
theorem nd5:(["-0","row"]:List Str).Nodup:=by decide+kernel
def b2r:Mo Fl:=(q9_ (mCB a0s (z1_ (mF (y1_ (y4_ (z0_ 0)) [false] 1 (gN 1) y8_ (mCD 1 a4L (z6_ (z0_ 1) z8_)))) z3_)))
def a2M:Fn:=fnM 1 b2r
theorem c0x{f:Addr}(F:Fun K "sums_across" "sums_across" a8B f fd)(T:Txt K mg)(d_running_sums:Def P w K mg base "running_sums" 1 1 a4L):FnOk P w K mg base CX0 2 f fd ["grid"] (SpF K 1 a2M):=
 k7_ F c0w fun cdv A outer s H E hr=>(by have n0:=nd5;cases T;injections q8_ y3_ a1i a1v z4_ y6_;exists (g0_ (N':=["-0","row"]) (keep:=[false]) (more:=1) ?_ ?_ ?_ ?_ ?_ ?_ ?_);injections j9_ z2_ y7_ g4_ v7_ q2_ z2_ v1_ z7_)
theorem c0y:FnScope ["grid"] ["grid"] (y0_ a8C):=k0_
def a9b:Mo Fl:=(q9_ (mCD 1 a1q (z6_ (mCD 1 a2M (z6_ (mCD 1 a1q (z6_ (z0_ 0) z8_)) z8_)) z8_)))
def a4M:Fn:=fnM 1 a9b
theorem c0z{f:Addr}(F:Fun K "sums_down" "sums_down" a8C f fd)(T:Txt K mg)(d_flipped:Def P w K mg base "flipped" 1 1 a1q)(d_sums_across:Def P w K mg base "sums_across" 2 1 a2M):FnOk P w K mg base CX0 3 f fd ["grid"] (SpF K 1 a4M):=
 k7_ F c0y fun cdv A outer s H E hr=>(by cases T;injections q8_ y3_ v7_ q2_ v7_ q2_ v7_ q2_ z2_ v1_ v1_ v1_)
theorem b2s:FnScope ["line","total","number"] ["line"] (y0_ a8D):=k0_
def a4N:Mo Fl:=(q1_ (v6_ 1 (mC (.int 0))) (q1_ (w7_ (y4_ (z0_ 0)) (gN 2) (q1_ (a5F 1 a5B (z0_ 2)) (v8_ (mT (z5_ (dIn true) (z0_ 1) (q5_ (z1_ (mC (.int 0)) (z1_ (mC (.int 1)) z3_))))) (q9_ (mC (.bl false))) mNx))) (q9_ (z5_ (dEq false) (z0_ 1) (mC (.int 1))))))
def a3l:Fn:=fnM 3 a4N
theorem c0A{f:Addr}(F:Fun K "takes_turns" "takes_turns" a8D f fd)(T:Txt K mg):FnOk P w K mg base CX0 1 f fd ["line"] (SpF K 1 a3l):=
 k7_ F b2s fun cdv A outer s H E hr=>(by have n0:=b2s.nd;cases T;injections q6_ x4_ q0_ q6_ a0a j9_ z2_ y7_ q6_ b0M z2_ q8_ x9_ j5_ z2_ y2_ z4_ q0_ z4_ q0_ z7_ q8_ y3_ k5_ x8_ q8_ y3_ a2W z2_ q0_)
theorem c0B:FnScope ["thing"] ["thing"] (y0_ a8E):=k0_
theorem nd6:(["-0","line"]:List Str).Nodup:=by decide+kernel
def a9c:Mo Fl:=(q1_ (v8_ (y5_ (mT (mCD 3 a3U (z6_ (z0_ 0) (z6_ (mC (.int 1)) (z6_ (mC (.int 6)) z8_)))))) (q9_ (mC (.bl false))) mNx) (q9_ (mCB a0B (z1_ (mF (y1_ (y4_ (z5_ v5_ (z0_ 0) (mCD 1 a1q (z6_ (z0_ 0) z8_)))) [false] 1 (gN 1) y8_ (mCD 1 a3l (z6_ (z0_ 1) z8_)))) z3_))))
def a3V:Fn:=fnM 1 a9c
theorem c0C{f:Addr}(F:Fun K "is_table" "is_table" a8E f fd)(T:Txt K mg)(d_is_square:Def P w K mg base "is_square" 4 3 a3U)(d_takes_turns:Def P w K mg base "takes_turns" 1 1 a3l)(d_flipped:Def P w K mg base "flipped" 1 1 a1q):FnOk P w K mg base CX0 5 f fd ["thing"] (SpF K 1 a3V):=
 k7_ F c0B fun cdv A outer s H E hr=>(by have n0:=nd6;cases T;injections q6_ x9_ j6_ j4_ v7_ q2_ z2_ q2_ q0_ q2_ b1h v1_ q8_ y3_ k5_ x8_ q8_ y3_ x1_;exists (a2z rfl);injections z4_ y6_;exists (g0_ (N':=["-0","line"]) (keep:=[false]) (more:=1) ?_ ?_ ?_ ?_ ?_ ?_ ?_);injections j9_ v9_ z2_ v7_ q2_ z2_ v1_ y7_ g4_ v7_ q2_ z2_ v1_ z7_)
theorem b2t:FnScope ["thing"] ["thing"] (y0_ a6q):=k0_
def a9d:Mo Fl:=(v8_ (y5_ (mT (mCD 1 a3V (z6_ (z0_ 0) z8_)))) a3z mNx)
def a0U:Fn:=fnM 1 a9d
theorem c0D{f:Addr}(F:Fun K "must_be_table" "must_be_table" a6q f fd)(T:Txt K mg)(d_is_table:Def P w K mg base "is_table" 5 1 a3V):FnOk P w K mg base CX0 6 f fd ["thing"] (SpF K 1 a0U):=
 k7_ F b2t fun cdv A outer s H E hr=>(by cases T;injections q8_ x9_ j6_ j4_ v7_ q2_ z2_ v1_ q8_ a3A x8_)
def a9e:Mx:=(xIf (y5_ (mT (mCD 1 a3V (z6_ (z0_ 0) z8_)))) (a6c "NoTable" (z1_ (mC (.str "this is no table")) z3_)) xNo)
def a1M:List W->Option Str:=fnX 1 a9e
theorem c0E{f:Addr}(F:Fun K "must_be_table" "must_be_table" a6q f fd)(T:Txt K mg)(d_is_table:Def P w K mg base "is_table" 5 1 a3V):FnOk P w K mg base (CXE P w) 6 f fd ["thing"] (SpX K 1 a1M):=
 a6e F b2t fun cdv A outer s H E hr=>(by cases T;injections a2F a6a PT.nox j6_ j4_ v7_ q2_ z2_ v1_ a2F a6d PA.nox z4_ j3_ z7_ a5Z)
theorem c0F:FnScope ["table"] ["table"] (y0_ a8F):=k0_
def a9f:Mo Fl:=(q9_ (q5_ (z1_ (mCD 1 a2M (z6_ (z0_ 0) z8_)) (z1_ (mCD 1 a4M (z6_ (z0_ 0) z8_)) z3_))))
def a1r:Fn:=fnM 1 a9f
theorem c0G{f:Addr}(F:Fun K "spun" "spun" a8F f fd)(T:Txt K mg)(d_sums_across:Def P w K mg base "sums_across" 2 1 a2M)(d_sums_down:Def P w K mg base "sums_down" 3 1 a4M):FnOk P w K mg base CX0 4 f fd ["table"] (SpF K 1 a1r):=
 k7_ F c0F fun cdv A outer s H E hr=>(by cases T;injections q8_ y3_ y2_ z4_ v7_ q2_ z2_ v1_ z4_ v7_ q2_ z2_ v1_ z7_)
theorem b2u:FnScope ["table"] ["table"] (y0_ a6r):=k0_
def a9g:Mo Fl:=(q1_ (a2f (mCD 1 a0U (z6_ (z0_ 0) z8_))) (q9_ (mCD 1 a1r (z6_ (z0_ 0) z8_))))
def a1C:Fn:=fnM 1 a9g
theorem c0H{f:Addr}(F:Fun K "net_of" "net_of" a6r f fd)(T:Txt K mg)(d_must_be_table:Def P w K mg base "must_be_table" 6 1 a0U)(d_spun:Def P w K mg base "spun" 4 1 a1r):FnOk P w K mg base CX0 7 f fd ["table"] (SpF K 1 a1C):=
 k7_ F b2u fun cdv A outer s H E hr=>(by cases T;injections q6_ a3e v7_ q2_ z2_ v1_ q8_ y3_ v7_ q2_ z2_ v1_)
def b2v:Mx:=(a0P (a0f 1 a1M (z6_ (z0_ 0) z8_)) (a2f (mCD 1 a0U (z6_ (z0_ 0) z8_))) xNo)
def a3W:List W->Option Str:=fnX 1 b2v
theorem c0I{f:Addr}(F:Fun K "net_of" "net_of" a6r f fd)(T:Txt K mg)(d_must_be_table:Def P w K mg base "must_be_table" 6 1 a0U)(d_spun:Def P w K mg base "spun" 4 1 a1r)(dx_must_be_table:DefX P w K mg base "must_be_table" 6 1 a1M):FnOk P w K mg base (CXE P w) 7 f fd ["table"] (SpX K 1 a3W):=
 a6e F b2u fun cdv A outer s H E hr=>(by cases T;injections a2g a6b a2G PA.nox q2_ z2_ v1_ PS.nox a3e v7_ q2_ z2_ v1_ a2F a3g)
theorem c0J:FnScope ["thing","side"] ["thing","side"] (y0_ a8G):=k0_
def a4O:Mo Fl:=(q9_ (mCD 3 a3k (z6_ (z0_ 0) (z6_ (mC (.int 0)) (z6_ (z5_ a1g (z0_ 1) (mC (.int 1))) z8_)))))
def a0V:Fn:=fnM 2 a4O
theorem c0K{f:Addr}(F:Fun K "is_place" "is_place" a8G f fd)(T:Txt K mg)(d_is_within:Def P w K mg base "is_within" 2 3 a3k):FnOk P w K mg base CX0 3 f fd ["thing","side"] (SpF K 2 a0V):=
 k7_ F c0J fun cdv A outer s H E hr=>(by cases T;injections q8_ y3_ v7_ q2_ z2_ q2_ q0_ q2_ v9_ z2_ q0_ v1_)
theorem b2w:FnScope ["net","row","column","across","down"] ["net","row","column"] (y0_ a8H):=k0_
def a9h:Mo Fl:=(q1_ (u9_ (z0_ 0) (gT 2 (gCn (gN 3) (gCn (gN 4) gNl)))) (q9_ (q5_ (z1_ (z5_ dIx (z5_ dIx (z0_ 3) (z0_ 1)) (z0_ 2)) (z1_ (z5_ dIx (z5_ dIx (z0_ 3) (z0_ 1)) (z5_ v5_ (z0_ 2) (mC (.int 1)))) (z1_ (z5_ dIx (z5_ dIx (z0_ 4) (z0_ 1)) (z0_ 2)) (z1_ (z5_ dIx (z5_ dIx (z0_ 4) (z5_ v5_ (z0_ 1) (mC (.int 1)))) (z0_ 2)) z3_)))))))
def a1N:Fn:=fnM 5 a9h
theorem c0L{f:Addr}(F:Fun K "kind_in" "kind_in" a8H f fd)(T:Txt K mg):FnOk P w K mg base CX0 1 f fd ["net","row","column"] (SpF K 3 a1N):=
 k7_ F b2w fun cdv A outer s H E hr=>(by have n0:=b2w.nd;cases T;injections q6_ a2u z2_ a1Z a0i y7_ a0i y7_ a1Y q8_ y3_ y2_ z4_ k6_ k6_ z2_ z2_ z2_ z4_ k6_ k6_ z2_ z2_ v9_ z2_ q0_ z4_ k6_ k6_ z2_ z2_ z2_ z4_ k6_ k6_ z2_ v9_ z2_ q0_ z2_ z7_)
theorem b2x:FnScope ["table","row","column"] ["table","row","column"] (y0_ a6s):=k0_
def a9i:Mo Fl:=(q1_ (a2f (mCD 1 a0U (z6_ (z0_ 0) z8_))) (q1_ (v8_ (y5_ (mT (mCD 2 a0V (z6_ (z0_ 1) (z6_ (mCB v3_ (z1_ (z0_ 0) z3_)) z8_))))) a3z mNx) (q1_ (v8_ (y5_ (mT (mCD 2 a0V (z6_ (z0_ 2) (z6_ (mCB v3_ (z1_ (z0_ 0) z3_)) z8_))))) a3z mNx) (q9_ (mCD 3 a1N (z6_ (mCD 1 a1r (z6_ (z0_ 0) z8_)) (z6_ (z0_ 1) (z6_ (z0_ 2) z8_))))))))
def a0H:Fn:=fnM 3 a9i
theorem c0M{f:Addr}(F:Fun K "kind_at" "kind_at" a6s f fd)(T:Txt K mg)(d_must_be_table:Def P w K mg base "must_be_table" 6 1 a0U)(d_kind_in:Def P w K mg base "kind_in" 1 3 a1N)(d_is_place:Def P w K mg base "is_place" 3 2 a0V)(d_spun:Def P w K mg base "spun" 4 1 a1r):FnOk P w K mg base CX0 7 f fd ["table","row","column"] (SpF K 3 a0H):=
 k7_ F b2x fun cdv A outer s H E hr=>(by cases T;injections q6_ a3e v7_ q2_ z2_ v1_ q6_ x9_ j6_ j4_ v7_ q2_ z2_ q2_ x1_ x7_ z4_ z2_ z7_ v1_ q8_ a3A x8_ q6_ x9_ j6_ j4_ v7_ q2_ z2_ q2_ x1_ x7_ z4_ z2_ z7_ v1_ q8_ a3A x8_ q8_ y3_ v7_ q2_ v7_ q2_ z2_ v1_ q2_ z2_ q2_ z2_ v1_)
def a6u:Mx:=(a0P (a0f 1 a1M (z6_ (z0_ 0) z8_)) (a2f (mCD 1 a0U (z6_ (z0_ 0) z8_))) (a0P (xIf (y5_ (mT (mCD 2 a0V (z6_ (z0_ 1) (z6_ (mCB v3_ (z1_ (z0_ 0) z3_)) z8_))))) (a6c "NoPlace" (z1_ (mC (.str "the table has no such row")) z3_)) xNo) (v8_ (y5_ (mT (mCD 2 a0V (z6_ (z0_ 1) (z6_ (mCB v3_ (z1_ (z0_ 0) z3_)) z8_))))) a3z mNx) (a0P (xIf (y5_ (mT (mCD 2 a0V (z6_ (z0_ 2) (z6_ (mCB v3_ (z1_ (z0_ 0) z3_)) z8_))))) (a6c "NoPlace" (z1_ (mC (.str "the table has no such column")) z3_)) xNo) (v8_ (y5_ (mT (mCD 2 a0V (z6_ (z0_ 2) (z6_ (mCB v3_ (z1_ (z0_ 0) z3_)) z8_))))) a3z mNx) xNo)))
def a1D:List W->Option Str:=fnX 3 a6u
theorem c0N{f:Addr}(F:Fun K "kind_at" "kind_at" a6s f fd)(T:Txt K mg)(d_must_be_table:Def P w K mg base "must_be_table" 6 1 a0U)(d_kind_in:Def P w K mg base "kind_in" 1 3 a1N)(d_is_place:Def P w K mg base "is_place" 3 2 a0V)(d_spun:Def P w K mg base "spun" 4 1 a1r)(dx_must_be_table:DefX P w K mg base "must_be_table" 6 1 a1M):FnOk P w K mg base (CXE P w) 7 f fd ["table","row","column"] (SpX K 3 a1D):=
 a6e F b2x fun cdv A outer s H E hr=>(by cases T;injections a2g a6b a2G PA.nox q2_ z2_ v1_ PS.nox a3e v7_ q2_ z2_ v1_ a2g a6a PT.nox j6_ j4_ v7_ q2_ z2_ q2_ x1_ x7_ z4_ z2_ z7_ v1_ a2F a6d PA.nox z4_ j3_ z7_ a5Z PS.nox x9_ j6_ j4_ v7_ q2_ z2_ q2_ x1_ x7_ z4_ z2_ z7_ v1_ q8_ a3A x8_ a2g a6a PT.nox j6_ j4_ v7_ q2_ z2_ q2_ x1_ x7_ z4_ z2_ z7_ v1_ a2F a6d PA.nox z4_ j3_ z7_ a5Z PS.nox x9_ j6_ j4_ v7_ q2_ z2_ q2_ x1_ x7_ z4_ z2_ z7_ v1_ q8_ a3A x8_ a2F a3g)
theorem a6v:FnScope ["table","net","counts","row","column","kind"] ["table"] (y0_ a6t):=k0_
def a9j:Mo Fl:=(q1_ (a2f (mCD 1 a0U (z6_ (z0_ 0) z8_))) (q1_ (v6_ 1 (mCD 1 a1r (z6_ (z0_ 0) z8_))) (q1_ (a6l 2) (q1_ (w7_ (w3_ (z1_ (mCB v3_ (z1_ (z0_ 0) z3_)) z3_)) (gN 3) (w7_ (w3_ (z1_ (mCB v3_ (z1_ (z0_ 0) z3_)) z3_)) (gN 4) (q1_ (v6_ 5 (mCD 3 a1N (z6_ (z0_ 1) (z6_ (z0_ 3) (z6_ (z0_ 4) z8_))))) (u9_ (z5_ v5_ (a4D 2 (z0_ 5) (mC (.int 0))) (mC (.int 1))) (gSX 2 (z0_ 5)))))) (a8q 2)))))
def a2l:Fn:=fnM 6 a9j
theorem c0O{f:Addr}(F:Fun K "kinds_of" "kinds_of" a6t f fd)(T:Txt K mg)(d_must_be_table:Def P w K mg base "must_be_table" 6 1 a0U)(d_spun:Def P w K mg base "spun" 4 1 a1r)(d_kind_in:Def P w K mg base "kind_in" 1 3 a1N):FnOk P w K mg base CX0 7 f fd ["table"] (SpF K 1 a2l):=
 k7_ F a6v fun cdv A outer s H E hr=>(by have n0:=a6v.nd;cases T;injections q6_ a3e v7_ q2_ z2_ v1_ q6_ x4_ v7_ q2_ z2_ v1_ q6_ a6m q6_ a0a a0j z4_ x1_ x7_ z4_ z2_ z7_ z7_ y7_ q8_ a0a a0j z4_ x1_ x7_ z4_ z2_ z7_ z7_ y7_ q6_ x4_ v7_ q2_ z2_ q2_ z2_ q2_ z2_ v1_ q8_ a2u v9_ a8l z4_ z2_ z4_ q0_ z7_ q0_ a6n z2_ q8_ b2m)
def b2y:Mx:=(a0P (a0f 1 a1M (z6_ (z0_ 0) z8_)) (a2f (mCD 1 a0U (z6_ (z0_ 0) z8_))) (a0P xNo (v6_ 1 (mCD 1 a1r (z6_ (z0_ 0) z8_))) (a0P xNo (a6l 2) (a0P xNo (w7_ (w3_ (z1_ (mCB v3_ (z1_ (z0_ 0) z3_)) z3_)) (gN 3) (w7_ (w3_ (z1_ (mCB v3_ (z1_ (z0_ 0) z3_)) z3_)) (gN 4) (q1_ (v6_ 5 (mCD 3 a1N (z6_ (z0_ 1) (z6_ (z0_ 3) (z6_ (z0_ 4) z8_))))) (u9_ (z5_ v5_ (a4D 2 (z0_ 5) (mC (.int 0))) (mC (.int 1))) (gSX 2 (z0_ 5)))))) xNo))))
def a3X:List W->Option Str:=fnX 6 b2y
theorem c0P{f:Addr}(F:Fun K "kinds_of" "kinds_of" a6t f fd)(T:Txt K mg)(d_must_be_table:Def P w K mg base "must_be_table" 6 1 a0U)(d_spun:Def P w K mg base "spun" 4 1 a1r)(d_kind_in:Def P w K mg base "kind_in" 1 3 a1N)(dx_must_be_table:DefX P w K mg base "must_be_table" 6 1 a1M):FnOk P w K mg base (CXE P w) 7 f fd ["table"] (SpX K 1 a3X):=
 a6e F a6v fun cdv A outer s H E hr=>(by have n0:=a6v.nd;cases T;injections a2g a6b a2G PA.nox q2_ z2_ v1_ PS.nox a3e v7_ q2_ z2_ v1_ a2g a3g PS.nox x4_ v7_ q2_ z2_ v1_ a2g a3g PS.nox a6m a2g a3g PS.nox a0a a0j z4_ x1_ x7_ z4_ z2_ z7_ z7_ y7_ q8_ a0a a0j z4_ x1_ x7_ z4_ z2_ z7_ z7_ y7_ q6_ x4_ v7_ q2_ z2_ q2_ z2_ q2_ z2_ v1_ q8_ a2u v9_ a8l z4_ z2_ z4_ q0_ z7_ q0_ a6n z2_ a2F a3g)
theorem c0Q:FnScope ["_law_script","_law_k"] ["_law_script","_law_k"] (y0_ a8I):=k0_
def a4P:Mo Fl:=(q1_ (v8_ (mT (z5_ dLt (z0_ 1) (mCB v3_ (z1_ (z0_ 0) z3_)))) (q9_ (z5_ dIx (z0_ 0) (z0_ 1))) mNx) (q9_ (mC (.int 0))))
def a4Q:Fn:=fnM 2 a4P
theorem c0R{f:Addr}(F:Fun K "_law_cell_at" "_law_cell_at" a8I f fd)(T:Txt K mg):FnOk P w K mg base CX0 1 f fd ["_law_script","_law_k"] (SpF K 2 a4Q):=
 k7_ F c0Q fun cdv A outer s H E hr=>(by cases T;injections q6_ x9_ j5_ z2_ x1_ x7_ z4_ z2_ z7_ q8_ y3_ k6_ z2_ z2_ x8_ q8_ y3_ q0_)
theorem b2z:FnScope ["_law_script","_law_k","_law_cell"] ["_law_script","_law_k"] (y0_ a8J):=k0_
def a4R:Mo Fl:=(q1_ (v6_ 2 (mCD 2 a4Q (z6_ (z0_ 0) (z6_ (z0_ 1) z8_)))) (q1_ (v8_ (mT (z5_ dGe (z0_ 2) (z5_ a0J (mC (.int 10)) (mC (.int 18))))) (a2Y (x3_ (z1_ (z5_ a1g (z0_ 2) (z5_ a0J (mC (.int 10)) (mC (.int 18)))) (z1_ (mC (.bl true)) z3_)))) mNx) (a2Y (x3_ (z1_ (z5_ g8_ (z0_ 2) (mC (.int 2147483647))) (z1_ (mC (.bl false)) z3_))))))
def a4S:Fn:=fnM 3 a4R
theorem c0S{f:Addr}(F:Fun K "_law_state" "_law_state" a8J f fd)(T:Txt K mg)(d__law_cell_at:Def P w K mg base "_law_cell_at" 1 2 a4Q):FnOk P w K mg base CX0 2 f fd ["_law_script","_law_k"] (SpF K 2 a4S):=
 k7_ F b2z fun cdv A outer s H E hr=>(by have n0:=b2z.nd;cases T;injections q6_ x4_ v7_ q2_ z2_ q2_ z2_ v1_ q6_ x9_ j5_ z2_ v9_ q0_ q0_ q8_ a5E w9_ z4_ v9_ z2_ v9_ q0_ q0_ z4_ k5_ z7_ x8_ q8_ a5E w9_ z4_ v9_ z2_ q0_ z4_ k5_ z7_)
theorem b2A:FnScope ["_law_state_here","_law_many","_law_mixed","_law_found"] ["_law_state_here","_law_many"] (y0_ a8K):=k0_
def a4T:Mo Fl:=(q1_ (v8_ (mT (g9_ 0 (mC (.int 1)))) (q1_ (v6_ 3 (z5_ g8_ (g9_ 0 (mC (.int 0))) (z0_ 1))) (q1_ (u9_ (z5_ a4n (g9_ 0 (mC (.int 0))) (z0_ 1)) (gS 0 (mC (.int 0)))) (q9_ (z0_ 3)))) mNx) (q1_ (u9_ (z5_ g8_ (z5_ v5_ (z5_ u3_ (g9_ 0 (mC (.int 0))) (mC (.int 48271))) (mC (.int 29))) (mC (.int 2147483647))) (gS 0 (mC (.int 0)))) (q1_ (v6_ 2 (z5_ g8_ (z5_ v5_ (z5_ v5_ (z5_ u3_ (g9_ 0 (mC (.int 0))) (g9_ 0 (mC (.int 0)))) (z5_ u3_ (mC (.int 39373)) (g9_ 0 (mC (.int 0))))) (mC (.int 7))) (mC (.int 2147483629)))) (q1_ (v6_ 2 (z5_ g8_ (z5_ v5_ (z5_ u3_ (z0_ 2) (z0_ 2)) (z5_ u3_ (mC (.int 16807)) (z0_ 2))) (mC (.int 2147483587)))) (q9_ (z5_ g8_ (z5_ a4n (z0_ 2) (mC (.int 8))) (z0_ 1)))))))
def w8_:Fn:=fnM 4 a4T
theorem c0T{f:Addr}(F:Fun K "_law_take" "_law_take" a8K f fd)(T:Txt K mg):FnOk P w K mg base CX0 1 f fd ["_law_state_here","_law_many"] (SpF K 2 w8_):=
 k7_ F b2A fun cdv A outer s H E hr=>(by have n0:=b2A.nd;cases T;injections q6_ x9_ j4_ a1X q0_ q6_ x4_ v9_ a1X q0_ z2_ q6_ a2u v9_ a1X q0_ z2_ a7w q0_ q8_ y3_ z2_ x8_ q6_ a2u v9_ v9_ v9_ a1X q0_ q0_ q0_ q0_ a7w q0_ q6_ x4_ v9_ v9_ v9_ v9_ a1X q0_ a1X q0_ v9_ q0_ a1X q0_ q0_ q0_ q6_ x4_ v9_ v9_ v9_ z2_ z2_ v9_ q0_ z2_ q0_ q8_ y3_ v9_ v9_ z2_ q0_ z2_)
theorem b2B:FnScope ["_law_held_here","_law_found","_law_bit","_law_longer","_law_row","_law_here"] ["_law_held_here"] (y0_ a8L):=k0_
theorem nd7:(["-0","-1","-2","-3","-4","-5","_law_row","_law_here"]:List Str).Nodup:=by decide+kernel
def c0U:Mo Fl:=(q1_ (v6_ 1 (mF (x3_ (z1_ (q5_ (z1_ (q5_ z3_) (z1_ (mC (.int 0)) z3_))) z3_)))) (q1_ (w7_ (y4_ (z0_ 0)) (gN 2) (q1_ (u8_ 3 (x3_ z3_)) (q1_ (w7_ (y4_ (z0_ 1)) (gT 2 (gCn (gN 4) (gCn (gN 5) gNl))) (q1_ (v8_ (a4o (mT (z5_ (dEq false) (z0_ 5) (mC (.int 1)))) (mT (z5_ (dEq false) (z0_ 2) (mC (.int 1))))) (a2t 3 (q5_ (z1_ (z5_ v5_ (z0_ 4) (q5_ (z1_ (j8_ (mC (.int 1))) z3_))) (z1_ (mC (.int 0)) z3_)))) mNx) (q1_ (a2t 3 (q5_ (z1_ (z5_ v5_ (z0_ 4) (q5_ (z1_ (mC (.int 0)) z3_))) (z1_ (z0_ 5) z3_)))) (v8_ (a4o (mT (z5_ (dEq false) (z0_ 5) (mC (.int 0)))) (mT (z5_ (dEq false) (z0_ 2) (mC (.int 0))))) (a2t 3 (q5_ (z1_ (z5_ v5_ (z0_ 4) (q5_ (z1_ (mC (.int 1)) z3_))) (z1_ (mC (.int 1)) z3_)))) mNx)))) (v6_ 1 (z0_ 3))))) (a2Y (y1_ (y4_ (z0_ 1)) [false,false,false,false,false,false] 2 (gT 2 (gCn (gN 6) (gCn (gN 7) gNl))) (mT (z5_ (dEq false) (z0_ 7) (mC (.int 1)))) (z0_ 6)))))
def a3m:Fn:=fnM 6 c0U
theorem c0V{f:Addr}(F:Fun K "_law_rows" "_law_rows" a8L f fd)(T:Txt K mg):FnOk P w K mg base CX0 1 f fd ["_law_held_here"] (SpF K 1 a3m):=
 k7_ F b2B fun cdv A outer s H E hr=>(by have n0:=nd7;have n1:=b2B.nd;cases T;injections q6_ x4_ y6_ w9_ z4_ y2_ z4_ y2_ z7_ z4_ q0_ z7_ z7_ q6_ a0a j9_ z2_ y7_ q6_ a2s w9_ z7_ q6_ a0a j9_ z2_ a1Z a0i y7_ a0i y7_ a1Y q6_ x9_ a1a a7o j5_ z2_ q0_ a7n j5_ z2_ q0_ q8_ a3B z4_ y2_ z4_ v9_ z2_ y2_ z4_ a1W q0_ z7_ z4_ q0_ z7_ z7_ x8_ q6_ a3B z4_ y2_ z4_ v9_ z2_ y2_ z4_ q0_ z7_ z4_ z2_ z7_ z7_ q8_ x9_ a1a a7o j5_ z2_ q0_ a7n j5_ z2_ q0_ q8_ a3B z4_ y2_ z4_ v9_ z2_ y2_ z4_ q0_ z7_ z4_ q0_ z7_ z7_ x8_ q8_ x4_ z2_ q8_ a5E;exists (g0_ (N':=["-0","-1","-2","-3","-4","-5","_law_row","_law_here"]) (keep:=[false,false,false,false,false,false]) (more:=2) ?_ ?_ ?_ ?_ ?_ ?_ ?_);injections j9_ z2_ a1Z a0i y7_ a0i y7_ a1Y a5M j5_ z2_ q0_ z2_)
theorem c0W:FnScope ["_law_held_here","_law_row"] ["_law_held_here","_law_row"] (y0_ a8M):=k0_
theorem nd8:(["-0","-1","_law_first","_law_second"]:List Str).Nodup:=by decide+kernel
def a9k:Mo Fl:=(q9_ (mCB a0s (z1_ (mF (y1_ (a3c (z1_ (z0_ 0) (z1_ (z0_ 1) z3_))) [false,false] 2 (gT 2 (gCn (gN 2) (gCn (gN 3) gNl))) y8_ (z5_ v5_ (z0_ 2) (z0_ 3)))) z3_)))
def a3Y:Fn:=fnM 2 a9k
theorem c0X{f:Addr}(F:Fun K "_law_held" "_law_held" a8M f fd)(T:Txt K mg):FnOk P w K mg base CX0 1 f fd ["_law_held_here","_law_row"] (SpF K 2 a3Y):=
 k7_ F c0W fun cdv A outer s H E hr=>(by have n0:=nd8;cases T;injections q8_ y3_ a1i a1v z4_ y6_;exists (g0_ (N':=["-0","-1","_law_first","_law_second"]) (keep:=[false,false]) (more:=2) ?_ ?_ ?_ ?_ ?_ ?_ ?_);injections a7Q z4_ z2_ z4_ z2_ z7_ a1Z a0i y7_ a0i y7_ a1Y g4_ v9_ z2_ z2_ z7_)
theorem b2C:FnScope ["_law_state_here","_law_side","_law_held_here","_law_found","_law_few","_law_turn","_law_rows_here","_law_row","_law_most"] ["_law_state_here","_law_side"] (y0_ a8N):=k0_
theorem nd9:(["-0","-1","-2","-3","-4","-5","-6","-7","_law_most","_law_row"]:List Str).Nodup:=by decide+kernel
theorem c0Y:(["-0","-1","-2","-3","-4","-5","-6","-7","-8","_law_row"]:List Str).Nodup:=by decide+kernel
def a9l:Mo Fl:=(q1_ (v6_ 2 (z5_ u3_ (q5_ (z1_ (mC (.int 0)) z3_)) (z0_ 1))) (q1_ (v6_ 3 (q5_ z3_)) (q1_ (v6_ 4 (mCD 2 w8_ (x6_ 0 (z6_ (mC (.int 3)) z8_)))) (q1_ (w7_ (w3_ (z1_ (z0_ 1) z3_)) (gN 5) (q1_ (v6_ 6 (mF (a2c 1 a3m (z6_ (z0_ 2) z8_)))) (q1_ (v8_ (mT (z5_ (dEq false) (z0_ 4) (mC (.int 0)))) (q1_ (v6_ 8 (mCB (a0o false) (z1_ (mF (y1_ (y4_ (z0_ 6)) [false,false,false,false,false,false,false,false,false] 1 (gN 9) y8_ (mCB (a0o false) (z1_ (z0_ 9) z3_)))) z3_))) (u8_ 6 (y1_ (y4_ (z0_ 6)) [false,false,false,false,false,false,false,false,true] 1 (gN 9) (mT (z5_ (dEq false) (mCB (a0o false) (z1_ (z0_ 9) z3_)) (z0_ 8))) (z0_ 9)))) mNx) (q1_ (v6_ 7 (z5_ dIx (z0_ 6) (mCD 2 w8_ (x6_ 0 (z6_ (mCB v3_ (z1_ (z0_ 6) z3_)) z8_))))) (q1_ (v6_ 3 (z5_ v5_ (z0_ 3) (q5_ (z1_ (z0_ 7) z3_)))) (v6_ 2 (mCD 2 a3Y (z6_ (z0_ 2) (z6_ (z0_ 7) z8_))))))))) (q9_ (z0_ 3))))))
def a4U:Fn:=fnM 9 a9l
theorem c0Z{f:Addr}(F:Fun K "_law_table" "_law_table" a8N f fd)(T:Txt K mg)(d__law_take:Def P w K mg base "_law_take" 1 2 w8_)(d__law_rows:Def P w K mg base "_law_rows" 1 1 a3m)(d__law_held:Def P w K mg base "_law_held" 1 2 a3Y):FnOk P w K mg base CX0 2 f fd ["_law_state_here","_law_side"] (SpF K 2 a4U):=
 k7_ F b2C fun cdv A outer s H E hr=>(by have n0:=c0Y;have n1:=nd9;have n2:=b2C.nd;cases T;injections q6_ x4_ v9_ y2_ z4_ q0_ z7_ z2_ q6_ x4_ y2_ z7_ q6_ x4_ v7_ a0r q2_ q0_ v1_ q6_ a0a a0j z4_ z2_ z7_ y7_ q6_ x4_ y6_ a7R q2_ z2_ v1_ q6_ x9_ j5_ z2_ q0_ q6_ x4_ x1_;exists (a5X rfl);injections z4_ y6_;exists (g0_ (N':=["-0","-1","-2","-3","-4","-5","-6","-7","-8","_law_row"]) (keep:=[false,false,false,false,false,false,false,false,false]) (more:=1) ?_ ?_ ?_ ?_ ?_ ?_ ?_);injections j9_ z2_ y7_ g4_ x1_;exists (a5X rfl);injections z4_ z2_ z7_ z7_ q8_;exists (a8g (N':=["-0","-1","-2","-3","-4","-5","-6","-7","_law_most","_law_row"]) (keep:=[false,false,false,false,false,false,false,false,true]) (more:=1) ?_ ?_ ?_ ?_ ?_ ?_ ?_ ?_ ?_ ?_ ?_);injections j9_ z2_ y7_ a5M j5_ x1_;exists (a5X rfl);injections z4_ z2_ z7_ z2_ z2_ x8_ q6_ x4_ k6_ z2_ v7_ a0r q2_ x1_ x7_ z4_ z2_ z7_ v1_ q6_ x4_ v9_ z2_ y2_ z4_ z2_ z7_ q8_ x4_ v7_ q2_ z2_ q2_ z2_ v1_ q8_ y3_ z2_)
theorem c1a:FnScope ["_law_thing"] ["_law_thing"] (y0_ a8O):=k0_
def c1b:Mo Fl:=(q9_ (a0h (mIs "int" (z0_ 0)) (a5C (mIs "bool" (z0_ 0)))))
def a1O:Fn:=fnM 1 c1b
theorem c1c{f:Addr}(F:Fun K "_law_whole" "_law_whole" a8O f fd)(T:Txt K mg):FnOk P w K mg base CX0 1 f fd ["_law_thing"] (SpF K 1 a1O):=
 k7_ F c1a fun cdv A outer s H E hr=>(by cases T;injections q8_ y3_ a2r a0t z2_ a2q a7p a0t z2_)
theorem b2D:FnScope ["_law_row","_law_some"] ["_law_row"] (y0_ a8P):=k0_
theorem c1d:(["-0","-1","_law_at"]:List Str).Nodup:=by decide+kernel
theorem c1e:(["-0","-1","_law_one"]:List Str).Nodup:=by decide+kernel
def a9m:Mo Fl:=(q1_ (u8_ 1 (y1_ (y4_ (z0_ 0)) [false,false] 1 (gN 2) (mT (z5_ (dEq true) (z0_ 2) (mC (.int 0)))) (z0_ 2))) (q9_ (a0h (z5_ (dEq false) (z5_ g8_ (mCB v3_ (z1_ (z0_ 1) z3_)) (mC (.int 2))) (mC (.int 1))) (z5_ (dEq false) (z0_ 1) (mF (y1_ (w3_ (z1_ (mCB v3_ (z1_ (z0_ 1) z3_)) z3_)) [false,false] 1 (gN 2) y8_ (z5_ a1g (mC (.int 1)) (z5_ u3_ (mC (.int 2)) (z5_ g8_ (z0_ 2) (mC (.int 2)))))))))))
def a2N:Fn:=fnM 2 a9m
theorem c1f{f:Addr}(F:Fun K "_law_turns" "_law_turns" a8P f fd)(T:Txt K mg):FnOk P w K mg base CX0 1 f fd ["_law_row"] (SpF K 1 a2N):=
 k7_ F b2D fun cdv A outer s H E hr=>(by have n0:=c1d;have n1:=c1e;have n2:=b2D.nd;cases T;injections q6_;exists (a8g (N':=["-0","-1","_law_one"]) (keep:=[false,false]) (more:=1) ?_ ?_ ?_ ?_ ?_ ?_ ?_ ?_ ?_ ?_ ?_);injections j9_ z2_ y7_ a5M j5_ z2_ q0_ z2_ q8_ y3_ a2r a2W v9_ x1_ x7_ z4_ z2_ z7_ q0_ q0_ a2q a2W z2_ y6_;exists (g0_ (N':=["-0","-1","_law_at"]) (keep:=[false,false]) (more:=1) ?_ ?_ ?_ ?_ ?_ ?_ ?_);injections a0j z4_ x1_ x7_ z4_ z2_ z7_ z7_ y7_ g4_ v9_ q0_ v9_ q0_ v9_ z2_ q0_)
theorem b2E:FnScope ["_law_thing","_law_row"] ["_law_thing"] (y0_ a8Q):=k0_
theorem c1g:(["_law_thing","_law_row","_law_at"]:List Str).Nodup:=by decide+kernel
theorem c1h:(["-0","-1","_law_at","_law_row"]:List Str).Nodup:=by decide+kernel
theorem c1i:(["-0","-1","_law_one"]:List Str).Nodup:=by decide+kernel
def a3n:Mo Fl:=(q1_ (v8_ (w6_ (y5_ (mT (mIs "tuple" (z0_ 0)))) (y5_ (mT (a0K dLe dLe (mC (.int 1)) (mCB v3_ (z1_ (z0_ 0) z3_)) (mC (.int 6)))))) (q9_ (mC (.bl false))) mNx) (q1_ (w7_ (y4_ (z0_ 0)) (gN 1) (q1_ (v8_ (w6_ (y5_ (mT (mIs "tuple" (z0_ 1)))) (mT (z5_ (dEq true) (mCB v3_ (z1_ (z0_ 1) z3_)) (mCB v3_ (z1_ (z0_ 0) z3_))))) (q9_ (mC (.bl false))) mNx) (v8_ (w6_ (y5_ (mT (mCB a0B (z1_ (mF (y1_ (y4_ (z0_ 1)) [false,false] 1 (gN 2) y8_ (a0h (mCD 1 a1O (z6_ (z0_ 2) z8_)) (a0K dLe dLe (j8_ (mC (.int 1))) (z0_ 2) (mC (.int 1)))))) z3_)))) (y5_ (mT (mCD 1 a2N (z6_ (z0_ 1) z8_))))) (q9_ (mC (.bl false))) mNx))) (q9_ (mCB a0B (z1_ (mF (y1_ (w3_ (z1_ (mCB v3_ (z1_ (z0_ 0) z3_)) z3_)) [true,true] 1 (gN 2) y8_ (mCD 1 a2N (z6_ (mF (y1_ (y4_ (z0_ 0)) [false,false,true] 1 (gN 3) y8_ (z5_ dIx (z0_ 3) (z0_ 2)))) z8_)))) z3_)))))
def a3Z:Fn:=fnM 2 a3n
theorem c1j{f:Addr}(F:Fun K "_law_is_table" "_law_is_table" a8Q f fd)(T:Txt K mg)(d__law_turns:Def P w K mg base "_law_turns" 1 1 a2N)(d__law_whole:Def P w K mg base "_law_whole" 1 1 a1O):FnOk P w K mg base CX0 2 f fd ["_law_thing"] (SpF K 1 a3Z):=
 k7_ F b2E fun cdv A outer s H E hr=>(by have n0:=c1g;have n1:=c1h;have n2:=c1i;have n3:=b2E.nd;cases T;injections q6_ x9_ a1a a1x j6_ j4_ a0t z2_ a1w j6_ a7r q0_ x1_ x7_ z4_ z2_ z7_ q0_ q8_ y3_ k5_ x8_ q6_ a0a j9_ z2_ y7_ q6_ x9_ a1a a1x j6_ j4_ a0t z2_ a1w j5_ x1_ x7_ z4_ z2_ z7_ x1_ x7_ z4_ z2_ z7_ q8_ y3_ k5_ x8_ q8_ x9_ a1a a1x j6_ j4_ x1_;exists (a2z rfl);injections z4_ y6_;exists (g0_ (N':=["-0","-1","_law_one"]) (keep:=[false,false]) (more:=1) ?_ ?_ ?_ ?_ ?_ ?_ ?_);injections j9_ z2_ y7_ g4_ a2r v7_ q2_ z2_ v1_ a2q a7q a1W q0_ z2_ q0_ z7_ a1w j6_ j4_ v7_ q2_ z2_ v1_ q8_ y3_ k5_ x8_ q8_ y3_ x1_;exists (a2z rfl);injections z4_ y6_;exists (g0_ (N':=["_law_thing","_law_row","_law_at"]) (keep:=[true,true]) (more:=1) ?_ ?_ ?_ ?_ ?_ ?_ ?_);injections a0j z4_ x1_ x7_ z4_ z2_ z7_ z7_ y7_ g4_ v7_ q2_ y6_;exists (g0_ (N':=["-0","-1","_law_at","_law_row"]) (keep:=[false,false,true]) (more:=1) ?_ ?_ ?_ ?_ ?_ ?_ ?_);injections j9_ z2_ y7_ g4_ k6_ z2_ z2_ v1_ z7_)
theorem b2F:FnScope ["_law_state_here","_law_some"] ["_law_state_here"] (y0_ a8R):=k0_
def a9n:Mo Fl:=(q1_ (v6_ 1 (mF (x3_ (z1_ (mC .non) (z1_ (mC (.bl true)) (z1_ (mC (.bl false)) (z1_ (j8_ (mC (.int 1))) (z1_ (mC (.int 0)) (z1_ (mC (.int 1)) (z1_ (mC (.str "")) (z1_ (mC (.str "+")) (z1_ (q5_ z3_) (z1_ (mF (x3_ z3_)) (z1_ (q5_ (z1_ (mC (.bl true)) z3_)) (z1_ (mF (x3_ (z1_ (q5_ (z1_ (mC (.int 1)) z3_)) z3_))) (z1_ (mC .emp) (z1_ (q5_ (z1_ (mC .non) z3_)) (z1_ (q5_ (z1_ (q5_ (z1_ (mC (.bl true)) z3_)) z3_)) z3_)))))))))))))))))) (q9_ (z5_ dIx (mF (a0N (z0_ 1) (mF (x3_ (z1_ (z5_ a0J (mC (.int 10)) (mC (.int 29))) (z1_ (q5_ (z1_ (q5_ z3_) z3_)) (z1_ (q5_ (z1_ (q5_ (z1_ (mC (.int 0)) z3_)) z3_)) (z1_ (q5_ (z1_ (q5_ (z1_ (mC (.int 1)) z3_)) (z1_ (q5_ (z1_ (mC (.int 1)) z3_)) z3_))) (z1_ (q5_ (z1_ (q5_ (z1_ (q5_ (z1_ (mC (.int 1)) z3_)) z3_)) z3_)) z3_))))))))) (mCD 2 w8_ (x6_ 0 (z6_ (mC (.int 20)) z8_))))))
def a4V:Fn:=fnM 2 a9n
theorem c1k{f:Addr}(F:Fun K "_law_odd" "_law_odd" a8R f fd)(T:Txt K mg)(d__law_take:Def P w K mg base "_law_take" 1 2 w8_):FnOk P w K mg base CX0 2 f fd ["_law_state_here"] (SpF K 1 a4V):=
 k7_ F b2F fun cdv A outer s H E hr=>(by have n0:=b2F.nd;cases T;injections q6_ x4_ y6_ w9_ z4_ a1V z4_ k5_ z4_ k5_ z4_ a1W q0_ z4_ q0_ z4_ q0_ z4_ j3_ z4_ j3_ z4_ y2_ z7_ z4_ y6_ w9_ z7_ z4_ y2_ z4_ k5_ z7_ z4_ y6_ w9_ z4_ y2_ z4_ q0_ z7_ z7_ z4_ b1I z4_ y2_ z4_ a1V z7_ z4_ y2_ z4_ y2_ z4_ k5_ z7_ z7_ z7_ q8_ y3_ k6_ y6_ a2d z2_ y6_ w9_ z4_ v9_ q0_ q0_ z4_ y2_ z4_ y2_ z7_ z7_ z4_ y2_ z4_ y2_ z4_ q0_ z7_ z7_ z4_ y2_ z4_ y2_ z4_ q0_ z7_ z4_ y2_ z4_ q0_ z7_ z7_ z4_ y2_ z4_ y2_ z4_ y2_ z4_ q0_ z7_ z7_ z7_ z7_ v7_ a0r q2_ q0_ v1_)
theorem b2G:FnScope ["_law_state_here","_law_table_here","_law_row","_law_odd_here","_law_rows_here","_law_one","_law_other","_law_some","_law_at","_law_k"] ["_law_state_here","_law_table_here"] (y0_ a8S):=k0_
def a9o:Mo Fl:=(q1_ (a4q 8 9 (z1_ (mCD 2 w8_ (x6_ 0 (z6_ (mCB v3_ (z1_ (z0_ 1) z3_)) z8_))) (z1_ (mCD 2 w8_ (x6_ 0 (z6_ (mCB v3_ (z1_ (z0_ 1) z3_)) z8_))) z3_))) (q1_ (v6_ 2 (z5_ dIx (z0_ 1) (z0_ 8))) (q1_ (v6_ 3 (z5_ dIx (mF (x3_ (z1_ (mC (.int 0)) (z1_ (mC (.int 1)) (z1_ (j8_ (mC (.int 1))) (z1_ (mC (.int 2)) (z1_ (j8_ (mC (.int 2))) (z1_ (mC (.bl true)) (z1_ (mC (.bl false)) (z1_ (mC .non) (z1_ (mC (.str "1")) (z1_ (q5_ (z1_ (mC (.int 1)) z3_)) (z1_ (z5_ a0J (mC (.int 10)) (mC (.int 29))) (z1_ (j8_ (z5_ dIx (z0_ 2) (z0_ 9))) z3_)))))))))))))) (mCD 2 w8_ (x6_ 0 (z6_ (mC (.int 12)) z8_))))) (q1_ (v6_ 4 (mF (x3_ (z1_ (z5_ v5_ (z5_ v5_ (mSl (z0_ 2) w0_ (w1_ (z0_ 9))) (q5_ (z1_ (z0_ 3) z3_))) (mSl (z0_ 2) (w1_ (z5_ v5_ (z0_ 9) (mC (.int 1)))) w0_)) (z1_ (z5_ v5_ (z5_ v5_ (mSl (z0_ 2) w0_ (w1_ (z0_ 9))) (q5_ (z1_ (z0_ 3) z3_))) (mSl (z0_ 2) (w1_ (z0_ 9)) w0_)) (z1_ (z5_ v5_ (mSl (z0_ 2) w0_ (w1_ (z0_ 9))) (mSl (z0_ 2) (w1_ (z5_ v5_ (z0_ 9) (mC (.int 1)))) w0_)) (z1_ (mF (mCL a4p (z1_ (z0_ 2) z3_))) z3_))))))) (q1_ (v6_ 5 (z5_ dIx (mF (a0N (z0_ 4) (mF (x3_ (z1_ (a3I (z0_ 2)) (z1_ (mC .non) z3_)))))) (z5_ dIx (mF (x3_ (z1_ (mC (.int 0)) (z1_ (mC (.int 0)) (z1_ (mC (.int 0)) (z1_ (mC (.int 0)) (z1_ (mC (.int 0)) (z1_ (mC (.int 1)) (z1_ (mC (.int 2)) (z1_ (mC (.int 3)) (z1_ (mC (.int 4)) (z1_ (mC (.int 5)) z3_)))))))))))) (mCD 2 w8_ (x6_ 0 (z6_ (mC (.int 10)) z8_)))))) (q1_ (v6_ 6 (z5_ dIx (z0_ 1) (mCD 2 w8_ (x6_ 0 (z6_ (mCB v3_ (z1_ (z0_ 1) z3_)) z8_))))) (q1_ (v6_ 7 (mF (x3_ (z1_ (z5_ v5_ (z5_ v5_ (mSl (z0_ 1) w0_ (w1_ (z0_ 8))) (q5_ (z1_ (z0_ 5) z3_))) (mSl (z0_ 1) (w1_ (z5_ v5_ (z0_ 8) (mC (.int 1)))) w0_)) (z1_ (z5_ v5_ (z5_ v5_ (mSl (z0_ 1) w0_ (w1_ (z0_ 8))) (q5_ (z1_ (z0_ 6) z3_))) (mSl (z0_ 1) (w1_ (z5_ v5_ (z0_ 8) (mC (.int 1)))) w0_)) z3_))))) (q1_ (v6_ 7 (mF (a0N (z0_ 7) (mF (x3_ (z1_ (z5_ v5_ (mSl (z0_ 1) w0_ (w1_ (z0_ 8))) (mSl (z0_ 1) (w1_ (z5_ v5_ (z0_ 8) (mC (.int 1)))) w0_)) (z1_ (z5_ v5_ (z5_ v5_ (mSl (z0_ 1) w0_ (w1_ (z0_ 8))) (q5_ (z1_ (z0_ 2) z3_))) (mSl (z0_ 1) (w1_ (z0_ 8)) w0_)) (z1_ (mF (mCL a4p (z1_ (z0_ 1) z3_))) (z1_ (a3I (z0_ 1)) z3_))))))))) (q1_ (v6_ 7 (mF (a0N (z0_ 7) (mF (x3_ (z1_ (q5_ (z1_ (z0_ 1) z3_)) (z1_ (mC .non) (z1_ (z0_ 2) z3_)))))))) (q9_ (z5_ dIx (z0_ 7) (z5_ dIx (mF (x3_ (z1_ (mC (.int 0)) (z1_ (mC (.int 0)) (z1_ (mC (.int 0)) (z1_ (mC (.int 0)) (z1_ (mC (.int 1)) (z1_ (mC (.int 1)) (z1_ (mC (.int 2)) (z1_ (mC (.int 3)) (z1_ (mC (.int 4)) (z1_ (mC (.int 5)) (z1_ (mC (.int 6)) (z1_ (mC (.int 7)) (z1_ (mC (.int 8)) z3_))))))))))))))) (mCD 2 w8_ (x6_ 0 (z6_ (mC (.int 13)) z8_)))))))))))))))
def a3o:Fn:=fnM 10 a9o
theorem c1l{f:Addr}(F:Fun K "_law_bent" "_law_bent" a8S f fd)(T:Txt K mg)(d__law_take:Def P w K mg base "_law_take" 1 2 w8_):FnOk P w K mg base CX0 2 f fd ["_law_state_here","_law_table_here"] (SpF K 2 a3o):=
 k7_ F b2G fun cdv A outer s H E hr=>(by have n0:=b2G.nd;cases T;injections q6_;exists (b0O (i:=8) (j:=9) ?_ ?_ ?_ ?_ ?_ ?_ ?_ ?_ ?_ ?_);injections z4_ v7_ a0r q2_ x1_ x7_ z4_ z2_ z7_ v1_ z4_ v7_ a0r q2_ x1_ x7_ z4_ z2_ z7_ v1_ z7_ q6_ x4_ k6_ z2_ z2_ q6_ x4_ k6_ y6_ w9_ z4_ q0_ z4_ q0_ z4_ a1W q0_ z4_ q0_ z4_ a1W q0_ z4_ k5_ z4_ k5_ z4_ a1V z4_ j3_ z4_ y2_ z4_ q0_ z7_ z4_ v9_ q0_ q0_ z4_ a1W k6_ z2_ z2_ z7_ v7_ a0r q2_ q0_ v1_ q6_ x4_ y6_ w9_ z4_ v9_ v9_ a0m z2_ a0k a0l z2_ y2_ z4_ z2_ z7_ a0m z2_ a0l v9_ z2_ q0_ a0k z4_ v9_ v9_ a0m z2_ a0k a0l z2_ y2_ z4_ z2_ z7_ a0m z2_ a0l z2_ a0k z4_ v9_ a0m z2_ a0k a0l z2_ a0m z2_ a0l v9_ z2_ q0_ a0k z4_ y6_ a7u a5q z4_ z2_ z7_ z7_ q6_ x4_ k6_ y6_ a2d z2_ y6_ w9_ z4_ a7O z2_ z4_ a1V z7_ k6_ y6_ w9_ z4_ q0_ z4_ q0_ z4_ q0_ z4_ q0_ z4_ q0_ z4_ q0_ z4_ q0_ z4_ q0_ z4_ q0_ z4_ q0_ z7_ v7_ a0r q2_ q0_ v1_ q6_ x4_ k6_ z2_ v7_ a0r q2_ x1_ x7_ z4_ z2_ z7_ v1_ q6_ x4_ y6_ w9_ z4_ v9_ v9_ a0m z2_ a0k a0l z2_ y2_ z4_ z2_ z7_ a0m z2_ a0l v9_ z2_ q0_ a0k z4_ v9_ v9_ a0m z2_ a0k a0l z2_ y2_ z4_ z2_ z7_ a0m z2_ a0l v9_ z2_ q0_ a0k z7_ q6_ x4_ y6_ a2d z2_ y6_ w9_ z4_ v9_ a0m z2_ a0k a0l z2_ a0m z2_ a0l v9_ z2_ q0_ a0k z4_ v9_ v9_ a0m z2_ a0k a0l z2_ y2_ z4_ z2_ z7_ a0m z2_ a0l z2_ a0k z4_ y6_ a7u a5q z4_ z2_ z7_ z4_ a7O z2_ z7_ q6_ x4_ y6_ a2d z2_ y6_ w9_ z4_ y2_ z4_ z2_ z7_ z4_ a1V z4_ z2_ z7_ q8_ y3_ k6_ z2_ k6_ y6_ w9_ z4_ q0_ z4_ q0_ z4_ q0_ z4_ q0_ z4_ q0_ z4_ q0_ z4_ q0_ z4_ q0_ z4_ q0_ z4_ q0_ z4_ q0_ z4_ q0_ z4_ q0_ z7_ v7_ a0r q2_ q0_ v1_)
theorem b2H:FnScope ["_law_table_here","_law_side","_law_across","_law_down"] ["_law_table_here"] (y0_ a8T):=k0_
theorem c1m:(["_law_table_here","_law_side","-2","-3","_law_i"]:List Str).Nodup:=by decide+kernel
theorem c1n:(["_law_table_here","-1","-2","-3","_law_i","_law_j"]:List Str).Nodup:=by decide+kernel
theorem c1o:(["-0","-1","-2","-3","-4","_law_j","_law_row"]:List Str).Nodup:=by decide+kernel
theorem c1p:(["-0","_law_side","-2","-3","_law_row"]:List Str).Nodup:=by decide+kernel
theorem c1q:(["-0","-1","-2","-3","_law_row","_law_j"]:List Str).Nodup:=by decide+kernel
def a9p:Mo Fl:=(q1_ (v6_ 1 (mCB v3_ (z1_ (z0_ 0) z3_))) (q1_ (v6_ 2 (mCB a0s (z1_ (mF (y1_ (y4_ (z0_ 0)) [false,true,false,false] 1 (gN 4) y8_ (mCB a0s (z1_ (mF (y1_ (w3_ (z1_ (z5_ v5_ (z0_ 1) (mC (.int 1))) z3_)) [false,false,false,false,true] 1 (gN 5) y8_ (mCB a3f (z1_ (mSl (z0_ 4) w0_ (w1_ (z0_ 5))) z3_)))) z3_)))) z3_))) (q1_ (v6_ 3 (mCB a0s (z1_ (mF (y1_ (w3_ (z1_ (z5_ v5_ (z0_ 1) (mC (.int 1))) z3_)) [true,true,false,false] 1 (gN 4) y8_ (mCB a0s (z1_ (mF (y1_ (w3_ (z1_ (z0_ 1) z3_)) [true,false,false,false,true] 1 (gN 5) y8_ (mCB a3f (z1_ (mF (y1_ (y4_ (mSl (z0_ 0) w0_ (w1_ (z0_ 4)))) [false,false,false,false,false,true] 1 (gN 6) y8_ (z5_ dIx (z0_ 6) (z0_ 5)))) z3_)))) z3_)))) z3_))) (q9_ (q5_ (z1_ (z0_ 2) (z1_ (z0_ 3) z3_)))))))
def a2O:Fn:=fnM 4 a9p
theorem c1r{f:Addr}(F:Fun K "_law_net" "_law_net" a8T f fd)(T:Txt K mg):FnOk P w K mg base CX0 1 f fd ["_law_table_here"] (SpF K 1 a2O):=
 k7_ F b2H fun cdv A outer s H E hr=>(by have n0:=c1m;have n1:=c1n;have n2:=c1o;have n3:=c1p;have n4:=c1q;have n5:=b2H.nd;cases T;injections q6_ x4_ x1_ x7_ z4_ z2_ z7_ q6_ x4_ a1i a1v z4_ y6_;exists (g0_ (N':=["-0","_law_side","-2","-3","_law_row"]) (keep:=[false,true,false,false]) (more:=1) ?_ ?_ ?_ ?_ ?_ ?_ ?_);injections j9_ z2_ y7_ g4_ a1i a1v z4_ y6_;exists (g0_ (N':=["-0","-1","-2","-3","_law_row","_law_j"]) (keep:=[false,false,false,false,true]) (more:=1) ?_ ?_ ?_ ?_ ?_ ?_ ?_);injections a0j z4_ v9_ z2_ q0_ z7_ y7_ g4_ x1_;exists (a5W rfl);injections z4_ a0m z2_ a0k a0l z2_ z7_ z7_ z7_ q6_ x4_ a1i a1v z4_ y6_;exists (g0_ (N':=["_law_table_here","_law_side","-2","-3","_law_i"]) (keep:=[true,true,false,false]) (more:=1) ?_ ?_ ?_ ?_ ?_ ?_ ?_);injections a0j z4_ v9_ z2_ q0_ z7_ y7_ g4_ a1i a1v z4_ y6_;exists (g0_ (N':=["_law_table_here","-1","-2","-3","_law_i","_law_j"]) (keep:=[true,false,false,false,true]) (more:=1) ?_ ?_ ?_ ?_ ?_ ?_ ?_);injections a0j z4_ z2_ z7_ y7_ g4_ x1_;exists (a5W rfl);injections z4_ y6_;exists (g0_ (N':=["-0","-1","-2","-3","-4","_law_j","_law_row"]) (keep:=[false,false,false,false,false,true]) (more:=1) ?_ ?_ ?_ ?_ ?_ ?_ ?_);injections j9_ a0m z2_ a0k a0l z2_ y7_ g4_ k6_ z2_ z2_ z7_ z7_ z7_ q8_ y3_ y2_ z4_ z2_ z4_ z2_ z7_)
theorem c1s:FnScope ["_law_found","_law_due"] ["_law_found","_law_due"] (y0_ a8U):=k0_
theorem c1t:(["-0","-1","_law_one","_law_other"]:List Str).Nodup:=by decide+kernel
def a4W(r_:Fn):Mo Fl:=(q1_ (v8_ (mT (b1o "tuple" "list" (z0_ 1))) (q1_ (v8_ (w6_ (mT (z5_ (dEq true) (mIs "tuple" (z0_ 0)) (mIs "tuple" (z0_ 1)))) (mT (z5_ (dEq true) (mIs "list" (z0_ 0)) (mIs "list" (z0_ 1))))) (q9_ (mC (.bl false))) mNx) (q9_ (a0h (z5_ (dEq false) (mCB v3_ (z1_ (z0_ 0) z3_)) (mCB v3_ (z1_ (z0_ 1) z3_))) (mCB a0B (z1_ (mF (y1_ (a3c (z1_ (z0_ 0) (z1_ (z0_ 1) z3_))) [false,false] 2 (gT 2 (gCn (gN 2) (gCn (gN 3) gNl))) y8_ (mCD 2 r_ (z6_ (z0_ 2) (z6_ (z0_ 3) z8_))))) z3_))))) mNx) (q9_ (a0h (z5_ (dEq false) (z0_ 0) (z0_ 1)) (z5_ (dEq false) (mIs "bool" (z0_ 0)) (mIs "bool" (z0_ 1))))))
def u4_:Nat->Fn
 |0=>fun _=>none
 |n_+1=>fnM 2 (a4W (u4_ n_))
theorem b2I{f:Addr}{fd:FuncData}(F:Fun K "_law_same" "_law_same" a8U f fd)(T:Txt K mg)(hmg:mg "_law_same"=some (.ref f))(hkp:PySem.W.keepIn K (.ref f)=true)(hbd:a0x K fd ["_law_found","_law_due"] []):∀n_:Nat,FnOk P w K mg base CX0 (1+n_) f fd ["_law_found","_law_due"] (SpF K 2 (u4_ n_))
 |0=>b7W
 |n_+1=>by
  have d__law_same:Def P w K mg base "_law_same" (1+n_) 2 (u4_ n_):=⟨_,_,_,b2I F T hmg hkp hbd n_,rfl,hmg,hkp,hbd⟩
  exact k7_ F c1s fun cdv A outer s H E hr=>(by have n0:=c1t;cases T;injections q6_ x9_ j4_ b1p z2_ q6_ x9_ a1a a1x j5_ a0t z2_ a0t z2_ a1w j5_ a0t z2_ a0t z2_ q8_ y3_ k5_ x8_ q8_ y3_ a2r a2W x1_ x7_ z4_ z2_ z7_ x1_ x7_ z4_ z2_ z7_ a2q x1_;exists (a2z rfl);injections z4_ y6_;exists (g0_ (N':=["-0","-1","_law_one","_law_other"]) (keep:=[false,false]) (more:=2) ?_ ?_ ?_ ?_ ?_ ?_ ?_);injections a7Q z4_ z2_ z4_ z2_ z7_ a1Z a0i y7_ a0i y7_ a1Y g4_ v7_ q2_ z2_ q2_ z2_ v1_ z7_ x8_ q8_ y3_ a2r a2W z2_ z2_ a2q a2W a0t z2_ a0t z2_)
theorem a9q:FnScope ["_law_call","_law_error","e","_law_sorts","_law_words"] ["_law_call"] (y0_ a8V):=k0_
theorem c1u:(["-0","-1","-2","-3","-4","_law_one"]:List Str).Nodup:=by decide+kernel
def c1v:Mo Fl:=(q1_ (v8_ (mT (z5_ a7U (z0_ 1) (mC .non))) (q9_ (mC .non)) mNx) (q1_ (u8_ 3 (x3_ (z1_ (a0Q xN "NoTable" (z0_ 1)) (z1_ (a0Q xN "NoHeights" (z0_ 1)) (z1_ (a0Q xN "NoNet" (z0_ 1)) z3_))))) (q1_ (u8_ 3 (a0N (z0_ 3) (mF (x3_ (z1_ (a0Q xN "NoPlace" (z0_ 1)) (z1_ (a0Q xN "NoTriangle" (z0_ 1)) (z1_ (a0Q xN "NoRow" (z0_ 1)) z3_))))))) (q1_ (a2t 3 (a0Q xN "NoNumber" (z0_ 1))) (q1_ (u8_ 3 (a0N (z0_ 3) (mF (x3_ (z1_ (a0Q xN "NoTurn" (z0_ 1)) (z1_ (a0Q xN "NotAlike" (z0_ 1)) (z1_ (a0Q xN "NoStep" (z0_ 1)) z3_))))))) (q1_ (u8_ 3 (a0N (z0_ 3) (mF (x3_ (z1_ (a0Q xN "NoRows" (z0_ 1)) (z1_ (a0Q xN "TooMany" (z0_ 1)) (z1_ (a0Q xN "BadNote" (z0_ 1)) z3_))))))) (q1_ (v8_ (w6_ (y5_ (mT (b1v xN (z0_ 1)))) (mT (z5_ (dEq true) (mCB a3f (z1_ (mF (y1_ (y4_ (z0_ 3)) [false,false,false,false,false] 1 (gN 5) y8_ (mCB a7K (z1_ (z0_ 5) z3_)))) z3_)) (mC (.int 1))))) (q9_ (mC (.str "none of these"))) mNx) (q1_ (v6_ 4 (mF (x3_ (z1_ (mC (.str "table")) (z1_ (mC (.str "heights")) (z1_ (mC (.str "net")) (z1_ (mC (.str "place")) (z1_ (mC (.str "triangle")) (z1_ (mC (.str "row")) (z1_ (mC (.str "number")) (z1_ (mC (.str "turn")) (z1_ (mC (.str "not alike")) (z1_ (mC (.str "step")) z3_))))))))))))) (q9_ (z5_ dIx (mF (a0N (z0_ 4) (mF (x3_ (z1_ (mC (.str "rows")) (z1_ (mC (.str "many")) (z1_ (mC (.str "note")) z3_))))))) (z5_ a8b (z0_ 3) (mC (.bl true)))))))))))))
def c1w(o:Option Str):Mo Fl:=q1_ (v6_ 1 (mC .non)) (q1_ (a7W xN 2 1 o) c1v)
def a0v:Option Str->Option D:=a7Z 5 c1w
theorem c1x{f:Addr}(F:Fun K "_law_refused" "_law_refused" a8V f fd)(T:Txt K mg)(hmg:mg "_law_refused"=some (.ref f))(hbd:a0x K fd ["_law_call"] []):RefDef P w K mg base "_law_refused" 9 8 a0v:=
 b8L F a9q hmg hbd (by decide) fun cdv A outer s H E fl o G hr fn clo=>b8x (i0:=0) (i:=2) (j:=1) rfl rfl rfl T.ex a9q.nd rfl (Or.inl rfl) rfl rfl rfl rfl (by decide) rfl fn clo (by have n0:=c1u;have n1:=a9q.nd;cases T;injections q6_ x9_ j5_ z2_ a1V q8_ y3_ a1V x8_ q6_ a2s w9_ z4_ a0R z2_ z4_ a0R z2_ z4_ a0R z2_ z7_ q6_ a2s a2d z2_ y6_ w9_ z4_ a0R z2_ z4_ a0R z2_ z4_ a0R z2_ z7_ q6_ a3B z4_ a0R z2_ z7_ q6_ a2s a2d z2_ y6_ w9_ z4_ a0R z2_ z4_ a0R z2_ z4_ a0R z2_ z7_ q6_ a2s a2d z2_ y6_ w9_ z4_ a0R z2_ z4_ a0R z2_ z4_ a0R z2_ z7_ q6_ x9_ a1a a1x j6_ j4_ b1w z2_ a1w j5_ x1_;exists (a5W rfl);injections z4_ y6_;exists (g0_ (N':=["-0","-1","-2","-3","-4","_law_one"]) (keep:=[false,false,false,false,false]) (more:=1) ?_ ?_ ?_ ?_ ?_ ?_ ?_);injections j9_ z2_ y7_ g4_ a1i a7a z4_ z2_ z7_ z7_ q0_ q8_ y3_ j3_ x8_ q6_ x4_ y6_ w9_ z4_ j3_ z4_ j3_ z4_ j3_ z4_ j3_ z4_ j3_ z4_ j3_ z4_ j3_ z4_ j3_ z4_ j3_ z4_ j3_ z7_ q8_ y3_ k6_ y6_ a2d z2_ y6_ w9_ z4_ j3_ z4_ j3_ z4_ j3_ z7_ b1D z2_ k5_)
theorem b2J:FnScope ["_law_table_here","_law_found","_law_i","_law_across","_law_down","_law_j","_law_line"] ["_law_table_here"] (y0_ a8W):=k0_
def a9r:Mo Fl:=(q1_ (u9_ (mCD 1 a2O (z6_ (z0_ 0) z8_)) (gT 2 (gCn (gN 3) (gCn (gN 4) gNl)))) (q1_ (a6l 1) (q1_ (w7_ (w3_ (z1_ (mCB v3_ (z1_ (z0_ 0) z3_)) z3_)) (gN 2) (w7_ (w3_ (z1_ (mCB v3_ (z1_ (z0_ 0) z3_)) z3_)) (gN 5) (q1_ (v6_ 6 (z5_ dIx (z0_ 3) (z0_ 2))) (u9_ (q5_ (z1_ (z5_ dIx (z0_ 6) (z0_ 5)) (z1_ (z5_ dIx (z0_ 6) (z5_ v5_ (z0_ 5) (mC (.int 1)))) (z1_ (z5_ dIx (z5_ dIx (z0_ 4) (z0_ 2)) (z0_ 5)) (z1_ (z5_ dIx (z5_ dIx (z0_ 4) (z5_ v5_ (z0_ 2) (mC (.int 1)))) (z0_ 5)) z3_))))) (gSX 1 (q5_ (z1_ (z0_ 2) (z1_ (z0_ 5) z3_)))))))) (q9_ (z0_ 1)))))
def a6w:Fn:=fnM 7 a9r
theorem c1y{f:Addr}(F:Fun K "_law_kinds" "_law_kinds" a8W f fd)(T:Txt K mg)(d__law_net:Def P w K mg base "_law_net" 1 1 a2O):FnOk P w K mg base CX0 2 f fd ["_law_table_here"] (SpF K 1 a6w):=
 k7_ F b2J fun cdv A outer s H E hr=>(by have n0:=b2J.nd;cases T;injections q6_ a2u v7_ q2_ z2_ v1_ a1Z a0i y7_ a0i y7_ a1Y q6_ a6m q6_ a0a a0j z4_ x1_ x7_ z4_ z2_ z7_ z7_ y7_ q8_ a0a a0j z4_ x1_ x7_ z4_ z2_ z7_ z7_ y7_ q6_ x4_ k6_ z2_ z2_ q8_ a2u y2_ z4_ k6_ z2_ z2_ z4_ k6_ z2_ v9_ z2_ q0_ z4_ k6_ k6_ z2_ z2_ z2_ z4_ k6_ k6_ z2_ v9_ z2_ q0_ z2_ z7_ a6n y2_ z4_ z2_ z4_ z2_ z7_ q8_ y3_ z2_)
theorem b2K:FnScope ["_law_table_here","_law_due","_law_kinds_here","_law_turn","_law_row","_law_column","_law_found","_law_counts"] ["_law_table_here"] (y0_ a8X):=k0_
theorem c1z:(["-0","-1","-2","-3","-4","-5","-6","-7","_law_many"]:List Str).Nodup:=by decide+kernel
theorem c1A:(["-0","-1","_law_kinds_here","-3","-4","-5","-6","-7","_law_kind"]:List Str).Nodup:=by decide+kernel
def a9s:Mo Fl:=(q1_ (v6_ 1 (mCD 1 a6w (z6_ (z0_ 0) z8_))) (q1_ (v6_ 2 (mF (a3P (z0_ 1)))) (q1_ (w7_ (b1Q (z0_ 1)) (gT 2 (gCn (gN 4) (gCn (gN 5) gNl))) (v8_ (y5_ (mT (mCD 2 (u4_ 6) (z6_ (mCD 3 a0H (z6_ (z0_ 0) (z6_ (z0_ 4) (z6_ (z0_ 5) z8_)))) (z6_ (z5_ a3O (z0_ 1) (q5_ (z1_ (z0_ 4) (z1_ (z0_ 5) z3_)))) z8_))))) (q9_ (mC (.bl false))) mNx)) (q1_ (w7_ (w3_ (z1_ (mC (.int 2)) z3_)) (gN 3) (q1_ (a4F 6 1 a2l (z6_ (z0_ 0) z8_)) (q1_ (v6_ 7 (mCB a3S (z1_ (mF (y1_ (y4_ (z0_ 2)) [false,false,true,false,false,false,false,false] 1 (gN 8) y8_ (q5_ (z1_ (z0_ 8) (z1_ (z5_ a3R (z0_ 2) (z0_ 8)) z3_))))) z3_))) (q1_ (v8_ (a2L 6 (w6_ (y5_ (mT (a8t (z0_ 6)))) (mT (z5_ a3Q (z0_ 6) (z0_ 7))))) (q9_ (mC (.bl false))) mNx) (q1_ (v8_ (a2L 6 (y5_ (mT (mCB a0B (z1_ (mF (y1_ (a3P (z0_ 6)) [false,false,false,false,false,false,false,false] 1 (gN 8) y8_ (mCD 1 a1O (z6_ (z0_ 8) z8_)))) z3_))))) (q9_ (mC (.bl false))) mNx) (a6p 6)))))) (q9_ (mC (.bl true)))))))
def a4X:Fn:=fnM 8 a9s
theorem c1B{f:Addr}(F:Fun K "_law_kinds_right" "_law_kinds_right" a8X f fd)(T:Txt K mg)(d__law_kinds:Def P w K mg base "_law_kinds" 2 1 a6w)(d_kinds_of:Def P w K mg base "kinds_of" 7 1 a2l)(d__law_same:Def P w K mg base "_law_same" 7 2 (u4_ 6))(d_kind_at:Def P w K mg base "kind_at" 7 3 a0H)(d__law_whole:Def P w K mg base "_law_whole" 1 1 a1O):FnOk P w K mg base CX0 8 f fd ["_law_table_here"] (SpF K 1 a4X):=
 k7_ F b2K fun cdv A outer s H E hr=>(by have n0:=c1z;have n1:=c1A;have n2:=b2K.nd;cases T;injections q6_ x4_ v7_ q2_ z2_ v1_ q6_ x4_ y6_ b2d z2_ q6_ a0a b1R z2_ a1Z a0i y7_ a0i y7_ a1Y q8_ x9_ j6_ j4_ v7_ q2_ v7_ q2_ z2_ q2_ z2_ q2_ z2_ v1_ q2_ b1W z2_ y2_ z4_ z2_ z4_ z2_ z7_ v1_ q8_ y3_ k5_ x8_ q6_ a0a a0j z4_ q0_ z7_ y7_ q6_ b2n q2_ z2_ v1_ q6_ x4_ a1i;exists (b2l rfl hr.units);injections z4_ y6_;exists (g0_ (N':=["-0","-1","_law_kinds_here","-3","-4","-5","-6","-7","_law_kind"]) (keep:=[false,false,true,false,false,false,false,false]) (more:=1) ?_ ?_ ?_ ?_ ?_ ?_ ?_);injections j9_ z2_ y7_ g4_ y2_ z4_ z2_ z4_ b2j z2_ z2_ z7_ z7_ q6_ x9_ a8s a1a a1x j6_ j4_ b2p z2_ a1w j5_ z2_ z2_ q8_ y3_ k5_ x8_ q6_ x9_ a8s j6_ j4_ x1_;exists (a2z rfl);injections z4_ y6_;exists (g0_ (N':=["-0","-1","-2","-3","-4","-5","-6","-7","_law_many"]) (keep:=[false,false,false,false,false,false,false,false]) (more:=1) ?_ ?_ ?_ ?_ ?_ ?_ ?_);injections b2c z2_ y7_ g4_ v7_ q2_ z2_ v1_ z7_ q8_ y3_ k5_ x8_ q8_ b2o q8_ y3_ k5_)
theorem b2L:FnScope ["_law_script","_law_k","_law_state_here","_law_side","_law_table_here","_law_turn","_law_odd_here","_law_thing","_law_row","_law_column"] ["_law_script"] (y0_ a3T):=k0_
def a6x:Mo Fl:=(q1_ (v8_ (w6_ (mT (z5_ (dEq true) (mCD 1 a1C (z6_ (q5_ (z1_ (q5_ (z1_ (mC (.int 1)) z3_)) z3_)) z8_)) (q5_ (z1_ (q5_ (z1_ (q5_ (z1_ (mC (.int 0)) (z1_ (mC (.int 1)) z3_))) z3_)) (z1_ (q5_ (z1_ (q5_ (z1_ (mC (.int 0)) z3_)) (z1_ (q5_ (z1_ (mC (.int 1)) z3_)) z3_))) z3_))))) (mT (z5_ (dEq true) (mCD 3 a0H (z6_ (q5_ (z1_ (q5_ (z1_ (mC (.int 1)) z3_)) z3_)) (z6_ (mC (.int 0)) (z6_ (mC (.int 0)) z8_)))) (q5_ (z1_ (mC (.int 0)) (z1_ (mC (.int 1)) (z1_ (mC (.int 0)) (z1_ (mC (.int 1)) z3_)))))))) (q9_ (mC (.bl false))) mNx) (q1_ (w7_ (w3_ (z1_ (mCB a3G (z1_ (mC (.int 1)) (z1_ (mCB a3H (z1_ (mCB v3_ (z1_ (z0_ 0) z3_)) (z1_ (mC (.int 8)) z3_))) z3_))) z3_)) (gN 1) (q1_ (u8_ 2 (a2c 2 a4S (z6_ (z0_ 0) (z6_ (z0_ 1) z8_)))) (q1_ (v6_ 3 (z5_ v5_ (mC (.int 1)) (mCD 2 w8_ (x6_ 2 (z6_ (mC (.int 6)) z8_))))) (q1_ (v6_ 4 (mCD 2 a4U (x6_ 2 (z6_ (z0_ 3) z8_)))) (q1_ (w7_ (w3_ (z1_ (mC (.int 2)) z3_)) (gN 5) (v8_ (y5_ (mT (mCD 2 (u4_ 6) (z6_ (mCD 1 a1C (z6_ (z0_ 4) z8_)) (z6_ (mCD 1 a2O (z6_ (z0_ 4) z8_)) z8_))))) (q9_ (mC (.bl false))) mNx)) (q1_ (v8_ (y5_ (mT (mCD 1 a4X (z6_ (z0_ 4) z8_)))) (q9_ (mC (.bl false))) mNx) (q1_ (v6_ 6 (z5_ dIx (mF (x3_ (z1_ (z0_ 3) (z1_ (j8_ (mC (.int 1))) (z1_ (mC (.bl true)) (z1_ (mC (.bl false)) (z1_ (mC .non) (z1_ (mC (.str "0")) (z1_ (q5_ (z1_ (mC (.int 0)) z3_)) (z1_ (z5_ a0J (mC (.int 10)) (mC (.int 29))) (z1_ (mF (x3_ (z1_ (mC (.int 0)) z3_))) z3_))))))))))) (mCD 2 w8_ (x6_ 2 (z6_ (mC (.int 9)) z8_))))) (q1_ (w7_ (y4_ (mF (x3_ (z1_ (q5_ (z1_ (z0_ 6) (z1_ (mC (.int 0)) z3_))) (z1_ (q5_ (z1_ (z5_ a1g (z0_ 3) (mC (.int 1))) (z1_ (z0_ 6) z3_))) (z1_ (q5_ (z1_ (z0_ 6) (z1_ (z0_ 6) z3_))) z3_)))))) (gT 2 (gCn (gN 8) (gCn (gN 9) gNl))) (v8_ (mT (z5_ (dEq true) (a0E xN [false,false,false,false,true,false,false,false,true,true] (mCD 3 a0H (z6_ (z0_ 4) (z6_ (z0_ 8) (z6_ (z0_ 9) z8_)))) (a0f 3 a1D (z6_ (z0_ 4) (z6_ (z0_ 8) (z6_ (z0_ 9) z8_)))) a0v) (mC (.str "place")))) (q9_ (mC (.bl false))) mNx)) (w7_ (y4_ (mF (x3_ (z1_ (mCD 2 a3o (x6_ 2 (z6_ (z0_ 4) z8_))) (z1_ (mCD 2 a3o (x6_ 2 (z6_ (z0_ 4) z8_))) (z1_ (mCD 1 a4V (x6_ 2 z8_)) z3_)))))) (gN 7) (v8_ (y5_ (mT (mCD 1 a3Z (z6_ (z0_ 7) z8_)))) (q1_ (v8_ (mT (z5_ (dEq true) (a0E xN [false,false,false,false,false,false,false,true,false,false] (mCD 1 a1C (z6_ (z0_ 7) z8_)) (a0f 1 a3W (z6_ (z0_ 7) z8_)) a0v) (mC (.str "table")))) (q9_ (mC (.bl false))) mNx) (q1_ (v8_ (mT (z5_ (dEq true) (a0E xN [false,false,false,false,false,false,false,true,false,false] (mCD 1 a2l (z6_ (z0_ 7) z8_)) (a0f 1 a3X (z6_ (z0_ 7) z8_)) a0v) (mC (.str "table")))) (q9_ (mC (.bl false))) mNx) (v8_ (mT (z5_ (dEq true) (a0E xN [false,false,false,false,false,false,true,true,false,false] (mCD 3 a0H (z6_ (z0_ 7) (z6_ (z0_ 6) (z6_ (z0_ 6) z8_)))) (a0f 3 a1D (z6_ (z0_ 7) (z6_ (z0_ 6) (z6_ (z0_ 6) z8_)))) a0v) (mC (.str "table")))) (q9_ (mC (.bl false))) mNx))) mNx)))))))))) (q9_ (mC (.bl true)))))
def a6y:Fn:=fnM 10 a6x
theorem c1C{f Pt:Addr}{cd:Value}(F:Fun K "law" "law" a3T f fd)(hcd:fd.code=cd)(T:Txt K mg)(tb:TabF K mg base cd "law" Pt)(d__law_state:Def P w K mg base "_law_state" 2 2 a4S)(d__law_table:Def P w K mg base "_law_table" 2 2 a4U)(d_net_of:Def P w K mg base "net_of" 7 1 a1C)(d_kind_at:Def P w K mg base "kind_at" 7 3 a0H)(d__law_take:Def P w K mg base "_law_take" 1 2 w8_)(d__law_kinds_right:Def P w K mg base "_law_kinds_right" 8 1 a4X)(d__law_bent:Def P w K mg base "_law_bent" 2 2 a3o)(d__law_odd:Def P w K mg base "_law_odd" 2 1 a4V)(d__law_same:Def P w K mg base "_law_same" 7 2 (u4_ 6))(d__law_refused:RefDef P w K mg base "_law_refused" 9 8 a0v)(d__law_is_table:Def P w K mg base "_law_is_table" 2 1 a3Z)(d__law_net:Def P w K mg base "_law_net" 1 1 a2O)(d_kinds_of:Def P w K mg base "kinds_of" 7 1 a2l)(dx_net_of:DefX P w K mg base "net_of" 7 1 a3W)(dx_kind_at:DefX P w K mg base "kind_at" 7 3 a1D)(dx_kinds_of:DefX P w K mg base "kinds_of" 7 1 a3X):FnOk P w K mg base CX0 10 f fd ["_law_script"] (SpT K [Pt] 1 a6y):=
 b8P (N:=["_law_script","_law_k","_law_state_here","_law_side","_law_table_here","_law_turn","_law_odd_here","_law_thing","_law_row","_law_column"]) (mb:=a6x) F hcd b2L fun A outer s H E tbi hr=>by
  obtain⟨ps0,hP⟩:=tbi Pt (by simp)
  exact(by have n0:=b2L.nd;cases T;injections q6_ x9_ a1a a1x j5_ v7_ q2_ y2_ z4_ y2_ z4_ q0_ z7_ z7_ v1_ y2_ z4_ y2_ z4_ y2_ z4_ q0_ z4_ q0_ z7_ z7_ z4_ y2_ z4_ y2_ z4_ q0_ z7_ z4_ y2_ z4_ q0_ z7_ z7_ z7_ a1w j5_ v7_ q2_ y2_ z4_ y2_ z4_ q0_ z7_ z7_ q2_ q0_ q2_ q0_ v1_ y2_ z4_ q0_ z4_ q0_ z4_ q0_ z4_ q0_ z7_ q8_ y3_ k5_ x8_ q6_ a0a a0j z4_ x1_;exists (b0j rfl);injections z4_ q0_ z4_ x1_;exists (b0k rfl);injections z4_ x1_ x7_ z4_ z2_ z7_ z4_ q0_ z7_ z7_ z7_ y7_ q6_ a2s a7R q2_ z2_ q2_ z2_ v1_ q6_ x4_ v9_ q0_ v7_ a0r q2_ q0_ v1_ q6_ x4_ v7_ a0r q2_ z2_ v1_ q6_ a0a a0j z4_ q0_ z7_ y7_ q8_ x9_ j6_ j4_ v7_ q2_ v7_ q2_ z2_ v1_ q2_ v7_ q2_ z2_ v1_ v1_ q8_ y3_ k5_ x8_ q6_ x9_ j6_ j4_ v7_ q2_ z2_ v1_ q8_ y3_ k5_ x8_ q6_ x4_ k6_ y6_ w9_ z4_ z2_ z4_ a1W q0_ z4_ k5_ z4_ k5_ z4_ a1V z4_ j3_ z4_ y2_ z4_ q0_ z7_ z4_ v9_ q0_ q0_ z4_ y6_ w9_ z4_ q0_ z7_ z7_ v7_ a0r q2_ q0_ v1_ q6_ a0a j9_ y6_ w9_ z4_ y2_ z4_ z2_ z4_ q0_ z7_ z4_ y2_ z4_ v9_ z2_ q0_ z4_ z2_ z7_ z4_ y2_ z4_ z2_ z4_ z2_ z7_ z7_ a1Z a0i y7_ a0i y7_ a1Y q8_ x9_ j5_;exists (a6f (kc:=7) (N':=["-0","-1","-2","-3","_law_table_here","-5","-6","-7","_law_row","_law_column"]) (keep:=[false,false,false,false,true,false,false,false,true,true]) ?_ ?_ ?_ ?_ ?_ ?_ ?_ ?_ ?_ ?_ ?_ ?_ ?_ ?_ ?_ ?_ ?_ ?_ ?_);injections v7_ q2_ z2_ q2_ z2_ q2_ z2_ v1_ a2G PA.nox q2_ z2_ q2_ z2_ q2_ z2_ v1_ j3_ q8_ y3_ k5_ x8_ q8_ a0a j9_ y6_ w9_ z4_ v7_ a0r q2_ z2_ v1_ z4_ v7_ a0r q2_ z2_ v1_ z4_ v7_ a0r v1_ z7_ y7_ q8_ x9_ j6_ j4_ v7_ q2_ z2_ v1_ q6_ x9_ j5_;exists (a6f (kc:=7) (N':=["-0","-1","-2","-3","-4","-5","-6","_law_thing","-8","-9"]) (keep:=[false,false,false,false,false,false,false,true,false,false]) ?_ ?_ ?_ ?_ ?_ ?_ ?_ ?_ ?_ ?_ ?_ ?_ ?_ ?_ ?_ ?_ ?_ ?_ ?_);injections v7_ q2_ z2_ v1_ a2G PA.nox q2_ z2_ v1_ j3_ q8_ y3_ k5_ x8_ q6_ x9_ j5_;exists (a6f (kc:=7) (N':=["-0","-1","-2","-3","-4","-5","-6","_law_thing","-8","-9"]) (keep:=[false,false,false,false,false,false,false,true,false,false]) ?_ ?_ ?_ ?_ ?_ ?_ ?_ ?_ ?_ ?_ ?_ ?_ ?_ ?_ ?_ ?_ ?_ ?_ ?_);injections v7_ q2_ z2_ v1_ a2G PA.nox q2_ z2_ v1_ j3_ q8_ y3_ k5_ x8_ q8_ x9_ j5_;exists (a6f (kc:=7) (N':=["-0","-1","-2","-3","-4","-5","_law_odd_here","_law_thing","-8","-9"]) (keep:=[false,false,false,false,false,false,true,true,false,false]) ?_ ?_ ?_ ?_ ?_ ?_ ?_ ?_ ?_ ?_ ?_ ?_ ?_ ?_ ?_ ?_ ?_ ?_ ?_);injections v7_ q2_ z2_ q2_ z2_ q2_ z2_ v1_ a2G PA.nox q2_ z2_ q2_ z2_ q2_ z2_ v1_ j3_ q8_ y3_ k5_ x8_ x8_ q8_ y3_ k5_)
end
def isW:D->Bool
 |.int _=>true
 |_=>false
theorem a9t(d:D):a1L [.dat d]=some (.d (.bl (isW d)),[.dat d]):=by cases d<;>rfl
def isR(d:D)(n:Int):Bool:=match d with
 |.tup es=>(es.length:Int)==n&&es.all isW
 |_=>false
theorem c1D(d:D)(n:Int)(hn:n≤1000):a2k [.dat d,.dat (.int n)]=some (.d (.bl (isR d n)),[.dat d,.dat (.int n)]):=by
 cases d with
 |tup es=>
  by_cases h:(es.length:Int)=n
  ·have t:(w6_ (y5_ (mT (mIs "tuple" (z0_ 0)))) (mT (z5_ (dEq true) (mCB v3_ (z1_ (z0_ 0) z3_)) (z0_ 1)))) [.dat (.tup es),.dat (.int n)]=some (false,[.dat (.tup es),.dat (.int n)]):=by
    show some (!((es.length:Int)==n),_)=_;rw[h];simp
   obtain⟨e',h1,w,rfl⟩:=a7T (g:=gN 2) (m:=mCD 1 a1L (z6_ (z0_ 2) z8_)) (P:=fun e=>∃w,e=[.nil,.nil,w]) (f:=fun d=>.bl (isW d)) (ds:=es) (env:=[.nil,.nil,.nil])
    (fun d _ e ⟨w,he⟩=>by
     subst he;refine⟨[.nil,.nil,.dat d],[.nil,.nil,.dat d],rfl,?_,_,rfl⟩;show((a1L [.dat d]).map fun q=>(q.1,_)).bind asD=_
     rw[a9t];rfl) ⟨.nil,rfl⟩
   have hl:es.length≤100000:=by omega
   have c:(y1_ (y4_ (z0_ 0)) [false,false] 1 (gN 2) y8_ (mCD 1 a1L (z6_ (z0_ 2) z8_))) [.dat (.tup es),.dat (.int n)]=some (es.map fun d=>.bl (isW d),[.dat (.tup es),.dat (.int n)]):=by
    show(if es.length≤100000 then(j7_ _ _ _ es [.nil,.nil,.nil]).bind _ else none)=_
    rw[Qh hl,h1];rfl
   unfold a2k fnM a8Y;show(match q1_ _ _ [.dat (.tup es),.dat (.int n)]with|some (.ret d,env)=>_|some (.retL ds,env)=>_|some (.retX ks vs,env)=>_|some (.nx,env)=>_|_=>none)=_
   rw[w4_ (by rw[a1b t];rfl)]
   have r:(q9_ (mCB a0B (z1_ (mF (y1_ (y4_ (z0_ 0)) [false,false] 1 (gN 2) y8_ (mCD 1 a1L (z6_ (z0_ 2) z8_)))) z3_))) [.dat (.tup es),.dat (.int n)]=some (.ret (.bl (es.all isW)),[.dat (.tup es),.dat (.int n)]):=by
    unfold q9_ mCB z1_ mF;rw[c];show(((a0u (es.map fun d=>.bl (isW d))).map fun k=>D.bl k).map _).map _=_
    rw[a2C];rfl
   rw[r];show some (Rr.d (.bl (es.all isW)),_)=_
   simp[isR,h];rfl
  ·have t:(w6_ (y5_ (mT (mIs "tuple" (z0_ 0)))) (mT (z5_ (dEq true) (mCB v3_ (z1_ (z0_ 0) z3_)) (z0_ 1)))) [.dat (.tup es),.dat (.int n)]=some (true,[.dat (.tup es),.dat (.int n)]):=by
    show some (!((es.length:Int)==n),_)=_
    simp[h]
   unfold a2k fnM a8Y;show(match q1_ _ _ [.dat (.tup es),.dat (.int n)]with|some (.ret d,env)=>_|some (.retL ds,env)=>_|some (.retX ks vs,env)=>_|some (.nx,env)=>_|_=>none)=_
   rw[a1z (d:=.bl false) (by rw[a1m t];rfl)]
   simp[isR,h];rfl
 |_=>rfl
def isG(d:D)(m n:Int):Bool:=match d with
 |.tup es=>(es.length:Int)==m&&es.all fun r=>isR r n
 |_=>false
theorem c1E(d:D)(k n:Int)(hk:k≤1000)(hn:n≤1000):a4J [.dat d,.dat (.int k),.dat (.int n)]=some (.d (.bl (isG d k n)),[.dat d,.dat (.int k),.dat (.int n)]):=by
 cases d with
 |tup es=>
  by_cases h:(es.length:Int)=k
  ·have t:(w6_ (y5_ (mT (mIs "tuple" (z0_ 0)))) (mT (z5_ (dEq true) (mCB v3_ (z1_ (z0_ 0) z3_)) (z0_ 1)))) [.dat (.tup es),.dat (.int k),.dat (.int n)]=some (false,[.dat (.tup es),.dat (.int k),.dat (.int n)]):=by
    show some (!((es.length:Int)==k),_)=_;rw[h];simp
   obtain⟨e',h1,w,rfl⟩:=a7T (g:=gN 3) (m:=mCD 2 a2k (z6_ (z0_ 3) (z6_ (z0_ 2) z8_))) (P:=fun e=>∃w,e=[.nil,.nil,.dat (.int n),w]) (f:=fun d=>.bl (isR d n)) (ds:=es) (env:=[.nil,.nil,.dat (.int n),.nil])
    (fun d _ e ⟨w,he⟩=>by
     subst he;refine⟨[.nil,.nil,.dat (.int n),.dat d],[.nil,.nil,.dat (.int n),.dat d],rfl,?_,_,rfl⟩;show((a2k [.dat d,.dat (.int n)]).map fun q=>(q.1,_)).bind asD=_
     rw[c1D d n hn];rfl) ⟨.nil,rfl⟩
   have hl:es.length≤100000:=by omega
   have c:(y1_ (y4_ (z0_ 0)) [false,false,true] 1 (gN 3) y8_ (mCD 2 a2k (z6_ (z0_ 3) (z6_ (z0_ 2) z8_)))) [.dat (.tup es),.dat (.int k),.dat (.int n)]=some (es.map fun d=>.bl (isR d n),[.dat (.tup es),.dat (.int k),.dat (.int n)]):=by
    show(if es.length≤100000 then(j7_ _ _ _ es [.nil,.nil,.dat (.int n),.nil]).bind _ else none)=_
    rw[Qh hl,h1];rfl
   refine(w2_ (d:=.bl (isG (.tup es) k n)) (env:=[.dat (.tup es),.dat (.int k),.dat (.int n)]) ?_).trans rfl;show a4I [.dat (.tup es),.dat (.int k),.dat (.int n)]=_;unfold a4I;rw[w4_ (by rw[a1b t];rfl)]
   unfold q9_ mCB z1_ mF;rw[c];show(((a0u (es.map fun d=>.bl (isR d n))).map fun k=>D.bl k).map _).map _=_
   rw[a2C]
   simp[isG,h]
  ·have t:(w6_ (y5_ (mT (mIs "tuple" (z0_ 0)))) (mT (z5_ (dEq true) (mCB v3_ (z1_ (z0_ 0) z3_)) (z0_ 1)))) [.dat (.tup es),.dat (.int k),.dat (.int n)]=some (true,[.dat (.tup es),.dat (.int k),.dat (.int n)]):=by
    show some (!((es.length:Int)==k),_)=_
    simp[h]
   refine(w2_ (d:=.bl (isG (.tup es) k n)) (env:=[.dat (.tup es),.dat (.int k),.dat (.int n)]) ?_).trans rfl;show a4I [.dat (.tup es),.dat (.int k),.dat (.int n)]=_;unfold a4I;rw[a1z (d:=.bl false) (by rw[a1m t];rfl)]
   simp[isG,h]
 |_=>rfl
def isS(d:D)(a b:Int):Bool:=match d with
 |.tup es=>(decide (a≤(es.length:Int))&&decide ((es.length:Int)≤b))&&es.all fun r=>isR r es.length
 |_=>false
theorem c1F(d:D)(a b:Int)(hb:b≤1000):a3U [.dat d,.dat (.int a),.dat (.int b)]=some (.d (.bl (isS d a b)),[.dat d,.dat (.int a),.dat (.int b)]):=by
 cases d with
 |tup es=>
  have t:(w6_ (y5_ (mT (mIs "tuple" (z0_ 0)))) (y5_ (mT (a0K dLe dLe (z0_ 1) (mCB v3_ (z1_ (z0_ 0) z3_)) (z0_ 2))))) [.dat (.tup es),.dat (.int a),.dat (.int b)]=some (!(decide (a≤(es.length:Int))&&decide ((es.length:Int)≤b)),[.dat (.tup es),.dat (.int a),.dat (.int b)]):=by
   by_cases h1:a≤(es.length:Int)
   ·have e1:dLe (.int a) (.int es.length)=some (.bl true):=by show some (D.bl (decide _))=_;simp[h1]
    show(((match dLe (.int a) (.int es.length)with|some (.bl true)=>_|some (.bl false)=>_|_=>none:Option (D×Env')).bind asB).map _)=_
    rw[e1,Ji h1];rfl
   ·have e1:dLe (.int a) (.int es.length)=some (.bl false):=by show some (D.bl (decide _))=_;simp[h1]
    show(((match dLe (.int a) (.int es.length)with|some (.bl true)=>_|some (.bl false)=>_|_=>none:Option (D×Env')).bind asB).map _)=_
    rw[e1,Qe h1];rfl
  by_cases h:(decide (a≤(es.length:Int))&&decide ((es.length:Int)≤b))=true
  ·rw[h]at t
   refine(w2_ (d:=.bl (isS (.tup es) a b)) (env:=[.dat (.tup es),.dat (.int a),.dat (.int b)]) ?_).trans rfl;show a4K [.dat (.tup es),.dat (.int a),.dat (.int b)]=_;unfold a4K;rw[w4_ (by rw[a1b t];rfl)]
   have hl:(es.length:Int)≤1000:=by
    rw[Qp,Zi,Zi]at h
    omega
   show(((a4J [.dat (.tup es),.dat (.int es.length),.dat (.int es.length)]).map fun q=>(q.1,_)).bind asD).map _=_
   rw[c1E _ _ _ hl hl]
   simp[isS,isG,h,asD]
  ·have h':(decide (a≤(es.length:Int))&&decide ((es.length:Int)≤b))=false:=by simpa using h
   rw[h']at t;refine(w2_ (d:=.bl (isS (.tup es) a b)) (env:=[.dat (.tup es),.dat (.int a),.dat (.int b)]) ?_).trans rfl;show a4K [.dat (.tup es),.dat (.int a),.dat (.int b)]=_;unfold a4K;rw[a1z (d:=.bl false) (by rw[a1m t];rfl)]
   simp[isS,h']
 |_=>rfl
def dR(l:List Int):D:=.tup (l.map .int)
def dT(R:OI):D:=.tup (R.map dR)
def unI:D->Int
 |.int i=>i
 |_=>0
def unR:D->List Int
 |.tup es=>es.map unI
 |.lst es=>es.map unI
 |_=>[]
def unT:D->OI
 |.tup es=>es.map unR
 |_=>[]
theorem c1G(h:isW d=true):d=.int (unI d):=by cases d<;>first|rfl|cases h
theorem b2M{es:List D}(h:es.all isW=true):es=(es.map unI).map .int:=by
 induction es with
 |nil=>rfl
 |cons d es ih=>
  rw[Jy,Qp]at h;rw[Qd,Qd,←c1G h.1,←ih h.2]
theorem a6z{n:Int}(h:isR d n=true):d=dR (unR d)/\((unR d).length:Int)=n:=by
 cases d<;>first|cases h|skip
 rename_i es;simp only[isR,Qp,Ju]at h;refine⟨?_,by simp[unR,h.1]⟩
 show D.tup es=.tup ((es.map unI).map .int);rw[←b2M h.2]
theorem b2N(h:isS d a b=true):d=dT (unT d)/\a≤((unT d).length:Int)/\((unT d).length:Int)≤b/\∀r∈unT d,r.length=(unT d).length:=by
 cases d<;>first|cases h|skip
 rename_i es;simp only[isS,Qp,Zi,Qw]at h;refine⟨?_,by simpa [unT]using h.1.1,by simpa [unT]using h.1.2,fun r hr=>?_⟩
 ·show D.tup es=.tup ((es.map unR).map dR)
  congr 1
  rw[Zk]
  conv=>lhs;rw[←Xy es]
  exact Zu fun x hx=>(a6z (h.2 x hx)).1
 ·obtain⟨x,hx,rfl⟩:=Qa.mp hr
  have:=(a6z (h.2 x hx)).2;simp only[unT,Qv]
  omega
theorem c1H(l:List Int):(l.map D.int).map unI=l:=by rw[Zk];exact Xy l
theorem b2O(l:List Int):unR (dR l)=l:=c1H l
theorem a6A(R:OI):unT (dT R)=R:=by
 show(R.map dR).map unR=R;rw[Zk]
 conv=>rhs;rw[←Xy R]
 exact Zu fun r _=>b2O r
theorem c1I(l:List Int):isR (dR l) l.length=true:=by
 simp[isR,dR,isW]
theorem b2P(h1:a≤R.length)(h2:(R.length:Int)≤b)(h:∀r∈R,r.length=R.length):isS (dT R) a b=true:=by
 simp only[isS,dT,Qv,Qp,Zi,Qw];refine⟨⟨h1,h2⟩,fun x hx=>?_⟩
 obtain⟨r,hr,rfl⟩:=Qa.mp hx;have:=c1I r;rw[h r hr]at this;exact this
theorem a1E{xs:List α}{j:Nat}{x:α}(h:xs[j]? =some x):atI xs (j:Int)=some x:=by
 have hj:j<xs.length:=(Qy.mp h).1
 unfold atI ixN;rw[Qh (by omega),Qh (by omega)]
 simpa using h
theorem a4a(n:Nat):a0M 0 n=(List.range n).map fun(i:Nat)=>D.int i:=by
 unfold a0M;exact Zu fun i _=>by simp
theorem a4b{g:OZ}{m:Mo D}{P:Env'->Prop}{q:α->D}{f:α->D}{l:List α}{env:Env'}(h:∀a∈l,∀e,P e->∃e1 e2,g (q a) e=some e1/\m e1=some (f a,e2)/\P e2)(p:P env):
  ∃env',j7_ g y8_ m (l.map q) env=some (l.map f,env')/\P env':=by
 induction l generalizing env with
 |nil=>exact⟨env,rfl,p⟩
 |cons a l ih=>
  obtain⟨e1,e2,h1,h2,h3⟩:=h a (by simp) env p
  obtain⟨e3,h4,h5⟩:=ih (fun x hx=>h x (by simp[hx])) h3
  refine⟨e3,?_,h5⟩;rw[Qd,Qd];unfold j7_;rw[h1];simp only[Qk,y8_,Yw];rw[h2];simp only[Qk];rw[h4];rfl
def flip(n:Nat)(R:OI):OI:=(List.range n).map fun j=>R.map fun r=>r.getD j 0
theorem c1J(h:∀r∈R,r.length=n){j:Nat}(hj:j<n){r:List Int}(hr:r∈R):dIx (dR r) (.int (j:Int))=some (.int (r.getD j 0)):=by
 show atI (r.map D.int) (j:Int)=_
 apply a1E
 have:=h r hr
 simp[Zz (show j<r.length by omega)]
theorem b2Q(hR:R≠[])(h:∀r∈R,r.length=n)(hn:n≤1000)(hl:R.length≤1000):a1q [.dat (dT R)]=some (.d (dT (flip n R)),[.dat (dT R)]):=by
 obtain⟨r0,R',rfl⟩:∃r0 R',R=r0::R':=by
  cases R with
  |nil=>exact absurd rfl hR
  |cons a b=>exact⟨a,b,rfl⟩
 have h0:r0.length=n:=h r0 (by simp)
 have inner:∀j,j<n->(mCB a0s (z1_ (mF (y1_ (y4_ (z0_ 0)) [false,true] 1 (gN 2) y8_ (z5_ dIx (z0_ 2) (z0_ 1)))) z3_)) [.dat (dT (r0::R')),.dat (.int (j:Int))]=some (dR ((r0::R').map fun r=>r.getD j 0),[.dat (dT (r0::R')),.dat (.int (j:Int))]):=fun j hj=>by
  obtain⟨e',h1,w',rfl⟩:=a4b (g:=gN 2) (m:=z5_ dIx (z0_ 2) (z0_ 1)) (P:=fun e=>∃w,e=[.nil,.dat (.int (j:Int)),w]) (q:=dR) (f:=fun r=>.int (r.getD j 0)) (l:=r0::R') (env:=[.nil,.dat (.int (j:Int)),.nil])
   (fun r hr e ⟨w,he⟩=>by
    subst he;refine⟨[.nil,.dat (.int (j:Int)),.dat (dR r)],[.nil,.dat (.int (j:Int)),.dat (dR r)],rfl,?_,_,rfl⟩;show(dIx (dR r) (.int (j:Int))).map _=_;rw[c1J h hj hr];rfl) ⟨.nil,rfl⟩
  have hl':((r0::R').map dR).length≤100000:=by rw[Qv];omega
  have c:(y1_ (y4_ (z0_ 0)) [false,true] 1 (gN 2) y8_ (z5_ dIx (z0_ 2) (z0_ 1))) [.dat (dT (r0::R')),.dat (.int (j:Int))]=some ((r0::R').map fun r=>.int (r.getD j 0),[.dat (dT (r0::R')),.dat (.int (j:Int))]):=by
   show(if((r0::R').map dR).length≤100000 then(j7_ _ _ _ ((r0::R').map dR) [.nil,.dat (.int (j:Int)),.nil]).bind _ else none)=_
   rw[Qh hl',h1];rfl
  unfold mCB z1_ mF;rw[c];show some (D.tup _,_)=_;unfold dR;rw[Zk];rfl
 obtain⟨e',h1,w,rfl⟩:=a4b (g:=gN 1) (m:=mCB a0s (z1_ (mF (y1_ (y4_ (z0_ 0)) [false,true] 1 (gN 2) y8_ (z5_ dIx (z0_ 2) (z0_ 1)))) z3_)) (P:=fun e=>∃w,e=[.dat (dT (r0::R')),w]) (q:=fun(j:Nat)=>D.int j) (f:=fun j=>dR ((r0::R').map fun r=>r.getD j 0)) (l:=List.range n) (env:=[.dat (dT (r0::R')),.nil])
  (fun j hj e ⟨w,he⟩=>by
   subst he;exact⟨_,_,rfl,inner j (Zl.mp hj),_,rfl⟩) ⟨.nil,rfl⟩
 refine(w2_ (d:=dT (flip n (r0::R'))) (env:=[.dat (dT (r0::R'))]) ?_).trans rfl;show a8Z [.dat (dT (r0::R'))]=_;unfold a8Z;have hrg:(w3_ (z1_ (mCB v3_ (z1_ (z5_ dIx (z0_ 0) (mC (.int 0))) z3_)) z3_)) [.dat (dT (r0::R'))]=some (a0M 0 n,[.dat (dT (r0::R'))]):=by
  have e:(z1_ (mCB v3_ (z1_ (z5_ dIx (z0_ 0) (mC (.int 0))) z3_)) z3_) [.dat (dT (r0::R'))]=some ([.int (n:Int)],[.dat (dT (r0::R'))]):=by
   refine q3_ (k2_ (q3_ (q7_ rfl rfl (show dIx (dT (r0::R')) (.int 0)=some (dR r0)from a1E (xs:=(r0::R').map dR) (j:=0) rfl)) rfl) ?_) rfl
   show some (D.int ((r0.map D.int).length:Nat))=_;rw[Qv,h0]
  have:=a5T e (by omega) (by omega)
  rwa [Zo]at this
 have c:(y1_ (w3_ (z1_ (mCB v3_ (z1_ (z5_ dIx (z0_ 0) (mC (.int 0))) z3_)) z3_)) [true] 1 (gN 1) y8_ (mCB a0s (z1_ (mF (y1_ (y4_ (z0_ 0)) [false,true] 1 (gN 2) y8_ (z5_ dIx (z0_ 2) (z0_ 1)))) z3_))) [.dat (dT (r0::R'))]=some ((List.range n).map fun j=>dR ((r0::R').map fun r=>r.getD j 0),[.dat (dT (r0::R'))]):=by
  refine a3d (e2:=[.dat (dT (r0::R')),w]) hrg (by rw[a4a];simp;omega) ?_ rfl
  rw[a4a];exact h1
 refine g5_ (k2_ (q3_ (k9_ c) rfl) ?_);show some (D.tup _)=_;unfold dT flip;rw[Zk];rfl
def tt:Int->List Int->Bool
 |s,[]=>s==1
 |s,x::l=>(s+x==0||s+x==1)&&tt (s+x) l
abbrev a1s:Mo Fl:=(q1_ (a5F 1 a5B (z0_ 2)) (v8_ (mT (z5_ (dIn true) (z0_ 1) (q5_ (z1_ (mC (.int 0)) (z1_ (mC (.int 1)) z3_))))) (q9_ (mC (.bl false))) mNx))
theorem c1K(L:D)(s x:Int):a1s [.dat L,.dat (.int s),.dat (.int x)]=some (stop (s+x==0||s+x==1) (.bl false),[.dat L,.dat (.int (s+x)),.dat (.int x)]):=by
 have t:(mT (z5_ (dIn true) (z0_ 1) (q5_ (z1_ (mC (.int 0)) (z1_ (mC (.int 1)) z3_))))) [.dat L,.dat (.int (s+x)),.dat (.int x)]=some (!(s+x==0||s+x==1),[.dat L,.dat (.int (s+x)),.dat (.int x)]):=by
  show some (!(List.contains [(0:Int),1] (s+x)),_)=_;rw[Tj,Tj,List.contains_nil,Bool.or_false]
 unfold a1s;rw[w4_ (e1:=[.dat L,.dat (.int (s+x)),.dat (.int x)]) rfl];cases hb:(s+x==0||s+x==1)with
 |true=>rw[hb]at t;rw[a1b t];rfl
 |false=>rw[hb]at t;rw[a1m t];rfl
theorem b2R(L:D):∀(l:List Int) (s:Int) (w:W),(∃s' w',loop (gN 2) a1s (l.map .int) [.dat L,.dat (.int s),w]=some (.nx,[.dat L,.dat (.int s'),w'])/\tt s l=(s'==1))∨(tt s l=false/\∃e,loop (gN 2) a1s (l.map .int) [.dat L,.dat (.int s),w]=some (.ret (.bl false),e)/\e.length=3/\e[0]? =some (.dat L))
 |[],s,w=>.inl ⟨s,w,rfl,rfl⟩
 |x::l,s,w=>by
  have h:=c1K L s x
  cases hb:(s+x==0||s+x==1)with
  |true=>
   rw[hb]at h;have e:∀r,loop (gN 2) a1s ((x::l).map .int) [.dat L,.dat (.int s),w]=r↔loop (gN 2) a1s (l.map .int) [.dat L,.dat (.int (s+x)),.dat (.int x)]=r:=fun r=>by
    rw[Qd];have:loop (gN 2) a1s (D.int x::l.map .int) [.dat L,.dat (.int s),w]=loop (gN 2) a1s (l.map .int) [.dat L,.dat (.int (s+x)),.dat (.int x)]:=by
     show(a1s [.dat L,.dat (.int s),.dat (.int x)]).bind _=_;rw[h];rfl
    rw[this]
   have et:tt s (x::l)=tt (s+x) l:=by simp[tt,hb]
   rw[et]
   rcases b2R L l (s+x) (.dat (.int x))with⟨s',w',h1,h2⟩|⟨h1,e',h2,h3⟩
   ·exact .inl ⟨s',w',(e _).mpr h1,h2⟩
   ·exact .inr ⟨h1,e',(e _).mpr h2,h3⟩
  |false=>
   rw[hb]at h;refine .inr ⟨by simp[tt,hb],[.dat L,.dat (.int (s+x)),.dat (.int x)],?_,rfl,rfl⟩
   rw[Qd];show(a1s [.dat L,.dat (.int s),.dat (.int x)]).bind _=_;rw[h];rfl
theorem c1L(l:List Int):a3l [.dat (dR l)]=some (.d (.bl (tt 0 l)),[.dat (dR l)]):=by
 have hi:(w7_ (y4_ (z0_ 0)) (gN 2) a1s) [.dat (dR l),.dat (.int 0),.nil]=loop (gN 2) a1s (l.map .int) [.dat (dR l),.dat (.int 0),.nil]:=rfl
 rcases b2R (dR l) l 0 .nil with⟨s',w',h1,h2⟩|⟨h1,e',h2,h3,h4⟩
 ·refine(w2_ (d:=.bl (tt 0 l)) (env:=[.dat (dR l),.dat (.int s'),w']) ?_).trans rfl
  show a4N [.dat (dR l),.nil,.nil]=_;unfold a4N;rw[w4_ (e1:=[.dat (dR l),.dat (.int 0),.nil]) rfl,w4_ (hi.trans h1)];show some (Fl.ret (.bl (s'==1)),_)=_;rw[h2]
 ·refine(w2_ (d:=.bl (tt 0 l)) (env:=e') ?_).trans ?_
  ·show a4N [.dat (dR l),.nil,.nil]=_
   unfold a4N;rw[w4_ (e1:=[.dat (dR l),.dat (.int 0),.nil]) rfl,a1z (hi.trans h2),h1]
  ·match e',h3,h4 with
   |[a,b,c],_,h4=>cases h4;rfl
def isT(d:D):Bool:=isS d 1 6&&(unT d++flip (unT d).length (unT d)).all (tt 0)
theorem b2S:(flip n R).length=n:=by simp[flip]
theorem b2T(d:D):a3V [.dat d]=some (.d (.bl (isT d)),[.dat d]):=by
 have t:(y5_ (mT (mCD 3 a3U (z6_ (z0_ 0) (z6_ (mC (.int 1)) (z6_ (mC (.int 6)) z8_)))))) [.dat d]=some (!isS d 1 6,[.dat d]):=by
  show((((a3U [.dat d,.dat (.int 1),.dat (.int 6)]).map fun q=>(q.1,_)).bind asD).bind asB).map _=_
  rw[c1F d 1 6 (by decide)];rfl
 refine(w2_ (d:=.bl (isT d)) (env:=[.dat d]) ?_).trans rfl;show a9c [.dat d]=_;unfold a9c;cases hs:isS d 1 6 with
 |false=>
  rw[hs]at t;rw[a1z (d:=.bl false) (by rw[a1m t];rfl)]
  simp[isT,hs]
 |true=>
  rw[hs]at t;rw[w4_ (by rw[a1b t];rfl)]
  obtain⟨h1,h2,h3,h4⟩:=b2N hs;generalize unT d=R at h1 h2 h3 h4;subst h1;have fl:a1q [.dat (dT R)]=some (.d (dT (flip R.length R)),[.dat (dT R)]):=b2Q (by intro z;subst z;simp at h2) h4 (by omega) (by omega)
  have it:(y4_ (z5_ v5_ (z0_ 0) (mCD 1 a1q (z6_ (z0_ 0) z8_)))) [.dat (dT R)]=some ((R++flip R.length R).map dR,[.dat (dT R)]):=by
   show(((((a1q [.dat (dT R)]).map fun q=>(q.1,_)).bind asD).bind fun q=>(v5_ (dT R) q.1).map fun d=>(d,q.2)).bind _)=_
   rw[fl];show((v5_ (dT R) (dT (flip R.length R))).map fun d=>(d,([.dat (dT R)]:Env'))).bind _=_
   have:v5_ (dT R) (dT (flip R.length R))=some (.tup ((R++flip R.length R).map dR)):=by
    show(if(R.map dR).length+((flip R.length R).map dR).length≤10000 then _ else none)=_
    rw[Qh (by rw[Qv,Qv,b2S];omega),Yn]
   rw[this];rfl
  obtain⟨e',h5,w,rfl⟩:=a4b (g:=gN 1) (m:=mCD 1 a3l (z6_ (z0_ 1) z8_)) (P:=fun e=>∃w,e=[.nil,w]) (q:=dR) (f:=fun r=>.bl (tt 0 r)) (l:=R++flip R.length R) (env:=[.nil,.nil])
   (fun r _ e ⟨w,he⟩=>by
    subst he;refine⟨[.nil,.dat (dR r)],[.nil,.dat (dR r)],rfl,?_,_,rfl⟩;show((a3l [.dat (dR r)]).map fun q=>(q.1,_)).bind asD=_
    rw[c1L];rfl) ⟨.nil,rfl⟩
  have c:(y1_ (y4_ (z5_ v5_ (z0_ 0) (mCD 1 a1q (z6_ (z0_ 0) z8_)))) [false] 1 (gN 1) y8_ (mCD 1 a3l (z6_ (z0_ 1) z8_))) [.dat (dT R)]=some ((R++flip R.length R).map fun r=>.bl (tt 0 r),[.dat (dT R)]):=by
   unfold y1_;rw[it];show(if((R++flip R.length R).map dR).length≤100000 then(j7_ _ _ _ ((R++flip R.length R).map dR) [.nil,.nil]).bind _ else none)=_
   rw[Qh (by rw[Qv,Qt,b2S];omega),h5];rfl
  unfold q9_ mCB z1_ mF;rw[c];show(((a0u ((R++flip R.length R).map fun r=>.bl (tt 0 r))).map fun k=>D.bl k).map _).map _=_
  rw[a2C];simp only[isT,hs,a6A,Yy];rfl
theorem a4c(h:a2X i j=true):u3_ (.int i) (.int j)=some (.int (i * j)):=by
 unfold u3_ fOr a7l fI;simp only[h,Yw]
theorem a4Y(h1: -18446744073709551616<i)(h2:i<18446744073709551616):a2X i j=true:=by
 unfold a2X;rw[show((2:Int)^64)=18446744073709551616 from rfl]
 simp[h1,h2]
theorem c1M(h1: -18446744073709551616<j)(h2:j<18446744073709551616):a2X i j=true:=by
 unfold a2X;rw[show((2:Int)^64)=18446744073709551616 from rfl]
 simp[h1,h2]
theorem a2m:∀l:List Int,k8_ (l.map D.int)=l.map PyData.int
 |[]=>rfl
 |x::l=>by show PyData.int x::k8_ (l.map D.int)=_;rw[a2m l];rfl
theorem a6B:∀l:List Int,PyData.canLayAll0 (l.map PyData.int)=true
 |[]=>rfl
 |x::l=>by show(true&&PyData.canLayAll0 (l.map PyData.int))=true;rw[a6B l];rfl
theorem a6C:∀l:List Int,PyData.depthAll (l.map PyData.int)=0
 |[]=>rfl
 |x::l=>by show max 0 (PyData.depthAll (l.map PyData.int))=0;rw[a6C l];rfl
theorem a9u:∀l k:List Int,PyData.eqvAll (l.map PyData.int) (k.map PyData.int)=decide (l=k)
 |[],[]=>rfl
 |[],_::_=>rfl
 |_::_,[]=>rfl
 |x::l,y::k=>by
  show((x==y)&&PyData.eqvAll (l.map PyData.int) (k.map PyData.int))=_;rw[a9u l k]
  by_cases h:x=y
  ·subst h;simp
  ·simp[h]
theorem b2U(l:List Int):shp (.lst (l.map D.int))=true:=by
 unfold shp SeqAt.shaped;show(PyData.canLayAll0 (k8_ (l.map D.int))&&decide (PyData.depthAll (k8_ (l.map D.int))+1≤64))=true;rw[a2m,a6B,a6C];rfl
theorem c1N(l k:List Int):dEq false (.lst (l.map D.int)) (.lst (k.map D.int))=some (.bl (decide (l=k))):=by
 unfold dEq;rw[b2U,b2U];show some (D.bl (PyData.eqvAll (k8_ (l.map D.int)) (k8_ (k.map D.int))))=_;rw[a2m,a2m,a9u]
theorem a9v{α:Type}{g:OZ}{t:Mo Bool}{m:Mo D}{P:Env'->Prop}{q:α->D}{f:α->D}{p:α->Bool}:∀{l:List α}{env:Env'},(∀a∈l,∀e,P e->∃e1 e2,g (q a) e=some e1/\t e1=some (p a,e2)/\(p a=true->∃e3,m e2=some (f a,e3)/\P e3)/\(p a=false->P e2))->P env->
  ∃env',j7_ g t m (l.map q) env=some ((l.filter p).map f,env')/\P env'
 |[],env,_,h=>⟨env,rfl,h⟩
 |a::l,env,h,hp=>by
  obtain⟨e1,e2,h1,h2,h3,h4⟩:=h a (by simp) env hp
  cases hb:p a with
  |true=>
   obtain⟨e3,h5,h6⟩:=h3 hb;obtain⟨e4,h7,h8⟩:=a9v (l:=l) (fun x hx=>h x (by simp[hx])) h6
   refine⟨e4,?_,h8⟩;rw[Qd,Uc hb,Qd];unfold j7_;rw[h1];simp only[Qk];rw[h2,hb];simp only[Qk,Yw];rw[h5];simp only[Qk];rw[h7];rfl
  |false=>
   obtain⟨e4,h7,h8⟩:=a9v (l:=l) (fun x hx=>h x (by simp[hx])) (h4 hb)
   refine⟨e4,?_,h8⟩;rw[Qd,Ul (by simp[hb])]
   unfold j7_;rw[h1];simp only[Qk];rw[h2,hb];simp only[Qk,Qs,Zc];exact h7
def inB(d:D)(a b:Int):Bool:=match d with
 |.int i=>decide (a≤i)&&decide (i≤b)
 |_=>false
theorem a9w{e:Env'}{ma mb mc:Mo D}(h1:ma e=some (.int a,e))(h2:mb e=some (.int i,e))(h3:mc e=some (.int b,e)):a0K dLe dLe ma mb mc e=some (.bl (decide (a≤i)&&decide (i≤b)),e):=by
 unfold a0K;rw[h1];show(mb e).bind _=_;rw[h2]
 by_cases h:a≤i
 ·have e1:dLe (.int a) (.int i)=some (.bl true):=by show some (D.bl (decide _))=_;simp[h]
  simp only[Qk,e1];rw[h3];show some (D.bl (decide (i≤b)),e)=_
  simp[h]
 ·have e1:dLe (.int a) (.int i)=some (.bl false):=by show some (D.bl (decide _))=_;simp[h]
  simp only[Qk,e1]
  simp[h]
theorem c1O(d:D):a1O [.dat d]=some (.d (.bl (isW d)),[.dat d]):=by cases d<;>rfl
def tt2(l:List Int):Bool:=decide (l.filter (fun x=>!(x==0))=(List.range (l.filter fun x=>!(x==0)).length).map fun(i:Nat)=>1-2 * ((i:Int)%2))&&(((l.filter fun x=>!(x==0)).length:Int)%2==1)
theorem b2V(d:D)(l:List Int)(hd:d.items=some (l.map .int))(hl:l.length≤1000):a2N [.dat d]=some (.d (.bl (tt2 l)),[.dat d]):=by
 obtain⟨e',h1,w,rfl⟩:=a9v (g:=gN 2) (t:=mT (z5_ (dEq true) (z0_ 2) (mC (.int 0)))) (m:=z0_ 2) (P:=fun e=>∃w,e=[.nil,.nil,w]) (q:=D.int) (f:=D.int) (p:=fun x=>!(x==0)) (l:=l) (env:=[.nil,.nil,.nil])
  (fun x _ e ⟨w,he⟩=>by
   subst he;exact⟨[.nil,.nil,.dat (.int x)],[.nil,.nil,.dat (.int x)],rfl,rfl,fun _=>⟨_,rfl,_,rfl⟩,fun _=>⟨_,rfl⟩⟩) ⟨.nil,rfl⟩
 generalize hs:l.filter (fun x=>!(x==0))=s at h1
 have hsl:s.length≤1000:=by rw[←hs];exact Zt (List.length_filter_le _ _) hl
 have c1:(y1_ (y4_ (z0_ 0)) [false,false] 1 (gN 2) (mT (z5_ (dEq true) (z0_ 2) (mC (.int 0)))) (z0_ 2)) [.dat d,.nil]=some (s.map .int,[.dat d,.nil]):=
  a3d (e2:=[.nil,.nil,w]) (a1A rfl hd) (by rw[Qv];omega) h1 rfl
 obtain⟨e',h2,w2,rfl⟩:=a4b (g:=gN 2) (m:=z5_ a1g (mC (.int 1)) (z5_ u3_ (mC (.int 2)) (z5_ g8_ (z0_ 2) (mC (.int 2))))) (P:=fun e=>∃w,e=[.nil,.nil,w]) (q:=fun(i:Nat)=>D.int i) (f:=fun i=>.int (1-2 * ((i:Int)%2))) (l:=List.range s.length) (env:=[.nil,.nil,.nil])
  (fun i _ e ⟨w,he⟩=>by
   subst he;refine⟨[.nil,.nil,.dat (.int i)],[.nil,.nil,.dat (.int i)],rfl,?_,_,rfl⟩;refine q7_ (b:=.int (2 * ((i:Int)%2))) rfl (q7_ rfl (q7_ rfl rfl (show g8_ (.int i) (.int 2)=some (.int ((i:Int)%2))from rfl)) ?_) rfl
   exact a4c (a4Y (by decide) (by decide))) ⟨.nil,rfl⟩
 have c2:(y1_ (w3_ (z1_ (mCB v3_ (z1_ (z0_ 1) z3_)) z3_)) [false,false] 1 (gN 2) y8_ (z5_ a1g (mC (.int 1)) (z5_ u3_ (mC (.int 2)) (z5_ g8_ (z0_ 2) (mC (.int 2)))))) [.dat d,.dat (.lst (s.map .int))]=some (((List.range s.length).map fun(i:Nat)=>1-2 * ((i:Int)%2)).map D.int,[.dat d,.dat (.lst (s.map .int))]):=by
  have r1:(w3_ (z1_ (mCB v3_ (z1_ (z0_ 1) z3_)) z3_)) [.dat d,.dat (.lst (s.map .int))]=some (a0M 0 s.length,[.dat d,.dat (.lst (s.map .int))]):=by
   have e:(z1_ (mCB v3_ (z1_ (z0_ 1) z3_)) z3_) [.dat d,.dat (.lst (s.map .int))]=some ([.int (s.length:Int)],[.dat d,.dat (.lst (s.map .int))]):=by
    refine q3_ (k2_ (q3_ rfl rfl) ?_) rfl;show some (D.int ((s.map D.int).length:Nat))=_;rw[Qv]
   have:=a5T e (by omega) (by omega)
   rwa [Zo]at this
  refine a3d (e2:=[.nil,.nil,w2]) r1 (by rw[a4a];simp;omega) ?_ rfl
  rw[a4a,Zk];exact h2
 refine(w2_ (d:=.bl (tt2 l)) (env:=[.dat d,.dat (.lst (s.map .int))]) ?_).trans rfl;show a9m [.dat d,.nil]=_;unfold a9m;rw[w4_ (b1m c1)];show q9_ _ [.dat d,.own (s.map .int)]=_;refine g5_ ?_
 have a1:(z5_ (dEq false) (z0_ 1) (mF (y1_ (w3_ (z1_ (mCB v3_ (z1_ (z0_ 1) z3_)) z3_)) [false,false] 1 (gN 2) y8_ (z5_ a1g (mC (.int 1)) (z5_ u3_ (mC (.int 2)) (z5_ g8_ (z0_ 2) (mC (.int 2)))))))) [.dat d,.dat (.lst (s.map .int))]=some (.bl (decide (s=(List.range s.length).map fun(i:Nat)=>1-2 * ((i:Int)%2))),[.dat d,.dat (.lst (s.map .int))]):=
  q7_ (e1:=[.dat d,.dat (.lst (s.map .int))]) rfl (k9_ c2) (c1N _ _)
 have a2:(z5_ (dEq false) (z5_ g8_ (mCB v3_ (z1_ (z0_ 1) z3_)) (mC (.int 2))) (mC (.int 1))) [.dat d,.own (s.map .int)]=some (.bl ((s.length:Int)%2==1),[.dat d,.dat (.lst (s.map .int))]):=by
  refine q7_ (e1:=[.dat d,.dat (.lst (s.map .int))]) (q7_ (e1:=[.dat d,.dat (.lst (s.map .int))]) (k2_ (q3_ rfl rfl) (show v3_ [.lst (s.map .int)]=some (.int (s.length:Int))from ?_)) rfl rfl) rfl rfl
  show some (D.int ((s.map D.int).length:Nat))=_;rw[Qv]
 unfold a0h;rw[a2];simp only[Qk];unfold tt2;rw[hs];cases hb:((s.length:Int)%2==1)with
 |true=>simp only[Bool.and_true];exact a1
 |false=>simp only[Bool.and_false]
def alt:Int->Nat->List Int
 |_,0=>[]
 |s,k+1=>(1-2 * s)::alt (1-s) k
theorem b2W:∀(k j:Nat),(List.range' j k).map (fun(i:Nat)=>1-2 * ((i:Int)%2))=alt ((j:Int)%2) k
 |0,_=>rfl
 |k+1,j=>by
  rw[Ts,Qd,b2W k (j+1)];show _=(1-2 * ((j:Int)%2))::alt (1-(j:Int)%2) k
  congr 2
  omega
theorem c1P(k:Nat):(List.range k).map (fun(i:Nat)=>1-2 * ((i:Int)%2))=alt 0 k:=by
 rw[List.range_eq_range'];exact b2W k 0
def small(x:Int):Bool:=decide (-1≤x)&&decide (x≤1)
theorem c1Q(l:List Int):∀s:Int,(s=0∨s=1)->tt s l=tt s (l.filter fun x=>!(x==0)):=by
 induction l with
 |nil=>intro s _;rfl
 |cons x l ih=>
  intro s hs
  by_cases hx:x=0
  ·subst hx
   rw[Ul (by simp),←ih s hs]
   rcases hs with rfl|rfl<;>simp[tt]
  ·rw[Uc (by simp[hx])]
   simp only[tt]
   by_cases h:(s+x==0||s+x==1)=true
   ·rw[h,Yy,Yy]
    exact ih (s+x) (by simpa using h)
   ·have h':(s+x==0||s+x==1)=false:=by simpa using h
    rw[h',Jf,Jf]
theorem c1R(l:List Int):∀s:Int,(s=0∨s=1)->(∀x∈l,x=1∨x= -1)->tt s l=(decide (l=alt s l.length)&&((l.length:Int)+s)%2==1):=by
 induction l with
 |nil=>intro s hs _;rcases hs with rfl|rfl<;>rfl
 |cons x l ih=>
  intro s hs hx;have hx1:=hx x (by simp)
  have ih':=fun s hs=>ih s hs fun y hy=>hx y (by simp[hy])
  simp only[tt,Jg,alt]
  rcases hs with rfl|rfl
  ·rcases hx1 with rfl|rfl
   ·have:=ih' 1 (.inr rfl)
    show(true&&tt 1 l)=(decide (1::l=(1:Int)::alt 1 l.length)&&((((l.length+1:Nat):Int)+0)%2==1));have e1:decide (1::l=(1:Int)::alt 1 l.length)=decide (l=alt 1 l.length):=by simp
    have e2:((l.length:Int)+1)=(((l.length+1:Nat):Int)+0):=by omega
    rw[Yy,this,e1,e2]
   ·simp[show((0:Int)+ -1==0||(0:Int)+ -1==1)=false from rfl]
  ·rcases hx1 with rfl|rfl
   ·simp[show((1:Int)+1==0||(1:Int)+1==1)=false from rfl]
   ·have:=ih' 0 (.inl rfl)
    show(true&&tt 0 l)=(decide (-1::l=(-1:Int)::alt 0 l.length)&&((((l.length+1:Nat):Int)+1)%2==1));have e1:decide (-1::l=(-1:Int)::alt 0 l.length)=decide (l=alt 0 l.length):=by simp
    have e2:((l.length:Int)+0)%2=(((l.length+1:Nat):Int)+1)%2:=by omega
    rw[Yy,this,e1,e2]
theorem b2X(l:List Int)(h:∀x∈l,small x=true):tt 0 l=tt2 l:=by
 rw[c1Q l 0 (.inl rfl),c1R _ 0 (.inl rfl) (fun x hx=>?_)]
 ·unfold tt2
  rw[c1P,Int.add_zero]
 ·obtain⟨h1,h2⟩:=Vy.mp hx
  have:=h x h1
  simp[small]at this h2
  omega
theorem b2Y(l:List Int):∀s:Int,(s=0∨s=1)->tt s l=true->∀x∈l,small x=true:=by
 induction l with
 |nil=>intro s _ _ x hx;cases hx
 |cons y l ih=>
  intro s hs h x hx;simp only[tt,Qp]at h;have h1:s+y=0∨s+y=1:=by simpa using h.1
  rcases Qc.mp hx with rfl|hx
  ·simp[small];omega
  ·exact ih (s+y) h1 h.2 x hx
theorem c1S(l:List Int):tt 0 l=(l.all small&&tt2 l):=by
 by_cases h:l.all small=true
 ·rw[h,Yy];exact b2X l (Qw.mp h)
 ·have h':l.all small=false:=by simpa using h
  rw[h',Jf];cases ht:tt 0 l with
  |false=>rfl
  |true=>exact absurd (Qw.mpr (b2Y l 0 (.inl rfl) ht)) h
theorem b2Z{k:Int}(h:a5A i j=true)(e:i^j.toNat=k):a0J (.int i) (.int j)=some (.int k):=by
 show(if a5A i j=true then some (D.int (i^j.toNat))else none)=_
 rw[Qh h,e]
theorem b3a:a0J (.int 10) (.int 18)=some (.int 1000000000000000000):=b2Z (by decide+kernel) (by decide+kernel)
theorem a4Z{m:Int}{b:Bool}(ha:0≤a)(h1:1≤m)(h2:m<1073741824):∃v a',w8_ [.par [.int a,.bl b],.dat (.int m)]=some (.d (.int v),[.par [.int a',.bl b],.dat (.int m)])/\0≤v/\v<m/\0≤a':=by
 have dm:∀x:Int,g8_ (.int x) (.int m)=some (.int (x%m)):=fun x=>by
  show(if decide (0<m)=true then _ else none)=_
  rw[Qh (by simp;omega)]
 have dd:∀x:Int,a4n (.int x) (.int m)=some (.int (x/m)):=fun x=>by
  show(if a5z x m=true then _ else none)=_
  rw[Qh (by unfold a5z;simp;omega)]
 cases b with
 |true=>
  refine⟨a%m,a/m,?_,Ui _ (by omega),Vt _ (by omega),Int.ediv_nonneg ha (by omega)⟩
  refine(w2_ (d:=.int (a%m)) (env:=[.par [.int (a/m),.bl true],.dat (.int m),.nil,.dat (.int (a%m))]) ?_).trans rfl;show a4T [.par [.int a,.bl true],.dat (.int m),.nil,.nil]=_;unfold a4T;have t:(mT (g9_ 0 (mC (.int 1)))) [.par [.int a,.bl true],.dat (.int m),.nil,.nil]=some (true,[.par [.int a,.bl true],.dat (.int m),.nil,.nil]):=rfl;have s1:(v6_ 3 (z5_ g8_ (g9_ 0 (mC (.int 0))) (z0_ 1))) [.par [.int a,.bl true],.dat (.int m),.nil,.nil]=some (.nx,[.par [.int a,.bl true],.dat (.int m),.nil,.dat (.int (a%m))]):=a0C (e1:=[.par [.int a,.bl true],.dat (.int m),.nil,.nil]) (q7_ rfl rfl (dm a));have s2:(u9_ (z5_ a4n (g9_ 0 (mC (.int 0))) (z0_ 1)) (gS 0 (mC (.int 0)))) [.par [.int a,.bl true],.dat (.int m),.nil,.dat (.int (a%m))]=some (.nx,[.par [.int (a/m),.bl true],.dat (.int m),.nil,.dat (.int (a%m))]):=by
   unfold u9_;rw[q7_ (c:=.int (a/m)) rfl rfl (dd a)];rfl
  rw[a1z (d:=.int (a%m)) (by rw[a1m t,w4_ s1,w4_ s2];rfl)]
 |false=>
  have e1:∀x:Int,u3_ (.int x) (.int 48271)=some (.int (x * 48271)):=fun x=>a4c (c1M (by decide) (by decide))
  have md:∀(x k:Int),0<k->g8_ (.int x) (.int k)=some (.int (x%k)):=fun x k hk=>by
   show(if decide (0<k)=true then _ else none)=_
   rw[Qh (by simp;omega)]
  let p:Int:=(a * 48271+29)%2147483647
  have hp:0≤p/\p<2147483647:=⟨Ui _ (by decide),Vt _ (by decide)⟩
  let q:Int:=(p * p+39373 * p+7)%2147483629
  have hq:0≤q/\q<2147483629:=⟨Ui _ (by decide),Vt _ (by decide)⟩
  let r:Int:=(q * q+16807 * q)%2147483587
  have hr:0≤r:=Ui _ (by decide)
  refine⟨r/8%m,p,?_,Ui _ (by omega),Vt _ (by omega),hp.1⟩
  refine(w2_ (d:=.int (r/8%m)) (env:=[.par [.int p,.bl false],.dat (.int m),.dat (.int r),.nil]) ?_).trans rfl;show a4T [.par [.int a,.bl false],.dat (.int m),.nil,.nil]=_;unfold a4T;have t:(mT (g9_ 0 (mC (.int 1)))) [.par [.int a,.bl false],.dat (.int m),.nil,.nil]=some (false,[.par [.int a,.bl false],.dat (.int m),.nil,.nil]):=rfl;have s1:(u9_ (z5_ g8_ (z5_ v5_ (z5_ u3_ (g9_ 0 (mC (.int 0))) (mC (.int 48271))) (mC (.int 29))) (mC (.int 2147483647))) (gS 0 (mC (.int 0)))) [.par [.int a,.bl false],.dat (.int m),.nil,.nil]=some (.nx,[.par [.int p,.bl false],.dat (.int m),.nil,.nil]):=by
   unfold u9_;rw[q7_ (c:=.int p) (q7_ (c:=.int (a * 48271+29)) (q7_ rfl rfl (e1 a)) rfl rfl) rfl (md _ _ (by decide))];rfl
  have s2:(v6_ 2 (z5_ g8_ (z5_ v5_ (z5_ v5_ (z5_ u3_ (g9_ 0 (mC (.int 0))) (g9_ 0 (mC (.int 0)))) (z5_ u3_ (mC (.int 39373)) (g9_ 0 (mC (.int 0))))) (mC (.int 7))) (mC (.int 2147483629)))) [.par [.int p,.bl false],.dat (.int m),.nil,.nil]=some (.nx,[.par [.int p,.bl false],.dat (.int m),.dat (.int q),.nil]):=
   a0C (e1:=[.par [.int p,.bl false],.dat (.int m),.nil,.nil]) (q7_ (c:=.int q) (q7_ (c:=.int (p * p+39373 * p+7)) (q7_ (c:=.int (p * p+39373 * p)) (q7_ rfl rfl (a4c (i:=p) (j:=p) (a4Y (by omega) (by omega)))) (q7_ rfl rfl (a4c (i:=39373) (j:=p) (a4Y (by decide) (by decide)))) rfl) rfl rfl) rfl (md _ _ (by decide)))
  have s3:(v6_ 2 (z5_ g8_ (z5_ v5_ (z5_ u3_ (z0_ 2) (z0_ 2)) (z5_ u3_ (mC (.int 16807)) (z0_ 2))) (mC (.int 2147483587)))) [.par [.int p,.bl false],.dat (.int m),.dat (.int q),.nil]=some (.nx,[.par [.int p,.bl false],.dat (.int m),.dat (.int r),.nil]):=
   a0C (e1:=[.par [.int p,.bl false],.dat (.int m),.dat (.int q),.nil]) (q7_ (c:=.int r) (q7_ (c:=.int (q * q+16807 * q)) (q7_ rfl rfl (a4c (i:=q) (j:=q) (a4Y (by omega) (by omega)))) (q7_ rfl rfl (a4c (i:=16807) (j:=q) (a4Y (by decide) (by decide)))) rfl) rfl (md _ _ (by decide)))
  rw[w4_ (by rw[a1b t];rfl),w4_ s1,w4_ s2,w4_ s3]
  exact g5_ (q7_ (c:=.int (r/8%m)) (q7_ (c:=.int (r/8)) rfl rfl rfl) rfl (dm _))
theorem c1T(ns:List Int)(k:Nat)(hk:k<1000):∃c,a4Q [.dat (.lst (ns.map .int)),.dat (.int k)]=some (.d (.int c),[.dat (.lst (ns.map .int)),.dat (.int k)]):=by
 have t:(mT (z5_ dLt (z0_ 1) (mCB v3_ (z1_ (z0_ 0) z3_)))) [.dat (.lst (ns.map .int)),.dat (.int k)]=some (decide ((k:Int)<(ns.length:Int)),[.dat (.lst (ns.map .int)),.dat (.int k)]):=by
  show some (decide ((k:Int)<((ns.map D.int).length:Nat)),_)=_;rw[Qv]
 by_cases h:k<ns.length
 ·have hd:decide ((k:Int)<(ns.length:Int))=true:=by simp;omega
  rw[hd]at t;refine⟨ns[k],(w2_ (d:=.int ns[k]) (env:=[.dat (.lst (ns.map .int)),.dat (.int k)]) ?_).trans rfl⟩;show a4P [.dat (.lst (ns.map .int)),.dat (.int k)]=_;unfold a4P;rw[a1z (d:=.int ns[k]) (by
   rw[a1m t];exact g5_ (q7_ rfl rfl (show atI (ns.map D.int) (k:Int)=_ from a1E (by simp[h]))))]
 ·have hd:decide ((k:Int)<(ns.length:Int))=false:=by simp;omega
  rw[hd]at t;refine⟨0,(w2_ (d:=.int 0) (env:=[.dat (.lst (ns.map .int)),.dat (.int k)]) ?_).trans rfl⟩;show a4P [.dat (.lst (ns.map .int)),.dat (.int k)]=_;unfold a4P;rw[w4_ (by rw[a1b t];rfl)];rfl
theorem c1U(ns:List Int)(k:Nat)(hk:k<1000):∃a b,0≤a/\a4S [.dat (.lst (ns.map .int)),.dat (.int k)]=some (.l [.int a,.bl b],[.dat (.lst (ns.map .int)),.dat (.int k)]):=by
 obtain⟨c,hc⟩:=c1T ns k hk;have s1:(v6_ 2 (mCD 2 a4Q (z6_ (z0_ 0) (z6_ (z0_ 1) z8_)))) [.dat (.lst (ns.map .int)),.dat (.int k),.nil]=some (.nx,[.dat (.lst (ns.map .int)),.dat (.int k),.dat (.int c)]):=
  a0C (e1:=[.dat (.lst (ns.map .int)),.dat (.int k),.nil]) (a1B (a2e (av:=[.d (.lst (ns.map .int)),.d (.int k)]) rfl rfl rfl hc))
 have t:(mT (z5_ dGe (z0_ 2) (z5_ a0J (mC (.int 10)) (mC (.int 18))))) [.dat (.lst (ns.map .int)),.dat (.int k),.dat (.int c)]=some (decide (1000000000000000000≤c),[.dat (.lst (ns.map .int)),.dat (.int k),.dat (.int c)]):=by
  refine j2_ (q7_ (b:=.int 1000000000000000000) rfl ?_ rfl);exact q7_ rfl rfl b3a
 by_cases h:1000000000000000000≤c
 ·rw[Ji h]at t
  refine⟨c-1000000000000000000,true,by omega,(b1k (d:=[.int (c-1000000000000000000),.bl true]) (env:=[.dat (.lst (ns.map .int)),.dat (.int k),.dat (.int c)]) ?_).trans rfl⟩
  show a4R [.dat (.lst (ns.map .int)),.dat (.int k),.nil]=_;unfold a4R;rw[w4_ s1];have r:(a2Y (x3_ (z1_ (z5_ a1g (z0_ 2) (z5_ a0J (mC (.int 10)) (mC (.int 18)))) (z1_ (mC (.bl true)) z3_)))) [.dat (.lst (ns.map .int)),.dat (.int k),.dat (.int c)]=some (.retL [.int (c-1000000000000000000),.bl true],[.dat (.lst (ns.map .int)),.dat (.int k),.dat (.int c)]):=by
   have b:=q7_ (f:=a1g) (ma:=z0_ 2) (mb:=z5_ a0J (mC (.int 10)) (mC (.int 18))) (env:=[.dat (.lst (ns.map .int)),.dat (.int k),.dat (.int c)]) (b:=.int 1000000000000000000) (c:=.int (c-1000000000000000000)) rfl (q7_ rfl rfl b3a) rfl
   refine b7R ?_
   unfold x3_;rw[q3_ b (q3_ rfl rfl)];rfl
  unfold q1_;rw[a1m t,r];rfl
 ·rw[Qe h]at t
  refine⟨c%2147483647,false,Ui _ (by decide),(b1k (d:=[.int (c%2147483647),.bl false]) (env:=[.dat (.lst (ns.map .int)),.dat (.int k),.dat (.int c)]) ?_).trans rfl⟩
  show a4R [.dat (.lst (ns.map .int)),.dat (.int k),.nil]=_;unfold a4R;rw[w4_ s1,w4_ (by rw[a1b t];rfl)];rfl
def bits:Nat->OI
 |0=>[[]]
 |n+1=>(bits n).map (fun l=>0::l)++(bits n).map (fun l=>1::l)
def a0g(h r:List Int):List Int:=List.zipWith (· + ·) h r
def b3b(h:List Int)(d:D):Bool:=isR d h.length&&(tt 0 (unR d)&&(a0g h (unR d)).all fun x=>x==0||x==1)
def chk(h:List Int):Bool:=match a3m [.dat (dR h)]with
 |some (.l ds,_)=>ds.all (b3b h)&&((h.all fun x=>x==1)||(decide (1≤ds.length)&&decide (ds.length≤1000)))
 |_=>false
theorem c1V:(bits 1).all chk=true:=by decide+kernel
theorem c1W:(bits 2).all chk=true:=by decide+kernel
theorem c1X:(bits 3).all chk=true:=by decide+kernel
theorem c1Y:(bits 4).all chk=true:=by decide+kernel
theorem c1Z:(bits 5).all chk=true:=by decide+kernel
theorem c2a:(bits 6).all chk=true:=by decide+kernel
end K21
namespace L2.Mir
open PySem L2
variable{as:Mo (List Ar)}{av:List Ar}{base e env:Env'}{k n:Nat}{m:Mo D}{mi:Mo (List D)}{r:Option (Fl×Env')}{u:Mo Bool}{v w:W}{xs:List D}{α:Type}
abbrev rgD(n:Nat):List D:=(List.range n).map fun(i:Nat)=>D.int (i:Int)
theorem c2b(n:Nat):a0M 0 n=rgD n:=by
 unfold a0M rgD;exact Zu fun i _=>by simp
theorem a1F{M:Mo D}{e1:Env'}{j:Int}(hM:M e=some (.int j,e1))(hj:j=(n:Int))(hn:n≤10000):w3_ (z1_ M z3_) e=some (rgD n,e1):=by
 subst hj;have:=a5T (ms:=z1_ M z3_) (env:=e) (e1:=e1) (j:=(n:Int)) (by unfold z1_ z3_;rw[hM];rfl) (by omega) (by omega)
 rw[this,Zo,c2b]
theorem c2c(h:base.length=k):(base++[w]).set k v=base++[v]:=by
 subst h;simp
theorem c2d{w2 v2:W}(h:base.length=k):((base++[w,w2]).set k v).set (k+1) v2=base++[v,v2]:=by
 subst h;rw[List.set_append_right _ _ (Qb _),Nat.sub_self,List.set_append_right _ _ (by omega)]
 simp
theorem b3c{α:Type}{t:Mo Bool}{m:Mo D}{base:Env'}{q f:α->D}{p:α->Bool}{k:Nat}(hk:base.length=k):∀{l:List α},(∀a∈l,t (base++[.dat (q a)])=some (p a,base++[.dat (q a)])/\(p a=true->m (base++[.dat (q a)])=some (f a,base++[.dat (q a)])))->∀w,∃w',j7_ (gN k) t m (l.map q) (base++[w])=some ((l.filter p).map f,base++[w'])
 |[],_,w=>⟨w,rfl⟩
 |a::l,h,w=>by
  obtain⟨h1,h2⟩:=h a (by simp)
  obtain⟨w',e⟩:=b3c hk (l:=l) (fun x hx=>h x (by simp[hx])) (.dat (q a))
  refine⟨w',?_⟩;rw[Qd];unfold j7_ gN;rw[Qk,c2c hk,h1,Qk];cases hp:p a with
  |false=>simp only[Qs,Zc];rw[Ul (by simp[hp])];exact e
  |true=>
   simp only[Yw];rw[h2 hp,Qk,Uc hp,Qd];show(j7_ (gN k) t m (l.map q) (base++[.dat (q a)])).map _=_;rw[e];rfl
theorem b3d{keep:List Bool}{t:Mo Bool}{l:List α}{q f:α->D}{p:α->Bool}(hi:mi env=some (l.map q,env))(hl:l.length≤100000)(hb:u2_ keep 0 env=base)(hk:base.length=k)
  (h:∀a∈l,t (base++[.dat (q a)])=some (p a,base++[.dat (q a)])/\(p a=true->m (base++[.dat (q a)])=some (f a,base++[.dat (q a)])))(ho:∀w,g3_ keep env (base++[w])=some env):y1_ mi keep 1 (gN k) t m env=some ((l.filter p).map f,env):=by
 obtain⟨w',e⟩:=b3c hk h .nil;refine a3d hi (by simpa using hl) (e2:=base++[w']) ?_ (ho w')
 have:u2_ keep 1 env=base++[.nil]:=by rw[←hb];unfold u2_;simp
 rw[this];exact e
theorem a1P{keep:List Bool}{l:List α}{q f:α->D}(hi:mi env=some (l.map q,env))(hl:l.length≤100000)(hb:u2_ keep 0 env=base)(hk:base.length=k)
  (h:∀a∈l,m (base++[.dat (q a)])=some (f a,base++[.dat (q a)]))(ho:∀w,g3_ keep env (base++[w])=some env):y1_ mi keep 1 (gN k) y8_ m env=some (l.map f,env):=by
 have:=b3d (p:=fun _=>true) (t:=y8_) hi hl hb hk (fun a ha=>⟨rfl,fun _=>h a ha⟩) ho
 rw[this,List.filter_eq_self.mpr (fun _ _=>rfl)]
theorem b3e{α:Type}{t:Mo Bool}{m:Mo D}{base:Env'}{q q2 f:α->D}{p:α->Bool}{k:Nat}(hk:base.length=k):∀{l:List α},(∀a∈l,t (base++[.dat (q a),.dat (q2 a)])=some (p a,base++[.dat (q a),.dat (q2 a)])/\(p a=true->m (base++[.dat (q a),.dat (q2 a)])=some (f a,base++[.dat (q a),.dat (q2 a)])))->∀w w2,∃w' w2',j7_ (gT 2 (gCn (gN k) (gCn (gN (k+1)) gNl))) t m (l.map fun a=>.tup [q a,q2 a]) (base++[w,w2])=some ((l.filter p).map f,base++[w',w2'])
 |[],_,w,w2=>⟨w,w2,rfl⟩
 |a::l,h,w,w2=>by
  obtain⟨h1,h2⟩:=h a (by simp)
  obtain⟨w',w2',e⟩:=b3e hk (l:=l) (fun x hx=>h x (by simp[hx])) (.dat (q a)) (.dat (q2 a))
  refine⟨w',w2',?_⟩;rw[Qd];unfold j7_;have hg:gT 2 (gCn (gN k) (gCn (gN (k+1)) gNl)) (.tup [q a,q2 a]) (base++[w,w2])=some (base++[.dat (q a),.dat (q2 a)]):=by
   show some (((base++[w,w2]).set k _).set (k+1) _)=_;rw[c2d hk]
  rw[hg,Qk,h1,Qk];cases hp:p a with
  |false=>simp only[Qs,Zc];rw[Ul (by simp[hp])];exact e
  |true=>
   simp only[Yw];rw[h2 hp,Qk,Uc hp,Qd];show(j7_ _ t m (l.map _) (base++[.dat (q a),.dat (q2 a)])).map _=_;rw[e];rfl
theorem c2e{keep:List Bool}{t:Mo Bool}{l:List α}{q q2 f:α->D}{p:α->Bool}(hi:mi env=some (l.map (fun a=>.tup [q a,q2 a]),env))(hl:l.length≤100000)(hb:u2_ keep 0 env=base)(hk:base.length=k)
  (h:∀a∈l,t (base++[.dat (q a),.dat (q2 a)])=some (p a,base++[.dat (q a),.dat (q2 a)])/\(p a=true->m (base++[.dat (q a),.dat (q2 a)])=some (f a,base++[.dat (q a),.dat (q2 a)])))(ho:∀w w2,g3_ keep env (base++[w,w2])=some env):
  y1_ mi keep 2 (gT 2 (gCn (gN k) (gCn (gN (k+1)) gNl))) t m env=some ((l.filter p).map f,env):=by
 obtain⟨w',w2',e⟩:=b3e hk h .nil .nil;refine a3d hi (by simpa using hl) (e2:=base++[w',w2']) ?_ (ho w' w2')
 have:u2_ keep 2 env=base++[.nil,.nil]:=by rw[←hb];unfold u2_;simp
 rw[this];exact e
theorem b3f{keep:List Bool}{l:List α}{q q2 f:α->D}(hi:mi env=some (l.map (fun a=>.tup [q a,q2 a]),env))(hl:l.length≤100000)(hb:u2_ keep 0 env=base)(hk:base.length=k)
  (h:∀a∈l,m (base++[.dat (q a),.dat (q2 a)])=some (f a,base++[.dat (q a),.dat (q2 a)]))(ho:∀w w2,g3_ keep env (base++[w,w2])=some env):y1_ mi keep 2 (gT 2 (gCn (gN k) (gCn (gN (k+1)) gNl))) y8_ m env=some (l.map f,env):=by
 have:=c2e (p:=fun _=>true) (t:=y8_) hi hl hb hk (fun a ha=>⟨rfl,fun _=>h a ha⟩) ho
 rw[this,List.filter_eq_self.mpr (fun _ _=>rfl)]
theorem b3g{g:OZ}{b:Mo Fl}:∀{ds:List D}{P:Nat->Env'->Prop}{env:Env'},(∀i d e,ds[i]? =some d->P i e->∃e1 e2,g d e=some e1/\b e1=some (.nx,e2)/\P (i+1) e2)->P 0 env->∃env',loop g b ds env=some (.nx,env')/\P ds.length env'
 |[],P,env,_,p=>⟨env,rfl,p⟩
 |d::ds,P,env,h,p=>by
  obtain⟨e1,e2,h1,h2,h3⟩:=h 0 d env rfl p;obtain⟨e3,h4,h5⟩:=b3g (ds:=ds) (P:=fun i e=>P (i+1) e) (fun i x e hi q=>h (i+1) x e (by simpa using hi) q) h3
  refine⟨e3,?_,h5⟩;unfold loop;rw[h1];simp only[Qk];rw[h2];exact h4
theorem a3p{g:OZ}{b:Mo Fl}(P:Nat->Env'->Prop)(h:∀i<n,∀e,P i e->∃e1 e2,g (.int (i:Int)) e=some e1/\b e1=some (.nx,e2)/\P (i+1) e2)(p:P 0 env):∃env',loop g b (rgD n) env=some (.nx,env')/\P n env':=by
 obtain⟨e',h1,h2⟩:=b3g (ds:=rgD n) (g:=g) (b:=b) (P:=P) (env:=env) (fun i d e hi q=>by
  unfold rgD at hi;rw[Zd]at hi
  by_cases hl:i<n
  ·rw[List.getElem?_range hl]at hi
   cases hi;exact h i hl e q
  ·rw[List.getElem?_eq_none (by simpa using hl)]at hi;cases hi) p
 refine⟨e',h1,?_⟩;have:(rgD n).length=n:=by simp[rgD]
 rw[this]at h2;exact h2
theorem b3h{i:Nat}:a0O xs none (some (i:Int))=xs.take i:=by
 unfold a0O;rw[HT.sIx_nat,HT.sIx_none];simp only[List.drop_zero,Nat.sub_zero]
 by_cases h:i≤xs.length
 ·rw[Pz h]
 ·rw[Nat.min_eq_right (by omega),Ua (Qb _),Ua (by omega)]
theorem a5n{ml mh:Mo (Option Int)}{lo hi:Option Int}(h:m e=some (.tup xs,e))(h1:ml e=some (lo,e))(h2:mh e=some (hi,e)):mSl m ml mh e=some (.tup (a0O xs lo hi),e):=by
 unfold mSl;rw[h,Qk,h1,Qk,h2];rfl
theorem a6D(l:List Int):ints? (l.map D.int)=some l:=by
 induction l with
 |nil=>rfl
 |cons a l ih=>show(ints? (l.map D.int)).map _=_;rw[ih];rfl
theorem y9_{m n:Mo Fl}{e1:Env'}(h:m e=some (.nx,e1))(h2:n e1=r):q1_ m n e=r:=by unfold q1_;rw[h];exact h2
theorem a9x{t:Mo Bool}{m n:Mo Fl}{e1:Env'}(h:t e=some (true,e1))(h2:m e1=r):v8_ t m n e=r:=by unfold v8_;rw[h];exact h2
theorem a0w{t:Mo Bool}{m n:Mo Fl}{e1:Env'}(h:t e=some (false,e1))(h2:n e1=r):v8_ t m n e=r:=by unfold v8_;rw[h];exact h2
theorem c2f{t:Mo Bool}{e1:Env'}(h:t e=some (true,e1)):w6_ t u e=some (true,e1):=by unfold w6_;rw[h];rfl
theorem a6E{t:Mo Bool}{e1:Env'}{r:Option (Bool×Env')}(h:t e=some (false,e1))(h2:u e1=r):w6_ t u e=r:=by unfold w6_;rw[h];exact h2
theorem a1Q{f:Fn}{e1:Env'}{r:D}{ws':List W}(h:as env=some (av,e1))(hn:av.length=n)(hs:slots av=[])(hf:f (av.map (a0c (.l [])))=some (.d r,ws')):mCD n f as env=some (r,e1):=a1B (a2e h hn hs hf)
theorem a6F{names:List Str}{keep:List Bool}{mb:Mo D}{xb:Mx}{fr:Option Str->Option D}{lw:Env'}{n:Str}{d:D}(hw:a2I keep env=lw)(hx:xb lw=some n)(hn:names.contains n=true)(hf:fr (some n)=some d):a0E names keep mb xb fr env=some (d,env):=by
 unfold a0E outcome;rw[hw,hx];simp only[hn,Yw,Qk];rw[hf];rfl
theorem c2g{C N:Nat}(hC:1≤C)(hC2:C≤900){body last:Mo Fl}{ns:List Int}(hb:∀k:Nat,k<1000->∀ws:List W,ws.length=N->∃ws':List W,ws'.length=N+1/\body (.dat (.lst (ns.map D.int))::.dat (.int (k:Int))::ws)=some (.nx,.dat (.lst (ns.map D.int))::ws'))
  (hl:∀ws:List W,ws.length=N+1->∃e,last (.dat (.lst (ns.map D.int))::ws)=some (.ret (.bl true),e)):
  ∃ws',fnM (N+2) (q1_ (w7_ (w3_ (z1_ (mCB a3G (z1_ (mC (.int 1)) (z1_ (mCB a3H (z1_ (mCB v3_ (z1_ (z0_ 0) z3_)) (z1_ (mC (.int (C:Int))) z3_))) z3_))) z3_)) (gN 1) body) last) [.dat (.lst (ns.map D.int))]=some (.d (.bl true),ws'):=by
 obtain⟨K,hK,hr⟩:∃K:Nat,K≤C/\(w3_ (z1_ (mCB a3G (z1_ (mC (.int 1)) (z1_ (mCB a3H (z1_ (mCB v3_ (z1_ (z0_ 0) z3_)) (z1_ (mC (.int (C:Int))) z3_))) z3_))) z3_)) (.dat (.lst (ns.map D.int))::List.replicate (N+1) .nil)=some (rgD K,.dat (.lst (ns.map D.int))::List.replicate (N+1) .nil):=by
  let q:Int:=if(C:Int)<(ns.length:Int)then C else(ns.length:Int)
  let p:Int:=if q>1 then q else 1
  have hq:q≤C:=by simp only[q];split<;>omega
  have hp:1≤p/\p≤C:=by simp only[p];split<;>omega
  refine⟨p.toNat,by omega,a1F (j:=p) (k2_ (q3_ rfl (q3_ (k2_ (q3_ (k2_ (q3_ rfl rfl) (show v3_ [.lst (ns.map .int)]=some (.int (ns.length:Int))from ?_)) (q3_ rfl rfl)) (show a3H [.int (ns.length:Int),.int C]=some (.int q)from rfl)) rfl)) (show a3G [.int 1,.int q]=some (.int p)from rfl)) (by omega) (by omega)⟩
  show some (D.int ((ns.map D.int).length:Nat))=_;rw[Qv]
 obtain⟨e',h1,ws,hws,rfl⟩:=a3p (g:=gN 1) (b:=body) (n:=K) (fun _ e=>∃ws:List W,ws.length=N+1/\e=.dat (.lst (ns.map D.int))::ws) (env:=.dat (.lst (ns.map D.int))::List.replicate (N+1) .nil)
  (fun i hi e ⟨ws,hw,he⟩=>by
   subst he
   match ws,hw with
   |w::ws,hw=>
    obtain⟨ws',h1,h2⟩:=hb i (by omega) ws (by simpa using hw)
    exact⟨_,_,rfl,h2,ws',h1,rfl⟩) ⟨_,by simp,rfl⟩
 obtain⟨e2,h2⟩:=hl ws hws;refine⟨_,w2_ (d:=.bl true) (env:=e2) ?_⟩;show q1_ _ _ (.dat (.lst (ns.map D.int))::List.replicate (N+1) .nil)=_;exact y9_ ((a1c hr).trans h1) h2
theorem a2P{g:List W->Option Str}{e1:Env'}{r:Option Str}(h:as env=some (av,e1))(hn:av.length=n)(hs:slots av=[])(hg:g (av.map (a0c (.l [])))=r):a0f n g as env=r:=by
 unfold a0f;rw[h,Qk];simp only[hn,Yw,hs];exact hg
end L2.Mir
namespace K21
open PySem L2 L2.Mir
variable{a few:Int}{b:Bool}{d:D}{e:Env'}{es:List D}{h l r:List Int}{i j k m n:Nat}{rows:OI}{w1 w2 w3 w5 w6 w7 w8:W}
structure HB(h:List Int)(n:Nat):Prop where
 len:h.length=n
 bit:∀x∈h,x=0∨x=1
theorem HB.mem:∀{n:Nat}{h:List Int},HB h n->h∈bits n
 |0,h,H=>by
  have:=H.len;cases h with
  |nil=>simp[bits]
  |cons _ _=>simp at this
 |n+1,h,H=>by
  cases h with
  |nil=>have:=H.len;simp at this
  |cons x l=>
   have hl:HB l n:=⟨by have:=H.len;simpa using this,fun y hy=>H.bit y (by simp[hy])⟩
   have:=hl.mem;unfold bits;rw[Ym,Qa,Qa]
   rcases H.bit x (by simp)with rfl|rfl
   ·exact .inl ⟨l,this,rfl⟩
   ·exact .inr ⟨l,this,rfl⟩
theorem c2h(h1:1≤n)(h6:n≤6)(H:HB h n):chk h=true:=by
 have hm:=H.mem
 match n,h1,h6 with
 |1,_,_=>exact Qw.mp c1V h hm
 |2,_,_=>exact Qw.mp c1W h hm
 |3,_,_=>exact Qw.mp c1X h hm
 |4,_,_=>exact Qw.mp c1Y h hm
 |5,_,_=>exact Qw.mp c1Z h hm
 |6,_,_=>exact Qw.mp c2a h hm
structure LineOk(h r:List Int):Prop where
 len:r.length=h.length
 tt:tt 0 r=true
 bit:∀x∈a0g h r,x=0∨x=1
theorem c2i(h1:1≤n)(h6:n≤6)(H:HB h n)(hs:∃x∈h,x≠1):∃(rows:OI) (ws':List W),a3m [.dat (dR h)]=some (.l (rows.map dR),ws')/\1≤rows.length/\rows.length≤1000/\∀r∈rows,LineOk h r:=by
 have hc:=c2h h1 h6 H
 unfold chk at hc;split at hc
 ·rename_i ds ws' e
  rw[Qp]at hc;have hl:1≤ds.length/\ds.length≤1000:=by
   have h2:=hc.2
   rw[To]at h2
   rcases h2 with h2|h2
   ·obtain⟨x,hx,hne⟩:=hs
    have:=Qw.mp h2 x hx
    simp at this
    exact absurd this hne
   ·rw[Qp,Zi,Zi]at h2
    exact h2
  have ok:∀d∈ds,d=dR (unR d)/\LineOk h (unR d):=fun d hd=>by
   have:=Qw.mp hc.1 d hd;unfold b3b at this;rw[Qp,Qp]at this;obtain⟨a1,a2⟩:=a6z this.1;exact⟨a1,by omega,this.2.1,fun x hx=>by simpa using Qw.mp this.2.2 x hx⟩
  refine⟨ds.map unR,ws',?_,by rw[Qv];exact hl.1,by rw[Qv];exact hl.2,fun r hr=>?_⟩
  ·rw[e,Zk]
   have:ds.map (dR∘unR)=ds:=by
    conv=>rhs;rw[←Xy ds]
    exact Zu fun d hd=>(ok d hd).1.symm
   rw[this]
  ·obtain⟨d,hd,rfl⟩:=Qa.mp hr
   exact(ok d hd).2
 ·cases hc
theorem c2j(l:List Int):∀s,tt s l=true->s+l.sum=1:=by
 induction l with
 |nil=>intro s h;simpa [tt]using h
 |cons x l ih=>
  intro s h;simp only[tt,Qp]at h;have:=ih (s+x) h.2;simp only[Tf]
  omega
theorem b3i(e:r.length=h.length):(a0g h r).length=h.length:=by simp[a0g,e]
theorem b3j:∀{h r:List Int},r.length=h.length->(a0g h r).sum=h.sum+r.sum
 |[],[],_=>rfl
 |x::h,y::r,e=>by
  have:=b3j (h:=h) (r:=r) (by simpa using e)
  simp only[a0g,List.zipWith_cons_cons,Tf]at this ⊢
  omega
 |[],_::_,e=>by simp at e
 |_::_,[],e=>by simp at e
def run:Int->List Int->Option Int
 |s,[]=>some s
 |s,x::l=>if s+x=0∨s+x=1 then run (s+x) l else none
theorem c2k(l:List Int):∀s,tt s l=(run s l==some 1):=by
 induction l with
 |nil=>intro s;rfl
 |cons x l ih=>
  intro s;simp only[tt,run]
  by_cases h:s+x=0∨s+x=1
  ·rw[Qh h,←ih]
   have:(s+x==0||s+x==1)=true:=by simpa using h
   rw[this,Yy]
  ·rw[Qm h]
   have:(s+x==0||s+x==1)=false:=by simpa using h
   rw[this];rfl
theorem c2l(l:List Int)(x:Int):∀s t,run s l=some t->(t+x=0∨t+x=1)->run s (l++[x])=some (t+x):=by
 induction l with
 |nil=>intro s t h hx;cases h;simp[run,hx]
 |cons y l ih=>
  intro s t h hx;simp only[run,List.cons_append]at h ⊢;split at h
  ·rename_i hy
   rw[Qh hy];exact ih (s+y) t h hx
  ·cases h
theorem b3k:∀{h:List Int},(∀x∈h,x=0∨x=1)->h.sum≤h.length/\(h.sum=h.length->∀x∈h,x=1)
 |[],_=>⟨by simp,fun _ x hx=>by cases hx⟩
 |y::h,H=>by
  obtain⟨h1,h2⟩:=b3k (h:=h) fun x hx=>H x (by simp[hx])
  have hy:=H y (by simp)
  simp only[Tf,Jg];refine⟨by omega,fun e x hx=>?_⟩
  rcases Qc.mp hx with rfl|hx
  ·omega
  ·exact h2 (by omega) x hx
theorem a9y{g:OZ}{b:Mo Fl}:∀{ds:List D}{P:Nat->Env'->Prop}{env:Env'},(∀i d e,ds[i]? =some d->P i e->∃e1 e2,g d e=some e1/\b e1=some (.nx,e2)/\P (i+1) e2)->P 0 env->∃env',loop g b ds env=some (.nx,env')/\P ds.length env'
 |[],P,env,_,p=>⟨env,rfl,p⟩
 |d::ds,P,env,h,p=>by
  obtain⟨e1,e2,h1,h2,h3⟩:=h 0 d env rfl p;obtain⟨e3,h4,h5⟩:=a9y (ds:=ds) (P:=fun i e=>P (i+1) e) (fun i x e hi q=>h (i+1) x e (by simpa using hi) q) h3
  refine⟨e3,?_,h5⟩;unfold loop;rw[h1];simp only[Qk];rw[h2];exact h4
theorem b3l(e:r.length=h.length)(hj:j<h.length):(a0g h r).getD j 0=h.getD j 0+r.getD j 0:=by
 have hj2:j<r.length:=by omega
 simp[a0g,Jh,Zz hj,Zz hj2]
theorem c2m:a1I (h.map D.int) (r.map D.int)=(h.zip r).map fun p=>.tup [.int p.1,.int p.2]:=by
 unfold a1I;rw[List.zip_map,Zk];rfl
theorem b3m(f:Nat->Nat->Bool):∀k,argBest f k≤k
 |0=>Qb _
 |k+1=>by
  have:=b3m f k;unfold argBest;split<;>omega
theorem c2n(h:1≤l.length):a0n false l∈l:=by
 unfold a0n;have hl:=b3m (fun i j=>if false then decide (l.getD i 0>l.getD j 0)else decide (l.getD i 0<l.getD j 0)) (l.length-1)
 rw[List.getD_eq_getElem?_getD,Zz (by omega)]
 exact Yl _
theorem b3n(h:1≤l.length):a0o false [dR l]=some (.int (a0n false l)):=by
 unfold dR;show(ints? (l.map D.int)).bind _=_;rw[a6D,Qk,Qm];cases l with
 |nil=>simp at h
 |cons _ _=>simp
theorem c2o(h:1≤l.length):a0o false [.lst (l.map D.int)]=some (.int (a0n false l)):=by
 show(ints? (l.map D.int)).bind _=_;rw[a6D,Qk,Qm];cases l with
 |nil=>simp at h
 |cons _ _=>simp
abbrev a9z:Mo Fl:=(q1_ (v6_ 6 (mF (a2c 1 a3m (z6_ (z0_ 2) z8_)))) (q1_ (v8_ (mT (z5_ (dEq false) (z0_ 4) (mC (.int 0)))) (q1_ (v6_ 8 (mCB (a0o false) (z1_ (mF (y1_ (y4_ (z0_ 6)) [false,false,false,false,false,false,false,false,false] 1 (gN 9) y8_ (mCB (a0o false) (z1_ (z0_ 9) z3_)))) z3_))) (u8_ 6 (y1_ (y4_ (z0_ 6)) [false,false,false,false,false,false,false,false,true] 1 (gN 9) (mT (z5_ (dEq false) (mCB (a0o false) (z1_ (z0_ 9) z3_)) (z0_ 8))) (z0_ 9)))) mNx) (q1_ (v6_ 7 (z5_ dIx (z0_ 6) (mCD 2 w8_ (x6_ 0 (z6_ (mCB v3_ (z1_ (z0_ 6) z3_)) z8_))))) (q1_ (v6_ 3 (z5_ v5_ (z0_ 3) (q5_ (z1_ (z0_ 7) z3_)))) (v6_ 2 (mCD 2 a3Y (z6_ (z0_ 2) (z6_ (z0_ 7) z8_))))))))
abbrev c2p:Mo Fl:=(v8_ (mT (z5_ (dEq false) (z0_ 4) (mC (.int 0)))) (q1_ (v6_ 8 (mCB (a0o false) (z1_ (mF (y1_ (y4_ (z0_ 6)) [false,false,false,false,false,false,false,false,false] 1 (gN 9) y8_ (mCB (a0o false) (z1_ (z0_ 9) z3_)))) z3_))) (u8_ 6 (y1_ (y4_ (z0_ 6)) [false,false,false,false,false,false,false,false,true] 1 (gN 9) (mT (z5_ (dEq false) (mCB (a0o false) (z1_ (z0_ 9) z3_)) (z0_ 8))) (z0_ 9)))) mNx)
def LW(w:W)(ds:List D):Prop:=w=.dat (.lst ds)∨w=.own ds
theorem c2q(h1:1≤rows.length)(h2:rows.length≤1000)(hr:∀r∈rows,1≤r.length):
  ∃(rows':OI) (w6 x8:W),c2p [.par [.int a,.bl b],w1,w2,w3,.dat (.int few),w5,.dat (.lst (rows.map dR)),w7,w8]=some (.nx,[.par [.int a,.bl b],w1,w2,w3,.dat (.int few),w5,w6,w7,x8])/\LW w6 (rows'.map dR)/\1≤rows'.length/\rows'.length≤1000/\∀r∈rows',r∈rows:=by
 by_cases hf:few=0
 ·subst hf
  let most:Int:=a0n false (rows.map (a0n false))
  have hm:most∈rows.map (a0n false):=c2n (by simpa using h1)
  obtain⟨r0,hr0,e0⟩:=Qa.mp hm;refine⟨rows.filter fun r=>(a0n false r==most),.own ((rows.filter fun r=>(a0n false r==most)).map dR),.dat (.int most),?_,.inr rfl,?_,?_,fun r hq=>(Vy.mp hq).1⟩
  ·refine a9x (e1:=[.par [.int a,.bl b],w1,w2,w3,.dat (.int 0),w5,.dat (.lst (rows.map dR)),w7,w8]) rfl ?_
   have c1:=a1P (mi:=y4_ (z0_ 6)) (keep:=[false,false,false,false,false,false,false,false,false]) (m:=mCB (a0o false) (z1_ (z0_ 9) z3_)) (env:=[.par [.int a,.bl b],w1,w2,w3,.dat (.int 0),w5,.dat (.lst (rows.map dR)),w7,w8]) (base:=[.nil,.nil,.nil,.nil,.nil,.nil,.nil,.nil,.nil]) (l:=rows) (q:=dR) (f:=fun r=>.int (a0n false r)) (k:=9) rfl (by omega) rfl rfl
    (fun r hq=>k2_ (q3_ (e1:=[.nil,.nil,.nil,.nil,.nil,.nil,.nil,.nil,.nil,.dat (dR r)]) rfl rfl) (b3n (hr r hq))) (fun w=>rfl)
   have s1:(v6_ 8 (mCB (a0o false) (z1_ (mF (y1_ (y4_ (z0_ 6)) [false,false,false,false,false,false,false,false,false] 1 (gN 9) y8_ (mCB (a0o false) (z1_ (z0_ 9) z3_)))) z3_))) [.par [.int a,.bl b],w1,w2,w3,.dat (.int 0),w5,.dat (.lst (rows.map dR)),w7,w8]=some (.nx,[.par [.int a,.bl b],w1,w2,w3,.dat (.int 0),w5,.dat (.lst (rows.map dR)),w7,.dat (.int most)]):=by
    refine a0C (e1:=[.par [.int a,.bl b],w1,w2,w3,.dat (.int 0),w5,.dat (.lst (rows.map dR)),w7,w8]) (k2_ (q3_ (k9_ c1) rfl) ?_);have:=c2o (l:=rows.map (a0n false)) (by simpa using h1)
    rw[Zk]at this;exact this
   have c2:=b3d (mi:=y4_ (z0_ 6)) (keep:=[false,false,false,false,false,false,false,false,true]) (t:=mT (z5_ (dEq false) (mCB (a0o false) (z1_ (z0_ 9) z3_)) (z0_ 8))) (m:=z0_ 9) (env:=[.par [.int a,.bl b],w1,w2,w3,.dat (.int 0),w5,.dat (.lst (rows.map dR)),w7,.dat (.int most)]) (base:=[.nil,.nil,.nil,.nil,.nil,.nil,.nil,.nil,.dat (.int most)]) (l:=rows) (q:=dR) (f:=dR) (p:=fun r=>(a0n false r==most)) (k:=9) rfl (by omega) rfl rfl
    (fun r hq=>⟨j2_ (q7_ (a:=.int (a0n false r)) (b:=.int most) (e1:=[.nil,.nil,.nil,.nil,.nil,.nil,.nil,.nil,.dat (.int most),.dat (dR r)]) (k2_ (q3_ (e1:=[.nil,.nil,.nil,.nil,.nil,.nil,.nil,.nil,.dat (.int most),.dat (dR r)]) rfl rfl) (b3n (hr r hq))) rfl rfl),fun _=>rfl⟩) (fun w=>rfl)
   refine y9_ s1 ?_
   unfold u8_;rw[c2];rfl
  ·have:r0∈rows.filter fun r=>(a0n false r==most):=Vy.mpr ⟨hr0,by simp[e0]⟩
   exact List.length_pos_of_mem this
  ·exact Zt (List.length_filter_le _ _) h2
 ·refine⟨rows,.dat (.lst (rows.map dR)),w8,?_,.inl rfl,h1,h2,fun r hq=>hq⟩
  refine a0w (e1:=[.par [.int a,.bl b],w1,w2,w3,.dat (.int few),w5,.dat (.lst (rows.map dR)),w7,w8]) ?_ rfl;refine j2_ (q7_ rfl rfl ?_);rw[b7P]
  simp[hf]
theorem c2r{w0 w4:W}{ds:List D}(h:LW w6 ds):z0_ 6 [w0,w1,w2,w3,w4,w5,w6,w7,w8]=some (.lst ds,[w0,w1,w2,w3,w4,w5,.dat (.lst ds),w7,w8]):=by
 rcases h with rfl|rfl<;>rfl
theorem c2s(hl:r.length=h.length)(h6:h.length≤6):∃ws',a3Y [.dat (dR h),.dat (dR r)]=some (.d (dR (a0g h r)),ws'):=by
 have ez:(h.zip r).map (fun p=>D.int (p.1+p.2))=(a0g h r).map D.int:=by
  unfold a0g;rw[List.map_zipWith,List.zip_eq_zipWith,List.map_zipWith]
 have c:=b3f (mi:=a3c (z1_ (z0_ 0) (z1_ (z0_ 1) z3_))) (keep:=[false,false]) (m:=z5_ v5_ (z0_ 2) (z0_ 3)) (env:=[.dat (dR h),.dat (dR r)]) (base:=[.nil,.nil]) (l:=h.zip r) (q:=fun p=>D.int p.1) (q2:=fun p=>D.int p.2) (f:=fun p=>.int (p.1+p.2)) (k:=2) (by
   show some (a1I (h.map D.int) (r.map D.int),_)=_;rw[c2m]) (by rw[List.length_zip];omega) rfl rfl (fun p _=>rfl) (fun w w2=>rfl)
 rw[ez]at c;refine⟨_,(w2_ (d:=dR (a0g h r)) (env:=[.dat (dR h),.dat (dR r)]) ?_).trans rfl⟩;show a9k [.dat (dR h),.dat (dR r)]=_;unfold a9k;exact g5_ (k2_ (q3_ (k9_ c) rfl) rfl)
structure TbI(b:Bool)(n i:Nat)(few:Int)(e:Env')(a:Int)(h:List Int)(rows:OI)(w5 w6 w7 w8:W):Prop where
 eq:e=[.par [.int a,.bl b],.dat (.int n),.dat (dR h),.dat (dT rows),.dat (.int few),w5,w6,w7,w8]
 a0:0≤a
 hb:HB h n
 len:rows.length=i
 row:∀r∈rows,r.length=n/\tt 0 r=true
 sum:h.sum=i
 col:∀j,j<n->run 0 (rows.map fun r=>r.getD j 0)=some (h.getD j 0)
theorem c2t(h1:1≤n)(h6:n≤6)(hi:i<n)(I:TbI b n i few e a h rows w5 w6 w7 w8):
  ∃e2 a' h' rows' x5 x6 x7 x8,a9z e=some (.nx,e2)/\TbI b n (i+1) few e2 a' h' rows' x5 x6 x7 x8:=by
 obtain⟨rfl,a0,hb,hlen,hrow,hsum,hcol⟩:=I;have hs:∃x∈h,x≠1:=by
  refine Ye fun hn=>?_
  have hall:∀x∈h,x=1:=fun x hx=>Ye fun z=>hn ⟨x,hx,z⟩
  have:h.sum=h.length:=by
   clear hcol hsum hn hb
   induction h with
   |nil=>rfl
   |cons y h ih=>
    have h1:=hall y (by simp)
    have:=ih fun x hx=>hall x (by simp[hx])
    simp only[Tf,Jg]
    omega
  have:=hb.len
  omega
 obtain⟨lines0,ws',el,l10,l20,lok0⟩:=c2i h1 h6 hb hs;have hnl:h.length=n:=hb.len;obtain⟨lines,w6',x8,ef,lw,l1,l2,lsub⟩:=c2q (b:=b) (a:=a) (few:=few) (w1:=.dat (.int n)) (w2:=.dat (dR h)) (w3:=.dat (dT rows)) (w5:=w5) (w7:=w7) (w8:=w8) l10 l20 (fun r hq=>by rw[(lok0 r hq).len,hnl];exact h1)
 have lok:∀r∈lines,LineOk h r:=fun r hq=>lok0 r (lsub r hq)
 obtain⟨v,a',et,v0,v1,a0'⟩:=a4Z (a:=a) (m:=(lines.length:Int)) (b:=b) a0 (by omega) (by omega)
 have hv:v.toNat<lines.length:=by omega
 have hvv:((v.toNat:Nat):Int)=v:=by omega
 generalize hr:lines[v.toNat]=r;have rok:LineOk h r:=lok r (by rw[←hr];exact Yl hv)
 have rl:r.length=n:=by rw[rok.len,hb.len]
 obtain⟨wh,eh⟩:=c2s (h:=h) (r:=r) rok.len (by omega)
 refine⟨[.par [.int a',.bl b],.dat (.int n),.dat (dR (a0g h r)),.dat (dT (rows++[r])),.dat (.int few),w5,.dat (.lst (lines.map dR)),.dat (dR r),x8],a',a0g h r,rows++[r],w5,.dat (.lst (lines.map dR)),.dat (dR r),x8,?_,rfl,a0',⟨by rw[b3i rok.len];exact hnl,rok.bit⟩,by simp[hlen],?_,?_,?_⟩
 ·have s1:(v6_ 6 (mF (a2c 1 a3m (z6_ (z0_ 2) z8_)))) [.par [.int a,.bl b],.dat (.int n),.dat (dR h),.dat (dT rows),.dat (.int few),w5,w6,w7,w8]=some (.nx,[.par [.int a,.bl b],.dat (.int n),.dat (dR h),.dat (dT rows),.dat (.int few),w5,.dat (.lst (lines0.map dR)),w7,w8]):=
   a0C (e1:=[.par [.int a,.bl b],.dat (.int n),.dat (dR h),.dat (dT rows),.dat (.int few),w5,w6,w7,w8]) (k9_ (b1n (a2e (av:=[.d (dR h)]) rfl rfl rfl el)))
  have tk:(mCD 2 w8_ (x6_ 0 (z6_ (mCB v3_ (z1_ (z0_ 6) z3_)) z8_))) [.par [.int a,.bl b],.dat (.int n),.dat (dR h),.dat (dT rows),.dat (.int few),w5,.dat (.lst (lines.map dR)),w7,x8]=some (.int v,[.par [.int a',.bl b],.dat (.int n),.dat (dR h),.dat (dT rows),.dat (.int few),w5,.dat (.lst (lines.map dR)),w7,x8]):=by
   refine a1B ((a4w (e1:=[.par [.int a,.bl b],.dat (.int n),.dat (dR h),.dat (dT rows),.dat (.int few),w5,.dat (.lst (lines.map dR)),w7,x8]) (w:=.par [.int a,.bl b]) (av:=[.sl 0,.d (.int (lines.length:Int))]) (i:=0) (c:=[.int a,.bl b]) (c':=[.int a',.bl b]) ?_ rfl rfl rfl rfl et rfl).trans rfl);show some ([Ar.sl 0,Ar.d (.int ((lines.map dR).length:Nat))],_)=_;rw[Qv]
  have s2:(v6_ 7 (z5_ dIx (z0_ 6) (mCD 2 w8_ (x6_ 0 (z6_ (mCB v3_ (z1_ (z0_ 6) z3_)) z8_))))) [.par [.int a,.bl b],.dat (.int n),.dat (dR h),.dat (dT rows),.dat (.int few),w5,w6',w7,x8]=some (.nx,[.par [.int a',.bl b],.dat (.int n),.dat (dR h),.dat (dT rows),.dat (.int few),w5,.dat (.lst (lines.map dR)),.dat (dR r),x8]):=by
   refine a0C (e1:=[.par [.int a',.bl b],.dat (.int n),.dat (dR h),.dat (dT rows),.dat (.int few),w5,.dat (.lst (lines.map dR)),w7,x8]) (q7_ (c2r lw) tk ?_);rw[←hvv];exact a1E (xs:=lines.map dR) (by rw[Zd,Zz hv,hr];rfl)
  have s4:(v6_ 3 (z5_ v5_ (z0_ 3) (q5_ (z1_ (z0_ 7) z3_)))) [.par [.int a',.bl b],.dat (.int n),.dat (dR h),.dat (dT rows),.dat (.int few),w5,.dat (.lst (lines.map dR)),.dat (dR r),x8]=some (.nx,[.par [.int a',.bl b],.dat (.int n),.dat (dR h),.dat (dT (rows++[r])),.dat (.int few),w5,.dat (.lst (lines.map dR)),.dat (dR r),x8]):=by
   refine a0C (e1:=[.par [.int a',.bl b],.dat (.int n),.dat (dR h),.dat (dT rows),.dat (.int few),w5,.dat (.lst (lines.map dR)),.dat (dR r),x8]) (q7_ rfl rfl ?_);show(if(rows.map dR).length+[dR r].length≤10000 then _ else none)=_
   rw[Qh (by rw[Qv];simp;omega)]
   unfold dT;rw[Yn];rfl
  have s3:(v6_ 2 (mCD 2 a3Y (z6_ (z0_ 2) (z6_ (z0_ 7) z8_)))) [.par [.int a',.bl b],.dat (.int n),.dat (dR h),.dat (dT (rows++[r])),.dat (.int few),w5,.dat (.lst (lines.map dR)),.dat (dR r),x8]=some (.nx,[.par [.int a',.bl b],.dat (.int n),.dat (dR (a0g h r)),.dat (dT (rows++[r])),.dat (.int few),w5,.dat (.lst (lines.map dR)),.dat (dR r),x8]):=
   a0C (e1:=[.par [.int a',.bl b],.dat (.int n),.dat (dR h),.dat (dT (rows++[r])),.dat (.int few),w5,.dat (.lst (lines.map dR)),.dat (dR r),x8]) (a1B (a2e (av:=[.d (dR h),.d (dR r)]) rfl rfl rfl eh))
  unfold a9z;exact y9_ s1 (y9_ ef (y9_ s2 (y9_ s4 s3)))
 ·intro r' hr'
  rcases Ym.mp hr' with z|z
  ·exact hrow r' z
  ·have:r'=r:=by simpa using z
   subst this;exact⟨rl,rok.tt⟩
 ·have:=c2j r 0 rok.tt
  rw[b3j rok.len]
  omega
 ·intro j hj
  rw[Yn,Qd,Vc,b3l rok.len (by omega)]
  refine c2l _ _ 0 _ (hcol j hj) ?_
  rw[←b3l rok.len (by omega)]
  have hjl:j<(a0g h r).length:=by rw[b3i rok.len];omega
  have:(a0g h r).getD j 0=(a0g h r)[j]:=by simp[hjl]
  rw[this];exact rok.bit _ (Yl hjl)
structure Tab(T:OI):Prop where
 lo:1≤T.length
 hi:T.length≤6
 len:∀r∈T,r.length=T.length
 ok:isT (dT T)=true
theorem c2u(ha:0≤a)(n1:1≤n)(n6:n≤6):∃T a',a4U [.par [.int a,.bl b],.dat (.int n)]=some (.d (dT T),[.par [.int a',.bl b],.dat (.int n)])/\0≤a'/\Tab T/\T.length=n:=by
 obtain⟨v,a1,et,v0,v1,a10⟩:=a4Z (a:=a) (m:=3) (b:=b) ha (by omega) (by omega)
 have s1:(v6_ 2 (z5_ u3_ (q5_ (z1_ (mC (.int 0)) z3_)) (z0_ 1))) [.par [.int a,.bl b],.dat (.int n),.nil,.nil,.nil,.nil,.nil,.nil,.nil]=some (.nx,[.par [.int a,.bl b],.dat (.int n),.dat (dR (List.replicate n 0)),.nil,.nil,.nil,.nil,.nil,.nil]):=by
  refine a0C (e1:=[.par [.int a,.bl b],.dat (.int n),.nil,.nil,.nil,.nil,.nil,.nil,.nil]) (q7_ rfl rfl ?_);show(if 1≤(n:Int)/\(n:Int)≤1000 then some (D.tup (List.replicate (n:Int).toNat (.int 0)))else none)=_
  rw[Qh (by omega),Zo]
  unfold dR;rw[List.map_replicate]
 have s2:(v6_ 3 (q5_ z3_)) [.par [.int a,.bl b],.dat (.int n),.dat (dR (List.replicate n 0)),.nil,.nil,.nil,.nil,.nil,.nil]=some (.nx,[.par [.int a,.bl b],.dat (.int n),.dat (dR (List.replicate n 0)),.dat (dT []),.nil,.nil,.nil,.nil,.nil]):=rfl
 have s3:(v6_ 4 (mCD 2 w8_ (x6_ 0 (z6_ (mC (.int 3)) z8_)))) [.par [.int a,.bl b],.dat (.int n),.dat (dR (List.replicate n 0)),.dat (dT []),.nil,.nil,.nil,.nil,.nil]=some (.nx,[.par [.int a1,.bl b],.dat (.int n),.dat (dR (List.replicate n 0)),.dat (dT []),.dat (.int v),.nil,.nil,.nil,.nil]):=
  a0C (e1:=[.par [.int a1,.bl b],.dat (.int n),.dat (dR (List.replicate n 0)),.dat (dT []),.nil,.nil,.nil,.nil,.nil]) (a1B ((a4w (e1:=[.par [.int a,.bl b],.dat (.int n),.dat (dR (List.replicate n 0)),.dat (dT []),.nil,.nil,.nil,.nil,.nil]) (w:=.par [.int a,.bl b]) (av:=[.sl 0,.d (.int 3)]) (i:=0) (c:=[.int a,.bl b]) (c':=[.int a1,.bl b]) rfl rfl rfl rfl rfl et rfl).trans rfl))
 have start:TbI b n 0 v [.par [.int a1,.bl b],.dat (.int n),.dat (dR (List.replicate n 0)),.dat (dT []),.dat (.int v),.nil,.nil,.nil,.nil] a1 (List.replicate n 0) [] .nil .nil .nil .nil:=by
  refine⟨rfl,a10,⟨by simp,fun x hx=>.inl (List.eq_of_mem_replicate hx)⟩,rfl,fun r hr=>(by cases hr),by simp,fun j hj=>?_⟩
  simp[run,Jr,hj]
 obtain⟨e',h1,a',h',rows',x5,x6,x7,x8,I⟩:=a9y (g:=gN 5) (b:=a9z) (ds:=a0M 0 n) (P:=fun i e=>∃a h rows w5 w6 w7 w8,TbI b n i v e a h rows w5 w6 w7 w8) (env:=[.par [.int a1,.bl b],.dat (.int n),.dat (dR (List.replicate n 0)),.dat (dT []),.dat (.int v),.nil,.nil,.nil,.nil])
  (fun i d e hi ⟨a,h,rows,w5,w6,w7,w8,I⟩=>by
   have hil:i<n:=by
    have:=(Qy.mp hi).1;rw[a4a]at this
    simpa using this
   obtain⟨rfl,r1,r2,r3,r4,r5,r6⟩:=I;obtain⟨e2,a',h',rows',x5,x6,x7,x8,t1,t2⟩:=c2t (b:=b) (few:=v) (w5:=.dat d) (w6:=w6) (w7:=w7) (w8:=w8) n1 n6 hil ⟨rfl,r1,r2,r3,r4,r5,r6⟩;exact⟨_,e2,rfl,t1,a',h',rows',x5,x6,x7,x8,t2⟩) ⟨_,_,_,_,_,_,_,start⟩
 have hlen:(a0M 0 n).length=n:=by rw[a4a];simp
 rw[hlen]at I;obtain⟨rfl,r1,r2,r3,r4,r5,r6⟩:=I;have ones:=(b3k r2.bit).2 (by rw[r2.len];exact r5)
 have tab:Tab rows':=by
  refine⟨by omega,by omega,fun r hr=>by rw[r3];exact(r4 r hr).1,?_⟩
  unfold isT;rw[b2P (by omega) (by omega) (fun r hr=>by rw[r3];exact(r4 r hr).1),a6A,Yy,Pj,Qp,Qw,Qw]
  refine⟨fun r hr=>(r4 r hr).2,fun c hc=>?_⟩
  unfold flip at hc;obtain⟨j,hj,rfl⟩:=Qa.mp hc;have hj':j<n:=by rw[r3]at hj;exact Zl.mp hj
  rw[c2k,r6 j hj'];have hjl:j<h'.length:=by rw[r2.len];exact hj'
  have:h'.getD j 0=h'[j]:=by simp[hjl]
  rw[this,ones _ (Yl hjl)];rfl
 refine⟨rows',a',(w2_ (d:=dT rows') (env:=[.par [.int a',.bl b],.dat (.int n),.dat (dR h'),.dat (dT rows'),.dat (.int v),x5,x6,x7,x8]) ?_).trans rfl,r1,tab,r3⟩;show a9l [.par [.int a,.bl b],.dat (.int n),.nil,.nil,.nil,.nil,.nil,.nil,.nil]=_;unfold a9l;have rg:=a5T (ms:=z1_ (z0_ 1) z3_) (env:=[.par [.int a1,.bl b],.dat (.int n),.dat (dR (List.replicate n 0)),.dat (dT []),.dat (.int v),.nil,.nil,.nil,.nil]) (e1:=[.par [.int a1,.bl b],.dat (.int n),.dat (dR (List.replicate n 0)),.dat (dT []),.dat (.int v),.nil,.nil,.nil,.nil]) (j:=(n:Int)) rfl (by omega) (by omega)
 rw[Zo]at rg;rw[w4_ s1,w4_ s2,w4_ s3,w4_ ((a1c rg).trans h1)];rfl
theorem a0I{m:Mo D}{as:Mo (List Ar)}{e1 e2:Env'}{q:List Ar}(h:m e=some (d,e1))(h2:as e1=some (q,e2)):z6_ m as e=some (.d d::q,e2):=by unfold z6_;rw[h,Qk,h2];rfl
def Pl(w:W):Prop:=w=.nil∨ ∃d,w=.dat d
def a0W(n:Nat)(d:D):Bool:=match d with
 |.tup xs=>(xs.length==n)&&(xs.all (fun x=>inB x (-1) 1)&&tt2 (unR d))
 |_=>false
theorem a9A{x:D}(h:inB x (-1) 1=true):isW x=true/\small (unI x)=true:=by
 cases x<;>first|cases h|skip
 exact⟨rfl,h⟩
theorem a5a(n:Nat)(d:D):a0W n d=(isR d n&&tt 0 (unR d)):=by
 cases d with
 |tup xs=>
  simp only[a0W,isR]
  by_cases hl:xs.length=n
  ·subst hl
   rw[c1S];simp only[Ti,Yy,←Bool.and_assoc]
   congr 1
   by_cases h:xs.all (fun x=>inB x (-1) 1)=true
   ·rw[h]
    have h1:=Qw.mp h
    have a1:xs.all isW=true:=Qw.mpr fun x hx=>(a9A (h1 x hx)).1
    have a2:(unR (.tup xs)).all small=true:=Qw.mpr fun y hy=>by
     obtain⟨x,hx,rfl⟩:=Qa.mp hy;exact(a9A (h1 x hx)).2
    rw[a1,a2];rfl
   ·have h':xs.all (fun x=>inB x (-1) 1)=false:=by simpa using h
    rw[h'];cases hw:(xs.all isW&&(unR (.tup xs)).all small)with
    |false=>rfl
    |true=>
     rw[Qp]at hw
     exfalso
     apply h
     refine Qw.mpr fun x hx=>?_
     have b1:=Qw.mp hw.1 x hx
     have b2:=Qw.mp hw.2 (unI x) (Qa.mpr ⟨x,hx,rfl⟩)
     cases x<;>first|exact b2|cases b1
  ·have h1:(xs.length==n)=false:=by simpa using hl
   have h2:((xs.length:Int)==(n:Int))=false:=by
    rw[Yr];omega
   rw[h1,h2];rfl
 |_=>rfl
abbrev a6G:Mo D:=a0h (mCD 1 a1O (z6_ (z0_ 2) z8_)) (a0K dLe dLe (j8_ (mC (.int 1))) (z0_ 2) (mC (.int 1)))
theorem c2v(x:D):a6G [.nil,.nil,.dat x]=some (.bl (inB x (-1) 1),[.nil,.nil,.dat x]):=by
 cases x with
 |int i=>
  unfold a6G a0h;have c:=a9w (e:=[.nil,.nil,.dat (.int i)]) (ma:=j8_ (mC (.int 1))) (mb:=z0_ 2) (mc:=mC (.int 1)) (a:=-1) (i:=i) (b:=1) rfl rfl rfl;exact c
 |_=>rfl
abbrev a5b:Mo Fl:=(q1_ (v8_ (w6_ (y5_ (mT (mIs "tuple" (z0_ 1)))) (mT (z5_ (dEq true) (mCB v3_ (z1_ (z0_ 1) z3_)) (mCB v3_ (z1_ (z0_ 0) z3_))))) (q9_ (mC (.bl false))) mNx) (v8_ (w6_ (y5_ (mT (mCB a0B (z1_ (mF (y1_ (y4_ (z0_ 1)) [false,false] 1 (gN 2) y8_ (a0h (mCD 1 a1O (z6_ (z0_ 2) z8_)) (a0K dLe dLe (j8_ (mC (.int 1))) (z0_ 2) (mC (.int 1)))))) z3_)))) (y5_ (mT (mCD 1 a2N (z6_ (z0_ 1) z8_))))) (q9_ (mC (.bl false))) mNx))
theorem c2w(hn:es.length≤6)(d:D):a5b [.dat (.tup es),.dat d]=some (stop (a0W es.length d) (.bl false),[.dat (.tup es),.dat d]):=by
 cases d with
 |tup xs=>
  by_cases hl:xs.length=es.length
  ·have t:(w6_ (y5_ (mT (mIs "tuple" (z0_ 1)))) (mT (z5_ (dEq true) (mCB v3_ (z1_ (z0_ 1) z3_)) (mCB v3_ (z1_ (z0_ 0) z3_))))) [.dat (.tup es),.dat (.tup xs)]=some (false,[.dat (.tup es),.dat (.tup xs)]):=by
    show some (!((xs.length:Int)==(es.length:Int)),_)=_;rw[hl];simp
   have al:(y5_ (mT (mCB a0B (z1_ (mF (y1_ (y4_ (z0_ 1)) [false,false] 1 (gN 2) y8_ a6G)) z3_)))) [.dat (.tup es),.dat (.tup xs)]=some (!xs.all (fun x=>inB x (-1) 1),[.dat (.tup es),.dat (.tup xs)]):=by
    obtain⟨e',h1,w,rfl⟩:=a4b (g:=gN 2) (m:=a6G) (P:=fun e=>∃w,e=[.nil,.nil,w]) (q:=id) (f:=fun x=>.bl (inB x (-1) 1)) (l:=xs) (env:=[.nil,.nil,.nil])
     (fun x _ e ⟨w,he⟩=>by
      subst he;exact⟨[.nil,.nil,.dat x],[.nil,.nil,.dat x],rfl,c2v x,_,rfl⟩) ⟨.nil,rfl⟩
    rw[Xy]at h1;refine a0d (j2_ (k2_ (q3_ (k9_ (a3d (e2:=[.nil,.nil,w]) (a1A rfl rfl) (by omega) h1 rfl)) rfl) ?_))
    show(a0u (xs.map fun x=>D.bl (inB x (-1) 1))).map _=_
    rw[b7Q];rfl
   unfold a5b;rw[w4_ (by rw[a1b t];rfl)]
   cases ha:xs.all (fun x=>inB x (-1) 1)with
   |false=>
    rw[ha]at al;rw[a1m (c2f al)]
    simp[a0W,hl,ha,stop,q9_,mC]
   |true=>
    rw[ha]at al;have h2:xs=(xs.map unI).map .int:=b2M (Qw.mpr fun x hx=>(a9A (Qw.mp ha x hx)).1)
    have c:(y5_ (mT (mCD 1 a2N (z6_ (z0_ 1) z8_)))) [.dat (.tup es),.dat (.tup xs)]=some (!tt2 (unR (.tup xs)),[.dat (.tup es),.dat (.tup xs)]):=
     a0d (j2_ (a1B (a2e (av:=[.d (.tup xs)]) rfl rfl rfl (b2V (.tup xs) (xs.map unI) (by show some xs=_;rw[←h2]) (by rw[Qv];omega)))))
    cases hb:tt2 (unR (.tup xs))with
    |true=>rw[hb]at c;rw[a1b (a6E al c)];simp[a0W,hl,ha,hb,stop,mNx]
    |false=>rw[hb]at c;rw[a1m (a6E al c)];simp[a0W,hl,ha,hb,stop,q9_,mC]
  ·have t:(w6_ (y5_ (mT (mIs "tuple" (z0_ 1)))) (mT (z5_ (dEq true) (mCB v3_ (z1_ (z0_ 1) z3_)) (mCB v3_ (z1_ (z0_ 0) z3_))))) [.dat (.tup es),.dat (.tup xs)]=some (true,[.dat (.tup es),.dat (.tup xs)]):=by
    show some (!((xs.length:Int)==(es.length:Int)),_)=_;have:((xs.length:Int)==(es.length:Int))=false:=by rw[Yr];omega
    rw[this];rfl
   unfold a5b;rw[a1z (d:=.bl false) (by rw[a1m t];rfl)]
   have:(xs.length==es.length)=false:=by simpa using hl
   simp[a0W,this,stop]
 |_=>rfl
theorem c2x(hok:es.all (a0W es.length)=true):(flip es.length (es.map unR)).all (tt 0)=(List.range es.length).all fun j=>tt2 ((es.map unR).map fun r=>r.getD j 0):=by
 unfold flip;rw[List.all_map];have e:∀j∈List.range es.length,((tt 0)∘fun j=>(es.map unR).map fun r=>r.getD j 0) j=tt2 ((es.map unR).map fun r=>r.getD j 0):=fun j hj=>by
  apply b2X
  intro x hx;obtain⟨r,hr,rfl⟩:=Qa.mp hx;obtain⟨d,hd,rfl⟩:=Qa.mp hr;have h1:=Qw.mp hok d hd;rw[a5a,Qp]at h1;have h2:=b2Y _ 0 (.inl rfl) h1.2
  by_cases hj':j<(unR d).length
  ·have:(unR d).getD j 0=(unR d)[j]:=by simp[hj']
   rw[this];exact h2 _ (Yl hj')
  ·have:(unR d).getD j 0=0:=by simp[Nat.le_of_not_lt hj']
   rw[this];rfl
 rw[Bool.eq_iff_iff,Qw,Qw];exact⟨fun h j hj=>(e j hj) ▸ h j hj,fun h j hj=>(e j hj).symm ▸ h j hj⟩
theorem c2y(es:List D):isT (.tup es)=((decide (1≤(es.length:Int))&&decide ((es.length:Int)≤6))&&(es.all (a0W es.length)&&(List.range es.length).all fun j=>tt2 ((es.map unR).map fun r=>r.getD j 0))):=by
 unfold isT isS;simp only[Bool.and_assoc]
 congr 1
 congr 1
 have hu:unT (.tup es)=es.map unR:=rfl
 rw[hu,Pj,Qv];cases hk:es.all (a0W es.length)with
 |true=>
  have h1:es.all (fun r=>isR r es.length)=true:=Qw.mpr fun d hd=>by
   have:=Qw.mp hk d hd;rw[a5a,Qp]at this;exact this.1
  have h2:(es.map unR).all (tt 0)=true:=Qw.mpr fun r hr=>by
   obtain⟨d,hd,rfl⟩:=Qa.mp hr;have:=Qw.mp hk d hd;rw[a5a,Qp]at this;exact this.2
  rw[h1,h2,c2x hk];rfl
 |false=>
  rw[Jf];cases h1:es.all (fun r=>isR r es.length)with
  |false=>rfl
  |true=>
   have h2:(es.map unR).all (tt 0)=false:=by
    cases h3:(es.map unR).all (tt 0)with
    |false=>rfl
    |true=>
     have:es.all (a0W es.length)=true:=Qw.mpr fun d hd=>by
      rw[a5a,Qp];exact⟨Qw.mp h1 d hd,Qw.mp h3 (unR d) (Qa.mpr ⟨d,hd,rfl⟩)⟩
     rw[hk]at this;cases this
   rw[h2];rfl
theorem c2z(d:D):a3Z [.dat d]=some (.d (.bl (isT d)),[.dat d]):=by
 cases d with
 |tup es=>
  have t:(w6_ (y5_ (mT (mIs "tuple" (z0_ 0)))) (y5_ (mT (a0K dLe dLe (mC (.int 1)) (mCB v3_ (z1_ (z0_ 0) z3_)) (mC (.int 6)))))) [.dat (.tup es),.nil]=some (!(decide (1≤(es.length:Int))&&decide ((es.length:Int)≤6)),[.dat (.tup es),.nil]):=by
   have c:=a9w (e:=[.dat (.tup es),.nil]) (ma:=mC (.int 1)) (mb:=mCB v3_ (z1_ (z0_ 0) z3_)) (mc:=mC (.int 6)) (a:=1) (i:=es.length) (b:=6) rfl rfl rfl
   exact a6E rfl (a0d (j2_ c))
  rw[c2y];cases hb:(decide (1≤(es.length:Int))&&decide ((es.length:Int)≤6))with
  |false=>
   rw[hb]at t;refine(w2_ (d:=.bl false) (env:=[.dat (.tup es),.nil]) ?_).trans rfl;show a3n [.dat (.tup es),.nil]=_;unfold a3n;rw[a1z (d:=.bl false) (by rw[a1m t];rfl)]
  |true=>
   rw[hb]at t;have hn:1≤es.length/\es.length≤6:=by
    rw[Qp,Zi,Zi]at hb
    omega
   obtain⟨e',h1,w1,hw,rfl⟩:=b1l (g:=gN 1) (b:=a5b) (P:=fun e=>∃w1,Pl w1/\e=[.dat (.tup es),w1]) (ok:=a0W es.length) (r:=.bl false) (ds:=es) (env:=[.dat (.tup es),.nil])
    (fun x _ e ⟨w1,_,he⟩=>by
     subst he;exact⟨_,_,rfl,c2w hn.2 x,_,.inr ⟨_,rfl⟩,rfl⟩) ⟨_,.inl rfl,rfl⟩
   have fr:(w7_ (y4_ (z0_ 0)) (gN 1) a5b) [.dat (.tup es),.nil]=some (stop (es.all (a0W es.length)) (.bl false),[.dat (.tup es),w1]):=(a1c (a1A rfl rfl)).trans h1
   cases hk:es.all (a0W es.length)with
   |false=>
    rw[hk]at fr;refine(w2_ (d:=.bl false) (env:=[.dat (.tup es),w1]) ?_).trans rfl;show a3n [.dat (.tup es),.nil]=_;unfold a3n;rw[w4_ (by rw[a1b t];rfl),a1z (d:=.bl false) fr]
   |true=>
    rw[hk]at fr;have hlen:∀d∈es,d=.tup ((unR d).map .int)/\(unR d).length=es.length:=fun d hd=>by
     have:=Qw.mp hk d hd;rw[a5a,Qp]at this;obtain⟨a1,a2⟩:=a6z this.1;exact⟨a1,by omega⟩
    have inner:∀j,j<es.length->(mCD 1 a2N (z6_ (mF (y1_ (y4_ (z0_ 0)) [false,false,true] 1 (gN 3) y8_ (z5_ dIx (z0_ 3) (z0_ 2)))) z8_)) [.dat (.tup es),w1,.dat (.int (j:Int))]=some (.bl (tt2 ((es.map unR).map fun r=>r.getD j 0)),[.dat (.tup es),w1,.dat (.int (j:Int))]):=fun j hj=>by
     have c:(y1_ (y4_ (z0_ 0)) [false,false,true] 1 (gN 3) y8_ (z5_ dIx (z0_ 3) (z0_ 2))) [.dat (.tup es),w1,.dat (.int (j:Int))]=some (((es.map unR).map fun r=>r.getD j 0).map .int,[.dat (.tup es),w1,.dat (.int (j:Int))]):=by
      rw[Zk,Zk];refine a1P (α:=D) (q:=id) (f:=fun d=>.int ((unR d).getD j 0)) (l:=es) (base:=[.nil,.nil,.dat (.int (j:Int))]) (by rw[Xy];exact a1A rfl rfl) (by omega) rfl rfl (fun d hd=>q7_ rfl rfl ?_) (fun w=>?_)
      ·obtain⟨a1,a2⟩:=hlen d hd
       show dIx d _=_;rw[a1,b2O (unR d)|>fun h=>(show unR (.tup ((unR d).map .int))=unR d from h)]
       exact a1E (by simp[Zz (show j<(unR d).length by omega)])
      ·rcases hw with rfl|⟨d,rfl⟩<;>rfl
     exact a1Q (av:=[.d (.lst (((es.map unR).map fun r=>r.getD j 0).map .int))]) (a0I (k9_ c) rfl) rfl rfl (b2V _ _ rfl (by simp;omega))
    refine(w2_ (d:=.bl ((List.range es.length).all fun j=>tt2 ((es.map unR).map fun r=>r.getD j 0))) (env:=[.dat (.tup es),w1]) ?_).trans (by simp;rfl)
    show a3n [.dat (.tup es),.nil]=_;unfold a3n;rw[w4_ (by rw[a1b t];rfl),w4_ fr]
    refine g5_ (k2_ (q3_ (k9_ (a1P (α:=Nat) (q:=fun j=>D.int (j:Int)) (f:=fun j=>.bl (tt2 ((es.map unR).map fun(r:List Int)=>r.getD j 0))) (l:=List.range es.length) (base:=[.dat (.tup es),w1]) (a1F (n:=es.length) rfl rfl (by omega)) (by simp;omega) ?_ rfl (fun j hj=>inner j (Zl.mp hj)) (fun w=>?_))) rfl) ?_)
    ·rcases hw with rfl|⟨d,rfl⟩<;>rfl
    ·rcases hw with rfl|⟨d,rfl⟩<;>rfl
    ·show(a0u _).map _=_
     rw[a2C];rfl
 |_=>rfl
def S(g:Nat->Int):Nat->Int
 |0=>0
 |k+1=>S g k+g k
def U(h:OO)(i j:Nat):Int:=(h (i+1) (j+1)-h i (j+1))-(h (i+1) j-h i j)
theorem c2A(g:Nat->Int):∀n,S (fun k=>g (k+1)-g k) n=g n-g 0
 |0=>by show(0:Int)=_;omega
 |n+1=>by
  show S (fun k=>g (k+1)-g k) n+(g (n+1)-g n)=_
  rw[c2A g n];omega
theorem a5c(g:Nat->Int):∀n,S g (n+1)=g 0+S (fun k=>g (k+1)) n
 |0=>by show(0:Int)+g 0=g 0+0;omega
 |n+1=>by
  show S g (n+1)+g (n+1)=g 0+(S (fun k=>g (k+1)) n+g (n+1))
  rw[a5c g n];omega
structure TabF(n:Nat)(f:OO):Prop where
 row:∀i<n,∀k≤n,S (f i) k=0∨S (f i) k=1
 rowN:∀i<n,S (f i) n=1
 col:∀j<n,∀k≤n,S (fun r=>f r j) k=0∨S (fun r=>f r j) k=1
 colN:∀j<n,S (fun r=>f r j) n=1
structure HtF(n:Nat)(h:OO):Prop where
 r0:∀i≤n,h i 0=0
 d0:∀j≤n,h 0 j=0
 rN:∀i≤n,h i n=i
 dN:∀j≤n,h n j=j
 dd:∀i<n,∀j≤n,h (i+1) j=h i j∨h (i+1) j=h i j+1
 rr:∀i≤n,∀j<n,h i (j+1)=h i j∨h i (j+1)=h i j+1
def mx(x y:Int):Int:=if x≤y then y else x
def tr(n:Nat)(h:OO)(i j:Nat):Int:=(i:Int)+j-n+h (n-i) (n-j)
theorem a9B:∀(n:Nat) (g:Nat->Int) (s:Int),tt s ((List.range n).map g)=true↔(∀k<n,s+S g (k+1)=0∨s+S g (k+1)=1)/\s+S g n=1
 |0,g,s=>by
  show(s==1)=true↔_;rw[Ju]
  constructor
  ·intro h;exact⟨fun k hk=>by omega,by show s+0=1;omega⟩
  ·rintro⟨_,h⟩;have:S g 0=0:=rfl;omega
 |n+1,g,s=>by
  rw[List.range_succ_eq_map,Qd,Zk];show((s+g 0==0||s+g 0==1)&&tt (s+g 0) ((List.range n).map fun k=>g (k+1)))=true↔_
  rw[Qp,To,Ju,Ju,a9B n (fun k=>g (k+1)) (s+g 0),a5c g n]
  constructor
  ·rintro⟨h1,h2,h3⟩
   refine⟨fun k hk=>?_,by omega⟩
   rw[a5c g k];cases k with
   |zero=>show s+(g 0+0)=0∨s+(g 0+0)=1;omega
   |succ k=>have:=h2 k (by omega);omega
  ·rintro⟨h1,h2⟩
   refine⟨?_,fun k hk=>?_,by omega⟩
   ·have:=h1 0 (by omega)
    rw[a5c g 0]at this;have e:S (fun k=>g (k+1)) 0=0:=rfl
    omega
   ·have:=h1 (k+1) (by omega)
    rw[a5c g (k+1)]at this;omega
def gm(n m:Nat)(f:OO):OI:=(List.range n).map fun i=>(List.range m).map (f i)
theorem a1G{f:OO}:(gm n m f).length=n:=by simp[gm]
theorem a5d{f:OO}:∀r∈gm n m f,r.length=m:=by
 intro r hr;obtain⟨i,_,rfl⟩:=Qa.mp hr
 simp
def at2(R:OI)(i j:Nat):Int:=(R.getD i []).getD j 0
theorem c2B{R:OI}(h1:R.length=n)(h2:∀r∈R,r.length=n):R=gm n n (at2 R):=by
 subst h1;unfold gm
 apply List.ext_getElem
 ·simp
 ·intro i hi hi'
  have hr:=h2 R[i] (Yl hi)
  rw[List.getElem_map,List.getElem_range]
  apply List.ext_getElem
  ·simp[hr]
  ·intro j hj hj'
   rw[List.getElem_map,List.getElem_range]
   simp[at2,hi,hj]
theorem b3o(n m:Nat)(f:OO):flip m (gm n m f)=gm m n (fun i j=>f j i):=by
 unfold flip gm
 apply Zu
 intro j hj;have hj:=Zl.mp hj;rw[Zk]
 apply Zu
 intro i hi
 simp[hj]
theorem a9C{f:OO}:isT (dT (gm n n f))=true↔(1≤n/\n≤6)/\TabF n f:=by
 unfold isT;rw[a6A,a1G,b3o,Qp,Pj,Qp,Qw,Qw];have row:∀g:OO,(∀x∈gm n n g,tt 0 x=true)↔ ∀i<n,(∀k≤n,S (g i) k=0∨S (g i) k=1)/\S (g i) n=1:=by
  intro g
  constructor
  ·intro h i hi
   have h1:=(a9B n (g i) 0).mp (h _ (Qa.mpr ⟨i,Zl.mpr hi,rfl⟩))
   refine⟨fun k hk=>?_,by have:=h1.2;omega⟩
   cases k with
   |zero=>exact .inl rfl
   |succ k=>have:=h1.1 k (by omega);omega
  ·intro h x hx
   obtain⟨i,hi,rfl⟩:=Qa.mp hx;have h1:=h i (Zl.mp hi);refine(a9B n (g i) 0).mpr ⟨fun k hk=>?_,by have:=h1.2;omega⟩
   have:=h1.1 (k+1) (by omega);omega
 rw[row,row]
 constructor
 ·rintro⟨h1,h2,h3⟩
  have:=b2N h1;rw[a6A,a1G]at this;exact⟨⟨by omega,by omega⟩,⟨fun i hi=>(h2 i hi).1,fun i hi=>(h2 i hi).2,fun i hi=>(h3 i hi).1,fun i hi=>(h3 i hi).2⟩⟩
 ·rintro⟨⟨h1,h2⟩,T⟩
  refine⟨b2P (by rw[a1G];omega) (by rw[a1G];omega) (by rw[a1G];exact a5d),fun i hi=>⟨T.row i hi,T.rowN i hi⟩,fun i hi=>⟨T.col i hi,T.colN i hi⟩⟩
theorem c2C{α:Type}(xs:List α)(x:α):atI (xs++[x]) (-1)=some x:=by
 unfold atI ixN;rw[Qm (by omega),Qh (by rw[Qt];simp;omega)]
 have:((-1:Int)+((xs++[x]).length:Nat)).toNat=xs.length:=by rw[Qt];simp;omega
 rw[this]
 simp
abbrev rw'(n:Nat)(g:Nat->Int):List Int:=(List.range n).map g
theorem a2n{g:Nat->Int}(h:j<n):dIx (dR (rw' n g)) (.int (j:Int))=some (.int (g j)):=by
 show atI ((rw' n g).map D.int) (j:Int)=_;exact a1E (by simp[h])
theorem a4d{f:OO}(h:j<n):dIx (dT (gm n m f)) (.int (j:Int))=some (dR (rw' m (f j))):=by
 show atI ((gm n m f).map dR) (j:Int)=_;exact a1E (by simp[gm,h])
theorem c2D(n:Nat)(g:Nat->Int)(hn:n≤1000):a4L [.dat (dR (rw' n g))]=some (.d (dR (rw' (n+1) (S g))),[.dat (dR (rw' n g))]):=by
 generalize hL:dR (rw' n g)=L;have hLi:L.items=some ((rw' n g).map D.int):=by rw[←hL];rfl
 obtain⟨e',h1,w,rfl⟩:=a9y (g:=gN 2) (b:=a2t 1 (z5_ v5_ (g9_ 1 (j8_ (mC (.int 1)))) (z0_ 2))) (ds:=(rw' n g).map D.int) (P:=fun i e=>∃w,e=[.dat L,.own ((rw' (i+1) (S g)).map D.int),w]) (env:=[.dat L,.own [.int 0],.nil])
  (fun i d e hi ⟨w,he⟩=>by
   subst he;have hil:i<n:=by
    have:=(Qy.mp hi).1
    simpa using this
   have hd:d=.int (g i):=by
    simp[hil]at hi
    exact hi.symm
   subst hd;have ea:(rw' (i+1) (S g)).map D.int=(rw' i (S g)).map D.int++[D.int (S g i)]:=by
    unfold rw';rw[Vm,Yn,Yn];rfl
   have eb:(rw' (i+1+1) (S g)).map D.int=(rw' (i+1) (S g)).map D.int++[D.int (S g i+g i)]:=by
    unfold rw';rw[Vm (n:=i+1),Yn,Yn];rfl
   have ix:(g9_ 1 (j8_ (mC (.int 1)))) [.dat L,.own ((rw' (i+1) (S g)).map D.int),.dat (.int (g i))]=some (.int (S g i),[.dat L,.own ((rw' (i+1) (S g)).map D.int),.dat (.int (g i))]):=by
    show(atI ((rw' (i+1) (S g)).map D.int) (-1)).map _=_;rw[ea,c2C];rfl
   refine⟨[.dat L,.own ((rw' (i+1) (S g)).map D.int),.dat (.int (g i))],[.dat L,.own ((rw' (i+1+1) (S g)).map D.int),.dat (.int (g i))],rfl,?_,_,rfl⟩;unfold a2t;show((z5_ v5_ (g9_ 1 (j8_ (mC (.int 1)))) (z0_ 2)) [.dat L,.own ((rw' (i+1) (S g)).map D.int),.dat (.int (g i))]).bind _=_;rw[q7_ ix (b:=.int (g i)) (e2:=[.dat L,.own ((rw' (i+1) (S g)).map D.int),.dat (.int (g i))]) rfl (c:=.int (S g i+g i)) rfl];show(if((rw' (i+1) (S g)).map D.int).length<100000 then some (Fl.nx,[W.dat L,.own ((rw' (i+1) (S g)).map D.int++[D.int (S g i+g i)]),.dat (.int (g i))])else none)=_
   rw[Qh (by simp;omega),eb]) ⟨.nil,rfl⟩
 have hlen:((rw' n g).map D.int).length=n:=by simp
 rw[hlen]at h1;refine(w2_ (d:=dR (rw' (n+1) (S g))) (env:=[.dat L,.dat (.lst ((rw' (n+1) (S g)).map D.int)),w]) ?_).trans rfl;show a9a [.dat L,.nil,.nil]=_;unfold a9a;rw[w4_ (e1:=[.dat L,.own [.int 0],.nil]) rfl,w4_ ((a1c (a1A rfl hLi)).trans h1)]
 rfl
theorem c2E{f:Fn}{m':Nat}{h k:OO}(hf:∀i,i<n->f [.dat (dR (rw' m (h i)))]=some (.d (dR (rw' m' (k i))),[.dat (dR (rw' m (h i)))]))(hn:n≤1000):fnM 1 (q9_ (mCB a0s (z1_ (mF (y1_ (y4_ (z0_ 0)) [false] 1 (gN 1) y8_ (mCD 1 f (z6_ (z0_ 1) z8_)))) z3_))) [.dat (dT (gm n m h))]=some (.d (dT (gm n m' k)),[.dat (dT (gm n m h))]):=by
 obtain⟨e',h1,w,rfl⟩:=a4b (g:=gN 1) (m:=mCD 1 f (z6_ (z0_ 1) z8_)) (P:=fun e=>∃w,e=[.nil,w]) (q:=fun(i:Nat)=>dR (rw' m (h i))) (f:=fun i=>dR (rw' m' (k i))) (l:=List.range n) (env:=[.nil,.nil])
  (fun i hi e ⟨w,he⟩=>by
   subst he;refine⟨[.nil,.dat (dR (rw' m (h i)))],[.nil,.dat (dR (rw' m (h i)))],rfl,a1B (a2e (av:=[.d (dR (rw' m (h i)))]) rfl rfl rfl (hf i (Zl.mp hi))),_,rfl⟩) ⟨.nil,rfl⟩
 have it:(y4_ (z0_ 0)) [.dat (dT (gm n m h))]=some ((List.range n).map fun(i:Nat)=>dR (rw' m (h i)),[.dat (dT (gm n m h))]):=by
  refine a1A rfl ?_
  show some ((gm n m h).map dR)=_;unfold gm;rw[Zk];rfl
 refine(w2_ (d:=dT (gm n m' k)) (env:=[.dat (dT (gm n m h))]) ?_).trans rfl;refine g5_ (k2_ (q3_ (k9_ (a3d (e2:=[.nil,w]) it (by simp;omega) h1 rfl)) rfl) ?_)
 show some (D.tup _)=_;unfold dT gm;rw[Zk];rfl
theorem b3p(f:OO)(hn:n≤1000)(hm:m≤1000):a2M [.dat (dT (gm n m f))]=some (.d (dT (gm n (m+1) fun i=>S (f i))),[.dat (dT (gm n m f))]):=by
 unfold a2M b2r;exact c2E (f:=a4L) (h:=f) (k:=fun i=>S (f i)) (fun i _=>c2D m (f i) hm) hn
theorem b3q(f:OO)(h1:1≤n)(hn:n≤1000)(hm:m≤1000):a1q [.dat (dT (gm n m f))]=some (.d (dT (gm m n fun i j=>f j i)),[.dat (dT (gm n m f))]):=by
 have q:=b2Q (R:=gm n m f) (n:=m) (by intro z;have:=a1G (n:=n) (m:=m) (f:=f);rw[z]at this;simp at this;omega) a5d hm (by rw[a1G];exact hn)
 rw[b3o]at q;exact q
theorem c1{f:Fn}{m:Mo D}{env:Env'}{r:D}{ws:List W}(h:m env=some (d,env))(hf:f [.dat d]=some (.d r,ws)):mCD 1 f (z6_ m z8_) env=some (r,env):=
 a1B (a2e (av:=[.d d]) (a0I h rfl) rfl rfl hf)
theorem c2F(f:OO)(h1:1≤n)(h2:1≤m)(hn:n≤900)(hm:m≤900):a4M [.dat (dT (gm n m f))]=some (.d (dT (gm (n+1) m fun i j=>S (fun k=>f k j) i)),[.dat (dT (gm n m f))]):=by
 have q1:=b3q f h1 (by omega:n≤1000) (by omega:m≤1000)
 have q2:=b3p (fun i j=>f j i) (by omega:m≤1000) (by omega:n≤1000)
 have q3:=b3q (fun i=>S ((fun i j=>f j i) i)) h2 (by omega:m≤1000) (by omega:n+1≤1000)
 refine(w2_ (d:=dT (gm (n+1) m fun i j=>S (fun k=>f k j) i)) (env:=[.dat (dT (gm n m f))]) ?_).trans rfl
 show a9b [.dat (dT (gm n m f))]=_;unfold a9b;have p1:=c1 (m:=z0_ 0) (env:=[.dat (dT (gm n m f))]) rfl q1;exact g5_ (c1 (c1 p1 q2) q3)
theorem c2G(l:List Int):shp (dR l)=true:=by
 unfold shp SeqAt.shaped;show(PyData.canLayAll0 (k8_ (l.map D.int))&&decide (PyData.depthAll (k8_ (l.map D.int))+1≤64))=true;rw[a2m,a6B,a6C];rfl
theorem c2H(l k:List Int):PyData.eqv (toP (dR l)) (toP (dR k))=decide (l=k):=by
 show PyData.eqvAll (k8_ (l.map D.int)) (k8_ (k.map D.int))=_;rw[a2m,a2m,a9u]
theorem b3r:∀R:OI,PyData.canLayAll0 (k8_ (R.map dR))=true
 |[]=>rfl
 |r::R=>by
  show(PyData.canLayAll0 (k8_ (r.map D.int))&&PyData.canLayAll0 (k8_ (R.map dR)))=true;rw[b3r R,a2m,a6B];rfl
theorem a9D{a b:Mo D}{e1:Env'}{r:Option (D×Env')}(h:a e=some (.bl true,e1))(h2:b e1=r):a0h a b e=r:=by unfold a0h;rw[h];exact h2
theorem c2I{a b:Mo D}{e1:Env'}(h:a e=some (.bl false,e1)):a0h a b e=some (.bl false,e1):=by unfold a0h;rw[h];rfl
def dN(A B:OI):D:=.tup [dT A,dT B]
abbrev df(f:OO):OO:=fun i j=>f i (j+1)-f i j
abbrev acr(n:Nat)(f:OO):OI:=gm n (n+1) fun i=>S (f i)
abbrev dwn(n:Nat)(f:OO):OI:=gm (n+1) n fun i j=>S (fun k=>f k j) i
def g1_(n:Nat)(f:OO):D:=dN (acr n f) (dwn n f)
theorem a9E(f:OO)(h1:1≤n)(h6:n≤6):a1r [.dat (dT (gm n n f))]=some (.d (g1_ n f),[.dat (dT (gm n n f))]):=by
 refine(w2_ (d:=g1_ n f) (env:=[.dat (dT (gm n n f))]) ?_).trans rfl;show a9f [.dat (dT (gm n n f))]=_;unfold a9f;refine g5_ ?_
 have a1:(mCD 1 a2M (z6_ (z0_ 0) z8_)) [.dat (dT (gm n n f))]=some (dT (acr n f),[.dat (dT (gm n n f))]):=c1 rfl (b3p f (by omega) (by omega))
 have a2:(mCD 1 a4M (z6_ (z0_ 0) z8_)) [.dat (dT (gm n n f))]=some (dT (dwn n f),[.dat (dT (gm n n f))]):=c1 rfl (c2F f h1 h1 (by omega) (by omega))
 unfold q5_;rw[q3_ a1 (q3_ a2 rfl)];rfl
theorem a9F(g:Nat->Int):∀n,((List.range n).map g).sum=S g n
 |0=>rfl
 |n+1=>by rw[Vm,Yn,List.sum_append,a9F g n];simp[S]
theorem c2J{g:Nat->Int}(h:k≤n):((List.range n).map g).take k=(List.range k).map g:=by
 rw[←List.map_take,List.take_range,Pz h]
theorem c2K(g:Nat->Int)(hj:j≤n):a3f [.tup (a0O ((rw' n g).map D.int) none (some (j:Int)))]=some (.int (S g j)):=by
 rw[b3h,←List.map_take,c2J hj];show(ints? _).map _=_;rw[a6D];show some (D.int _)=_;rw[a9F]
theorem c2L(g:Nat->Int):a3f [.lst ((List.range i).map fun k=>D.int (g k))]=some (.int (S g i)):=by
 show(ints? _).map _=_;have:((List.range i).map fun k=>D.int (g k))=((List.range i).map g).map D.int:=by rw[Zk];rfl
 rw[this,a6D];show some (D.int _)=_;rw[a9F]
theorem c2M{f:OO}(h:k≤n):((gm n m f).map dR).take k=(List.range k).map fun i=>dR (rw' m (f i)):=by
 unfold gm;rw[Zk,←List.map_take,List.take_range,Pz h];rfl
theorem a5e{f:OO}:v3_ [dT (gm n m f)]=some (.int n):=by show some (D.int _)=_;rw[Qv,a1G]
theorem c2N{f:OO}:(dT (gm n m f)).items=some ((List.range n).map fun i=>dR (rw' m (f i))):=by
 show some ((gm n m f).map dR)=_;unfold gm;rw[Zk];rfl
theorem b3s(g:Nat->Int):a0s [.lst ((List.range n).map fun k=>D.int (g k))]=some (dR (rw' n g)):=by
 show some (D.tup _)=_;unfold dR rw';rw[Zk];rfl
theorem b3t(f:OO):a0s [.lst ((List.range n).map fun k=>dR (rw' m (f k)))]=some (dT (gm n m f)):=by
 show some (D.tup _)=_;unfold dT gm;rw[Zk];rfl
theorem b3u{f:OO}(h6:n≤6):a2O [.dat (dT (gm n n f))]=some (.d (g1_ n f),[.dat (dT (gm n n f))]):=by
 refine(w2_ (d:=g1_ n f) (env:=[.dat (dT (gm n n f)),.dat (.int n),.dat (dT (acr n f)),.dat (dT (dwn n f))]) ?_).trans rfl;show a9p [.dat (dT (gm n n f)),.nil,.nil,.nil]=_;unfold a9p;refine y9_ (e1:=[.dat (dT (gm n n f)),.dat (.int n),.nil,.nil]) (a0C (e1:=[.dat (dT (gm n n f)),.nil,.nil,.nil]) (k2_ (q3_ rfl rfl) a5e)) (y9_ (e1:=[.dat (dT (gm n n f)),.dat (.int n),.dat (dT (acr n f)),.nil]) (a0C (e1:=[.dat (dT (gm n n f)),.dat (.int n),.nil,.nil]) ?_) (y9_ (e1:=[.dat (dT (gm n n f)),.dat (.int n),.dat (dT (acr n f)),.dat (dT (dwn n f))]) (a0C (e1:=[.dat (dT (gm n n f)),.dat (.int n),.dat (dT (acr n f)),.nil]) ?_) rfl))
 ·refine k2_ (q3_ (k9_ (a1P (α:=Nat) (q:=fun i=>dR (rw' n (f i))) (f:=fun i=>dR (rw' (n+1) (S (f i)))) (l:=List.range n) (base:=[.nil,.dat (.int n),.nil,.nil]) (a1A rfl c2N) (by simp;omega) rfl rfl (fun i hi=>?_) (fun w=>rfl))) rfl) (b3t _)
  refine k2_ (q3_ (k9_ (a1P (α:=Nat) (q:=fun j=>D.int (j:Int)) (f:=fun j=>D.int (S (f i) j)) (l:=List.range (n+1)) (base:=[.nil,.nil,.nil,.nil,.dat (dR (rw' n (f i)))]) (a1F (q7_ rfl rfl rfl) (by omega) (by omega)) (by simp;omega) rfl rfl (fun j hj=>?_) (fun w=>rfl))) rfl) (b3s _)
  exact k2_ (q3_ (a5n rfl rfl rfl) rfl) (c2K (f i) (by have:=Zl.mp hj;omega))
 ·refine k2_ (q3_ (k9_ (a1P (α:=Nat) (q:=fun i=>D.int (i:Int)) (f:=fun i=>dR (rw' n fun j=>S (fun k=>f k j) i)) (l:=List.range (n+1)) (base:=[.dat (dT (gm n n f)),.dat (.int n),.nil,.nil]) (a1F (q7_ rfl rfl rfl) (by omega) (by omega)) (by simp;omega) rfl rfl (fun i hi=>?_) (fun w=>rfl))) rfl) (b3t _)
  have hi':i≤n:=by have:=Zl.mp hi;omega
  refine k2_ (q3_ (k9_ (a1P (α:=Nat) (q:=fun j=>D.int (j:Int)) (f:=fun j=>D.int (S (fun k=>f k j) i)) (l:=List.range n) (base:=[.dat (dT (gm n n f)),.nil,.nil,.nil,.dat (.int (i:Int))]) (a1F rfl rfl (by omega)) (by simp;omega) rfl rfl (fun j hj=>?_) (fun w=>rfl))) rfl) (b3s _)
  refine k2_ (q3_ (k9_ (a1P (α:=Nat) (q:=fun r=>dR (rw' n (f r))) (f:=fun r=>D.int (f r j)) (l:=List.range i) (base:=[.nil,.nil,.nil,.nil,.nil,.dat (.int (j:Int))]) ?_ (by simp;omega) rfl rfl (fun r hr=>q7_ rfl rfl (a2n (Zl.mp hj))) (fun w=>rfl))) rfl) (c2L _)
  exact a1A (a5n rfl rfl rfl) (by rw[b3h,c2M hi'];rfl)
end K21
namespace L2.Mir
open PySem L2
variable{a b d:D}{env:Env'}{i j:Nat}{m:Mo D}{ms:Mo (List D)}{α:Type}
theorem c2O{e1:Env'}(h:m env=some (.tup [a,b],e1)):u9_ m (gT 2 (gCn (gN i) (gCn (gN j) gNl))) env=some (.nx,(e1.set i (.dat a)).set j (.dat b)):=by
 unfold u9_;rw[h];rfl
theorem a3q{e1:Env'}{ds:List D}(h:ms env=some (ds,e1))(hl:ds.length≤1000):q5_ ms env=some (.tup ds,e1):=by unfold q5_;rw[h,Qk];simp only[hl,Yw]
theorem c2P(l:List α)(p q:α->D):a1I (l.map p) (l.map q)=l.map fun a=>.tup [p a,q a]:=by
 unfold a1I
 induction l with
 |nil=>rfl
 |cons a l ih=>rw[Qd,Qd,Tw,Qd,ih,Qd]
theorem c2Q{e e1:Env'}{l:List α}{p q:α->D}(h:ms e=some ([a,b],e1))(ha:a.items=some (l.map p))(hb:b.items=some (l.map q)):a3c ms e=some (l.map fun a=>.tup [p a,q a],e1):=by
 unfold a3c;rw[h];show a.items.bind _=_;rw[ha];show b.items.map _=_;rw[hb,Option.map_some,c2P]
theorem b3v{e1 e2:Env'}(h:m env=some (.tup [a,b],e1))(he:(e1.set i (.dat a)).set j (.dat b)=e2):u9_ m (gT 2 (gCn (gN i) (gCn (gN j) gNl))) env=some (.nx,e2):=by
 rw[c2O h,he]
theorem a0p{e1 e2:Env'}(h:m env=some (d,e1))(he:e1.set i (.dat d)=e2):v6_ i m env=some (.nx,e2):=by rw[a0C h,he]
theorem c2R{m:Mo (List D)}{e1 e2:Env'}{d:List D}(h:m env=some (d,e1))(he:e1.set i (.own d)=e2):u8_ i m env=some (.nx,e2):=by rw[b1m h,he]
theorem c2S{e1 e2:Env'}(h:ms env=some ([a,b],e1))(he:(e1.set i (.dat a)).set j (.dat b)=e2):a4q i j ms env=some (.nx,e2):=by
 unfold a4q;rw[h,←he];rfl
theorem a3r{N:Nat}{mb:Mo Fl}{ws env ws':List W}(h:mb (ws++List.replicate (N-ws.length) .nil)=some (.ret d,env))(he:a0y ws env=ws'):fnM N mb ws=some (.d d,ws'):=by rw[w2_ h,he]
abbrev up(a n:Nat):List Nat:=(List.range (n-a)).map (a+ ·)
theorem a1t{xs ys:List D}(h:xs.length+ys.length≤10000):v5_ (.tup xs) (.tup ys)=some (.tup (xs++ys)):=by
 show(if xs.length+ys.length≤10000 then _ else none)=_
 rw[Qh h]
end L2.Mir
namespace K21
open PySem L2 L2.Mir
variable{A d d1 d2:D}{L P ks:List KX}{N c i n r:Nat}{a a' v:Int}{b:Bool}{ds vs xs:List D}{e env:Env'}{k:KX}{m:Mo Fl}{m1 m2:Mo D}{o:Option D}{w0 w1:W}{ws ws':List W}{x y:Mx}
theorem a3s{w:W}{k:Int}{M:Mo D}(hw:e[i]? =some w)(hm:w.mutL=some [.int a,.bl b])(hM:M e=some (.int k,e))(ha:0≤a)(h1:1≤k)(h2:k<1073741824):
  ∃v a',mCD 2 w8_ (x6_ i (z6_ M z8_)) e=some (.int v,e.set i (w.put [.int a',.bl b]))/\0≤v/\v<k/\0≤a':=by
 obtain⟨v,a',et,v0,v1,a0⟩:=a4Z (a:=a) (m:=k) (b:=b) ha h1 h2;refine⟨v,a',a1B (a4w (av:=[.sl i,.d (.int k)]) (c:=[.int a,.bl b]) ?_ rfl rfl hw hm et rfl),v0,v1,a0⟩;unfold x6_;rw[hw];simp only[Qk];have hm':∃m,w.mut=some m:=by
  cases w<;>first|cases hm;done|exact⟨_,rfl⟩
 obtain⟨m,hm'⟩:=hm';rw[hm'];simp only[Qk];rw[a0I hM rfl];rfl
theorem a4e(h0:0≤v)(h1:v<ds.length):∃d,d∈ds/\dIx (.lst ds) (.int v)=some d:=by
 have hv:v.toNat<ds.length:=by omega
 refine⟨ds[v.toNat],Yl hv,?_⟩;have:((v.toNat:Nat):Int)=v:=by omega
 have h:=a1E (Zz hv)
 rw[this]at h;exact h
theorem b3w{L:List Int}(h0:0≤v)(h1:v<L.length):∃j,j∈L/\dIx (.lst (L.map .int)) (.int v)=some (.int j):=by
 obtain⟨d,hd,e⟩:=a4e (ds:=L.map .int) h0 (by rw[Qv];exact h1)
 obtain⟨j,hj,rfl⟩:=Qa.mp hd;exact⟨j,hj,e⟩
theorem b3x(xs:List D)(lo hi:Option Int):(a0O xs lo hi).length≤xs.length:=by
 unfold a0O;rw[Jp,Xp];omega
theorem a0X{m:Mo D}{ml mh:Mo (Option Int)}{lo hi:Option Int}(h:m e=some (.tup xs,e))(h1:ml e=some (lo,e))(h2:mh e=some (hi,e)):mSl m ml mh e=some (.tup (a0O xs lo hi),e):=by
 unfold mSl;rw[h];simp only[Qk];rw[h1];simp only[Qk];rw[h2];rfl
theorem a1R{ms:Mo (List D)}{e1:Env'}(h:ms e=some (ds,e1))(hl:ds.length≤1000):x3_ ms e=some (ds,e1):=by
 unfold x3_;rw[h];exact Qh hl
theorem a6H{ma mb:Mo D}{e1 e2:Env'}{ys:List D}(h1:ma e=some (.lst xs,e1))(h2:mb e1=some (.lst ys,e2))(hl:xs.length+ys.length≤10000):a0N ma mb e=some (xs++ys,e2):=by
 unfold a0N;rw[h1];simp only[Qk];rw[h2];exact Qh hl
theorem a9G:a0J (.int 10) (.int 29)=some (.int 100000000000000000000000000000):=b2Z (by decide+kernel) (by decide+kernel)
theorem b3y{R:OI}(h1:1≤n)(h6:n≤6)(hl:R.length=n)(hr:∀r∈R,r.length=n)(ha:0≤a):∃d a',a3o [.par [.int a,.bl b],.dat (dT R)]=some (.d d,[.par [.int a',.bl b],.dat (dT R)])/\0≤a':=by
 obtain⟨v1,a1,t1,p1,q1,a10⟩:=a3s (i:=0) (e:=[.par [.int a,.bl b],.dat (dT R),.nil,.nil,.nil,.nil,.nil,.nil,.nil,.nil]) (w:=.par [.int a,.bl b]) (k:=(n:Int)) (M:=mCB v3_ (z1_ (z0_ 1) z3_)) rfl rfl (by show some (D.int ((R.map dR).length:Nat),_)=_;rw[Qv,hl]) ha (by omega) (by omega)
 change mCD 2 _ _ _=some (_,[.par [.int a1,.bl b],.dat (dT R),.nil,.nil,.nil,.nil,.nil,.nil,.nil,.nil])at t1;obtain⟨v2,a2,t2,p2,q2,a20⟩:=a3s (i:=0) (e:=[.par [.int a1,.bl b],.dat (dT R),.nil,.nil,.nil,.nil,.nil,.nil,.nil,.nil]) (w:=.par [.int a1,.bl b]) (k:=(n:Int)) (M:=mCB v3_ (z1_ (z0_ 1) z3_)) rfl rfl (by show some (D.int ((R.map dR).length:Nat),_)=_;rw[Qv,hl]) a10 (by omega) (by omega)
 change mCD 2 _ _ _=some (_,[.par [.int a2,.bl b],.dat (dT R),.nil,.nil,.nil,.nil,.nil,.nil,.nil,.nil])at t2;have s1:(a4q 8 9 (z1_ (mCD 2 w8_ (x6_ 0 (z6_ (mCB v3_ (z1_ (z0_ 1) z3_)) z8_))) (z1_ (mCD 2 w8_ (x6_ 0 (z6_ (mCB v3_ (z1_ (z0_ 1) z3_)) z8_))) z3_))) [.par [.int a,.bl b],.dat (dT R),.nil,.nil,.nil,.nil,.nil,.nil,.nil,.nil]=some (.nx,[.par [.int a2,.bl b],.dat (dT R),.nil,.nil,.nil,.nil,.nil,.nil,.dat (.int v1),.dat (.int v2)]):=c2S (e1:=[.par [.int a2,.bl b],.dat (dT R),.nil,.nil,.nil,.nil,.nil,.nil,.nil,.nil]) (q3_ t1 (q3_ t2 rfl)) rfl;have hv1:v1.toNat<R.length:=by omega
 have hv1':((v1.toNat:Nat):Int)=v1:=by omega
 generalize hrr:R[v1.toNat]=r;have hrl:r.length=n:=by rw[←hrr];exact hr _ (Yl hv1)
 have ixr:dIx (dT R) (.int v1)=some (dR r):=by
  rw[←hv1'];exact a1E (xs:=R.map dR) (by rw[Zd,Zz hv1,hrr];rfl)
 have s2':(v6_ 2 (z5_ dIx (z0_ 1) (z0_ 8))) [.par [.int a2,.bl b],.dat (dT R),.nil,.nil,.nil,.nil,.nil,.nil,.dat (.int v1),.dat (.int v2)]=some (.nx,[.par [.int a2,.bl b],.dat (dT R),.dat (dR r),.nil,.nil,.nil,.nil,.nil,.dat (.int v1),.dat (.int v2)]):=a0p (e1:=[.par [.int a2,.bl b],.dat (dT R),.nil,.nil,.nil,.nil,.nil,.nil,.dat (.int v1),.dat (.int v2)]) (q7_ rfl rfl ixr) rfl
 obtain⟨v3,a3,t3,p3,q3,a30⟩:=a3s (i:=0) (e:=[.par [.int a2,.bl b],.dat (dT R),.dat (dR r),.nil,.nil,.nil,.nil,.nil,.dat (.int v1),.dat (.int v2)]) (w:=.par [.int a2,.bl b]) (k:=12) (M:=mC (.int 12)) rfl rfl rfl a20 (by omega) (by omega)
 change mCD 2 _ _ _=some (_,[.par [.int a3,.bl b],.dat (dT R),.dat (dR r),.nil,.nil,.nil,.nil,.nil,.dat (.int v1),.dat (.int v2)])at t3;have hv2:v2.toNat<r.length:=by omega
 have hv2':((v2.toNat:Nat):Int)=v2:=by omega
 obtain⟨xk,ixk⟩:∃x,dIx (dR r) (.int v2)=some (.int x):=by
  rw[←hv2'];exact⟨_,a1E (xs:=r.map D.int) (by rw[Zd,Zz hv2];rfl)⟩
 obtain⟨odd,_,hodd⟩:=a4e (ds:=[.int 0,.int 1,.int (-1),.int 2,.int (-2),.bl true,.bl false,.non,.str "1",.tup [.int 1],.int 100000000000000000000000000000,.int (-xk)]) p3 q3;have ng:j8_ (z5_ dIx (z0_ 2) (z0_ 9)) [.par [.int a2,.bl b],.dat (dT R),.dat (dR r),.nil,.nil,.nil,.nil,.nil,.dat (.int v1),.dat (.int v2)]=some (.int (-xk),[.par [.int a2,.bl b],.dat (dT R),.dat (dR r),.nil,.nil,.nil,.nil,.nil,.dat (.int v1),.dat (.int v2)]):=by
  unfold j8_;rw[q7_ (e1:=[.par [.int a2,.bl b],.dat (dT R),.dat (dR r),.nil,.nil,.nil,.nil,.nil,.dat (.int v1),.dat (.int v2)]) (e2:=[.par [.int a2,.bl b],.dat (dT R),.dat (dR r),.nil,.nil,.nil,.nil,.nil,.dat (.int v1),.dat (.int v2)]) rfl rfl ixk]
  rfl
 have s3':(v6_ 3 (z5_ dIx (mF (x3_ (z1_ (mC (.int 0)) (z1_ (mC (.int 1)) (z1_ (j8_ (mC (.int 1))) (z1_ (mC (.int 2)) (z1_ (j8_ (mC (.int 2))) (z1_ (mC (.bl true)) (z1_ (mC (.bl false)) (z1_ (mC .non) (z1_ (mC (.str "1")) (z1_ (q5_ (z1_ (mC (.int 1)) z3_)) (z1_ (z5_ a0J (mC (.int 10)) (mC (.int 29))) (z1_ (j8_ (z5_ dIx (z0_ 2) (z0_ 9))) z3_)))))))))))))) (mCD 2 w8_ (x6_ 0 (z6_ (mC (.int 12)) z8_))))) [.par [.int a2,.bl b],.dat (dT R),.dat (dR r),.nil,.nil,.nil,.nil,.nil,.dat (.int v1),.dat (.int v2)]=some (.nx,[.par [.int a3,.bl b],.dat (dT R),.dat (dR r),.dat odd,.nil,.nil,.nil,.nil,.dat (.int v1),.dat (.int v2)]):=a0p (e1:=[.par [.int a3,.bl b],.dat (dT R),.dat (dR r),.nil,.nil,.nil,.nil,.nil,.dat (.int v1),.dat (.int v2)]) (q7_ (k9_ (a1R (q3_ rfl (q3_ rfl (q3_ rfl (q3_ rfl (q3_ rfl (q3_ rfl (q3_ rfl (q3_ rfl (q3_ rfl (q3_ rfl (q3_ (q7_ rfl rfl a9G) (q3_ ng rfl)))))))))))) (by simp))) t3 hodd) rfl
 have cl:∀lo hi,(a0O (r.map D.int) lo hi).length≤6:=fun lo hi=>Zt (b3x _ _ _) (by rw[Qv];omega)
 have cl2:∀lo hi,(a0O (R.map dR) lo hi).length≤6:=fun lo hi=>Zt (b3x _ _ _) (by rw[Qv];omega)
 obtain⟨rw4,hrw4,s4'⟩:∃rw4:List D,rw4.length=4/\(v6_ 4 (mF (x3_ (z1_ (z5_ v5_ (z5_ v5_ (mSl (z0_ 2) w0_ (w1_ (z0_ 9))) (q5_ (z1_ (z0_ 3) z3_))) (mSl (z0_ 2) (w1_ (z5_ v5_ (z0_ 9) (mC (.int 1)))) w0_)) (z1_ (z5_ v5_ (z5_ v5_ (mSl (z0_ 2) w0_ (w1_ (z0_ 9))) (q5_ (z1_ (z0_ 3) z3_))) (mSl (z0_ 2) (w1_ (z0_ 9)) w0_)) (z1_ (z5_ v5_ (mSl (z0_ 2) w0_ (w1_ (z0_ 9))) (mSl (z0_ 2) (w1_ (z5_ v5_ (z0_ 9) (mC (.int 1)))) w0_)) (z1_ (mF (mCL a4p (z1_ (z0_ 2) z3_))) z3_))))))) [.par [.int a3,.bl b],.dat (dT R),.dat (dR r),.dat odd,.nil,.nil,.nil,.nil,.dat (.int v1),.dat (.int v2)]=some (.nx,[.par [.int a3,.bl b],.dat (dT R),.dat (dR r),.dat odd,.dat (.lst rw4),.nil,.nil,.nil,.dat (.int v1),.dat (.int v2)]):=by
  refine⟨[_,_,_,_],?_,a0p (e1:=[.par [.int a3,.bl b],.dat (dT R),.dat (dR r),.dat odd,.nil,.nil,.nil,.nil,.dat (.int v1),.dat (.int v2)]) (k9_ (a1R (q3_
   (q7_ (q7_ (a0X rfl rfl rfl) rfl (a1t ?_)) (a0X rfl rfl rfl) (a1t ?_)) (q3_
   (q7_ (q7_ (a0X rfl rfl rfl) rfl (a1t ?_)) (a0X rfl rfl rfl) (a1t ?_)) (q3_
   (q7_ (a0X rfl rfl rfl) (a0X rfl rfl rfl) (a1t ?_)) (q3_ rfl rfl)))) (by simp))) rfl⟩
  ·rfl
  ·have:=cl none (some v2);simp;omega
  ·have:=cl none (some v2);have:=cl (some (v2+1)) none;simp;omega
  ·have:=cl none (some v2);simp;omega
  ·have:=cl none (some v2);have:=cl (some v2) none;simp;omega
  ·have:=cl none (some v2);have:=cl (some (v2+1)) none;omega
 obtain⟨v4,a4,t4,p4,q4,a40⟩:=a3s (i:=0) (e:=[.par [.int a3,.bl b],.dat (dT R),.dat (dR r),.dat odd,.dat (.lst rw4),.nil,.nil,.nil,.dat (.int v1),.dat (.int v2)]) (w:=.par [.int a3,.bl b]) (k:=10) (M:=mC (.int 10)) rfl rfl rfl a30 (by omega) (by omega)
 change mCD 2 _ _ _=some (_,[.par [.int a4,.bl b],.dat (dT R),.dat (dR r),.dat odd,.dat (.lst rw4),.nil,.nil,.nil,.dat (.int v1),.dat (.int v2)])at t4;obtain⟨j4,hj4,ej4⟩:=b3w (L:=[0,0,0,0,0,1,2,3,4,5]) p4 q4;obtain⟨one,_,hone⟩:=a4e (ds:=rw4++[dR r.reverse,.non]) (v:=j4) (by simp at hj4;omega) (by simp at hj4;simp[hrw4];omega)
 have rv:a3I (z0_ 2) [.par [.int a3,.bl b],.dat (dT R),.dat (dR r),.dat odd,.dat (.lst rw4),.nil,.nil,.nil,.dat (.int v1),.dat (.int v2)]=some (dR r.reverse,[.par [.int a3,.bl b],.dat (dT R),.dat (dR r),.dat odd,.dat (.lst rw4),.nil,.nil,.nil,.dat (.int v1),.dat (.int v2)]):=by
  show some (D.tup (r.map D.int).reverse,_)=_;rw[←List.map_reverse]
  rfl
 have s5:(v6_ 5 (z5_ dIx (mF (a0N (z0_ 4) (mF (x3_ (z1_ (a3I (z0_ 2)) (z1_ (mC .non) z3_)))))) (z5_ dIx (mF (x3_ (z1_ (mC (.int 0)) (z1_ (mC (.int 0)) (z1_ (mC (.int 0)) (z1_ (mC (.int 0)) (z1_ (mC (.int 0)) (z1_ (mC (.int 1)) (z1_ (mC (.int 2)) (z1_ (mC (.int 3)) (z1_ (mC (.int 4)) (z1_ (mC (.int 5)) z3_)))))))))))) (mCD 2 w8_ (x6_ 0 (z6_ (mC (.int 10)) z8_)))))) [.par [.int a3,.bl b],.dat (dT R),.dat (dR r),.dat odd,.dat (.lst rw4),.nil,.nil,.nil,.dat (.int v1),.dat (.int v2)]=some (.nx,[.par [.int a4,.bl b],.dat (dT R),.dat (dR r),.dat odd,.dat (.lst rw4),.dat one,.nil,.nil,.dat (.int v1),.dat (.int v2)]):=a0p (e1:=[.par [.int a4,.bl b],.dat (dT R),.dat (dR r),.dat odd,.dat (.lst rw4),.nil,.nil,.nil,.dat (.int v1),.dat (.int v2)]) (q7_ (k9_ (a6H (e1:=[.par [.int a3,.bl b],.dat (dT R),.dat (dR r),.dat odd,.dat (.lst rw4),.nil,.nil,.nil,.dat (.int v1),.dat (.int v2)]) (e2:=[.par [.int a3,.bl b],.dat (dT R),.dat (dR r),.dat odd,.dat (.lst rw4),.nil,.nil,.nil,.dat (.int v1),.dat (.int v2)]) rfl (k9_ (a1R (q3_ rv (q3_ rfl rfl)) (by simp))) (by simp[hrw4]))) (q7_ rfl t4 ej4) hone) rfl
 obtain⟨v5,a5,t5,p5,q5,a50⟩:=a3s (i:=0) (e:=[.par [.int a4,.bl b],.dat (dT R),.dat (dR r),.dat odd,.dat (.lst rw4),.dat one,.nil,.nil,.dat (.int v1),.dat (.int v2)]) (w:=.par [.int a4,.bl b]) (k:=(n:Int)) (M:=mCB v3_ (z1_ (z0_ 1) z3_)) rfl rfl (by show some (D.int ((R.map dR).length:Nat),_)=_;rw[Qv,hl]) a40 (by omega) (by omega)
 change mCD 2 _ _ _=some (_,[.par [.int a5,.bl b],.dat (dT R),.dat (dR r),.dat odd,.dat (.lst rw4),.dat one,.nil,.nil,.dat (.int v1),.dat (.int v2)])at t5;have hv5:v5.toNat<R.length:=by omega
 have hv5':((v5.toNat:Nat):Int)=v5:=by omega
 obtain⟨oth,hoth⟩:∃oth,dIx (dT R) (.int v5)=some oth:=by
  rw[←hv5'];exact⟨_,a1E (xs:=R.map dR) (by rw[Zd,Zz hv5];rfl)⟩
 have s6:(v6_ 6 (z5_ dIx (z0_ 1) (mCD 2 w8_ (x6_ 0 (z6_ (mCB v3_ (z1_ (z0_ 1) z3_)) z8_))))) [.par [.int a4,.bl b],.dat (dT R),.dat (dR r),.dat odd,.dat (.lst rw4),.dat one,.nil,.nil,.dat (.int v1),.dat (.int v2)]=some (.nx,[.par [.int a5,.bl b],.dat (dT R),.dat (dR r),.dat odd,.dat (.lst rw4),.dat one,.dat oth,.nil,.dat (.int v1),.dat (.int v2)]):=a0p (e1:=[.par [.int a5,.bl b],.dat (dT R),.dat (dR r),.dat odd,.dat (.lst rw4),.dat one,.nil,.nil,.dat (.int v1),.dat (.int v2)]) (q7_ rfl t5 hoth) rfl
 obtain⟨s2,hs2,s7⟩:∃s2:List D,s2.length=2/\(v6_ 7 (mF (x3_ (z1_ (z5_ v5_ (z5_ v5_ (mSl (z0_ 1) w0_ (w1_ (z0_ 8))) (q5_ (z1_ (z0_ 5) z3_))) (mSl (z0_ 1) (w1_ (z5_ v5_ (z0_ 8) (mC (.int 1)))) w0_)) (z1_ (z5_ v5_ (z5_ v5_ (mSl (z0_ 1) w0_ (w1_ (z0_ 8))) (q5_ (z1_ (z0_ 6) z3_))) (mSl (z0_ 1) (w1_ (z5_ v5_ (z0_ 8) (mC (.int 1)))) w0_)) z3_))))) [.par [.int a5,.bl b],.dat (dT R),.dat (dR r),.dat odd,.dat (.lst rw4),.dat one,.dat oth,.nil,.dat (.int v1),.dat (.int v2)]=some (.nx,[.par [.int a5,.bl b],.dat (dT R),.dat (dR r),.dat odd,.dat (.lst rw4),.dat one,.dat oth,.dat (.lst s2),.dat (.int v1),.dat (.int v2)]):=by
  refine⟨[_,_],?_,a0p (e1:=[.par [.int a5,.bl b],.dat (dT R),.dat (dR r),.dat odd,.dat (.lst rw4),.dat one,.dat oth,.nil,.dat (.int v1),.dat (.int v2)]) (k9_ (a1R (q3_
   (q7_ (q7_ (a0X rfl rfl rfl) rfl (a1t ?_)) (a0X rfl rfl rfl) (a1t ?_)) (q3_
   (q7_ (q7_ (a0X rfl rfl rfl) rfl (a1t ?_)) (a0X rfl rfl rfl) (a1t ?_)) rfl)) (by simp))) rfl⟩
  ·rfl
  ·have:=cl2 none (some v1);simp;omega
  ·have:=cl2 none (some v1);have:=cl2 (some (v1+1)) none;simp;omega
  ·have:=cl2 none (some v1);simp;omega
  ·have:=cl2 none (some v1);have:=cl2 (some (v1+1)) none;simp;omega
 obtain⟨s4,hs4,s8⟩:∃s4:List D,s4.length=4/\(v6_ 7 (mF (a0N (z0_ 7) (mF (x3_ (z1_ (z5_ v5_ (mSl (z0_ 1) w0_ (w1_ (z0_ 8))) (mSl (z0_ 1) (w1_ (z5_ v5_ (z0_ 8) (mC (.int 1)))) w0_)) (z1_ (z5_ v5_ (z5_ v5_ (mSl (z0_ 1) w0_ (w1_ (z0_ 8))) (q5_ (z1_ (z0_ 2) z3_))) (mSl (z0_ 1) (w1_ (z0_ 8)) w0_)) (z1_ (mF (mCL a4p (z1_ (z0_ 1) z3_))) (z1_ (a3I (z0_ 1)) z3_))))))))) [.par [.int a5,.bl b],.dat (dT R),.dat (dR r),.dat odd,.dat (.lst rw4),.dat one,.dat oth,.dat (.lst s2),.dat (.int v1),.dat (.int v2)]=some (.nx,[.par [.int a5,.bl b],.dat (dT R),.dat (dR r),.dat odd,.dat (.lst rw4),.dat one,.dat oth,.dat (.lst (s2++s4)),.dat (.int v1),.dat (.int v2)]):=by
  refine⟨[_,_,_,_],?_,a0p (e1:=[.par [.int a5,.bl b],.dat (dT R),.dat (dR r),.dat odd,.dat (.lst rw4),.dat one,.dat oth,.dat (.lst s2),.dat (.int v1),.dat (.int v2)]) (k9_ (a6H (e1:=[.par [.int a5,.bl b],.dat (dT R),.dat (dR r),.dat odd,.dat (.lst rw4),.dat one,.dat oth,.dat (.lst s2),.dat (.int v1),.dat (.int v2)]) (e2:=[.par [.int a5,.bl b],.dat (dT R),.dat (dR r),.dat odd,.dat (.lst rw4),.dat one,.dat oth,.dat (.lst s2),.dat (.int v1),.dat (.int v2)]) rfl (k9_ (a1R (q3_
   (q7_ (a0X rfl rfl rfl) (a0X rfl rfl rfl) (a1t ?_)) (q3_
   (q7_ (q7_ (a0X rfl rfl rfl) rfl (a1t ?_)) (a0X rfl rfl rfl) (a1t ?_)) (q3_ rfl (q3_ rfl rfl)))) (by simp))) (by simp[hs2]))) rfl⟩
  ·rfl
  ·have:=cl2 none (some v1);have:=cl2 (some (v1+1)) none;omega
  ·have:=cl2 none (some v1);simp;omega
  ·have:=cl2 none (some v1);have:=cl2 (some v1) none;simp;omega
 obtain⟨s3,hs3,s9⟩:∃s3:List D,s3.length=3/\(v6_ 7 (mF (a0N (z0_ 7) (mF (x3_ (z1_ (q5_ (z1_ (z0_ 1) z3_)) (z1_ (mC .non) (z1_ (z0_ 2) z3_)))))))) [.par [.int a5,.bl b],.dat (dT R),.dat (dR r),.dat odd,.dat (.lst rw4),.dat one,.dat oth,.dat (.lst (s2++s4)),.dat (.int v1),.dat (.int v2)]=some (.nx,[.par [.int a5,.bl b],.dat (dT R),.dat (dR r),.dat odd,.dat (.lst rw4),.dat one,.dat oth,.dat (.lst (s2++s4++s3)),.dat (.int v1),.dat (.int v2)]):=
  ⟨[_,_,_],rfl,a0p (e1:=[.par [.int a5,.bl b],.dat (dT R),.dat (dR r),.dat odd,.dat (.lst rw4),.dat one,.dat oth,.dat (.lst (s2++s4)),.dat (.int v1),.dat (.int v2)]) (k9_ (a6H (e1:=[.par [.int a5,.bl b],.dat (dT R),.dat (dR r),.dat odd,.dat (.lst rw4),.dat one,.dat oth,.dat (.lst (s2++s4)),.dat (.int v1),.dat (.int v2)]) (e2:=[.par [.int a5,.bl b],.dat (dT R),.dat (dR r),.dat odd,.dat (.lst rw4),.dat one,.dat oth,.dat (.lst (s2++s4)),.dat (.int v1),.dat (.int v2)]) rfl (k9_ (a1R (q3_ rfl (q3_ rfl (q3_ rfl rfl))) (by simp))) (by simp[hs2,hs4]))) rfl⟩
 obtain⟨v6,a6,t6,p6,q6,a60⟩:=a3s (i:=0) (e:=[.par [.int a5,.bl b],.dat (dT R),.dat (dR r),.dat odd,.dat (.lst rw4),.dat one,.dat oth,.dat (.lst (s2++s4++s3)),.dat (.int v1),.dat (.int v2)]) (w:=.par [.int a5,.bl b]) (k:=13) (M:=mC (.int 13)) rfl rfl rfl a50 (by omega) (by omega)
 change mCD 2 _ _ _=some (_,[.par [.int a6,.bl b],.dat (dT R),.dat (dR r),.dat odd,.dat (.lst rw4),.dat one,.dat oth,.dat (.lst (s2++s4++s3)),.dat (.int v1),.dat (.int v2)])at t6;obtain⟨j6,hj6,ej6⟩:=b3w (L:=[0,0,0,0,1,1,2,3,4,5,6,7,8]) p6 q6;obtain⟨d,_,hd⟩:=a4e (ds:=s2++s4++s3) (v:=j6) (by simp at hj6;omega) (by simp at hj6;simp[hs2,hs4,hs3];omega)
 refine⟨d,a6,a3r (env:=[.par [.int a6,.bl b],.dat (dT R),.dat (dR r),.dat odd,.dat (.lst rw4),.dat one,.dat oth,.dat (.lst (s2++s4++s3)),.dat (.int v1),.dat (.int v2)]) ?_ rfl,a60⟩;show a9o [.par [.int a,.bl b],.dat (dT R),.nil,.nil,.nil,.nil,.nil,.nil,.nil,.nil]=_;unfold a9o;exact y9_ s1 (y9_ s2' (y9_ s3' (y9_ s4' (y9_ s5 (y9_ s6 (y9_ s7 (y9_ s8 (y9_ s9 (g5_ (q7_ rfl (q7_ rfl t6 ej6) hd))))))))))
theorem c2T(ha:0≤a):∃d a',a4V [.par [.int a,.bl b]]=some (.d d,[.par [.int a',.bl b]])/\0≤a':=by
 obtain⟨v,a1,t,p,q,a10⟩:=a3s (i:=0) (e:=[.par [.int a,.bl b],.dat (.lst [.non,.bl true,.bl false,.int (-1),.int 0,.int 1,.str "",.str "+",.tup [],.lst [],.tup [.bl true],.lst [.tup [.int 1]],.emp,.tup [.non],.tup [.tup [.bl true]]])]) (w:=.par [.int a,.bl b]) (k:=20) (M:=mC (.int 20)) rfl rfl rfl ha (by omega) (by omega)
 change mCD 2 _ _ _=some (_,[.par [.int a1,.bl b],.dat (.lst [.non,.bl true,.bl false,.int (-1),.int 0,.int 1,.str "",.str "+",.tup [],.lst [],.tup [.bl true],.lst [.tup [.int 1]],.emp,.tup [.non],.tup [.tup [.bl true]]])])at t;obtain⟨d,hd,ed⟩:=a4e (ds:=[.non,.bl true,.bl false,.int (-1),.int 0,.int 1,.str "",.str "+",.tup [],.lst [],.tup [.bl true],.lst [.tup [.int 1]],.emp,.tup [.non],.tup [.tup [.bl true]],.int 100000000000000000000000000000,.tup [.tup []],.tup [.tup [.int 0]],.tup [.tup [.int 1],.tup [.int 1]],.tup [.tup [.tup [.int 1]]]]) p q;refine⟨d,a1,a3r (d:=d) (env:=[.par [.int a1,.bl b],.dat (.lst [.non,.bl true,.bl false,.int (-1),.int 0,.int 1,.str "",.str "+",.tup [],.lst [],.tup [.bl true],.lst [.tup [.int 1]],.emp,.tup [.non],.tup [.tup [.bl true]]])]) ?_ rfl,a10⟩;show a9n [.par [.int a,.bl b],.nil]=_;unfold a9n;refine y9_ (e1:=[.par [.int a,.bl b],.dat (.lst [.non,.bl true,.bl false,.int (-1),.int 0,.int 1,.str "",.str "+",.tup [],.lst [],.tup [.bl true],.lst [.tup [.int 1]],.emp,.tup [.non],.tup [.tup [.bl true]]])]) rfl (g5_ (q7_ (k9_ (a6H rfl (k9_ (a1R (q3_ (q7_ rfl rfl a9G) (q3_ rfl (q3_ rfl (q3_ rfl (q3_ rfl rfl))))) (by simp))) (by simp))) t ed))
theorem c2U(k:Nat)(i:Int):u4_ (k+1) [.dat (.int i),.dat (.int i)]=some (.d (.bl true),[.dat (.int i),.dat (.int i)]):=by
 refine(w2_ (d:=.bl true) (env:=[.dat (.int i),.dat (.int i)]) ?_).trans rfl;show a4W (u4_ k) [.dat (.int i),.dat (.int i)]=_;unfold a4W;refine y9_ (a0w rfl rfl) (g5_ ?_);have e:(z5_ (dEq false) (z0_ 0) (z0_ 1)) [.dat (.int i),.dat (.int i)]=some (.bl (i==i),[.dat (.int i),.dat (.int i)]):=rfl;rw[Ti]at e;exact a9D e rfl
theorem a9H{k:Nat}{es:List D}(hl:es.length≤1000)(h:∀x∈es,∃ws,u4_ k [.dat x,.dat x]=some (.d (.bl true),ws)):∃ws,u4_ (k+1) [.dat (.tup es),.dat (.tup es)]=some (.d (.bl true),ws):=by
 refine⟨_,(w2_ (d:=.bl true) (env:=[.dat (.tup es),.dat (.tup es)]) ?_)⟩;show a4W (u4_ k) [.dat (.tup es),.dat (.tup es)]=_;unfold a4W;refine a1z (a9x (e1:=[.dat (.tup es),.dat (.tup es)]) rfl (y9_ (e1:=[.dat (.tup es),.dat (.tup es)]) (a0w (e1:=[.dat (.tup es),.dat (.tup es)]) rfl rfl) (g5_ ?_)));have e1:(z5_ (dEq false) (mCB v3_ (z1_ (z0_ 0) z3_)) (mCB v3_ (z1_ (z0_ 1) z3_))) [.dat (.tup es),.dat (.tup es)]=some (.bl ((es.length:Int)==(es.length:Int)),[.dat (.tup es),.dat (.tup es)]):=rfl;have c:=b3f (mi:=a3c (z1_ (z0_ 0) (z1_ (z0_ 1) z3_))) (keep:=[false,false]) (m:=mCD 2 (u4_ k) (z6_ (z0_ 2) (z6_ (z0_ 3) z8_))) (env:=[.dat (.tup es),.dat (.tup es)]) (base:=[.nil,.nil]) (l:=es) (q:=fun p=>p) (q2:=fun p=>p) (f:=fun p=>.bl true) (k:=2) (c2Q (a:=.tup es) (b:=.tup es) rfl (by show some es=some (es.map fun p=>p);simp) (by show some es=some (es.map fun p=>p);simp)) (by omega) rfl rfl (fun p hp=>by
   obtain⟨ws,q⟩:=h p hp;exact a1Q (av:=[.d p,.d p]) rfl rfl rfl q) (fun w w2=>rfl)
 refine(a9D (e1.trans ?_) (k2_ (d:=.bl true) (q3_ (k9_ c) rfl) ?_))
 ·rw[Ti]
 ·show(a0u _).map _=_
  rw[a2C]
  simp
theorem b3z{k:Nat}{r:List Int}(h:r.length≤1000):∃ws,u4_ (k+2) [.dat (dR r),.dat (dR r)]=some (.d (.bl true),ws):=
 a9H (k:=k+1) (by rw[Qv];exact h) fun z hz=>by
  obtain⟨i,_,rfl⟩:=Qa.mp hz;exact⟨_,c2U k i⟩
theorem b3A{e1:Env'}{r:Option Str}(h:x e=none)(hm:m e=some (.nx,e1))(hy:y e1=r):a0P x m y e=r:=by
 unfold a0P;rw[h];dsimp only;rw[hm];exact hy
theorem a5f{c:Str}(h:x e=some c):a0P x m y e=some c:=by
 unfold a0P;rw[h]
theorem a9I{t:Mo Bool}{e1:Env'}{r:Option Str}(h:t e=some (true,e1))(hx:x e1=r):xIf t x y e=r:=by
 unfold xIf;rw[h];exact hx
theorem b3B{t:Mo Bool}{e1:Env'}{r:Option Str}(h:t e=some (false,e1))(hx:y e1=r):xIf t x y e=r:=by
 unfold xIf;rw[h];exact hx
def b3C(o:Option D)(x:Str):Bool:=match o with
 |some (.str y)=>decide (y=x)
 |_=>false
theorem b3D{x:Str}(h:b3C o x=true):o=some (.str x):=by
 unfold b3C at h;split at h
 ·rw[of_decide_eq_true h]
 ·cases h
def b3E(o:Option D):Bool:=match o with
 |some (.bl false)=>true
 |_=>false
theorem b3F(h:b3E o=true):o=some (.bl false):=by
 unfold b3E at h;split at h
 ·rfl
 ·cases h
theorem a6I{f:OO}(h1:1≤n)(h6:n≤6)(T:TabF n f):a0U [.dat (dT (gm n n f))]=some (.d .non,[.dat (dT (gm n n f))]):=by
 refine(b7S (env:=[.dat (dT (gm n n f))]) ?_).trans rfl;show a9d [.dat (dT (gm n n f))]=_;unfold a9d;rw[a1b (e1:=[.dat (dT (gm n n f))]) ?_]
 ·rfl
 ·have:=b2T (dT (gm n n f))
  rw[a9C.mpr ⟨⟨h1,h6⟩,T⟩]at this;exact a0d (b:=true) (j2_ (c1 rfl this))
section
variable{f:OO}
theorem c2V(h1:1≤n)(h6:n≤6)(T:TabF n f):a1C [.dat (dT (gm n n f))]=some (.d (g1_ n f),[.dat (dT (gm n n f))]):=by
 have em:=a6I h1 h6 T
 have es:=a9E f h1 h6
 generalize dT (gm n n f)=A at *;refine a3r (env:=[.dat A]) ?_ rfl;show a9g [.dat A]=_;unfold a9g;exact y9_ (a5U (c1 rfl em)) (g5_ (c1 rfl es))
def kd(f:OO)(r c:Nat):List Int:=[S (f r) c,S (f r) (c+1),S (fun k=>f k c) r,S (fun k=>f k c) (r+1)]
theorem a6J(r:Nat):v5_ (.int (r:Int)) (.int 1)=some (.int ((r+1:Nat):Int)):=by
 show some (D.int ((r:Int)+1))=_;rw[Int.natCast_add]
 rfl
theorem b3G(hr:r<n)(hc:c<n):∃ws,a1N [.dat (g1_ n f),.dat (.int (r:Int)),.dat (.int (c:Int))]=some (.d (dR (kd f r c)),ws):=by
 have a1:=a4d (n:=n) (m:=n+1) (f:=fun i=>S (f i)) hr
 have a2:=a2n (n:=n+1) (g:=S (f r)) (j:=c) (by omega)
 have a3:=a2n (n:=n+1) (g:=S (f r)) (j:=c+1) (by omega)
 have b1:=a4d (n:=n+1) (m:=n) (f:=fun i j=>S (fun k=>f k j) i) (j:=r) (by omega)
 have b2:=a2n (n:=n) (g:=fun j=>S (fun k=>f k j) r) hc
 have b3:=a4d (n:=n+1) (m:=n) (f:=fun i j=>S (fun k=>f k j) i) (j:=r+1) (by omega)
 have b4:=a2n (n:=n) (g:=fun j=>S (fun k=>f k j) (r+1)) hc
 have hN:g1_ n f=.tup [dT (acr n f),dT (dwn n f)]:=rfl
 rw[hN];unfold acr dwn;have hk:dR (kd f r c)=.tup [.int (S (f r) c),.int (S (f r) (c+1)),.int (S (fun k=>f k c) r),.int (S (fun k=>f k c) (r+1))]:=rfl
 rw[hk];generalize dT (gm n (n+1) fun i=>S (f i))=A at *
 generalize dT (gm (n+1) n fun i j=>S (fun k=>f k j) i)=B at *
 refine⟨_,w2_ (env:=[.dat (.tup [A,B]),.dat (.int (r:Int)),.dat (.int (c:Int)),.dat A,.dat B]) ?_⟩;show a9h [.dat (.tup [A,B]),.dat (.int (r:Int)),.dat (.int (c:Int)),.nil,.nil]=_;unfold a9h;refine y9_ (e1:=[.dat (.tup [A,B]),.dat (.int (r:Int)),.dat (.int (c:Int)),.dat A,.dat B]) (b3v (e1:=[.dat (.tup [A,B]),.dat (.int (r:Int)),.dat (.int (c:Int)),.nil,.nil]) rfl rfl) ?_
 exact g5_ (a3q (q3_ (q7_ (q7_ rfl rfl a1) rfl a2) (q3_ (q7_ (q7_ rfl rfl a1) (q7_ rfl rfl (a6J c)) a3) (q3_ (q7_ (q7_ rfl rfl b1) rfl b2) (q3_ (q7_ (q7_ rfl (q7_ rfl rfl (a6J r)) b3) rfl b4) rfl)))) (by simp))
theorem b3H{i b:Int}:a3k [.dat (.int i),.dat (.int a),.dat (.int b)]=some (.d (.bl (decide (a≤i)&&decide (i≤b))),[.dat (.int i),.dat (.int a),.dat (.int b)]):=by
 refine a3r (env:=[.dat (.int i),.dat (.int a),.dat (.int b)]) ?_ rfl;show a4H [.dat (.int i),.dat (.int a),.dat (.int b)]=_;unfold a4H;exact g5_ (a9D (c1 rfl (a9t (.int i))) (a9w rfl rfl rfl))
theorem a9J(hr:r<n):a0V [.dat (.int (r:Int)),.dat (.int (n:Int))]=some (.d (.bl true),[.dat (.int (r:Int)),.dat (.int (n:Int))]):=by
 refine a3r (env:=[.dat (.int (r:Int)),.dat (.int (n:Int))]) ?_ rfl;show a4O [.dat (.int (r:Int)),.dat (.int (n:Int))]=_;unfold a4O;refine g5_ ((a1Q (av:=[.d (.int r),.d (.int 0),.d (.int ((n:Int)-1))]) rfl rfl rfl b3H).trans ?_);rw[Ji (by omega:(0:Int)≤(r:Int)),Ji (by omega:(r:Int)≤(n:Int)-1)]
 rfl
theorem c2W(h1:1≤n)(h6:n≤6)(T:TabF n f)(hr:r<n)(hc:c<n):∃ws,a0H [.dat (dT (gm n n f)),.dat (.int (r:Int)),.dat (.int (c:Int))]=some (.d (dR (kd f r c)),ws):=by
 have em:=a6I h1 h6 T
 have es:=a9E f h1 h6
 have hl:v3_ [dT (gm n n f)]=some (.int n):=a5e
 obtain⟨_,ek⟩:=b3G (f:=f) hr hc;have p1:=a9J hr;have p2:=a9J hc;generalize dT (gm n n f)=A at *;refine⟨_,w2_ (env:=[.dat A,.dat (.int (r:Int)),.dat (.int (c:Int))]) ?_⟩;show a9i [.dat A,.dat (.int (r:Int)),.dat (.int (c:Int))]=_;unfold a9i;refine y9_ (e1:=[.dat A,.dat (.int (r:Int)),.dat (.int (c:Int))]) (a5U (c1 rfl em)) ?_
 refine y9_ (e1:=[.dat A,.dat (.int (r:Int)),.dat (.int (c:Int))]) (a0w (a0d (b:=true) (j2_ (a1Q (av:=[.d (.int r),.d (.int n)]) (a0I rfl (a0I (k2_ (q3_ rfl rfl) hl) rfl)) rfl rfl p1))) rfl) ?_
 refine y9_ (e1:=[.dat A,.dat (.int (r:Int)),.dat (.int (c:Int))]) (a0w (a0d (b:=true) (j2_ (a1Q (av:=[.d (.int c),.d (.int n)]) (a0I rfl (a0I (k2_ (q3_ rfl rfl) hl) rfl)) rfl rfl p2))) rfl) ?_
 exact g5_ (a1Q (av:=[.d (g1_ n f),.d (.int r),.d (.int c)]) (a0I (c1 rfl es) rfl) rfl rfl ek)
end
theorem b3I(g:KX->D)(x:KX)(d:D):∀ks:List KX,reX ks (ks.map g) x d=ks.map fun k=>if k=x then d else g k
 |[]=>rfl
 |k::ks=>by
  show(if k=x then d::reX ks (ks.map g) x d else g k::reX ks (ks.map g) x d)=_
  rw[b3I g x d ks,Qd]
  by_cases h:k=x
  ·rw[Qh h,Qh h]
  ·rw[Qm h,Qm h]
theorem a9K(g:KX->D)(x:KX)(d:D)(ks:List KX):a0S ks (ks.map g) x d=(w5_ ks x).map fun k=>if k=x then d else g k:=by
 unfold a0S w5_
 by_cases h:a1d ks x=true
 ·rw[Qh h,Qh h,b3I]
 ·rw[Qm h,Qm h,Yn,Qd,Qh rfl]
  congr 1
  refine Zu fun k hk=>?_
  have hne:k≠x:=fun z=>h (a4B.mpr (by rw[←z];exact hk))
  rw[Qm hne]
theorem a6K(g:KX->D)(x:KX):∀ks:List KX,lkX ks (ks.map g) x=if x∈ks then some (g x)else none
 |[]=>rfl
 |k::ks=>by
  show(if k=x then some (g k)else lkX ks (ks.map g) x)=_
  rw[a6K g x ks]
  by_cases h:k=x
  ·subst h;rw[Qh rfl,Qh (Zf ..)]
  ·rw[Qm h]
   by_cases z:x∈ks
   ·rw[Qh z,Qh (Zp _ z)]
   ·rw[Qm z,Qm fun q=>(Qc.mp q).elim (fun e=>h e.symm) z]
def KL(L:List KX):List KX:=L.foldl w5_ []
theorem a6L(L:List KX)(x:KX):KL (L++[x])=w5_ (KL L) x:=by unfold KL;rw[List.foldl_append];rfl
theorem c2X{x:KX}:k∈w5_ ks x↔k∈ks∨k=x:=by
 unfold w5_
 by_cases h:a1d ks x=true
 ·rw[Qh h];exact⟨.inl,fun z=>z.elim id fun e=>e ▸ a4B.mp h⟩
 ·rw[Qm h,Ym,List.mem_singleton]
theorem a6M(L:List KX):k∈KL L↔k∈L:=by
 have:∀(L ks:List KX),k∈L.foldl w5_ ks↔k∈ks∨k∈L:=by
  intro L
  induction L with
  |nil=>intro ks;simp
  |cons x L ih=>
   intro ks;rw[Tt,ih,c2X,Qc];exact or_assoc
 unfold KL;rw[this]
 simp
theorem c2Y(ks:List KX)(k:KX):(w5_ ks k).length≤ks.length+1:=a8p ks k
theorem b3J(L:List KX):(KL L).length≤L.length:=by
 have:∀(L ks:List KX),(L.foldl w5_ ks).length≤ks.length+L.length:=by
  intro L
  induction L with
  |nil=>intro ks;simp
  |cons x L ih=>
   intro ks;rw[Tt,Jg];have h1:=ih (w5_ ks x);have h2:=c2Y ks x
   omega
 have:=this L []
 simpa [KL]using this
def pV(L:List KX):List D:=(KL L).map fun k=>D.int (L.count k:Int)
theorem c2Z(L:List KX)(x:KX):a0S (KL L) (pV L) x (.int ((L.count x:Int)+1))=pV (L++[x]):=by
 unfold pV;rw[a9K,a6L];refine Zu fun k _=>?_
 by_cases h:k=x
 ·subst h
  rw[Qh rfl,List.count_append,List.count_singleton_self]
  simp
 ·rw[Qm h,List.count_append,List.count_singleton,Qm (by simpa using Zh h)]
  simp
theorem c3a(L:List KX)(x:KX):(lkX (KL L) (pV L) x).getD (.int 0)=.int (L.count x:Int):=by
 unfold pV;rw[a6K]
 by_cases h:x∈L
 ·rw[Qh ((a6M L).mpr h)];rfl
 ·rw[Qm fun z=>h ((a6M L).mp z),List.count_eq_zero_of_not_mem h];rfl
theorem b3K(g:KX->D):∀(M L:List KX),a0T (KL L) ((KL L).map g) (M.map fun k=>(k,g k))=(KL (L++M),(KL (L++M)).map g)
 |[],L=>by rw[Yt];rfl
 |x::M,L=>by
  show a0T (w5_ (KL L) x) (a0S (KL L) ((KL L).map g) x (g x)) (M.map fun k=>(k,g k))=_
  have e:(w5_ (KL L) x).map (fun k=>if k=x then g x else g k)=(KL (L++[x])).map g:=by
   rw[a6L];refine Zu fun k _=>?_
   by_cases h:k=x
   ·rw[Qh h,h]
   ·rw[Qm h]
  rw[a9K,e,←a6L,b3K g M (L++[x]),Uv]
  rfl
theorem b3L(h:∀k∈ks,k.kind=false):a3j ks=true:=by
 cases ks with
 |nil=>rfl
 |cons k r=>
  show(r.all fun k'=>k'.kind==k.kind)=true
  rw[Qw];intro k' hk;rw[h k (Zf ..),h k' (Zp _ hk)]
  rfl
theorem c3b(i:Int):shq (.int i)=true:=by rfl
theorem c3c(g:KX->Int)(h:∀k∈ks,k.kind=false):a3Q (.dcx ks (ks.map fun k=>.int (g k))) (.dcx ks (ks.map fun k=>.int (g k)))=some (.bl false):=by
 have h1:(ks.map fun k=>D.int (g k)).all shq=true:=by rw[List.all_map,Qw];exact fun k _=>c3b _
 have h2:a3j (ks++ks)=true:=b3L fun k hk=>(Ym.mp hk).elim (h k) (h k)
 have h3:a4E ks (ks.map fun k=>.int (g k)) ks (ks.map fun k=>.int (g k))=true:=by
  unfold a4E;rw[Qw];intro p hp;have hp':p.1∈ks/\p.2=.int (g p.1):=by
   rw[List.zip_map_right,Qa]at hp;obtain⟨⟨a,b⟩,h1,h2⟩:=hp;have hab:=Vb h1;have:a=b:=by
    obtain⟨i,hi⟩:=List.mem_iff_getElem?.mp h1;rw[List.getElem?_zip_eq_some]at hi;rw[hi.1]at hi;exact Zs hi.2
   subst this;subst h2;exact⟨hab.1,rfl⟩
  rw[a6K,Qh hp'.1,hp'.2];show PyData.eqv (.int _) (.int _)=true;exact SeqAt.eqv_refl _ rfl
 show(if _ then _ else _)=_
 rw[h1,h2,h3]
 simp
def kij(r c:Nat):KX:=.t [(r:Int),(c:Int)]
def PX(n:Nat):Nat->List KX
 |0=>[]
 |r+1=>PX n r++(List.range n).map (kij r)
def gX(f:OO):KX->KX
 |.t [a,b]=>.t (kd f a.toNat b.toNat)
 |k=>k
theorem a2o{n:Nat}{k:KX}:∀{r:Nat},k∈PX n r↔ ∃i j,i<r/\j<n/\k=kij i j
 |0=>by simp[PX]
 |r+1=>by
  rw[PX,Ym,a2o (r:=r),Qa]
  constructor
  ·rintro(⟨i,j,h1,h2,h3⟩|⟨j,h1,h2⟩)
   ·exact⟨i,j,by omega,h2,h3⟩
   ·exact⟨r,j,by omega,Zl.mp h1,h2.symm⟩
  ·rintro⟨i,j,h1,h2,h3⟩
   by_cases h:i<r
   ·exact .inl ⟨i,j,h,h2,h3⟩
   ·obtain rfl:i=r:=by omega
    exact .inr ⟨j,Zl.mpr h2,h3.symm⟩
theorem b3M{j i' j':Nat}(h:kij i j=kij i' j'):i=i'/\j=j':=by
 unfold kij at h;injection h with h
 injection h with h1 h2
 injection h2 with h2 _
 omega
theorem a9L(n r:Nat):(PX n r).length=r * n:=by
 induction r with
 |zero=>simp[PX]
 |succ r ih=>rw[PX,Qt,ih,Qv,Tl,Nat.succ_mul]
theorem a9M(h6:n≤6)(hr:r≤n):r * n≤36:=Zt (Nat.mul_le_mul (Zt hr h6) h6) (by decide)
theorem c3d(h:k∈PX n r):k.kind=false:=by obtain⟨i,j,_,_,rfl⟩:=a2o.mp h;rfl
theorem a9N{x:KX}(h:∀k∈ks,k.kind=false)(hx:x.kind=false):okK ks x=true:=by
 cases ks with
 |nil=>rfl
 |cons k r=>show(k.kind==x.kind)=true;rw[h k (Zf ..),hx];rfl
section
variable{f:OO}
abbrev kB:Mo Fl:=(q1_ (v6_ 5 (mCD 3 a1N (z6_ (z0_ 1) (z6_ (z0_ 3) (z6_ (z0_ 4) z8_))))) (u9_ (z5_ v5_ (a4D 2 (z0_ 5) (mC (.int 0))) (mC (.int 1))) (gSX 2 (z0_ 5))))
abbrev kA:Mo Fl:=(w7_ (w3_ (z1_ (mCB v3_ (z1_ (z0_ 0) z3_)) z3_)) (gN 4) kB)
abbrev fk(A N:D)(L:List KX)(w3 w4 w5:W):Env':=[.dat A,.dat N,.ownX (KL L) (pV L),w3,w4,w5]
theorem c3e:a0G (dR (kd f r c))=some (.t (kd f r c)):=rfl
theorem c3f(hL:L.length<100000)(hk:∀k∈L,k.kind=false)(hr:r<n)(hc:c<n)(w5:W):kB (fk A (g1_ n f) L (.dat (.int (r:Int))) (.dat (.int (c:Int))) w5)=some (.nx,fk A (g1_ n f) (L++[.t (kd f r c)]) (.dat (.int (r:Int))) (.dat (.int (c:Int))) (.dat (dR (kd f r c)))):=by
 obtain⟨_,ek⟩:=b3G (f:=f) hr hc;have hx:=c3e (f:=f) (r:=r) (c:=c);have hkl:∀k∈KL L,k.kind=false:=fun k h=>hk k ((a6M L).mp h)
 have hok:okK (KL L) (.t (kd f r c))=true:=a9N hkl rfl
 have hlt:(KL L).length<100000:=Tz (b3J L) hL
 have hg:=c3a L (.t (kd f r c))
 have hp:=c2Z L (.t (kd f r c))
 have hs:=a6L L (.t (kd f r c))
 unfold fk;rw[hs,←hp];generalize KX.t (kd f r c)=q at *;generalize g1_ n f=N at *;generalize dR (kd f r c)=d at *;generalize KL L=ks at *;generalize pV L=vs at *;generalize L.count q=m at *;unfold kB;refine y9_ (e1:=[.dat A,.dat N,.ownX ks vs,.dat (.int (r:Int)),.dat (.int (c:Int)),.dat d]) (a0p (e1:=[.dat A,.dat N,.ownX ks vs,.dat (.int (r:Int)),.dat (.int (c:Int)),w5]) (a1Q (av:=[.d N,.d (.int r),.d (.int c)]) rfl rfl rfl ek) rfl) ?_
 have hgx:a4D 2 (z0_ 5) (mC (.int 0)) [.dat A,.dat N,.ownX ks vs,.dat (.int (r:Int)),.dat (.int (c:Int)),.dat d]=some (.int (m:Int),[.dat A,.dat N,.ownX ks vs,.dat (.int (r:Int)),.dat (.int (c:Int)),.dat d]):=by
  show((a0G d).bind fun k=>if okK ks k=true then some ((lkX ks vs k).getD (.int 0),[W.dat A,.dat N,.ownX ks vs,.dat (.int (r:Int)),.dat (.int (c:Int)),.dat d])else none)=_
  rw[hx,Qk,Qh hok,hg]
 have hm:=q7_ (f:=v5_) (mb:=mC (.int 1)) (c:=.int ((m:Int)+1)) hgx rfl rfl
 unfold u9_;rw[hm,Qk];show((a0G d).bind fun k=>if(okK ks k&&decide (ks.length<100000))=true then some [W.dat A,.dat N,.ownX (w5_ ks k) (a0S ks vs k (.int ((m:Int)+1))),.dat (.int (r:Int)),.dat (.int (c:Int)),.dat d]else none).map _=_
 rw[hx,Qk,hok,Ji hlt]
 rfl
theorem c3g(h:∀k∈L,∃i j,k=kij i j):∀k∈L.map (gX f),k.kind=false:=fun k hk=>by
 obtain⟨k0,h0,rfl⟩:=Qa.mp hk;obtain⟨i,j,rfl⟩:=h k0 h0
 rfl
theorem b3N:∀k∈PX n r++(List.range c).map (kij r),∃i j,k=kij i j:=fun k hk=>by
 rcases Ym.mp hk with h|h
 ·obtain⟨i,j,_,_,e⟩:=a2o.mp h;exact⟨i,j,e⟩
 ·obtain⟨j,_,e⟩:=Qa.mp h;exact⟨r,j,e.symm⟩
theorem c3h(hlen:v3_ [A]=some (.int n))(h6:n≤6)(hr:r<n)(w4 w5:W):∃w4' w5',kA (fk A (g1_ n f) ((PX n r).map (gX f)) (.dat (.int (r:Int))) w4 w5)=some (.nx,fk A (g1_ n f) ((PX n (r+1)).map (gX f)) (.dat (.int (r:Int))) w4' w5'):=by
 have hb:=a9M (r:=r) h6 (by omega)
 obtain⟨e,he,w4',w5',rfl⟩:=a3p (g:=gN 4) (b:=kB) (n:=n) (fun c e=>∃w4' w5',e=fk A (g1_ n f) ((PX n r++(List.range c).map (kij r)).map (gX f)) (.dat (.int (r:Int))) w4' w5') (env:=fk A (g1_ n f) ((PX n r).map (gX f)) (.dat (.int (r:Int))) w4 w5) (fun c hc e ⟨w4',w5',he⟩=>by
  subst he;have hk:=c3f (A:=A) (n:=n) (f:=f) (L:=(PX n r++(List.range c).map (kij r)).map (gX f)) (by rw[Qv,Qt,a9L,Qv,Tl];omega) (c3g b3N) hr hc w5'
  refine⟨_,_,rfl,hk,.dat (.int (c:Int)),.dat (dR (kd f r c)),?_⟩;have e:(PX n r++(List.range (c+1)).map (kij r)).map (gX f)=(PX n r++(List.range c).map (kij r)).map (gX f)++[.t (kd f r c)]:=by
   simp only[Vm,Yn,Uv]
   rfl
  rw[e]) ⟨w4,w5,by rw[List.range_zero,Vc,Yt]⟩
 refine⟨w4',w5',?_⟩;unfold kA;exact(a1c (a1F (n:=n) (k2_ (q3_ rfl rfl) hlen) rfl (by omega))).trans he
theorem c3i{mb:Mo Fl}{env:List W}(h:mb (ws++List.replicate (N-ws.length) .nil)=some (.retX ks vs,env)):fnM N mb ws=some (.x ks vs,a0y ws env):=by unfold fnM;rw[h]
theorem c3j(h1:1≤n)(h6:n≤6)(T:TabF n f):∃ws,a2l [.dat (dT (gm n n f))]=some (.x (KL ((PX n n).map (gX f))) (pV ((PX n n).map (gX f))),ws):=by
 have em:=a6I h1 h6 T
 have es:=a9E f h1 h6
 have hl:v3_ [dT (gm n n f)]=some (.int n):=a5e
 generalize dT (gm n n f)=A at *;obtain⟨e,he,w3,w4,w5,rfl⟩:=a3p (g:=gN 3) (b:=kA) (n:=n) (fun r e=>∃w3 w4 w5,e=fk A (g1_ n f) ((PX n r).map (gX f)) w3 w4 w5) (env:=fk A (g1_ n f) [] .nil .nil .nil) (fun r hr e ⟨w3,w4,w5,he⟩=>by
  subst he;obtain⟨w4',w5',hk⟩:=c3h hl h6 hr w4 w5;exact⟨_,_,rfl,hk,_,_,_,rfl⟩) ⟨_,_,_,rfl⟩
 refine⟨_,c3i (env:=[.dat A,.dat (g1_ n f),.nil,w3,w4,w5]) ?_⟩;show a9j [.dat A,.nil,.nil,.nil,.nil,.nil]=_;unfold a9j;refine y9_ (e1:=[.dat A,.nil,.nil,.nil,.nil,.nil]) (a5U (c1 rfl em)) ?_
 refine y9_ (e1:=[.dat A,.dat (g1_ n f),.nil,.nil,.nil,.nil]) (a0p (e1:=[.dat A,.nil,.nil,.nil,.nil,.nil]) (c1 rfl es) rfl) ?_
 refine y9_ (e1:=fk A (g1_ n f) [] .nil .nil .nil) rfl ?_
 refine y9_ ((a1c (a1F (n:=n) (k2_ (q3_ rfl rfl) hl) rfl (by omega))).trans he) ?_
 rfl
end
section
variable{f:OO}
def vX(f:OO)(k:KX):D:=(gX f k).toD
theorem c3k(g:KX->D)(h:k∉P):w5_ P k=P++[k]/\a0S P (P.map g) k (g k)=(P++[k]).map g:=by
 have e:w5_ P k=P++[k]:=by unfold w5_;rw[Qm fun z=>h (a4B.mp z)]
 refine⟨e,?_⟩;rw[a9K,e];refine Zu fun x _=>?_
 by_cases z:x=k
 ·rw[Qh z,z]
 ·rw[Qm z]
abbrev lkB:Mo Fl:=(q1_ (v6_ 6 (z5_ dIx (z0_ 3) (z0_ 2))) (u9_ (q5_ (z1_ (z5_ dIx (z0_ 6) (z0_ 5)) (z1_ (z5_ dIx (z0_ 6) (z5_ v5_ (z0_ 5) (mC (.int 1)))) (z1_ (z5_ dIx (z5_ dIx (z0_ 4) (z0_ 2)) (z0_ 5)) (z1_ (z5_ dIx (z5_ dIx (z0_ 4) (z5_ v5_ (z0_ 2) (mC (.int 1)))) (z0_ 5)) z3_))))) (gSX 1 (q5_ (z1_ (z0_ 2) (z1_ (z0_ 5) z3_))))))
abbrev lkA:Mo Fl:=(w7_ (w3_ (z1_ (mCB v3_ (z1_ (z0_ 0) z3_)) z3_)) (gN 5) lkB)
abbrev fl(A X Y:D)(f:OO)(P:List KX)(w2 w5 w6:W):Env':=[.dat A,.ownX P (P.map (vX f)),w2,.dat X,.dat Y,w5,w6]
theorem c3l(hL:P.length<100000)(hk:∀k∈P,k.kind=false)(hn:kij r c∉P)(hr:r<n)(hc:c<n)(w6:W):∃w6',lkB (fl A (dT (acr n f)) (dT (dwn n f)) f P (.dat (.int (r:Int))) (.dat (.int (c:Int))) w6)=some (.nx,fl A (dT (acr n f)) (dT (dwn n f)) f (P++[kij r c]) (.dat (.int (r:Int))) (.dat (.int (c:Int))) w6'):=by
 have a1:=a4d (n:=n) (m:=n+1) (f:=fun i=>S (f i)) hr
 have a2:=a2n (n:=n+1) (g:=S (f r)) (j:=c) (by omega)
 have a3:=a2n (n:=n+1) (g:=S (f r)) (j:=c+1) (by omega)
 have b1:=a4d (n:=n+1) (m:=n) (f:=fun i j=>S (fun k=>f k j) i) (j:=r) (by omega)
 have b2:=a2n (n:=n) (g:=fun j=>S (fun k=>f k j) r) hc
 have b3:=a4d (n:=n+1) (m:=n) (f:=fun i j=>S (fun k=>f k j) i) (j:=r+1) (by omega)
 have b4:=a2n (n:=n) (g:=fun j=>S (fun k=>f k j) (r+1)) hc
 obtain⟨p1,p2⟩:=c3k (vX f) hn;have hv:vX f (kij r c)=.tup [.int (S (f r) c),.int (S (f r) (c+1)),.int (S (fun k=>f k c) r),.int (S (fun k=>f k c) (r+1))]:=rfl
 have hok:okK P (kij r c)=true:=a9N hk rfl
 have hx:a0G (.tup [.int (r:Int),.int (c:Int)])=some (kij r c):=rfl
 unfold fl;rw[←p2,←p1];rw[hv];generalize kij r c=q at *;generalize P.map (vX f)=vs at *;unfold acr dwn;generalize dT (gm n (n+1) fun i=>S (f i))=X at *
 generalize dT (gm (n+1) n fun i j=>S (fun k=>f k j) i)=Y at *
 refine⟨.dat (dR (rw' (n+1) (S (f r)))),?_⟩;generalize dR (rw' (n+1) (S (f r)))=Z at *;generalize S (f r) c=s1 at *;generalize S (f r) (c+1)=s2 at *;generalize S (fun k=>f k c) r=s3 at *
 generalize S (fun k=>f k c) (r+1)=s4 at *
 unfold lkB;refine y9_ (e1:=[.dat A,.ownX P vs,.dat (.int (r:Int)),.dat X,.dat Y,.dat (.int (c:Int)),.dat Z]) (a0p (e1:=[.dat A,.ownX P vs,.dat (.int (r:Int)),.dat X,.dat Y,.dat (.int (c:Int)),w6]) (q7_ rfl rfl a1) rfl) ?_
 unfold u9_;rw[show q5_ (z1_ (z5_ dIx (z0_ 6) (z0_ 5)) (z1_ (z5_ dIx (z0_ 6) (z5_ v5_ (z0_ 5) (mC (.int 1)))) (z1_ (z5_ dIx (z5_ dIx (z0_ 4) (z0_ 2)) (z0_ 5)) (z1_ (z5_ dIx (z5_ dIx (z0_ 4) (z5_ v5_ (z0_ 2) (mC (.int 1)))) (z0_ 5)) z3_)))) [.dat A,.ownX P vs,.dat (.int (r:Int)),.dat X,.dat Y,.dat (.int (c:Int)),.dat Z]=some (.tup [.int s1,.int s2,.int s3,.int s4],[.dat A,.ownX P vs,.dat (.int (r:Int)),.dat X,.dat Y,.dat (.int (c:Int)),.dat Z])from
  a3q (q3_ (q7_ rfl rfl a2) (q3_ (q7_ rfl (q7_ rfl rfl (a6J c)) a3) (q3_ (q7_ (q7_ rfl rfl b1) rfl b2) (q3_ (q7_ (q7_ rfl (q7_ rfl rfl (a6J r)) b3) rfl b4) rfl)))) (by simp),Qk]
 show((a0G (.tup [.int (r:Int),.int (c:Int)])).bind fun k=>if(okK P k&&decide (P.length<100000))=true then some [W.dat A,.ownX (w5_ P k) (a0S P vs k (.tup [.int s1,.int s2,.int s3,.int s4])),.dat (.int (r:Int)),.dat X,.dat Y,.dat (.int (c:Int)),.dat Z]else none).map _=_
 rw[hx,Qk,hok,Ji hL]
 rfl
theorem c3m:kij r c∉PX n r++(List.range c).map (kij r):=fun h=>by
 rcases Ym.mp h with h|h
 ·obtain⟨i,j,h1,_,e⟩:=a2o.mp h
  have:=(b3M e).1
  omega
 ·obtain⟨j,h1,e⟩:=Qa.mp h
  have:=(b3M e).2;have:=Zl.mp h1
  omega
theorem c3n(hlen:v3_ [A]=some (.int n))(h6:n≤6)(hr:r<n)(w5 w6:W):∃w5' w6',lkA (fl A (dT (acr n f)) (dT (dwn n f)) f (PX n r) (.dat (.int (r:Int))) w5 w6)=some (.nx,fl A (dT (acr n f)) (dT (dwn n f)) f (PX n (r+1)) (.dat (.int (r:Int))) w5' w6'):=by
 have hb:=a9M (r:=r) h6 (by omega)
 obtain⟨e,he,w5',w6',rfl⟩:=a3p (g:=gN 5) (b:=lkB) (n:=n) (fun c e=>∃w5' w6',e=fl A (dT (acr n f)) (dT (dwn n f)) f (PX n r++(List.range c).map (kij r)) (.dat (.int (r:Int))) w5' w6') (env:=fl A (dT (acr n f)) (dT (dwn n f)) f (PX n r) (.dat (.int (r:Int))) w5 w6) (fun c hc e ⟨w5',w6',he⟩=>by
  subst he;obtain⟨w6'',hk⟩:=c3l (A:=A) (n:=n) (f:=f) (P:=PX n r++(List.range c).map (kij r)) (by rw[Qt,a9L,Qv,Tl];omega) (fun k h=>by obtain⟨i,j,rfl⟩:=b3N k h;rfl) c3m hr hc w6'
  refine⟨_,_,rfl,hk,.dat (.int (c:Int)),w6'',?_⟩;have e:PX n r++(List.range (c+1)).map (kij r)=PX n r++(List.range c).map (kij r)++[kij r c]:=by
   simp only[Vm,Yn,Uv]
   rfl
  rw[e]) ⟨w5,w6,by rw[List.range_zero,Vc,Yt]⟩
 refine⟨w5',w6',?_⟩;unfold lkA;exact(a1c (a1F (n:=n) (k2_ (q3_ rfl rfl) hlen) rfl (by omega))).trans he
theorem c3o(h1:1≤n)(h6:n≤6):∃ws,a6w [.dat (dT (gm n n f))]=some (.d (.dcx (PX n n) ((PX n n).map (vX f))),ws):=by
 have es:=b3u (f:=f) h6
 have hl:v3_ [dT (gm n n f)]=some (.int n):=a5e
 generalize dT (gm n n f)=A at *;obtain⟨e,he,w2,w5,w6,rfl⟩:=a3p (g:=gN 2) (b:=lkA) (n:=n) (fun r e=>∃w2 w5 w6,e=fl A (dT (acr n f)) (dT (dwn n f)) f (PX n r) w2 w5 w6) (env:=fl A (dT (acr n f)) (dT (dwn n f)) f [] .nil .nil .nil) (fun r hr e ⟨w2,w5,w6,he⟩=>by
  subst he;obtain⟨w5',w6',hk⟩:=c3n hl h6 hr w5 w6;exact⟨_,_,rfl,hk,_,_,_,rfl⟩) ⟨_,_,_,rfl⟩
 refine⟨_,w2_ (env:=[.dat A,.dat (.dcx (PX n n) ((PX n n).map (vX f))),w2,.dat (dT (acr n f)),.dat (dT (dwn n f)),w5,w6]) ?_⟩;show a9r [.dat A,.nil,.nil,.nil,.nil,.nil,.nil]=_;unfold a9r;refine y9_ (e1:=[.dat A,.nil,.nil,.dat (dT (acr n f)),.dat (dT (dwn n f)),.nil,.nil]) (b3v (e1:=[.dat A,.nil,.nil,.nil,.nil,.nil,.nil]) (c1 rfl es) rfl) ?_
 refine y9_ (e1:=fl A (dT (acr n f)) (dT (dwn n f)) f [] .nil .nil .nil) rfl ?_
 refine y9_ ((a1c (a1F (n:=n) (k2_ (q3_ rfl rfl) hl) rfl (by omega))).trans he) ?_
 exact g5_ rfl
theorem b3O{m:Mo Bool}{e1:Env'}(h0:env[i]? =some (.ownX ks vs))(he:env.set i (.dat (.dcx ks vs))=e1)(h:m e1=some (b,e1))(hl:a4G i env=true):a2L i m env=some (b,env):=by
 subst he;unfold a2L;rw[h0];dsimp only;rw[Qh hl,h]
 rfl
theorem c3p{fn:Fn}{m:Mo D}{e2:Env'}(h:m env=some (d,env))(hf:fn [.dat d]=some (.x ks vs,ws))(he:env.set i (.ownX ks vs)=e2):a4F i 1 fn (z6_ m z8_) env=some (.nx,e2):=by
 unfold a4F;have e:a1y 1 fn (z6_ m z8_) env=some (.x ks vs,env):=a2e (av:=[.d d]) (a0I h rfl) rfl rfl hf;rw[e,Qk];subst he
 rfl
theorem b3P{α:Type}(g:α->D):∀l:List α,k8_ (l.map g)=l.map fun a=>toP (g a)
 |[]=>rfl
 |a::l=>by rw[Qd,Qd,←b3P g l];rfl
theorem c3q(l:List Int):shq (dR l)=true:=by
 unfold shq;rw[c2G,Yy,Zi];show PyData.depth (.tuple (k8_ (l.map D.int)))≤60;rw[a2m];simp only[PyData.depth,a6C]
 omega
theorem c3r(L:OI)(q:List Int):a3R (.lst (L.map dR)) (dR q)=some (.int (L.count q:Int)):=by
 show(if shq (dR q)&&PyData.canLayAll0 (k8_ (L.map dR))then _ else _)=_
 rw[c3q,b3r,Yy,Qh rfl,b3P,Pq];have:((fun y=>PyData.eqv y (toP (dR q)))∘fun a=>toP (dR a))=fun a=>a==q:=by
  funext a
  show PyData.eqv (toP (dR a)) (toP (dR q))=_;rw[c2H]
  by_cases z:a=q
  ·subst z;simp
  ·rw[Qe z];exact(Yr.mpr z).symm
 rw[this]
 rfl
def kds(n:Nat)(f:OO):OI:=(PX n n).map fun k=>match gX f k with
 |.t l=>l
 |.p l _=>l
theorem c3s:(PX n n).map (gX f)=(kds n f).map KX.t:=by
 unfold kds;rw[Zk];refine Zu fun k hk=>?_
 obtain⟨i,j,_,_,rfl⟩:=a2o.mp hk
 rfl
theorem c3t:(PX n n).map (vX f)=(kds n f).map dR:=by
 unfold kds;rw[Zk];refine Zu fun k hk=>?_
 obtain⟨i,j,_,_,rfl⟩:=a2o.mp hk
 rfl
theorem c3u{q:List Int}(h:q∈kds n f):∃r c,q=kd f r c:=by
 unfold kds at h;obtain⟨k,hk,e⟩:=Qa.mp h;obtain⟨i,j,_,_,rfl⟩:=a2o.mp hk;exact⟨i,j,e.symm⟩
theorem c3v(L:OI)(q:List Int):(L.map KX.t).count (.t q)=L.count q:=by
 unfold List.count;rw[Pq]
 congr 1
 funext a
 show(KX.t a==KX.t q)=(a==q)
 by_cases z:a=q
 ·subst z;simp
 ·rw[Yr.mpr z];exact Yr.mpr fun h=>z (by injection h)
theorem c3w:a2K ((kds n f).map fun q=>.tup [dR q,.int ((kds n f).count q:Int)])=some ((kds n f).map fun q=>(.t q,.int ((kds n f).count q:Int))):=by
 have:∀L:OI,(∀q∈L,∃r c,q=kd f r c)->a2K (L.map fun q=>.tup [dR q,.int ((kds n f).count q:Int)])=some (L.map fun q=>(.t q,.int ((kds n f).count q:Int))):=by
  intro L
  induction L with
  |nil=>exact fun _=>rfl
  |cons q L ih=>
   intro h;obtain⟨r,c,e⟩:=h q (Zf ..);show((a0G (dR q)).bind fun k=>(a2K (L.map fun q=>.tup [dR q,.int ((kds n f).count q:Int)])).map fun ps=>(k,D.int ((kds n f).count q:Int))::ps)=_
   rw[ih fun q hq=>h q (Zp _ hq),show a0G (dR q)=some (.t q) by rw[e];rfl]
   rfl
 exact this _ fun q h=>c3u h
theorem c3x:a3S [.lst ((kds n f).map fun q=>.tup [dR q,.int ((kds n f).count q:Int)])]=some (.dcx (KL ((kds n f).map KX.t)) (pV ((kds n f).map KX.t))):=by
 show((a2K _).bind fun ps=>if a3j (ps.map (·.1))then some (D.dcx (a0T [] [] ps).1 (a0T [] [] ps).2)else none)=_
 rw[c3w,Qk];have e:((kds n f).map fun q=>(KX.t q,D.int ((kds n f).count q:Int)))=((kds n f).map KX.t).map fun k=>(k,D.int (((kds n f).map KX.t).count k:Int)):=by
  rw[Zk];refine Zu fun q _=>?_
  show _=(KX.t q,D.int (((kds n f).map KX.t).count (.t q):Int));rw[c3v]
 have e2:=b3K (fun k=>D.int (((kds n f).map KX.t).count k:Int)) ((kds n f).map KX.t) []
 have e3:a0T [] [] ((kds n f).map fun q=>(KX.t q,D.int ((kds n f).count q:Int)))=(KL ((kds n f).map KX.t),pV ((kds n f).map KX.t)):=by
  rw[e];exact e2
 rw[e3,Qh (b3L fun k hk=>?_)]
 rw[Zk]at hk;obtain⟨q,_,rfl⟩:=Qa.mp hk
 rfl
theorem c3y:a3Q (.dcx (KL ((kds n f).map KX.t)) (pV ((kds n f).map KX.t))) (.dcx (KL ((kds n f).map KX.t)) (pV ((kds n f).map KX.t)))=some (.bl false):=
 c3c (fun k=>(((kds n f).map KX.t).count k:Int)) fun k hk=>by
  obtain⟨q,_,rfl⟩:=Qa.mp ((a6M _).mp hk)
  rfl
end
section
variable{f:OO}
theorem c2'{fn:Fn}{r:D}(h1:m1 env=some (d1,env))(h2:m2 env=some (d2,env))(hf:fn [.dat d1,.dat d2]=some (.d r,ws)):mCD 2 fn (z6_ m1 (z6_ m2 z8_)) env=some (r,env):=
 a1Q (av:=[.d d1,.d d2]) (a0I h1 (a0I h2 rfl)) rfl rfl hf
theorem c3'{fn:Fn}{m3:Mo D}{d3 r:D}(h1:m1 env=some (d1,env))(h2:m2 env=some (d2,env))(h3:m3 env=some (d3,env))(hf:fn [.dat d1,.dat d2,.dat d3]=some (.d r,ws)):mCD 3 fn (z6_ m1 (z6_ m2 (z6_ m3 z8_))) env=some (r,env):=
 a1Q (av:=[.d d1,.d d2,.d d3]) (a0I h1 (a0I h2 (a0I h3 rfl))) rfl rfl hf
abbrev rB1:Mo Fl:=(v8_ (y5_ (mT (mCD 2 (u4_ 6) (z6_ (mCD 3 a0H (z6_ (z0_ 0) (z6_ (z0_ 4) (z6_ (z0_ 5) z8_)))) (z6_ (z5_ a3O (z0_ 1) (q5_ (z1_ (z0_ 4) (z1_ (z0_ 5) z3_)))) z8_))))) (q9_ (mC (.bl false))) mNx)
abbrev rB2:Mo Fl:=(q1_ (a4F 6 1 a2l (z6_ (z0_ 0) z8_)) (q1_ (v6_ 7 (mCB a3S (z1_ (mF (y1_ (y4_ (z0_ 2)) [false,false,true,false,false,false,false,false] 1 (gN 8) y8_ (q5_ (z1_ (z0_ 8) (z1_ (z5_ a3R (z0_ 2) (z0_ 8)) z3_))))) z3_))) (q1_ (v8_ (a2L 6 (w6_ (y5_ (mT (a8t (z0_ 6)))) (mT (z5_ a3Q (z0_ 6) (z0_ 7))))) (q9_ (mC (.bl false))) mNx) (q1_ (v8_ (a2L 6 (y5_ (mT (mCB a0B (z1_ (mF (y1_ (a3P (z0_ 6)) [false,false,false,false,false,false,false,false] 1 (gN 8) y8_ (mCD 1 a1O (z6_ (z0_ 8) z8_)))) z3_))))) (q9_ (mC (.bl false))) mNx) (a6p 6)))))
theorem c3z(hr:r<n)(hc:c<n):a3O (.dcx (PX n n) ((PX n n).map (vX f))) (.tup [.int (r:Int),.int (c:Int)])=some (dR (kd f r c)):=by
 show((a0G (.tup [.int (r:Int),.int (c:Int)])).bind fun k=>if okK (PX n n) k then lkX (PX n n) ((PX n n).map (vX f)) k else none)=_
 rw[show a0G (.tup [.int (r:Int),.int (c:Int)])=some (kij r c)from rfl,Qk,a9N (fun k h=>c3d h) rfl,Qh rfl,a6K,Qh (a2o.mpr ⟨r,c,hr,hc,rfl⟩)]
 rfl
theorem c3A(h6:n≤6):(kds n f).length≤36:=by
 unfold kds;rw[Qv,a9L];exact a9M h6 (Qb _)
theorem c3B(a0 a1 a2 a3 a4 a5 a6 a7:W):a4G 6 [a0,a1,a2,a3,a4,a5,a6,a7]=(a0.mut.isNone&&(a1.mut.isNone&&(a2.mut.isNone&&(a3.mut.isNone&&(a4.mut.isNone&&(a5.mut.isNone&&(a7.mut.isNone&&true))))))):=rfl
theorem b3Q{B C E F:D}{w4 w5:W}{w6:W}(h4:w4.mut=none)(h5:w5.mut=none):a4G 6 [.dat A,.dat B,.dat C,.dat E,w4,w5,w6,.dat F]=true:=by
 rw[c3B,h4,h5];rfl
theorem c3C{α:Type}(l:List α):a0B [.lst (l.map fun _=>D.bl true)]=some (.bl true):=by
 show(a0u _).map _=_;rw[a2C (fun _=>true) l]
 show some (D.bl (l.all fun _=>true))=_
 simp
theorem c3D(h1:1≤n)(h6:n≤6)(T:TabF n f):∃ws,a4X [.dat (dT (gm n n f))]=some (.d (.bl true),ws):=by
 obtain⟨_,ek⟩:=c3o (f:=f) h1 h6;obtain⟨_,ep⟩:=c3j h1 h6 T;have hka:∀r c:Nat,r<n->c<n->∃ws,a0H [.dat (dT (gm n n f)),.dat (.int (r:Int)),.dat (.int (c:Int))]=some (.d (dR (kd f r c)),ws):=fun r c hr hc=>c2W h1 h6 T hr hc
 have hg:∀r c:Nat,r<n->c<n->a3O (.dcx (PX n n) ((PX n n).map (vX f))) (.tup [.int (r:Int),.int (c:Int)])=some (dR (kd f r c)):=fun r c hr hc=>c3z hr hc
 have hdi:=c3x (n:=n) (f:=f)
 have hne:=c3y (n:=n) (f:=f)
 have hl:=c3A (n:=n) (f:=f) h6
 have hks:=c3t (n:=n) (f:=f)
 rw[c3s]at ep;generalize dT (gm n n f)=A at *;generalize hDC:D.dcx (PX n n) ((PX n n).map (vX f))=DC at *;obtain⟨e1,he1,w4,w5,m4,m5,rfl⟩:=a5S (g:=gT 2 (gCn (gN 4) (gCn (gN 5) gNl))) (b:=rB1) (P:=fun e=>∃w4 w5,w4.mut=none/\w5.mut=none/\e=[.dat A,.dat DC,.dat (.lst ((kds n f).map dR)),.nil,w4,w5,.nil,.nil]) (ds:=(PX n n).map KX.toD) (env:=[.dat A,.dat DC,.dat (.lst ((kds n f).map dR)),.nil,.nil,.nil,.nil,.nil]) (fun d hd e ⟨w4,w5,_,_,he⟩=>by
  subst he;obtain⟨k,hk,rfl⟩:=Qa.mp hd;obtain⟨r,c,hr,hc,rfl⟩:=a2o.mp hk;obtain⟨_,q1⟩:=hka r c hr hc;have q2:=hg r c hr hc;obtain⟨_,q3⟩:=b3z (k:=4) (r:=kd f r c) (by simp[kd])
  generalize dR (kd f r c)=Q at *;refine⟨[.dat A,.dat DC,.dat (.lst ((kds n f).map dR)),.nil,.dat (.int (r:Int)),.dat (.int (c:Int)),.nil,.nil],_,rfl,?_,.dat (.int (r:Int)),.dat (.int (c:Int)),rfl,rfl,rfl⟩;exact a0w (a0d (b:=true) (j2_ (c2' (c3' rfl rfl rfl q1) (q7_ rfl (a3q (q3_ rfl (q3_ rfl rfl)) (by simp)) q2) q3))) rfl) ⟨_,_,rfl,rfl,rfl⟩
 obtain⟨e2,he2,w3,w6,w7,rfl⟩:=a3p (g:=gN 3) (b:=rB2) (n:=2) (fun _ e=>∃w3 w6 w7,e=[.dat A,.dat DC,.dat (.lst ((kds n f).map dR)),w3,w4,w5,w6,w7]) (env:=[.dat A,.dat DC,.dat (.lst ((kds n f).map dR)),.nil,w4,w5,.nil,.nil]) (fun i _ e ⟨w3,w6,w7,he⟩=>by
  subst he;have hcmp:mCB a3S (z1_ (mF (y1_ (y4_ (z0_ 2)) [false,false,true,false,false,false,false,false] 1 (gN 8) y8_ (q5_ (z1_ (z0_ 8) (z1_ (z5_ a3R (z0_ 2) (z0_ 8)) z3_))))) z3_) [.dat A,.dat DC,.dat (.lst ((kds n f).map dR)),.dat (.int (i:Int)),w4,w5,.ownX (KL ((kds n f).map KX.t)) (pV ((kds n f).map KX.t)),w7]=some (.dcx (KL ((kds n f).map KX.t)) (pV ((kds n f).map KX.t)),[.dat A,.dat DC,.dat (.lst ((kds n f).map dR)),.dat (.int (i:Int)),w4,w5,.ownX (KL ((kds n f).map KX.t)) (pV ((kds n f).map KX.t)),w7]):=
   k2_ (q3_ (k9_ (a1P (α:=List Int) (l:=kds n f) (q:=dR) (f:=fun q=>.tup [dR q,.int ((kds n f).count q:Int)]) (base:=[.nil,.nil,.dat (.lst ((kds n f).map dR)),.nil,.nil,.nil,.nil,.nil]) (a1A rfl rfl) (by omega) rfl rfl (fun q _=>a3q (q3_ rfl (q3_ (q7_ rfl rfl (c3r (kds n f) q)) rfl)) (by simp)) (fun _=>rfl))) rfl) hdi
  have hall:mCB a0B (z1_ (mF (y1_ (a3P (z0_ 6)) [false,false,false,false,false,false,false,false] 1 (gN 8) y8_ (mCD 1 a1O (z6_ (z0_ 8) z8_)))) z3_) [.dat A,.dat DC,.dat (.lst ((kds n f).map dR)),.dat (.int (i:Int)),w4,w5,.dat (.dcx (KL ((kds n f).map KX.t)) (pV ((kds n f).map KX.t))),.dat (.dcx (KL ((kds n f).map KX.t)) (pV ((kds n f).map KX.t)))]=some (.bl true,[.dat A,.dat DC,.dat (.lst ((kds n f).map dR)),.dat (.int (i:Int)),w4,w5,.dat (.dcx (KL ((kds n f).map KX.t)) (pV ((kds n f).map KX.t))),.dat (.dcx (KL ((kds n f).map KX.t)) (pV ((kds n f).map KX.t)))]):=
   k2_ (q3_ (k9_ (a1P (α:=KX) (l:=KL ((kds n f).map KX.t)) (q:=fun k=>.int (((kds n f).map KX.t).count k:Int)) (f:=fun _=>.bl true) (base:=[.nil,.nil,.nil,.nil,.nil,.nil,.nil,.nil]) rfl (by have:=b3J ((kds n f).map KX.t);rw[Qv]at this;omega) rfl rfl (fun k _=>c1 rfl (c1O (.int (((kds n f).map KX.t).count k:Int)))) (fun _=>rfl))) rfl) (c3C _)
  generalize KL ((kds n f).map KX.t)=ks at *;generalize pV ((kds n f).map KX.t)=vs at *;generalize D.lst ((kds n f).map dR)=KS at *;refine⟨[.dat A,.dat DC,.dat KS,.dat (.int (i:Int)),w4,w5,w6,w7],_,rfl,?_,.dat (.int (i:Int)),.ownX [] [],.dat (.dcx ks vs),rfl⟩;unfold rB2;refine y9_ (c3p (e2:=[.dat A,.dat DC,.dat KS,.dat (.int (i:Int)),w4,w5,.ownX ks vs,w7]) rfl ep rfl) ?_
  refine y9_ (a0p (e2:=[.dat A,.dat DC,.dat KS,.dat (.int (i:Int)),w4,w5,.ownX ks vs,.dat (.dcx ks vs)]) hcmp rfl) ?_
  refine y9_ (a0w (b3O (e1:=[.dat A,.dat DC,.dat KS,.dat (.int (i:Int)),w4,w5,.dat (.dcx ks vs),.dat (.dcx ks vs)]) rfl rfl (a6E (a0d (b:=true) (j2_ rfl)) (j2_ (q7_ rfl rfl hne))) (b3Q m4 m5)) rfl) ?_
  refine y9_ (a0w (b3O (e1:=[.dat A,.dat DC,.dat KS,.dat (.int (i:Int)),w4,w5,.dat (.dcx ks vs),.dat (.dcx ks vs)]) rfl rfl (a0d (b:=true) (j2_ hall)) (b3Q m4 m5)) rfl) ?_
  rfl) ⟨_,_,_,rfl⟩
 refine⟨_,w2_ (env:=[.dat A,.dat DC,.dat (.lst ((kds n f).map dR)),w3,w4,w5,w6,w7]) ?_⟩;show a9s [.dat A,.nil,.nil,.nil,.nil,.nil,.nil,.nil]=_;unfold a9s;refine y9_ (e1:=[.dat A,.dat DC,.nil,.nil,.nil,.nil,.nil,.nil]) (a0p (e1:=[.dat A,.nil,.nil,.nil,.nil,.nil,.nil,.nil]) (c1 rfl ek) rfl) ?_
 refine y9_ (e1:=[.dat A,.dat DC,.dat (.lst ((kds n f).map dR)),.nil,.nil,.nil,.nil,.nil]) (a0p (e1:=[.dat A,.dat DC,.nil,.nil,.nil,.nil,.nil,.nil]) (k9_ (ds:=(kds n f).map dR) (by rw[←hks,←hDC];rfl)) rfl) ?_
 refine y9_ ((a1c (ds:=(PX n n).map KX.toD) (e1:=[.dat A,.dat DC,.dat (.lst ((kds n f).map dR)),.nil,.nil,.nil,.nil,.nil]) (by rw[←hDC];rfl)).trans he1) ?_
 refine y9_ ((a1c (a1F (n:=2) rfl rfl (by omega))).trans he2) ?_
 exact g5_ rfl
end
theorem a9O:dEq true (.str "table") (.str "table")=some (.bl false):=b3F (by decide+kernel)
theorem c3E:dEq true (.str "place") (.str "place")=some (.bl false):=b3F (by decide+kernel)
theorem a9P:a0v (some ("NoTable":Str))=some (.str "table"):=b3D (by decide+kernel)
theorem c3F:a0v (some ("NoPlace":Str))=some (.str "place"):=b3D (by decide+kernel)
theorem b3R(d:D):a1M [.dat d]=if isT d then none else some ("NoTable":Str):=by
 show a9e [.dat d]=_;unfold a9e;have e:=b2T d;cases h:isT d with
 |true=>
  rw[h]at e;exact b3B (e1:=[.dat d]) (a0d (b:=true) (j2_ (c1 rfl e))) rfl
 |false=>
  rw[h]at e;exact a9I (e1:=[.dat d]) (a0d (b:=false) (j2_ (c1 rfl e))) rfl
theorem a9Q(h:isT d=false):a1M [.dat d]=some ("NoTable":Str):=by rw[b3R,h];rfl
theorem c3G(h:isT d=false):a3W [.dat d]=some ("NoTable":Str):=by
 show b2v [.dat d]=_;exact a5f (a2P (av:=[.d d]) rfl rfl rfl (a9Q h))
theorem c3H(h:isT d=false):a3X [.dat d]=some ("NoTable":Str):=by
 show b2y [.dat d,.nil,.nil,.nil,.nil,.nil]=_;exact a5f (a2P (av:=[.d d]) rfl rfl rfl (a9Q h))
theorem c3I{r c:D}(h:isT d=false):a1D [.dat d,.dat r,.dat c]=some ("NoTable":Str):=by
 show a6u [.dat d,.dat r,.dat c]=_;exact a5f (a2P (av:=[.d d]) rfl rfl rfl (a9Q h))
def od(n:Nat):List D:=[.int (n:Int),.int (-1),.bl true,.bl false,.non,.str "0",.tup [.int 0],.int 100000000000000000000000000000,.lst [.int 0]]
theorem c3J(h6:n≤6){o:D}(ho:o∈od n):a0V [.dat o,.dat (.int (n:Int))]=some (.d (.bl false),[.dat o,.dat (.int (n:Int))]):=by
 have key:a3k [.dat o,.dat (.int 0),.dat (.int ((n:Int)-1))]=some (.d (.bl false),[.dat o,.dat (.int 0),.dat (.int ((n:Int)-1))]):=by
  have int:∀i:Int,(i<0∨(n:Int)≤i)->a3k [.dat (.int i),.dat (.int 0),.dat (.int ((n:Int)-1))]=some (.d (.bl false),[.dat (.int i),.dat (.int 0),.dat (.int ((n:Int)-1))]):=fun i hi=>by
   rw[b3H];have:(decide ((0:Int)≤i)&&decide (i≤(n:Int)-1))=false:=by
    rcases hi with h|h
    ·rw[Qe (by omega)];rfl
    ·rw[Qe (p:=i≤(n:Int)-1) (by omega),Bool.and_false]
   rw[this]
  have oth:isW o=false->a3k [.dat o,.dat (.int 0),.dat (.int ((n:Int)-1))]=some (.d (.bl false),[.dat o,.dat (.int 0),.dat (.int ((n:Int)-1))]):=fun hw=>by
   refine a3r (env:=[.dat o,.dat (.int 0),.dat (.int ((n:Int)-1))]) ?_ rfl;show a4H [.dat o,.dat (.int 0),.dat (.int ((n:Int)-1))]=_;unfold a4H;have e:=a9t o;rw[hw]at e;exact g5_ (c2I (c1 rfl e))
  simp only[od,Qc,Zy,Jj]at ho
  rcases ho with rfl|rfl|rfl|rfl|rfl|rfl|rfl|rfl|rfl
  ·exact int _ (.inr (Int.le_refl _))
  ·exact int _ (.inl (by decide))
  ·exact oth rfl
  ·exact oth rfl
  ·exact oth rfl
  ·exact oth rfl
  ·exact oth rfl
  ·exact int _ (.inr (by omega))
  ·exact oth rfl
 refine a3r (env:=[.dat o,.dat (.int (n:Int))]) ?_ rfl;show a4O [.dat o,.dat (.int (n:Int))]=_;unfold a4O;exact g5_ (a1Q (av:=[.d o,.d (.int 0),.d (.int ((n:Int)-1))]) rfl rfl rfl key)
theorem a9R{f:OO}{r c:D}(h1:1≤n)(h6:n≤6)(T:TabF n f)(h:a0V [.dat r,.dat (.int (n:Int))]=some (.d (.bl false),[.dat r,.dat (.int (n:Int))])∨(a0V [.dat r,.dat (.int (n:Int))]=some (.d (.bl true),[.dat r,.dat (.int (n:Int))])/\a0V [.dat c,.dat (.int (n:Int))]=some (.d (.bl false),[.dat c,.dat (.int (n:Int))]))):
  a1D [.dat (dT (gm n n f)),.dat r,.dat c]=some ("NoPlace":Str):=by
 have em:=a6I h1 h6 T
 have gm':a1M [.dat (dT (gm n n f))]=none:=by rw[b3R,a9C.mpr ⟨⟨h1,h6⟩,T⟩];rfl
 have hl:v3_ [dT (gm n n f)]=some (.int n):=a5e
 generalize dT (gm n n f)=A at *;show a6u [.dat A,.dat r,.dat c]=_;unfold a6u;refine b3A (a2P (av:=[.d A]) rfl rfl rfl gm') (a5U (c1 rfl em)) ?_
 rcases h with h|⟨h,h2⟩
 ·exact a5f (a9I (a0d (b:=false) (j2_ (c2' rfl (k2_ (q3_ rfl rfl) hl) h))) rfl)
 ·refine b3A (e1:=[.dat A,.dat r,.dat c]) (b3B (a0d (b:=true) (j2_ (c2' rfl (k2_ (q3_ rfl rfl) hl) h))) rfl) (a0w (a0d (b:=true) (j2_ (c2' rfl (k2_ (q3_ rfl rfl) hl) h))) rfl) ?_
  exact a5f (a9I (a0d (b:=false) (j2_ (c2' rfl (k2_ (q3_ rfl rfl) hl) h2))) rfl)
abbrev lw:Mo Fl:=(q1_ (u8_ 2 (a2c 2 a4S (z6_ (z0_ 0) (z6_ (z0_ 1) z8_)))) (q1_ (v6_ 3 (z5_ v5_ (mC (.int 1)) (mCD 2 w8_ (x6_ 2 (z6_ (mC (.int 6)) z8_))))) (q1_ (v6_ 4 (mCD 2 a4U (x6_ 2 (z6_ (z0_ 3) z8_)))) (q1_ (w7_ (w3_ (z1_ (mC (.int 2)) z3_)) (gN 5) (v8_ (y5_ (mT (mCD 2 (u4_ 6) (z6_ (mCD 1 a1C (z6_ (z0_ 4) z8_)) (z6_ (mCD 1 a2O (z6_ (z0_ 4) z8_)) z8_))))) (q9_ (mC (.bl false))) mNx)) (q1_ (v8_ (y5_ (mT (mCD 1 a4X (z6_ (z0_ 4) z8_)))) (q9_ (mC (.bl false))) mNx) (q1_ (v6_ 6 (z5_ dIx (mF (x3_ (z1_ (z0_ 3) (z1_ (j8_ (mC (.int 1))) (z1_ (mC (.bl true)) (z1_ (mC (.bl false)) (z1_ (mC .non) (z1_ (mC (.str "0")) (z1_ (q5_ (z1_ (mC (.int 0)) z3_)) (z1_ (z5_ a0J (mC (.int 10)) (mC (.int 29))) (z1_ (mF (x3_ (z1_ (mC (.int 0)) z3_))) z3_))))))))))) (mCD 2 w8_ (x6_ 2 (z6_ (mC (.int 9)) z8_))))) (q1_ (w7_ (y4_ (mF (x3_ (z1_ (q5_ (z1_ (z0_ 6) (z1_ (mC (.int 0)) z3_))) (z1_ (q5_ (z1_ (z5_ a1g (z0_ 3) (mC (.int 1))) (z1_ (z0_ 6) z3_))) (z1_ (q5_ (z1_ (z0_ 6) (z1_ (z0_ 6) z3_))) z3_)))))) (gT 2 (gCn (gN 8) (gCn (gN 9) gNl))) (v8_ (mT (z5_ (dEq true) (a0E xN [false,false,false,false,true,false,false,false,true,true] (mCD 3 a0H (z6_ (z0_ 4) (z6_ (z0_ 8) (z6_ (z0_ 9) z8_)))) (a0f 3 a1D (z6_ (z0_ 4) (z6_ (z0_ 8) (z6_ (z0_ 9) z8_)))) a0v) (mC (.str "place")))) (q9_ (mC (.bl false))) mNx)) (w7_ (y4_ (mF (x3_ (z1_ (mCD 2 a3o (x6_ 2 (z6_ (z0_ 4) z8_))) (z1_ (mCD 2 a3o (x6_ 2 (z6_ (z0_ 4) z8_))) (z1_ (mCD 1 a4V (x6_ 2 z8_)) z3_)))))) (gN 7) (v8_ (y5_ (mT (mCD 1 a3Z (z6_ (z0_ 7) z8_)))) (q1_ (v8_ (mT (z5_ (dEq true) (a0E xN [false,false,false,false,false,false,false,true,false,false] (mCD 1 a1C (z6_ (z0_ 7) z8_)) (a0f 1 a3W (z6_ (z0_ 7) z8_)) a0v) (mC (.str "table")))) (q9_ (mC (.bl false))) mNx) (q1_ (v8_ (mT (z5_ (dEq true) (a0E xN [false,false,false,false,false,false,false,true,false,false] (mCD 1 a2l (z6_ (z0_ 7) z8_)) (a0f 1 a3X (z6_ (z0_ 7) z8_)) a0v) (mC (.str "table")))) (q9_ (mC (.bl false))) mNx) (v8_ (mT (z5_ (dEq true) (a0E xN [false,false,false,false,false,false,true,true,false,false] (mCD 3 a0H (z6_ (z0_ 7) (z6_ (z0_ 6) (z6_ (z0_ 6) z8_)))) (a0f 3 a1D (z6_ (z0_ 7) (z6_ (z0_ 6) (z6_ (z0_ 6) z8_)))) a0v) (mC (.str "table")))) (q9_ (mC (.bl false))) mNx))) mNx)))))))))
abbrev lN:Mo Fl:=(v8_ (y5_ (mT (mCD 2 (u4_ 6) (z6_ (mCD 1 a1C (z6_ (z0_ 4) z8_)) (z6_ (mCD 1 a2O (z6_ (z0_ 4) z8_)) z8_))))) (q9_ (mC (.bl false))) mNx)
abbrev lP:Mo Fl:=(v8_ (mT (z5_ (dEq true) (a0E xN [false,false,false,false,true,false,false,false,true,true] (mCD 3 a0H (z6_ (z0_ 4) (z6_ (z0_ 8) (z6_ (z0_ 9) z8_)))) (a0f 3 a1D (z6_ (z0_ 4) (z6_ (z0_ 8) (z6_ (z0_ 9) z8_)))) a0v) (mC (.str "place")))) (q9_ (mC (.bl false))) mNx)
abbrev lT:Mo Fl:=(v8_ (y5_ (mT (mCD 1 a3Z (z6_ (z0_ 7) z8_)))) (q1_ (v8_ (mT (z5_ (dEq true) (a0E xN [false,false,false,false,false,false,false,true,false,false] (mCD 1 a1C (z6_ (z0_ 7) z8_)) (a0f 1 a3W (z6_ (z0_ 7) z8_)) a0v) (mC (.str "table")))) (q9_ (mC (.bl false))) mNx) (q1_ (v8_ (mT (z5_ (dEq true) (a0E xN [false,false,false,false,false,false,false,true,false,false] (mCD 1 a2l (z6_ (z0_ 7) z8_)) (a0f 1 a3X (z6_ (z0_ 7) z8_)) a0v) (mC (.str "table")))) (q9_ (mC (.bl false))) mNx) (v8_ (mT (z5_ (dEq true) (a0E xN [false,false,false,false,false,false,true,true,false,false] (mCD 3 a0H (z6_ (z0_ 7) (z6_ (z0_ 6) (z6_ (z0_ 6) z8_)))) (a0f 3 a1D (z6_ (z0_ 7) (z6_ (z0_ 6) (z6_ (z0_ 6) z8_)))) a0v) (mC (.str "table")))) (q9_ (mC (.bl false))) mNx))) mNx)
theorem c3K(d o:D)(w0 w1 w2 w3 w4 w5 w8 w9:W):lT [w0,w1,w2,w3,w4,w5,.dat o,.dat d,w8,w9]=some (.nx,[w0,w1,w2,w3,w4,w5,.dat o,.dat d,w8,w9]):=by
 have t:=c2z d
 cases h:isT d with
 |true=>
  rw[h]at t;exact a0w (a0d (b:=true) (j2_ (c1 rfl t))) rfl
 |false=>
  rw[h]at t;refine a9x (a0d (b:=false) (j2_ (c1 rfl t))) ?_
  refine y9_ (a0w (j2_ (q7_ (a6F (lw:=[.nil,.nil,.nil,.nil,.nil,.nil,.nil,.dat d,.nil,.nil]) rfl (a2P (av:=[.d d]) rfl rfl rfl (c3G h)) (by decide+kernel) a9P) rfl a9O)) rfl) ?_
  refine y9_ (a0w (j2_ (q7_ (a6F (lw:=[.nil,.nil,.nil,.nil,.nil,.nil,.nil,.dat d,.nil,.nil]) rfl (a2P (av:=[.d d]) rfl rfl rfl (c3H h)) (by decide+kernel) a9P) rfl a9O)) rfl) ?_
  exact a0w (j2_ (q7_ (a6F (lw:=[.nil,.nil,.nil,.nil,.nil,.nil,.dat o,.dat d,.nil,.nil]) rfl (a2P (av:=[.d d,.d o,.d o]) rfl rfl rfl (c3I h)) (by decide+kernel) a9P) rfl a9O)) rfl
theorem a9S{r c:D}(w0 w1 w2 w3 w5 w6 w7:W)(h:a1D [.dat A,.dat r,.dat c]=some ("NoPlace":Str)):lP [w0,w1,w2,w3,.dat A,w5,w6,w7,.dat r,.dat c]=some (.nx,[w0,w1,w2,w3,.dat A,w5,w6,w7,.dat r,.dat c]):=
 a0w (j2_ (q7_ (a6F (lw:=[.nil,.nil,.nil,.nil,.dat A,.nil,.nil,.nil,.dat r,.dat c]) rfl (a2P (av:=[.d A,.d r,.d c]) rfl rfl rfl h) (by decide+kernel) c3F) rfl c3E)) rfl
abbrev st(a:Int)(b:Bool):W:=.own [.int a,.bl b]
theorem s2{fn:Fn}{mm:Mo D}{x r:D}(hm:mm (w0::w1::st a b::ws)=some (x,w0::w1::st a b::ws))(h:fn [.par [.int a,.bl b],.dat x]=some (.d r,.par [.int a',.bl b]::ws')):
  mCD 2 fn (x6_ 2 (z6_ mm z8_)) (w0::w1::st a b::ws)=some (r,w0::w1::st a' b::ws):=by
 refine a1B ((a4w (e1:=w0::w1::st a b::ws) (w:=st a b) (av:=[.sl 2,.d x]) (i:=2) (c:=[.int a,.bl b]) (c':=[.int a',.bl b]) ?_ rfl rfl rfl rfl h rfl).trans rfl);unfold x6_;rw[a0I hm rfl]
 rfl
theorem s1{fn:Fn}{r:D}(h:fn [.par [.int a,.bl b]]=some (.d r,.par [.int a',.bl b]::ws')):
  mCD 1 fn (x6_ 2 z8_) (w0::w1::st a b::ws)=some (r,w0::w1::st a' b::ws):=
 a1B ((a4w (e1:=w0::w1::st a b::ws) (w:=st a b) (av:=[.sl 2]) (i:=2) (c:=[.int a,.bl b]) (c':=[.int a',.bl b]) rfl rfl rfl rfl rfl h rfl).trans rfl)
theorem Tab.fn{T:OI}(t:Tab T)(hn:T.length=n):∃f,T=gm n n f/\TabF n f:=by
 have e:=c2B (n:=n) hn (by rw[←hn];exact t.len)
 refine⟨at2 T,e,?_⟩;have:=t.ok;rw[e]at this;exact(a9C.mp this).2
theorem c3L{f:OO}(h6:n≤6):∃ws,u4_ 6 [.dat (g1_ n f),.dat (g1_ n f)]=some (.d (.bl true),ws):=by
 have rows:∀{m k:Nat}{g:OO},m≤7->k≤7->∃ws,u4_ 5 [.dat (dT (gm m k g)),.dat (dT (gm m k g))]=some (.d (.bl true),ws):=fun{m k g} hm hk=>by
  refine a9H (k:=4) (es:=(gm m k g).map dR) (by rw[Qv,a1G];omega) fun x hx=>?_
  obtain⟨r,hr,rfl⟩:=Qa.mp hx;exact b3z (k:=2) (by rw[a5d r hr];omega)
 refine a9H (k:=5) (es:=[dT (acr n f),dT (dwn n f)]) (by simp) fun x hx=>?_
 simp only[Qc,Zy,Jj]at hx
 rcases hx with rfl|rfl
 ·exact rows (by omega) (by omega)
 ·exact rows (by omega) (by omega)
theorem c3M(ns:List Int)(k:Nat)(hk:k<1000)(w2 w3 w4 w5 w6 w7 w8 w9:W):∃ws':List W,ws'.length=9/\lw [.dat (.lst (ns.map .int)),.dat (.int k),w2,w3,w4,w5,w6,w7,w8,w9]=some (.nx,.dat (.lst (ns.map .int))::ws'):=by
 obtain⟨a,b,a0,est⟩:=c1U ns k hk;generalize D.lst (ns.map .int)=Z at *;obtain⟨v,a1,et,v0,v1,a10⟩:=a4Z (a:=a) (m:=6) (b:=b) a0 (by decide) (by decide)
 obtain⟨n,hn⟩:∃n:Nat,(1:Int)+v=(n:Int):=⟨(1+v).toNat,by omega⟩
 have h1:1≤n:=by omega
 have h6:n≤6:=by omega
 obtain⟨T1,a2,et1,a20,t1,l1⟩:=c2u (a:=a1) (b:=b) a10 h1 h6;obtain⟨f,rfl,F⟩:=t1.fn l1;obtain⟨u,a3,eu,u0,u1,a30⟩:=a4Z (a:=a2) (m:=9) (b:=b) a20 (by decide) (by decide)
 obtain⟨o,ho,hdo⟩:=a4e (ds:=od n) u0 (by simpa [od]using u1)
 have np:=c3J h6 ho
 have pl:=a9J (n:=n) (r:=n-1) (by omega)
 have hsub:a1g (.int (n:Int)) (.int 1)=some (.int ((n-1:Nat):Int)):=by
  show some (D.int ((n:Int)-1))=_
  congr 2
  omega
 have g1:=a9R (c:=.int 0) h1 h6 F (.inl np)
 have g2:=a9R (r:=.int ((n-1:Nat):Int)) (c:=o) h1 h6 F (.inr ⟨pl,np⟩)
 have g3:=a9R (c:=o) h1 h6 F (.inl np)
 obtain⟨d1,a4,eb1,a40⟩:=b3y (b:=b) (R:=gm n n f) h1 h6 a1G a5d a30;obtain⟨d2,a5,eb2,a50⟩:=b3y (b:=b) (R:=gm n n f) h1 h6 a1G a5d a40;obtain⟨d3,a6,eo,a60⟩:=c2T (b:=b) a50;have en:=c2V h1 h6 F;have el:=b3u (f:=f) h6;obtain⟨_,sn⟩:=c3L (n:=n) (f:=f) h6;obtain⟨_,er⟩:=c3D h1 h6 F;generalize g1_ n f=NT at *;generalize dT (gm n n f)=A at *;obtain⟨e1,hl1,y5,rfl⟩:=a3p (g:=gN 5) (b:=lN) (n:=2) (fun _ e=>∃y5,e=[.dat Z,.dat (.int k),st a2 b,.dat (.int (n:Int)),.dat A,y5,w6,w7,w8,w9]) (env:=[.dat Z,.dat (.int k),st a2 b,.dat (.int (n:Int)),.dat A,w5,w6,w7,w8,w9]) (fun i _ e ⟨y5,he⟩=>by
  subst he;exact⟨_,_,rfl,a0w (a0d (b:=true) (j2_ (c2' (c1 rfl en) (c1 rfl el) sn))) rfl,_,rfl⟩) ⟨_,rfl⟩
 obtain⟨e2,hl2,y8,y9,rfl⟩:=a5S (g:=gT 2 (gCn (gN 8) (gCn (gN 9) gNl))) (b:=lP) (P:=fun e=>∃y8 y9,e=[.dat Z,.dat (.int k),st a3 b,.dat (.int (n:Int)),.dat A,y5,.dat o,w7,y8,y9]) (ds:=[.tup [o,.int 0],.tup [.int ((n-1:Nat):Int),o],.tup [o,o]]) (env:=[.dat Z,.dat (.int k),st a3 b,.dat (.int (n:Int)),.dat A,y5,.dat o,w7,w8,w9]) (fun d hd e ⟨y8,y9,he⟩=>by
  subst he;simp only[Qc,Zy,Jj]at hd
  rcases hd with rfl|rfl|rfl
  ·exact⟨_,_,rfl,a9S _ _ _ _ _ _ _ g1,_,_,rfl⟩
  ·exact⟨_,_,rfl,a9S _ _ _ _ _ _ _ g2,_,_,rfl⟩
  ·exact⟨_,_,rfl,a9S _ _ _ _ _ _ _ g3,_,_,rfl⟩) ⟨_,_,rfl⟩
 obtain⟨e3,hl3,y7,rfl⟩:=a5S (g:=gN 7) (b:=lT) (P:=fun e=>∃y7,e=[.dat Z,.dat (.int k),st a6 b,.dat (.int (n:Int)),.dat A,y5,.dat o,y7,y8,y9]) (ds:=[d1,d2,d3]) (env:=[.dat Z,.dat (.int k),st a6 b,.dat (.int (n:Int)),.dat A,y5,.dat o,w7,y8,y9]) (fun d hd e ⟨y7,he⟩=>by
  subst he;exact⟨_,_,rfl,c3K d o _ _ _ _ _ _ _ _,_,rfl⟩) ⟨_,rfl⟩
 refine⟨[.dat (.int k),st a6 b,.dat (.int (n:Int)),.dat A,y5,.dat o,y7,y8,y9],rfl,?_⟩;unfold lw;refine y9_ (c2R (e1:=[.dat Z,.dat (.int k),w2,w3,w4,w5,w6,w7,w8,w9]) (e2:=[.dat Z,.dat (.int k),st a b,w3,w4,w5,w6,w7,w8,w9]) (b1n (a2e (av:=[.d Z,.d (.int k)]) rfl rfl rfl est)) rfl) ?_
 refine y9_ (a0p (d:=.int (n:Int)) (e2:=[.dat Z,.dat (.int k),st a1 b,.dat (.int (n:Int)),w4,w5,w6,w7,w8,w9]) (q7_ rfl (s2 rfl et) (by show some (D.int (1+v))=_;rw[hn])) rfl) ?_
 refine y9_ (a0p (e2:=[.dat Z,.dat (.int k),st a2 b,.dat (.int (n:Int)),.dat A,w5,w6,w7,w8,w9]) (s2 rfl et1) rfl) ?_
 refine y9_ ((a1c (a1F (n:=2) rfl rfl (by omega))).trans hl1) ?_
 refine y9_ (a0w (a0d (b:=true) (j2_ (c1 rfl er))) rfl) ?_
 refine y9_ (a0p (d:=o) (e2:=[.dat Z,.dat (.int k),st a3 b,.dat (.int (n:Int)),.dat A,y5,.dat o,w7,w8,w9]) (q7_ (k9_ (a1R (ds:=od n) (e1:=[.dat Z,.dat (.int k),st a2 b,.dat (.int (n:Int)),.dat A,y5,w6,w7,w8,w9]) (q3_ rfl (q3_ rfl (q3_ rfl (q3_ rfl (q3_ rfl (q3_ rfl (q3_ rfl (q3_ (q7_ rfl rfl a9G) (q3_ rfl rfl))))))))) (by simp[od]))) (s2 rfl eu) hdo) rfl) ?_
 refine y9_ ((a1c (ds:=[.tup [o,.int 0],.tup [.int ((n-1:Nat):Int),o],.tup [o,o]]) (e1:=[.dat Z,.dat (.int k),st a3 b,.dat (.int (n:Int)),.dat A,y5,.dat o,w7,w8,w9]) (a1A (k9_ (a1R (q3_ (a3q (q3_ rfl (q3_ rfl rfl)) (by simp)) (q3_ (a3q (q3_ (q7_ rfl rfl hsub) (q3_ rfl rfl)) (by simp)) (q3_ (a3q (q3_ rfl (q3_ rfl rfl)) (by simp)) rfl))) (by simp))) rfl)).trans hl2) ?_
 exact(a1c (ds:=[d1,d2,d3]) (a1A (k9_ (a1R (q3_ (s2 rfl eb1) (q3_ (s2 rfl eb2) (q3_ (s1 eo) rfl))) (by simp))) rfl)).trans hl3
abbrev l0:Mo Fl:=(v8_ (w6_ (mT (z5_ (dEq true) (mCD 1 a1C (z6_ (q5_ (z1_ (q5_ (z1_ (mC (.int 1)) z3_)) z3_)) z8_)) (q5_ (z1_ (q5_ (z1_ (q5_ (z1_ (mC (.int 0)) (z1_ (mC (.int 1)) z3_))) z3_)) (z1_ (q5_ (z1_ (q5_ (z1_ (mC (.int 0)) z3_)) (z1_ (q5_ (z1_ (mC (.int 1)) z3_)) z3_))) z3_))))) (mT (z5_ (dEq true) (mCD 3 a0H (z6_ (q5_ (z1_ (q5_ (z1_ (mC (.int 1)) z3_)) z3_)) (z6_ (mC (.int 0)) (z6_ (mC (.int 0)) z8_)))) (q5_ (z1_ (mC (.int 0)) (z1_ (mC (.int 1)) (z1_ (mC (.int 0)) (z1_ (mC (.int 1)) z3_)))))))) (q9_ (mC (.bl false))) mNx)
theorem c3N(Z:D):l0 [.dat Z,.nil,.nil,.nil,.nil,.nil,.nil,.nil,.nil,.nil]=some (.nx,[.dat Z,.nil,.nil,.nil,.nil,.nil,.nil,.nil,.nil,.nil]):=by kernel_rfl
theorem c3O{r:Mo Fl}{e:List W}{o:Option (Rr×List W)}(he:ws++List.replicate (N-ws.length) .nil=e)(h:m e=some (.nx,e))(k:fnM N r ws=o):fnM N (q1_ m r) ws=o:=by subst he;rw[←k];unfold fnM;rw[w4_ h]
theorem c3P:∀ns:List Int,ns.length≤63->∃ws',a6y [.dat (.lst (ns.map D.int))]=some (.d (.bl true),ws'):=by
 intro ns hns;have h:=c2g (C:=8) (N:=8) (ns:=ns) (body:=lw) (last:=q9_ (mC (.bl true))) (by decide) (by decide) (fun k hk ws hw=>by
  match ws,hw with
  |[w2,w3,w4,w5,w6,w7,w8,w9],_=>exact c3M ns k hk w2 w3 w4 w5 w6 w7 w8 w9) (fun ws hw=>⟨_,rfl⟩)
 have e:=c3N (.lst (ns.map D.int))
 generalize D.lst (ns.map D.int)=Z at *;obtain⟨ws',h⟩:=h;refine⟨ws',?_⟩;show fnM 10 a6x [.dat Z]=_;unfold a6x;exact c3O (m:=l0) (ws:=[.dat Z]) (e:=[.dat Z,.nil,.nil,.nil,.nil,.nil,.nil,.nil,.nil,.nil]) rfl e h
end K21
namespace K21
open L2 L2.Mir PySem
abbrev md0:Value:=.str "turnsigns.grids" 415
abbrev md1:Value:=.str "turnsigns.tables" 482
abbrev md2:Value:=.str "turnsigns.nets" 508
abbrev md3:Value:=.str "law_turnsigns_k21_nets_and_kinds_of_squares" 564
theorem c3Q{P:Program}(w:World)(mg:OU)(fa:Addr)(h:Heap)(X:(hK w.params).In h)(G:h.Ns mainGlobals mg)(hfa:mg "law"=some (.ref fa)):
 ∃fd:FuncData,(∀(s:Shared) (v:Value),BindsTo s fd ⟨[v],[]⟩ [("_law_script",v)])/\PySem.W.noTabs (hK w.params)=true/\(∀p∈[395],∃c,PySem.W.codeHdIn (hK w.params) c p=true)/\∀base:Heap,(hK w.params).In base->base.Ns mainGlobals mg->a2h mg base->FnOk P w (hK w.params) mg base CX0 10 fa fd ["_law_script"] (SpT (hK w.params) [395] 1 a6y):=by
 obtain⟨A1,A2,A3,A4,A5,A6,A7,A8,A9,A10,A11,A12,A13,A14,A15,A16,A17,A18,A19,A20,A21,A22,A23,A24,A25,A26,A27,A28,A29,A30,A31,A32,A33,A34,A35⟩:DfAt (hK w.params) "is_whole" a8u 190 md0 189/\DfAt (hK w.params) "is_within" a8v 197 md0 196/\DfAt (hK w.params) "is_row" a8w 202 md0 201/\DfAt (hK w.params) "is_grid" a8x 207 md0 206/\DfAt (hK w.params) "is_square" a8y 214 md0 213/\DfAt (hK w.params) "flipped" a8z 219 md0 218/\DfAt (hK w.params) "running_sums" a8A 226 md0 225/\DfAt (hK w.params) "sums_across" a8B 231 md0 230/\DfAt (hK w.params) "sums_down" a8C 238 md0 237/\DfAt (hK w.params) "takes_turns" a8D 245 md1 244/\DfAt (hK w.params) "is_table" a8E 250 md1 249/\DfAt (hK w.params) "must_be_table" a6q 257 md1 256/\DfAt (hK w.params) "spun" a8F 264 md2 263/\DfAt (hK w.params) "net_of" a6r 271 md2 270/\DfAt (hK w.params) "is_place" a8G 278 md2 277/\DfAt (hK w.params) "kind_in" a8H 285 md2 284/\DfAt (hK w.params) "kind_at" a6s 292 md2 291/\DfAt (hK w.params) "kinds_of" a6t 299 md2 298/\DfAt (hK w.params) "_law_cell_at" a8I 306 md3 305/\DfAt (hK w.params) "_law_state" a8J 313 md3 312/\DfAt (hK w.params) "_law_take" a8K 320 md3 319/\DfAt (hK w.params) "_law_rows" a8L 325 md3 324/\DfAt (hK w.params) "_law_held" a8M 330 md3 329/\DfAt (hK w.params) "_law_table" a8N 335 md3 334/\DfAt (hK w.params) "_law_whole" a8O 342 md3 341/\DfAt (hK w.params) "_law_turns" a8P 347 md3 346/\DfAt (hK w.params) "_law_is_table" a8Q 352 md3 351/\DfAt (hK w.params) "_law_odd" a8R 359 md3 358/\DfAt (hK w.params) "_law_bent" a8S 366 md3 365/\DfAt (hK w.params) "_law_net" a8T 371 md3 370/\DfAt (hK w.params) "_law_same" a8U 376 md3 375/\DfAt (hK w.params) "_law_refused" a8V 381 md3 380/\DfAt (hK w.params) "_law_kinds" a8W 388 md3 387/\DfAt (hK w.params) "_law_kinds_right" a8X 393 md3 392/\DfAt (hK w.params) "law" a3T 400 md3 399:=by refine⟨?_,?_,?_,?_,?_,?_,?_,?_,?_,?_,?_,?_,?_,?_,?_,?_,?_,?_,?_,?_,?_,?_,?_,?_,?_,?_,?_,?_,?_,?_,?_,?_,?_,?_,?_⟩<;>constructor<;>kernel_rfl
 have e:=hfa.symm.trans (Tp X G A35.a)
 cases e;have T:Txt (hK w.params) mg:=⟨by kernel_rfl,Zm X G (by kernel_rfl),Zm X G (by kernel_rfl),Zm X G (by kernel_rfl),Zm X G (by kernel_rfl),Zm X G (by kernel_rfl),Zm X G (by kernel_rfl),Zm X G (by kernel_rfl),Zm X G (by kernel_rfl),Zm X G (by kernel_rfl),Zm X G (by kernel_rfl),Zm X G (by kernel_rfl),Zm X G (by kernel_rfl),Zm X G (by kernel_rfl),Zm X G (by kernel_rfl),⟨484,Tp X G (by kernel_rfl)⟩⟩
 have b1:=A1.f.binds (ps:=["thing"]) fun _ _ _ _ _ _=>us1 fun _=>rfl
 have b2:=A2.f.binds (ps:=["thing","least","greatest"]) fun _ _ _ _ _ _=>us3 fun _ _ _=>rfl
 have b3:=A3.f.binds (ps:=["thing","width"]) fun _ _ _ _ _ _=>us2 fun _ _=>rfl
 have b4:=A4.f.binds (ps:=["thing","many","width"]) fun _ _ _ _ _ _=>us3 fun _ _ _=>rfl
 have b5:=A5.f.binds (ps:=["thing","least","greatest"]) fun _ _ _ _ _ _=>us3 fun _ _ _=>rfl
 have b6:=A6.f.binds (ps:=["grid"]) fun _ _ _ _ _ _=>us1 fun _=>rfl
 have b7:=A7.f.binds (ps:=["row"]) fun _ _ _ _ _ _=>us1 fun _=>rfl
 have b8:=A8.f.binds (ps:=["grid"]) fun _ _ _ _ _ _=>us1 fun _=>rfl
 have b9:=A9.f.binds (ps:=["grid"]) fun _ _ _ _ _ _=>us1 fun _=>rfl
 have b10:=A10.f.binds (ps:=["line"]) fun _ _ _ _ _ _=>us1 fun _=>rfl
 have b11:=A11.f.binds (ps:=["thing"]) fun _ _ _ _ _ _=>us1 fun _=>rfl
 have b12:=A12.f.binds (ps:=["thing"]) fun _ _ _ _ _ _=>us1 fun _=>rfl
 have b13:=A13.f.binds (ps:=["table"]) fun _ _ _ _ _ _=>us1 fun _=>rfl
 have b14:=A14.f.binds (ps:=["table"]) fun _ _ _ _ _ _=>us1 fun _=>rfl
 have b15:=A15.f.binds (ps:=["thing","side"]) fun _ _ _ _ _ _=>us2 fun _ _=>rfl
 have b16:=A16.f.binds (ps:=["net","row","column"]) fun _ _ _ _ _ _=>us3 fun _ _ _=>rfl
 have b17:=A17.f.binds (ps:=["table","row","column"]) fun _ _ _ _ _ _=>us3 fun _ _ _=>rfl
 have b18:=A18.f.binds (ps:=["table"]) fun _ _ _ _ _ _=>us1 fun _=>rfl
 have b19:=A19.f.binds (ps:=["_law_script","_law_k"]) fun _ _ _ _ _ _=>us2 fun _ _=>rfl
 have b20:=A20.f.binds (ps:=["_law_script","_law_k"]) fun _ _ _ _ _ _=>us2 fun _ _=>rfl
 have b21:=A21.f.binds (ps:=["_law_state_here","_law_many"]) fun _ _ _ _ _ _=>us2 fun _ _=>rfl
 have b22:=A22.f.binds (ps:=["_law_held_here"]) fun _ _ _ _ _ _=>us1 fun _=>rfl
 have b23:=A23.f.binds (ps:=["_law_held_here","_law_row"]) fun _ _ _ _ _ _=>us2 fun _ _=>rfl
 have b24:=A24.f.binds (ps:=["_law_state_here","_law_side"]) fun _ _ _ _ _ _=>us2 fun _ _=>rfl
 have b25:=A25.f.binds (ps:=["_law_thing"]) fun _ _ _ _ _ _=>us1 fun _=>rfl
 have b26:=A26.f.binds (ps:=["_law_row"]) fun _ _ _ _ _ _=>us1 fun _=>rfl
 have b27:=A27.f.binds (ps:=["_law_thing"]) fun _ _ _ _ _ _=>us1 fun _=>rfl
 have b28:=A28.f.binds (ps:=["_law_state_here"]) fun _ _ _ _ _ _=>us1 fun _=>rfl
 have b29:=A29.f.binds (ps:=["_law_state_here","_law_table_here"]) fun _ _ _ _ _ _=>us2 fun _ _=>rfl
 have b30:=A30.f.binds (ps:=["_law_table_here"]) fun _ _ _ _ _ _=>us1 fun _=>rfl
 have b31:=A31.f.binds (ps:=["_law_found","_law_due"]) fun _ _ _ _ _ _=>us2 fun _ _=>rfl
 have b32:=A32.f.binds (ps:=["_law_call"]) fun _ _ _ _ _ _=>us1 fun _=>rfl
 have b33:=A33.f.binds (ps:=["_law_table_here"]) fun _ _ _ _ _ _=>us1 fun _=>rfl
 have b34:=A34.f.binds (ps:=["_law_table_here"]) fun _ _ _ _ _ _=>us1 fun _=>rfl
 have b35:=A35.f.binds (ps:=["_law_script"]) fun _ _ _ _ _ _=>us1 fun _=>rfl
 have tc_law:a6g (hK w.params) (.ref 399) 395=true:=by kernel_rfl
 refine⟨PySem.W.fnOf "law" "law" (a2U a3T) (a1f a3T) (y0_ a3T) .none .none .none (.str "law_turnsigns_k21_nets_and_kinds_of_squares" 564) none (.ref 399) .none,fun s v=>.of_eq rfl,by kernel_rfl,fun p hp=>?_,fun base _ _ hBm=>?_⟩
 ·obtain rfl:=Vs.mp hp
  obtain⟨c,_,hc⟩:=b1B tc_law;exact⟨c,hc⟩
 have d_is_whole:=dM P w base (c0k A1.f T ) A1 X G b1
 have d_is_within:=dM P w base (c0m A2.f T d_is_whole) A2 X G b2
 have d_is_row:=dM P w base (c0o A3.f T d_is_whole) A3 X G b3
 have d_is_grid:=dM P w base (c0q A4.f T d_is_row) A4 X G b4
 have d_is_square:=dM P w base (c0s A5.f T d_is_grid) A5 X G b5
 have d_flipped:=dM P w base (c0u A6.f T ) A6 X G b6
 have d_running_sums:=dM P w base (c0v A7.f T ) A7 X G b7
 have d_sums_across:=dM P w base (c0x A8.f T d_running_sums) A8 X G b8
 have d_sums_down:=dM P w base (c0z A9.f T d_flipped d_sums_across) A9 X G b9
 have d_takes_turns:=dM P w base (c0A A10.f T ) A10 X G b10
 have d_is_table:=dM P w base (c0C A11.f T d_is_square d_takes_turns d_flipped) A11 X G b11
 have d_must_be_table:=dM P w base (c0D A12.f T d_is_table) A12 X G b12
 have dx_must_be_table:=dX P w base (c0E A12.f T d_is_table ) A12 X G b12
 have d_spun:=dM P w base (c0G A13.f T d_sums_across d_sums_down) A13 X G b13
 have d_net_of:=dM P w base (c0H A14.f T d_must_be_table d_spun) A14 X G b14
 have dx_net_of:=dX P w base (c0I A14.f T d_must_be_table d_spun dx_must_be_table) A14 X G b14
 have d_is_place:=dM P w base (c0K A15.f T d_is_within) A15 X G b15
 have d_kind_in:=dM P w base (c0L A16.f T ) A16 X G b16
 have d_kind_at:=dM P w base (c0M A17.f T d_must_be_table d_kind_in d_is_place d_spun) A17 X G b17
 have dx_kind_at:=dX P w base (c0N A17.f T d_must_be_table d_kind_in d_is_place d_spun dx_must_be_table) A17 X G b17
 have d_kinds_of:=dM P w base (c0O A18.f T d_must_be_table d_spun d_kind_in) A18 X G b18
 have dx_kinds_of:=dX P w base (c0P A18.f T d_must_be_table d_spun d_kind_in dx_must_be_table) A18 X G b18
 have d__law_cell_at:=dM P w base (c0R A19.f T ) A19 X G b19
 have d__law_state:=dM P w base (c0S A20.f T d__law_cell_at) A20 X G b20
 have d__law_take:=dM P w base (c0T A21.f T ) A21 X G b21
 have d__law_rows:=dM P w base (c0V A22.f T ) A22 X G b22
 have d__law_held:=dM P w base (c0X A23.f T ) A23 X G b23
 have d__law_table:=dM P w base (c0Z A24.f T d__law_take d__law_rows d__law_held) A24 X G b24
 have d__law_whole:=dM P w base (c1c A25.f T ) A25 X G b25
 have d__law_turns:=dM P w base (c1f A26.f T ) A26 X G b26
 have d__law_is_table:=dM P w base (c1j A27.f T d__law_turns d__law_whole) A27 X G b27
 have d__law_odd:=dM P w base (c1k A28.f T d__law_take) A28 X G b28
 have d__law_bent:=dM P w base (c1l A29.f T d__law_take) A29 X G b29
 have d__law_net:=dM P w base (c1r A30.f T ) A30 X G b30
 have d__law_same:Def P w (hK w.params) mg base "_law_same" 7 2 (u4_ 6):=⟨_,_,_,b2I A31.f T (A31.g X G) A31.k b31 6,rfl,A31.g X G,A31.k,b31⟩
 have d__law_refused:=c1x (P:=P) (w:=w) (mg:=mg) (base:=base) A32.f T (A32.g X G) b32
 have d__law_kinds:=dM P w base (c1y A33.f T d__law_net) A33 X G b33
 have d__law_kinds_right:=dM P w base (c1B A34.f T d__law_kinds d_kinds_of d__law_same d_kind_at d__law_whole) A34 X G b34
 exact c1C A35.f rfl T (b8T tc_law A35.c (by kernel_rfl) hBm) d__law_state d__law_table d_net_of d_kind_at d__law_take d__law_kinds_right d__law_bent d__law_odd d__law_same d__law_refused d__law_is_table d__law_net d_kinds_of dx_net_of dx_kind_at dx_kinds_of
end K21
theorem PySem.Challenge.cw_turnsigns_k21_nets_and_kinds_of_squares_holds : PySem.Challenge.rw_turnsigns_k21_nets_and_kinds_of_squares.Holds :=
 K21.b4l (L2.Mir.b8R (l:=PySem.Challenge.rw_turnsigns_k21_nets_and_kinds_of_squares) (k:=10) (x := "_law_script") (fn:=K21.a6y) rfl rfl ⟨rfl,by decide,by decide⟩ (fun w h Y=>⟨PySem.W.km_in_of Y,PySem.W.km_tabs_of Y⟩) K21.c3Q K21.c3P)
